import PyProof.Rows.All
import Wide.All
import OpenK.AllK
import Wide.FinOn
import Lean
import PyProof.EqAt
import PyProof.EqKinds
import PyProof.TupleCall
import PyProof.StrBlockL
import PyProof.Lay0
import KE.IntText
import PyProof.SliceList
import PyProof.StrLawsReplace
import PyProof.StrLawsIn
import KE.IntTextLaws
import KE.KIntText
import KE.KPairComp
import PyProof.Rows.StrMul
import PyProof.Rows.BitMore
import PySem.Challenge.RW_earthward_k34_whole_rows_of_two_boards
set_option Elab.async false
set_option linter.all false
set_option maxRecDepth 100000
noncomputable section
set_option genSizeOf false
set_option maxHeartbeats 4000000
section
local macro_rules | `(tactic| o_head $H) => `(tactic| exact False.elim (by assumption))
set_option maxHeartbeats 0 in
theorem My.pre(hF:False):PySem.Challenge.rw_earthward_k34_whole_rows_of_two_boards.Holds:=by
 w_on;o_law;k_head
end
namespace My
section
open PySem PySem.W
theorem left_boot{p q:Program}{loose:List Str}{Xt:Shared->Bool}{α:Type}{Yf:Shared->α}{Ya:World->α}{N:Nat}{g0:Bool}(e:opening p=plainProg p.main.scope.names)(hN:Nat.ble 600 N=true)(f:∀s,fenceModules? p s=some s)
  (h:∀(w:World) (os:OsState),(topFrom treeTable p w N ⟨boot_heap w.params,Array.mk [],boot_drawn,boot_toks,os⟩).map (λs=>(openSeen q loose (importedModules p.main.body) Xt g0 s,Yf s))=some (openGood q loose,Ya w)):LeftO p q loose Xt Yf Ya N g0:=λw=>by
 obtain⟨⟨hh,gs,d,k,os⟩,e1,e2⟩:=Option.map_eq_some_iff.mp (boot_open e hN f w)
 simp only[Prod.mk.injEq] at e2
 obtain⟨rfl,rfl,rfl,rfl⟩:=e2
 unfold openEnds
 rw[e1]
 exact h w os
abbrev RunOk(p q:Program)(loose:List Str)(Xt:Shared->Bool){α:Type}(Yf:Shared->α)(Ya:World->α)(g0:Bool)(w:World)(m₀:Nat)(ann:Option Value)(env:Env)(qp pb pf:Pos)(n3 n4:Nat)(Sb:SharedT)(l:List Stmt):Prop:=
  (segRunT treeTable p w m₀ ann 1 n3 Sb (piecesOf l env (.body (behindTheImports p) env) pb [topFrame qp])).bind (λr=>(topRun treeTable p w m₀ ann n4 r.2.1.abs ⟨doneF .next,.body (behindTheImports p) env,pf,[topFrame qp]⟩).bind λs₁=>
    some ((r.1,r.2.2.1,r.2.2.2),(staticsOk (importedModules p.main.body) (boot_heap w.params) s₁.heap&&namesBound p s₁.heap&&gensDone s₁&&laidKept (boot_heap w.params) s₁.heap),openSeen q loose (importedModules p.main.body) Xt g0 s₁,Yf s₁))=some ((.next,.body (behindTheImports p) env,pf),true,openGood q loose,Ya w)
abbrev RunA{β:Type}(p:Program)(w:World)(m₀:Nat)(ann:Option Value)(env:Env)(qp pb pf:Pos)(n3 n4:Nat)(Sb:SharedT)(l:List Stmt)(F:Shared->β)(v:β):Prop:=
  (segRunT treeTable p w m₀ ann 1 n3 Sb (piecesOf l env (.body (behindTheImports p) env) pb [topFrame qp])).bind (λr=>(topRun treeTable p w m₀ ann n4 r.2.1.abs ⟨doneF .next,.body (behindTheImports p) env,pf,[topFrame qp]⟩).bind λs₁=>some ((r.1,r.2.2.1,r.2.2.2),F s₁))=some ((.next,.body (behindTheImports p) env,pf),v)
abbrev chkA(p:Program)(w:World){α:Type}(Yf:Shared->α)(s₁:Shared):Bool×α:=(staticsOk (importedModules p.main.body) (boot_heap w.params) s₁.heap&&namesBound p s₁.heap&&gensDone s₁&&laidKept (boot_heap w.params) s₁.heap,Yf s₁)
def Ends(p q:Program)(loose:List Str)(Xt:Shared->Bool){α:Type}(Yf:Shared->α)(Ya:World->α)(g0:Bool)(w:World)(m₀:Nat)(ann:Option Value)(env:Env)(qp pb:Pos)(n:Nat)(Sb:SharedT)(l:List Stmt):Prop:=
  ∃s₁,topRun treeTable p w m₀ ann n Sb.abs (restOf l env (.body (behindTheImports p) env) pb [topFrame qp])=some s₁ /\ (staticsOk (importedModules p.main.body) (boot_heap w.params) s₁.heap&&namesBound p s₁.heap&&gensDone s₁&&laidKept (boot_heap w.params) s₁.heap)=true /\ openSeen q loose (importedModules p.main.body) Xt g0 s₁=openGood q loose /\ Yf s₁=Ya w
section
variable {p q : Program} {loose : List Str} {Xt : Shared -> Bool} {α : Type} {Yf : Shared -> α} {Ya : World -> α} {g0 : Bool} {w : World} {m₀ : Nat} {ann : Option Value} {env : Env} {qp pb : Pos} {Sb : SharedT} {l : List Stmt}
theorem ends_two{pf:Pos}{n3 n4:Nat}(r1:RunA p w m₀ ann env qp pb pf n3 n4 Sb l (chkA p w Yf) (true,Ya w))(r2:RunA p w m₀ ann env qp pb pf n3 n4 Sb l (openSeen q loose (importedModules p.main.body) Xt g0) (openGood q loose)):Ends p q loose Xt Yf Ya g0 w m₀ ann env qp pb (n3+n4) Sb l:=by
 obtain⟨⟨f,s2,c2,p2⟩,hr,h⟩:=Option.bind_eq_some_iff.mp r1
 obtain⟨s₁,hs,h⟩:=Option.bind_eq_some_iff.mp h
 simp only[Option.some.injEq,Prod.mk.injEq] at h
 obtain⟨⟨rfl,rfl,rfl⟩,l1,l3⟩:=h
 obtain⟨r',hr',h'⟩:=Option.bind_eq_some_iff.mp r2
 rw[hr] at hr'
 cases hr'
 obtain⟨s₂,hs',h'⟩:=Option.bind_eq_some_iff.mp h'
 rw[hs] at hs'
 cases hs'
 simp only[Option.some.injEq,Prod.mk.injEq] at h'
 have k3:=piece_app (rest:=[]) (segRun_of hr) (piece_nil hs)
 rw[List.append_nil] at k3
 exact⟨s₁,k3,l1,h'.2,l3⟩
theorem ends_cut{pm:Pos}{na n j:Nat}{Sm:SharedT}(run:segRunT treeTable p w m₀ ann 1 na Sb (piecesOf (l.take j) env (.body (behindTheImports p) env) pb [topFrame qp])=some (.next,Sm,.body (behindTheImports p) env,pm))(h:Ends p q loose Xt Yf Ya g0 w m₀ ann env qp pm n Sm (l.drop j)):Ends p q loose Xt Yf Ya g0 w m₀ ann env qp pb (na+n) Sb l:=by
 obtain⟨s₁,k,r⟩:=h
 have:=piece_app (segRun_of run) k
 rw[List.take_append_drop] at this
 exact⟨s₁,this,r⟩
end
theorem top_tree{p q:Program}{loose:List Str}{Xt:Shared->Bool}{α:Type}{Yf:Shared->α}{Ya:World->α}{N:Nat}{g0:Bool}{w:World}{os:OsState}{m₀:Nat}{ann:Option Value}{env:Env}{qp pp pb:Pos}{n1 n2 n3:Nat}{Sa:Shared}{Sb:SharedT}
  (size:((boot_heap w.params).isNs mainGlobals&&(Array.mk []:Array GenState).size==0,(boot_heap w.params).objs.size,(boot_heap w.params).nsMap mainGlobals "__annotations__")=(true,m₀,ann))
  (pre:topGo treeTable p w m₀ ann n1 ⟨boot_heap w.params,Array.mk [],boot_drawn,boot_toks,os⟩ (topStub p)=some (Sa,⟨denote treeTable (.body (behindTheImports p) env),.body (behindTheImports p) env,pp,[topFrame qp]⟩))
  (block:segRun treeTable p w m₀ ann 1 n2 Sa (blockOf (behindTheImports p) env (.body (behindTheImports p) env) pp [topFrame qp])=some (.next,Sb.abs,.body (behindTheImports p) env,pb))
  (run:Ends p q loose Xt Yf Ya g0 w m₀ ann env qp pb n3 Sb (behindTheImports p))
  (le:Nat.ble (n1+(n2+n3)) N=true):
  (topFrom treeTable p w N ⟨boot_heap w.params,Array.mk [],boot_drawn,boot_toks,os⟩).map (λs=>(openSeen q loose (importedModules p.main.body) Xt g0 s,Yf s))=some (openGood q loose,Ya w):=by
 obtain⟨s₁,k3,l1,l2,l3⟩:=run
 have k1:=go_top pre (piece_block block k3)
 have r:=topRun_mono (N - (n1+(n2+n3))) _ _ _ _ k1
 rw[show n1+(n2+n3)+(N - (n1+(n2+n3)))=N by have:=Nat.le_of_ble_eq_true le;omega] at r
 obtain⟨z1,z2,z3⟩:_ /\ _ /\ _:=by simpa only[Prod.mk.injEq] using size
 have t:topFrom treeTable p w N ⟨boot_heap w.params,Array.mk [],boot_drawn,boot_toks,os⟩=some s₁:=by
  unfold topFrom
  dsimp only
  rw[z1,z2,z3,r]
  show(match staticsOk (importedModules p.main.body) (boot_heap w.params) s₁.heap&&namesBound p s₁.heap&&gensDone s₁&&laidKept (boot_heap w.params) s₁.heap with | true=>_ | false=>_)=_
  rw[l1]
 rw[t]
 exact congrArg some (Prod.ext l2 l3)
end
def o0:=PySem.W.boot_o_0
def o1:=PySem.W.boot_o_1
def o2:=PySem.W.boot_o_2
def o3:=PySem.W.boot_o_3
def o4:=PySem.W.boot_o_4
def o5:=PySem.W.boot_o_5
def o6:=PySem.W.boot_o_6
def o7:=PySem.W.boot_o_7
def o8:=PySem.W.boot_o_8
def o9:=PySem.W.boot_o_9
def o10:=PySem.W.boot_o_10
def o11(_:PySem.Params):PySem.Obj:= .mk (.type "tuple") none (.seq #[]) #[]
def o12(_:PySem.Params):PySem.Obj:= .mk .none none (.fields #[]) #[]
def o13(_:PySem.Params):PySem.Obj:= .mk (.type "code") none (.fields #[.str (PySem.Str.ofString "<module>") 182,.str (PySem.Str.ofString "<module>") 183,.str (PySem.Str.ofString "/claim/cut.py") 184,.int 1 0,.int 0 0,.int 0 0,.int 0 0,.int 0 0,.ref 11,.bool false,.int 181 0,.ref 12,.none,.none,.none,.none,.int 185 0,.int 1 0,.str (PySem.Str.ofString "/claim/cut.py") 186]) #[]
def o14(_:PySem.Params):PySem.Obj:= .mk (.type "frame") none .plain #[some (.ref 13),some (.ref 3),some (.ref 3),none,some (.str (PySem.Str.ofString "__main__") 164),none,some (.ref 0)]
def Sa(w:PySem.World)(os:PySem.OsState):PySem.Shared:=let P:=w.params;⟨⟨⟨[o0 P,o1 P,o2 P,o3 P,o4 P,o5 P,o6 P,o7 P,o8 P,o9 P,o10 P,o11 P,o12 P,o13 P,o14 P]⟩,{}⟩,Array.mk [],{},187,os⟩
def bt(P:PySem.Params):PySem.W.BT:=(.node (o0 P) (.node (o1 P) (.node (o3 P) (.node (o7 P) .nil .nil) (.node (o11 P) .nil .nil)) (.node (o5 P) (.node (o9 P) .nil .nil) (.node (o13 P) .nil .nil))) (.node (o2 P) (.node (o4 P) (.node (o8 P) .nil .nil) (.node (o12 P) .nil .nil)) (.node (o6 P) (.node (o10 P) .nil .nil) (.node (o14 P) .nil .nil))))
def Sb(w:PySem.World)(os:PySem.OsState):PySem.W.SharedT:=⟨bt w.params,15,{},Array.mk [],{},187,os⟩
def tenv:PySem.Env:={scope:=PySem.Challenge.pw_earthward_k34_whole_rows_of_two_boards.main.scope,locals:=PySem.mainNs,globals:=PySem.mainNs,cells:=[],code:= .ref 13,frame:=some 14}
def vw:PySem.Program:={PySem.Challenge.pw_earthward_k34_whole_rows_of_two_boards with main:={PySem.Challenge.pw_earthward_k34_whole_rows_of_two_boards.main with body:=[1,2,3,4,5,6,7,8,9,10,11,12,13,14,15,16,18,19,20,21,22,23,25,26,27,28,30,31,32,33,34,36,37,38,40,41,43,44,45,46,47,48,49,50,51,52,53,54,55,56,57,58,59,60,61,62,63].filterMap λi=>PySem.Challenge.pw_earthward_k34_whole_rows_of_two_boards.main.body[i]?}}
end My
set_option maxRecDepth 100000
set_option maxHeartbeats 0
abbrev My.kL:List PySem.Addr:=[2,3,15,22,23,24,25,28,35,36,37,40,47,48,49,52,59,60,61,64,71,72,73,76,83,84,85,88,95,96,97,100,107,108,109,112,119,120,121,124,131,132,133,136,143,144,145,148,155,156,157,160,167,168,169,172,179,180,181,184,191,192,193,196,203,204,205,215,217,218,220,221,222,224,225,227,228,229,231,232,234,235,236,238,239,241,242,243,244,245,246,247,250,257,259,260,262,263,264,266,267,269,270,271,272,273,276,283,285,286,288,289,290,292,293,295,296,297,298,299,302,309,311,312,314,315,316,318,319,321,322,323,324,325,328,335,337,338,340,341,342,344,345,347,348,349,351,352,354,355,356,357,358,361,363,364,366,367,368,370,371,373,374,382,385,386,387,390,391,392,395,396,397,399,400,402,403,404,406,407,409,410,411,413,414,416,417,418,420,421,423,424,425,426,427,428,429,432,434,435,437,438,439,442,443,444,446,447,449,450,451,453,454,456,457,458,460,461,463,464,465,467,468,470,471,472,474,475,477,478,479,481,482,484,485,486,488,489,491,492,493,495,496,498,499,500,503,504,512,514,515,517,518,519,521,522,524,525,526,528,529,531,532,533,535,536,538,539,540,543,544,545,547,548,550,551,552,554,555,557,558,559,561,562,564,565,566,568,569,571,572,573,575,576,578,579,580,581,582,583,584,587,589,590,592,593,594,596,597,599,600,601,603,604,606,607,608,610,611,613,614,615,617,618,620,621,622,624,625,627,628,629,632,633,634,637,638,639,641,642,644,645,646,649,650,651,653,654,656,657,658,660,661,663,664,665,667,668,670,671,672,674,675,677,678,679,681,682,684,685,686,688,689,691,692,693,695,696,698,699,700,702,703,705,706,707,709,710,712,713,714,717,718,719,722,723]
namespace My
abbrev sS:=PySem.Str.ofString
abbrev dE(P:PySem.Params)(x:String)(t:Nat)(v:PySem.Value):PySem.DictEntry:= .mk (PySem.PyData.keyHash P (sS x)) (.str (sS x) t) v
def kO(P:PySem.Params)(j:Nat):PySem.Obj:=match(My.pre.heap_39 P).drop j with | x::_=>x.2 | []=>o0 P
def m3(P:PySem.Params):PySem.Obj:= .mk (.type "dict") none (.dict #[dE P "__name__" 165 (.str (sS "earthward.switches") 447),dE P "__doc__" 166 .none,dE P "__package__" 167 .none,dE P "__loader__" 168 (.builtin "__main__.__loader__#opaque"),dE P "__spec__" 169 .none,dE P "__annotations__" 170 (.ref 6),dE P "__builtins__" 171 (.ref 4),dE P "__file__" 173 (.str (sS "/claim/cut.py") 172),dE P "__cached__" 174 .none,dE P "WardError" 206 (.ref 24),dE P "NoRow" 222 (.ref 37),dE P "NoMeasure" 238 (.ref 49),dE P "NoBar" 254 (.ref 61),dE P "Same" 270 (.ref 73),dE P "NoSwitch" 286 (.ref 85),dE P "Loaded" 302 (.ref 97),dE P "Shorted" 318 (.ref 109),dE P "Locked" 334 (.ref 121),dE P "Held" 350 (.ref 133),dE P "NoLock" 366 (.ref 145),dE P "NotOpen" 382 (.ref 157),dE P "NotLocked" 398 (.ref 169),dE P "NotEarthed" 414 (.ref 181),dE P "NotDead" 430 (.ref 193),dE P "NoPermit" 446 (.ref 205),dE P "Switch" 496 (.ref 245),dE P "Feed" 528 (.ref 273)] 27) #[]
def mk0:PySem.Obj:= .mk (.type "tuple") none (.seq #[]) #[]
def m12:PySem.Obj:= .mk .none none (.fields #[.int 2 0,.int 0 0,.ref 20,.int 4 0,.int 0 0,.ref 33,.int 6 0,.int 0 0,.ref 45,.int 8 0,.int 0 0,.ref 57,.int 10 0,.int 0 0,.ref 69,.int 12 0,.int 0 0,.ref 81,.int 14 0,.int 0 0,.ref 93,.int 16 0,.int 0 0,.ref 105,.int 18 0,.int 0 0,.ref 117,.int 20 0,.int 0 0,.ref 129,.int 22 0,.int 0 0,.ref 141,.int 24 0,.int 0 0,.ref 153,.int 26 0,.int 0 0,.ref 165,.int 28 0,.int 0 0,.ref 177,.int 30 0,.int 0 0,.ref 189,.int 32 0,.int 0 0,.ref 201,.int 35 0,.int 0 0,.ref 213,.int 48 0,.int 0 0,.ref 255]) #[]
def mk1(x0:String)(x1:Nat)(x2:Nat)(x3:Nat):PySem.Obj:= .mk (.type "code") none (.fields #[.str (sS x0) x1,.str (sS x0) (x1+1),.str (sS "/claim/cut.py") (x1+2),.int x2 0,.int 0 0,.int 0 0,.int 0 0,.int 0 0,.ref x3,.bool false,.int 181 0,.ref (x3+1),.none,.none,.none,.none,.int (x1+3) 0,.int x2 0,.str (sS "/claim/cut.py") (x1+4)]) #[]
def mk2(x0:Nat)(x1:Nat)(x2:String)(x3:Nat):PySem.Obj:= .mk (.type "frame") none .plain #[some (.ref x0),some (.ref 3),some (.ref x1),none,some (.str (sS x2) x3),none,some (.ref 0)]
def mk3:PySem.Obj:= .mk (.type "builtin_function_or_method") none (.fields #[.builtin "type.__prepare__",.type "type"]) #[]
def mk4(P:PySem.Params)(x0:Nat)(x1:String)(x2:Nat)(x3:Nat):PySem.Obj:= .mk (.type "dict") none (.dict #[dE P "__module__" x0 (.str (sS "earthward.errors") 187),dE P "__qualname__" (x0+2) (.str (sS x1) (x0+1)),dE P "__firstlineno__" (x0+4) (.int x2 (x0+3)),dE P "__static_attributes__" (x0+5) (.ref x3)] 4) #[]
def mk5:PySem.Obj:= .mk .none none (.fields #[]) #[]
def mk6(x0:Nat):PySem.Obj:= .mk (.type "super") none (.fields #[.ref x0,.ref x0,.ref x0]) #[]
def mk7(x0:Nat):PySem.Obj:= .mk (.type "builtin_function_or_method") none (.fields #[.builtin "object.__init_subclass__",.ref x0]) #[]
def m210(P:PySem.Params):PySem.Obj:= .mk (.type "dict") none (.dict #[dE P "__module__" 456 (.str (sS "earthward.switches") 447),dE P "__qualname__" 458 (.str (sS "Switch") 457),dE P "__firstlineno__" 460 (.int 35 459),dE P "feeds" 467 (.ref 221),dE P "earths" 474 (.ref 228),dE P "joins" 481 (.ref 235),dE P "gentle" 488 (.ref 242),dE P "__static_attributes__" 489 (.ref 243)] 8) #[]
def m212:PySem.Obj:= .mk .none none (.fields #[.int 37 0,.int 4 0,.ref 220,.int 40 0,.int 4 0,.ref 227,.int 43 0,.int 4 0,.ref 234,.int 46 0,.int 4 0,.ref 241]) #[]
def mk8(x0:String)(x1:String)(x2:Nat)(x3:Nat):PySem.Obj:= .mk .none none (.func (PySem.FuncData.mk (sS x0) (sS x1) (PySem.Arguments.mk [] [PySem.Arg.mk (sS "self") none (PySem.Pos.mk x2 x3 x2 (x3+4))] none [] [] none []) (PySem.FuncBody.stmts [PySem.Stmt.Return (some (PySem.Expr.Constant (PySem.Const.int 0) 0 (PySem.Pos.mk (x2+1) 15 (x2+1) 16))) (PySem.Pos.mk (x2+1) 8 (x2+1) 16)]) (PySem.Scope.mk PySem.ScopeKind.function [(sS "self",PySem.NameKind.local)] false false []) 0 [] .none .none .none .none none .none .none 0)) #[]
def m240:PySem.Obj:= .mk .none none (.func (PySem.FuncData.mk (sS "gentle") (sS "Switch.gentle") (PySem.Arguments.mk [] [PySem.Arg.mk (sS "self") none (PySem.Pos.mk 46 15 46 19)] none [] [] none []) (PySem.FuncBody.stmts [PySem.Stmt.Return (some (PySem.Expr.Constant (PySem.Const.bool false) 0 (PySem.Pos.mk 47 15 47 20))) (PySem.Pos.mk 47 8 47 20)]) (PySem.Scope.mk PySem.ScopeKind.function [(sS "self",PySem.NameKind.local)] false false []) 0 [] .none .none .none .none none .none .none 0)) #[]
def m245:PySem.Obj:= .mk (.type "type") none (.cls (PySem.ClassData.mk (sS "Switch") [.type "object"] [.ref 245,.type "object"] 244 (sS "Switch") true [] [.ref 273] false none false)) #[none,none,some (.str (sS "Switch") 449),some (.str (sS "Switch") 457),some (.builtin "object.__new__"),some (.bool true)]
def m252(P:PySem.Params):PySem.Obj:= .mk (.type "dict") none (.dict #[dE P "__module__" 504 (.str (sS "earthward.switches") 447),dE P "__qualname__" 506 (.str (sS "Feed") 505),dE P "__firstlineno__" 508 (.int 48 507),dE P "__init__" 516 (.ref 263),dE P "feeds" 523 (.ref 270),dE P "__static_attributes__" 525 (.ref 271)] 6) #[]
def m254:PySem.Obj:= .mk .none none (.fields #[.int 50 0,.int 4 0,.ref 262,.int 53 0,.int 4 0,.ref 269]) #[]
def m261:PySem.Obj:= .mk .none none (.func (PySem.FuncData.mk (sS "__init__") (sS "Feed.__init__") (PySem.Arguments.mk [] [PySem.Arg.mk (sS "self") none (PySem.Pos.mk 50 17 50 21),PySem.Arg.mk (sS "bar") none (PySem.Pos.mk 50 23 50 26)] none [] [] none []) (PySem.FuncBody.stmts [PySem.Stmt.Assign [(PySem.Expr.Name (sS "self") (PySem.Pos.mk 51 8 51 12)).Attribute (sS "bar") (PySem.Pos.mk 51 8 51 16)] (PySem.Expr.Name (sS "bar") (PySem.Pos.mk 51 19 51 22)) (PySem.Pos.mk 51 8 51 22)]) (PySem.Scope.mk PySem.ScopeKind.function [(sS "self",PySem.NameKind.local),(sS "bar",PySem.NameKind.local)] false false []) 0 [] .none .none .none .none none .none .none 0)) #[]
def m268:PySem.Obj:= .mk .none none (.func (PySem.FuncData.mk (sS "feeds") (sS "Feed.feeds") (PySem.Arguments.mk [] [PySem.Arg.mk (sS "self") none (PySem.Pos.mk 53 14 53 18)] none [] [] none []) (PySem.FuncBody.stmts [PySem.Stmt.Return (some ((PySem.Expr.Constant (PySem.Const.int 1) 0 (PySem.Pos.mk 54 15 54 16)).BinOp PySem.Operator.LShift ((PySem.Expr.Name (sS "self") (PySem.Pos.mk 54 20 54 24)).Attribute (sS "bar") (PySem.Pos.mk 54 20 54 28)) (PySem.Pos.mk 54 15 54 28))) (PySem.Pos.mk 54 8 54 28)]) (PySem.Scope.mk PySem.ScopeKind.function [(sS "self",PySem.NameKind.local)] false false []) 0 [] .none .none .none .none none .none .none 0)) #[]
def mt(P:PySem.Params):PySem.W.BT:=(.node (PySem.W.boot_o_0 P) (.node (PySem.W.boot_o_1 P) (.node (m3 P) (.node (PySem.W.boot_o_7 P) (.node (kO P 2) (.node mk0 (.node (mk7 61) (.node mk0 (.node (mk1 "Feed" 499 48 253) .nil .nil) .nil) (.node (kO P 60) .nil .nil)) (.node (kO P 28) (.node (mk7 157) .nil .nil) (.node mk5 .nil .nil))) (.node (kO P 12) (.node mk0 (.node (kO P 44) (.node (kO P 103) .nil .nil) .nil) (.node (mk7 205) .nil .nil)) (.node (mk7 109) (.node mk0 .nil .nil) (.node (kO P 84) .nil .nil)))) (.node (kO P 4) (.node (mk7 37) (.node (kO P 20) (.node (mk7 133) (.node (kO P 97) .nil .nil) .nil) (.node mk0 .nil .nil)) (.node mk0 (.node (kO P 52) .nil .nil) (.node (kO P 78) .nil .nil))) (.node mk0 (.node (mk7 85) (.node mk0 .nil .nil) (.node (kO P 67) .nil .nil)) (.node (kO P 36) (.node (mk7 181) .nil .nil) (.node (kO P 91) .nil .nil))))) (.node mk0 (.node mk5 (.node (kO P 8) (.node mk0 (.node (kO P 40) (.node (kO P 94) .nil .nil) .nil) (.node (mk7 193) .nil .nil)) (.node (mk7 97) (.node mk0 .nil .nil) (.node (kO P 75) .nil .nil))) (.node (mk7 49) (.node (kO P 24) (.node (mk7 145) (.node (mk7 273) .nil .nil) .nil) (.node mk0 .nil .nil)) (.node mk0 (.node (kO P 56) .nil .nil) (.node (kO P 87) .nil .nil)))) (.node (mk7 24) (.node mk0 (.node (mk7 73) (.node mk0 (.node (kO P 100) .nil .nil) .nil) (.node (kO P 64) .nil .nil)) (.node (kO P 32) (.node (mk7 169) .nil .nil) (.node (kO P 81) .nil .nil))) (.node (kO P 16) (.node mk0 (.node (kO P 48) .nil .nil) (.node (mk8 "feeds" "Switch.feeds" 37 14) .nil .nil)) (.node (mk7 121) (.node mk0 .nil .nil) (.node mk3 .nil .nil)))))) (.node (PySem.W.boot_o_5 P) (.node (PySem.W.boot_o_9 P) (.node (mk4 P 196 "WardError" 2 22) (.node (mk1 "NoRow" 209 4 31) (.node mk3 (.node (mk1 "Held" 337 20 127) (.node (kO P 93) .nil .nil) .nil) (.node (kO P 62) .nil .nil)) (.node (kO P 30) (.node mk3 .nil .nil) (.node (kO P 74) .nil .nil))) (.node (kO P 14) (.node (mk1 "NoSwitch" 273 12 79) (.node (kO P 46) (.node (kO P 105) .nil .nil) .nil) (.node mk3 .nil .nil)) (.node mk3 (.node (mk1 "NotEarthed" 401 28 175) .nil .nil) (.node (kO P 85) .nil .nil)))) (.node (kO P 6) (.node mk3 (.node (kO P 22) (.node mk3 (.node mk5 .nil .nil) .nil) (.node (mk1 "NoPermit" 433 32 199) .nil .nil)) (.node (mk1 "Shorted" 305 16 103) (.node (kO P 54) .nil .nil) (.node (mk8 "joins" "Switch.joins" 43 14) .nil .nil))) (.node (mk1 "NoBar" 241 8 55) (.node mk3 (.node (mk1 "NotOpen" 369 24 151) .nil .nil) (.node (kO P 68) .nil .nil)) (.node (kO P 38) (.node mk3 .nil .nil) (.node (mk7 245) .nil .nil))))) (.node (mk1 "<module>" 182 1 11) (.node (mk2 20 17 "earthward.errors" 187) (.node (kO P 10) (.node (mk1 "Same" 257 10 67) (.node (kO P 42) (.node m261 .nil .nil) .nil) (.node mk3 .nil .nil)) (.node mk3 (.node (mk1 "NotLocked" 385 26 163) .nil .nil) (.node (kO P 77) .nil .nil))) (.node mk3 (.node (kO P 26) (.node mk3 .nil .nil) (.node (mk1 "Switch" 451 35 211) .nil .nil)) (.node (mk1 "Locked" 321 18 115) (.node (kO P 58) .nil .nil) (.node m245 .nil .nil)))) (.node mk3 (.node (mk1 "NoMeasure" 225 6 43) (.node mk3 (.node (mk1 "NoLock" 353 22 139) (.node (kO P 101) .nil .nil) .nil) (.node (kO P 66) .nil .nil)) (.node (kO P 34) (.node mk3 .nil .nil) (.node mk5 .nil .nil))) (.node (kO P 18) (.node (mk1 "Loaded" 289 14 91) (.node (kO P 50) .nil .nil) (.node (kO P 71) .nil .nil)) (.node mk3 (.node (mk1 "NotDead" 417 30 187) .nil .nil) (.node mk0 .nil .nil))))))) (.node (PySem.W.boot_o_2 P) (.node (PySem.W.boot_o_4 P) (.node (PySem.W.boot_o_8 P) (.node mk3 (.node mk5 (.node (kO P 19) (.node mk5 (.node (mk2 255 252 "earthward.switches" 447) .nil .nil) .nil) (.node (kO P 61) .nil .nil)) (.node (kO P 29) (.node (kO P 51) .nil .nil) (.node (kO P 73) .nil .nil))) (.node (kO P 13) (.node mk5 (.node (kO P 45) (.node (kO P 104) .nil .nil) .nil) (.node mk0 .nil .nil)) (.node (kO P 35) (.node mk5 .nil .nil) (.node m240 .nil .nil)))) (.node (kO P 5) (.node (kO P 11) (.node (kO P 21) (.node (kO P 43) (.node (kO P 98) .nil .nil) .nil) (.node mk5 .nil .nil)) (.node mk5 (.node (kO P 53) .nil .nil) (.node (kO P 79) .nil .nil))) (.node mk5 (.node (kO P 27) (.node mk5 .nil .nil) (.node mk5 .nil .nil)) (.node (kO P 37) (.node (kO P 59) .nil .nil) (.node (mk6 245) .nil .nil))))) (.node m12 (.node (mk1 "WardError" 191 2 18) (.node (kO P 9) (.node mk5 (.node (kO P 41) (.node (kO P 95) .nil .nil) .nil) (.node (kO P 63) .nil .nil)) (.node (kO P 31) (.node mk5 .nil .nil) (.node (kO P 76) .nil .nil))) (.node (kO P 15) (.node (kO P 25) (.node (kO P 47) .nil .nil) (.node m212 .nil .nil)) (.node mk5 (.node (kO P 57) .nil .nil) (.node (kO P 88) .nil .nil)))) (.node (kO P 7) (.node mk5 (.node (kO P 23) (.node mk5 (.node m268 .nil .nil) .nil) (.node (kO P 65) .nil .nil)) (.node (kO P 33) (.node (kO P 55) .nil .nil) (.node (kO P 82) .nil .nil))) (.node (kO P 17) (.node mk5 (.node (kO P 49) .nil .nil) (.node (kO P 70) .nil .nil)) (.node (kO P 39) (.node mk5 .nil .nil) (.node (m252 P) .nil .nil)))))) (.node (PySem.W.boot_o_6 P) (.node (PySem.W.boot_o_10 P) (.node mk0 (.node (mk2 33 30 "earthward.errors" 187) (.node (mk4 P 262 "Same" 10 71) (.node (mk2 129 126 "earthward.errors" 187) (.node mk5 .nil .nil) .nil) (.node (mk6 193) .nil .nil)) (.node (mk6 97) (.node (mk4 P 390 "NotLocked" 26 167) .nil .nil) (.node (mk8 "earths" "Switch.earths" 40 15) .nil .nil))) (.node (mk6 49) (.node (mk2 81 78 "earthward.errors" 187) (.node (mk6 145) (.node (mk6 273) .nil .nil) .nil) (.node (m210 P) .nil .nil)) (.node (mk4 P 326 "Locked" 18 119) (.node (mk2 177 174 "earthward.errors" 187) .nil .nil) (.node (kO P 86) .nil .nil)))) (.node (mk6 24) (.node (mk4 P 230 "NoMeasure" 6 47) (.node (mk6 73) (.node (mk4 P 358 "NoLock" 22 143) (.node (kO P 99) .nil .nil) .nil) (.node (mk2 201 198 "earthward.errors" 187) .nil .nil)) (.node (mk2 105 102 "earthward.errors" 187) (.node (mk6 169) .nil .nil) (.node (kO P 80) .nil .nil))) (.node (mk2 57 54 "earthward.errors" 187) (.node (mk4 P 294 "Loaded" 14 95) (.node (mk2 153 150 "earthward.errors" 187) .nil .nil) (.node (kO P 69) .nil .nil)) (.node (mk6 121) (.node (mk4 P 422 "NotDead" 30 191) .nil .nil) (.node (kO P 92) .nil .nil))))) (.node (mk2 13 3 "__main__" 164) (.node (kO P 3) (.node (mk6 37) (.node (mk2 69 66 "earthward.errors" 187) (.node (mk6 133) (.node (kO P 96) .nil .nil) .nil) (.node (mk4 P 438 "NoPermit" 32 203) .nil .nil)) (.node (mk4 P 310 "Shorted" 16 107) (.node (mk2 165 162 "earthward.errors" 187) .nil .nil) (.node mk5 .nil .nil))) (.node (mk4 P 246 "NoBar" 8 59) (.node (mk6 85) (.node (mk4 P 374 "NotOpen" 24 155) .nil .nil) (.node (mk2 213 210 "earthward.switches" 447) .nil .nil)) (.node (mk2 117 114 "earthward.errors" 187) (.node (mk6 181) .nil .nil) (.node (kO P 90) .nil .nil)))) (.node (mk4 P 214 "NoRow" 4 35) (.node (mk2 45 42 "earthward.errors" 187) (.node (mk4 P 278 "NoSwitch" 12 83) (.node (mk2 141 138 "earthward.errors" 187) (.node (kO P 102) .nil .nil) .nil) (.node (mk6 205) .nil .nil)) (.node (mk6 109) (.node (mk4 P 406 "NotEarthed" 28 179) .nil .nil) (.node (kO P 83) .nil .nil))) (.node (mk6 61) (.node (mk2 93 90 "earthward.errors" 187) (.node (mk6 157) .nil .nil) (.node (kO P 72) .nil .nil)) (.node (mk4 P 342 "Held" 20 131) (.node (mk2 189 186 "earthward.errors" 187) .nil .nil) (.node m254 .nil .nil))))))))
def Sm(w:PySem.World)(os:PySem.OsState):PySem.W.SharedT:=⟨mt w.params,276,PySem.Life.mk [] [] [] 0 [] [] false #[] [] 0 false false false 0 [2000,10,10] false 0 true [] [] 0 false,Array.mk [],PySem.Drawn.mk 0 0 0 0,529,os⟩
theorem run0a(w:PySem.World)(os:PySem.OsState):PySem.W.segRunT PySem.treeTable PySem.Challenge.pw_earthward_k34_whole_rows_of_two_boards w 11 (some (.ref 6)) 1 4048 (My.Sb w os) (PySem.W.piecesOf ((PySem.W.behindTheImports PySem.Challenge.pw_earthward_k34_whole_rows_of_two_boards).take 20) My.tenv (.body (PySem.W.behindTheImports PySem.Challenge.pw_earthward_k34_whole_rows_of_two_boards) My.tenv) ⟨0,0,0,0⟩ [PySem.W.topFrame ⟨0,0,0,0⟩])=some (.next,(My.Sm w os),.body (PySem.W.behindTheImports PySem.Challenge.pw_earthward_k34_whole_rows_of_two_boards) My.tenv,⟨48,0,54,28⟩):=by kernel_rfl
theorem run0x(w:PySem.World)(os:PySem.OsState):RunA PySem.Challenge.pw_earthward_k34_whole_rows_of_two_boards w 11 (some (.ref 6)) My.tenv ⟨0,0,0,0⟩ ⟨48,0,54,28⟩ ⟨424,0,452,62⟩ 3273 5 (My.Sm w os) ((PySem.W.behindTheImports PySem.Challenge.pw_earthward_k34_whole_rows_of_two_boards).drop 20) (chkA PySem.Challenge.pw_earthward_k34_whole_rows_of_two_boards w (PySem.W.Hook.obs (PySem.W.kHook My.pre.heap_39 My.kL (λ_=>by kernel_rfl)))) (true,PySem.W.Hook.val (PySem.W.kHook My.pre.heap_39 My.kL (λ_=>by kernel_rfl)) w):=by kernel_rfl
theorem run0y(w:PySem.World)(os:PySem.OsState):RunA PySem.Challenge.pw_earthward_k34_whole_rows_of_two_boards w 11 (some (.ref 6)) My.tenv ⟨0,0,0,0⟩ ⟨48,0,54,28⟩ ⟨424,0,452,62⟩ 3273 5 (My.Sm w os) ((PySem.W.behindTheImports PySem.Challenge.pw_earthward_k34_whole_rows_of_two_boards).drop 20) (PySem.W.openSeen My.vw [] (PySem.importedModules PySem.Challenge.pw_earthward_k34_whole_rows_of_two_boards.main.body) (λs=>PySem.W.xlAt My.vw [] s&&PySem.W.recOk (PySem.Challenge.rw_earthward_k34_whole_rows_of_two_boards).row.records s) true) (PySem.W.openGood My.vw []):=by kernel_rfl
theorem left:PySem.W.LeftO PySem.Challenge.pw_earthward_k34_whole_rows_of_two_boards My.vw [] (λs=>PySem.W.xlAt My.vw [] s&&PySem.W.recOk (PySem.Challenge.rw_earthward_k34_whole_rows_of_two_boards).row.records s) (PySem.W.Hook.obs (PySem.W.kHook My.pre.heap_39 My.kL (λ_=>by kernel_rfl))) (PySem.W.Hook.val (PySem.W.kHook My.pre.heap_39 My.kL (λ_=>by kernel_rfl))) 7961 true:=My.left_boot (by kernel_rfl) (by kernel_rfl) (λs=>rfl) (λw os=>My.top_tree (os:=os) (m₀:=11) (ann:=some (.ref 6)) (env:=My.tenv) (qp:=⟨0,0,0,0⟩) (pp:=⟨0,0,0,0⟩) (pb:=⟨0,0,0,0⟩) (n1:=12) (n2:=1) (n3:=7326) (Sa:=My.Sa w os) (Sb:=My.Sb w os) (by kernel_rfl) (by kernel_rfl) (by kernel_rfl) (My.ends_cut (j:=20) (My.run0a w os) (My.ends_two (My.run0x w os) (My.run0y w os))) (by kernel_rfl))
end My
set_option maxHeartbeats 4000000
namespace L2
open PySem PySem.Spec PyProof.Rows
abbrev Key:=Sum Int Str
def jl8:Key->Value->Bool
 | .inl k,v=>Value.isInt k v
 | .inr x,v=>Value.isStrOf x v
def keyH(w:World):Key->Int
 | .inl k=>hashInt k
 | .inr x=>hashStr w x
theorem jbz:∀{k:Key} {v:Value},jl8 k v=true->(∃i t,k=Sum.inl i /\ v=Value.int i t) \/ (∃x t,k=Sum.inr x /\ v=Value.str x t)
 | .inl i,v,h=>by
  obtain⟨t,e⟩:=Value.isInt_shape (k:=i) (v:=v) h
  exact .inl ⟨i,t,rfl,e⟩
 | .inr x,v,h=>by
  obtain⟨t,e⟩:=Value.isStrOf_shape (x:=x) (v:=v) h
  exact .inr ⟨x,t,rfl,e⟩
theorem jr3(i:Int)(t:Tok):jl8 (.inl i) (.int i t)=true:=by simp[jl8,Value.isInt]
theorem jr2(x:Str)(t:Tok):jl8 (.inr x) (.str x t)=true:=by simp[jl8,Value.isStrOf]
theorem key_ll(a b:Int):decide ((Sum.inl a:Key)=Sum.inl b)=(a==b):=by
 by_cases e:a=b
 ·subst e;simp
 ·have h:¬(Sum.inl a:Key)=Sum.inl b:=λq=>e (Sum.inl.inj q)
  rw[decide_eq_false h]
  exact(beq_eq_false_iff_ne.mpr e).symm
theorem key_rr(a b:Str):decide ((Sum.inr a:Key)=Sum.inr b)=decide (a=b):=by
 by_cases e:a=b
 ·subst e;simp
 ·have h:¬(Sum.inr a:Key)=Sum.inr b:=λq=>e (Sum.inr.inj q)
  rw[decide_eq_false h,decide_eq_false e]
theorem key_lr(a:Int)(b:Str):decide ((Sum.inl a:Key)=Sum.inr b)=false:=decide_eq_false (λq=>nomatch q)
theorem key_rl(a:Str)(b:Int):decide ((Sum.inr a:Key)=Sum.inl b)=false:=decide_eq_false (λq=>nomatch q)
def jbk(prog:Program)(w:World):PySem.KeyKind prog w Key where
 is:=jl8
 hash:=keyH w
 inj:=λv a b ha hb=>by
  rcases jbz ha with⟨i,t,rfl,rfl⟩ | ⟨x,t,rfl,rfl⟩
  ·rcases jbz hb with⟨j,u,rfl,e⟩ | ⟨y,u,rfl,e⟩
   ·injection e with e1 _;rw[e1]
   ·exact nomatch e
  ·rcases jbz hb with⟨j,u,rfl,e⟩ | ⟨y,u,rfl,e⟩
   ·exact nomatch e
   ·injection e with e1 _;rw[e1]
 byValue:=λk v h=>by
  rcases jbz h with⟨i,t,rfl,rfl⟩ | ⟨x,t,rfl,rfl⟩<;>rfl
 pyHash:=λhv h=>by
  rcases jbz hv with⟨i,t,rfl,rfl⟩ | ⟨x,t,rfl,rfl⟩
  ·exact wpAny_pyHash_int h
  ·exact wpAny_pyHash_str h
 eqBool:=λhu hv h=>by
  rcases jbz hu with⟨i,t,rfl,rfl⟩ | ⟨x,t,rfl,rfl⟩
  ·rcases jbz hv with⟨j,u,rfl,rfl⟩ | ⟨y,u,rfl,rfl⟩
   ·rw[key_ll] at h;exact wpAny_eqBool_int h
   ·rw[key_lr] at h;exact SeqAt.EqAt.int_str i t y u _ _ _ _ h
  ·rcases jbz hv with⟨j,u,rfl,rfl⟩ | ⟨y,u,rfl,rfl⟩
   ·rw[key_rl] at h;exact SeqAt.EqAt.str_int x t j u _ _ _ _ h
   ·rw[key_rr] at h;exact wpAny_eqBool_str h
 «strs»:=λk x t v h=>by
  rcases jbz h with⟨i,u,rfl,e⟩ | ⟨y,u,rfl,e⟩
  ·exact nomatch e
  ·injection e with e1 _
   subst e1
   cases v<;>rfl
theorem jmx(prog:Program)(w:World)(i:Int)(t:Tok):(jbk prog w).is (.inl i) (.int i t)=true:=jr3 i t
theorem jmv(prog:Program)(w:World)(x:Str)(t:Tok):(jbk prog w).is (.inr x) (.str x t)=true:=jr2 x t
inductive V where
 | non | bl (b:Bool) | int (i:Int) | str (x:Str) | byt (b:Array UInt8) | flt (b:UInt64) | ref (a:Addr) | ty (n:String)
 deriving DecidableEq
def RelV:V->Value->Prop
 | .non,u=>u=Value.none
 | .bl b,u=>u=Value.bool b
 | .int i,u=>∃t,u=Value.int i t
 | .str x,u=>∃t,u=Value.str x t
 | .byt b,u=>∃t,u=Value.bytes b t
 | .flt b,u=>∃t,u=Value.float b t
 | .ref a,u=>u=Value.ref a
 | .ty n,u=>u=Value.type n
abbrev Vals:List V->List Value->Prop:=Paired RelV
theorem Vals.length{xs:List V}{us:List Value}(r:Vals xs us):xs.length=us.length:=Paired.length r
theorem Vals.get:∀{xs:List V} {us:List Value} {i:Nat} {x:V},Vals xs us->xs[i]?=some x->∃u,us[i]?=some u /\ RelV x u
 | _,_,_,_,.nil,e=>by simp at e
 | _,_,0,_,.cons r _,e=>by simp at e;subst e;exact⟨_,rfl,r⟩
 | _,_,i+1,x,.cons _ t,e=>by
  obtain⟨u,h1,h2⟩:=Vals.get (i:=i) (x:=x) t (by simpa using e)
  exact⟨u,by simpa using h1,h2⟩
theorem Vals.set{x:V}{u:Value}(r:RelV x u):∀{xs:List V} {us:List Value} (i:Nat),Vals xs us->Vals (xs.set i x) (us.set i u)
 | _,_,_,.nil=> .nil
 | _,_,0,.cons _ t=> .cons r t
 | _,_,i+1,.cons q t=> .cons q (Vals.set r i t)
theorem Vals.append:∀{xs ys:List V} {us ws:List Value},Vals xs us->Vals ys ws->Vals (xs++ys) (us++ws)
 | _,_,_,_,.nil,s=>s
 | _,_,_,_,.cons r t,s=> .cons r (Vals.append t s)
theorem Vals.take:∀{xs:List V} {us:List Value} (n:Nat),Vals xs us->Vals (xs.take n) (us.take n)
 | _,_,0,_=> .nil
 | _,_,_+1,.nil=> .nil
 | _,_,n+1,.cons r t=> .cons r (Vals.take n t)
theorem Vals.drop:∀{xs:List V} {us:List Value} (n:Nat),Vals xs us->Vals (xs.drop n) (us.drop n)
 | _,_,0,r=>r
 | _,_,_+1,.nil=> .nil
 | _,_,n+1,.cons _ t=>Vals.drop n t
def RelO:Option V->Option Value->Prop
 | some v,some u=>RelV v u
 | none,none=>True
 | _,_=>False
def KV{κ:Type}:List (κ×V)->List (κ×Value)->Prop:=Paired λ(p:κ×V) (q:κ×Value)=>p.1=q.1 /\ RelV p.2 q.2
def kV:Key->V
 | .inl i=> .int i
 | .inr x=> .str x
inductive HO where
 | lst (xs:List V)
 | tup (xs:List V)
 | dK (kvs:List (Key×V)) | dT (kvs:List (List Key×V))
 | set (S:Int->Bool) (n:Nat)
 | ins (C dx:Addr) (fs:List (Str×V))
 | own (x:Addr)
 | xd (fs:List (Str×V))
 | met (f x:Addr)
 | rng (lo hi:Int)
 | frz (o:Obj) (u:HO)
 | tbl (ps:Array Value)
 | ext (φ:Heap->Prop)
abbrev Hp:=Addr->Option HO
def upd(H:Hp)(a:Addr)(o:HO):Hp:=λb=>if b=a then some o else H b
theorem jaz{H:Hp}{a:Addr}{o:HO}:upd H a o a=some o:=by unfold upd;rw[if_pos rfl]
theorem jae{H:Hp}{a b:Addr}{o:HO}(h:b≠a):upd H a o b=H b:=by unfold upd;rw[if_neg h]
theorem ne_of{H:Hp}{a b:Addr}{o u:HO}(h:H a=some o)(h':H b=some u)(d:o≠u):a≠b:=by
 intro e;subst e;rw[h] at h';exact d (Option.some.inj h')
theorem jb1{H:Hp}{a b:Addr}{o:HO}(h:H a=some o)(h':H b=none):a≠b:=by
 intro e;subst e;rw[h] at h';cases h'
section
variable (P : Program) (w : World)
def jc2(H:Hp)(h:Heap)(a:Addr):HO->Prop
 | .lst xs=>xs.length<=sizeLine /\ ∃(its:List Value) (n:Nat),Vals xs its /\ h.get? a=some {cls:= .type "list",data:= .seq its.toArray n}
 | .tup xs=>xs.length<=sizeLine /\ ∃its:List Value,Vals xs its /\ IsTup h a its.toArray
 | .dK kvs=>kvs.length<=sizeLine /\ (a==sysModules)=false /\ ∃vs,KV kvs vs /\ h.DictOf (jbk P w) a vs
 | .dT kvs=>kvs.length<=sizeLine /\ (a==sysModules)=false /\ ∃xs:List (List Key×Addr×Value),
   Paired (λ(p:List Key×V) (q:List Key×Addr×Value)=>p.1=q.1 /\ H q.2.1=some (.tup (p.1.map kV)) /\ RelV p.2 q.2.2) kvs xs /\
   ∃o es ep,h.get? a=some o /\ o.ExactDict /\ o.data= .dict es ep /\ es.toList=xs.map (entryOfKey (tupleKind (jbk P w))) /\ (xs.map (·.1)).Nodup
 | .set S n=>h.SetOf (intKind P w) a S n
 | .ins C dx fs=>H dx=some (.own a) /\ fs.length<=1000 /\ dx≠a /\ h.get? a=some (W.instObj C dx) /\
   ∃mA,h.Ns1 dx mA /\ (∀f,RelO (fs.lookup f) (mA f)) /\ PySem.Within mA (fs.map (·.1))
 | .own _=>∃o,h.get? a=some o
 | .xd fs=>∃mA,h.Ns1 a mA /\ ∀f,RelO (fs.lookup f) (mA f)
 | .rng lo hi=>∃t u v,h.get? a=some {cls:= .type "range",data:= .fields #[.int lo t,.int hi u,.int 1 v]}
 | .frz o u=>h.get? a=some o /\ jc2 H h a u
 | .tbl ps=>h.get? a=some {cls:= .none,data:= .fields ps}
 | .met f x=>h.get? a=some (W.methodObj (.ref f) (.ref x))
 | .ext φ=>φ h /\ (∃o,h.get? a=some o) /\ ∀h1 h2:Heap,φ h1->(∀o,h1.get? a=some o->h2.get? a=some o)->φ h2
def HOk(H:Hp)(h:Heap):Prop:=∀a o,H a=some o->jc2 P w H h a o
end
section
variable {P : Program} {w : World} {H H' : Hp} {h h' : Heap} {a : Addr} {o : HO}
theorem jc2.lt(x:jc2 P w H h a o):a<h.objs.size:=by
 cases o with
 | lst xs=>obtain⟨_,_,_,_,e⟩:=x;exact Heap.lt_size e
 | tup xs=>obtain⟨_,_,_,p⟩:=x;exact p.lt
 | dK kvs=>obtain⟨_,_,_,_,o,_,_,e,_⟩:=x;exact Heap.lt_size e
 | dT kvs=>obtain⟨_,_,_,_,o,_,_,e,_⟩:=x;exact Heap.lt_size e
 | set S n=>obtain⟨o,_,_,_,e,_⟩:=x;exact Heap.lt_size e
 | ins C dx fs=>obtain⟨_,_,_,e,_⟩:=x;exact Heap.lt_size e
 | own y=>obtain⟨_,e⟩:=x;exact Heap.lt_size e
 | xd fs=>obtain⟨_,⟨_,_,_,e,_⟩,_⟩:=x;exact Heap.lt_size e
 | rng lo hi=>obtain⟨_,_,_,e⟩:=x;exact Heap.lt_size e
 | frz ob u=>obtain⟨e,_⟩:=x;exact Heap.lt_size e
 | tbl ps=>exact Heap.lt_size (show h.get? a=some _ from x)
 | met f y=>exact Heap.lt_size (show h.get? a=some _ from x)
 | ext φ=>obtain⟨_,⟨_,e⟩,_⟩:=x;exact Heap.lt_size e
theorem Paired.mapP{α β:Type}{F G:α->β->Prop}:∀{l₁:List α} {l₂:List β},Paired F l₁ l₂->(∀a b,F a b->G a b)->Paired G l₁ l₂
 | _,_,.nil,_=> .nil
 | _,_,.cons r t,f=> .cons (f _ _ r) (Paired.mapP t f)
theorem jc2.stay(x:jc2 P w H h a o)(k:∀b u,(b=a \/ H b=some (.own a))->h.get? b=some u->h'.get? b=some u)
  (ho:∀b,H b=some (.own a)->H' b=some (.own a)) (ht:∀b xs,H b=some (.tup xs)->H' b=some (.tup xs)):jc2 P w H' h' a o:=by
 induction o with
 | lst xs=>obtain⟨z,its,n,r,e⟩:=x;exact⟨z,its,n,r,k _ _ (.inl rfl) e⟩
 | tup xs=>obtain⟨z,its,r,ob,e,c⟩:=x;exact⟨z,its,r,ob,k _ _ (.inl rfl) e,c⟩
 | dK kvs=>obtain⟨z,y,vs,r,ob,es,ep,e,c⟩:=x;exact⟨z,y,vs,r,ob,es,ep,k _ _ (.inl rfl) e,c⟩
 | dT kvs=>
  obtain⟨z,y,xs,r,ob,es,ep,e,c⟩:=x
  exact⟨z,y,xs,Paired.mapP r λp q z=>⟨z.1,ht _ _ z.2.1,z.2.2⟩,ob,es,ep,k _ _ (.inl rfl) e,c⟩
 | set S n=>obtain⟨ob,es,ep,t,e,c⟩:=x;exact⟨ob,es,ep,t,k _ _ (.inl rfl) e,c⟩
 | ins C dx fs=>
  obtain⟨d,z,ne,e,mA,⟨od,es,ep,e2,c⟩,r⟩:=x
  exact⟨ho _ d,z,ne,k _ _ (.inl rfl) e,mA,⟨od,es,ep,k _ _ (.inr d) e2,c⟩,r⟩
 | own y=>obtain⟨ob,e⟩:=x;exact⟨ob,k _ _ (.inl rfl) e⟩
 | xd fs=>obtain⟨mA,⟨od,es,ep,e,c⟩,r⟩:=x;exact⟨mA,⟨od,es,ep,k _ _ (.inl rfl) e,c⟩,r⟩
 | rng lo hi=>obtain⟨t,u,v,e⟩:=x;exact⟨t,u,v,k _ _ (.inl rfl) e⟩
 | frz ob u ih=>obtain⟨e,q⟩:=x;exact⟨k _ _ (.inl rfl) e,ih q⟩
 | tbl ps=>
  have e:h.get? a=some {cls:= .none,data:= .fields ps}:=x
  show h'.get? a=some {cls:= .none,data:= .fields ps}
  exact k a _ (.inl rfl) e
 | met f y=>
  have e:h.get? a=some (W.methodObj (.ref f) (.ref y)):=x
  show h'.get? a=some (W.methodObj (.ref f) (.ref y))
  exact k a _ (.inl rfl) e
 | ext φ=>obtain⟨p,⟨o,e⟩,st⟩:=x;exact⟨st _ _ p λo q=>k _ _ (.inl rfl) q,⟨o,k _ _ (.inl rfl) e⟩,st⟩
theorem HOk.lt(x:HOk P w H h)(e:H a=some o):a<h.objs.size:=(x a o e).lt
theorem HOk.fresh(x:HOk P w H h)(e:h.objs.size<=a):H a=none:=by
 cases q:H a with
 | none=>rfl
 | some u=>exact absurd (Nat.lt_of_lt_of_le (x.lt q) e) (Nat.lt_irrefl _)
theorem HOk.kept(x:HOk P w H h)(k:∀b u,h.get? b=some u->h'.get? b=some u):HOk P w H h':=λa o e=>
 (x a o e).stay (λb u _ q=>k b u q) (λ_ q=>q) λ_ _ q=>q
theorem HOk.laid(x:HOk P w H h)(k:∀b u,h.get? b=some u->h'.get? b=some u)(hp:h.objs.size<=a)(new:jc2 P w (upd H a o) h' a o):HOk P w (upd H a o) h':=λb u e=>by
 have hn:=x.fresh hp
 by_cases hb:b=a
 ·subst hb;rw[jaz] at e;cases e;exact new
 ·rw[jae hb] at e
  exact(x b u e).stay (λc v _ q=>k c v q) (λc q=>by rw[jae (jb1 q hn)];exact q) λc xs q=>by rw[jae (jb1 q hn)];exact q
end
def Rd(H:Hp)(a:Addr)(u:HO):Prop:=H a=some u \/ ∃o,H a=some (.frz o u)
theorem Rd.ok{P:Program}{w:World}{H:Hp}{h:Heap}{a:Addr}{u:HO}(r:Rd H a u)(x:HOk P w H h):jc2 P w H h a u:=by
 rcases r with r | ⟨o,r⟩
 ·exact x a u r
 ·obtain⟨_,q⟩:=x a _ r
  exact q
def Mut:Option HO->Prop
 | some (.lst _)=>True
 | some (.dK _)=>True
 | some (.dT _)=>True
 | some (.set _ _)=>True
 | some (.ins _ _ _)=>True
 | some (.ext _)=>True
 | _=>False
section
variable {P : Program} {w : World} {H : Hp} {h h' : Heap} {x e : Addr} {o' : HO}
theorem HOk.write(ok:HOk P w H h)(mu:Mut (H x))(he:e=x \/ H e=some (.own x))(k:∀b u,b≠e->h.get? b=some u->h'.get? b=some u)(heo:∃u,h'.get? e=some u)
  (new:jc2 P w (upd H x o') h' x o'):HOk P w (upd H x o') h':=λb u q=>by
 have nown:∀c y,H c=some (.own y)->c≠x:=λc y r z=>by subst z;rw[r] at mu;exact mu
 have ntup:∀c xs,H c=some (.tup xs)->c≠x:=λc xs r z=>by subst z;rw[r] at mu;exact mu
 by_cases hb:b=x
 ·subst hb;rw[jaz] at q;cases q;exact new
 ·rw[jae hb] at q
  by_cases hbe:b=e
  ·have q':H b=some (.own x):=by
    rcases he with z | z
    ·exact absurd (hbe.trans z) hb
    ·rw[hbe];exact z
   rw[q] at q';cases q'
   obtain⟨v,hv⟩:=heo
   exact⟨v,by rw[hbe];exact hv⟩
  ·refine(ok b u q).stay (λc v hc r=>k c v ?_ r) (λc r=>by rw[jae (nown c b r)];exact r) λc xs r=>by rw[jae (ntup c xs r)];exact r
   rcases hc with rfl | hc
   ·exact hbe
   ·rintro rfl
    rcases he with z | z
    ·exact nown c b hc z
    ·rw[hc] at z;cases z;exact hb rfl
end
structure Un (fs ex:List Addr) (H H':Hp) (h h':Heap):Prop where
 keep:∀b o,h.get? b=some o->H b=none->b∉fs->b∉ex->h'.get? b=some o
 slot:∀b o,h.get? b=some o->H b=none->b∈fs->b∉ex->∃sl,h'.get? b=some {o with slots:=sl}
 free:∀b o,h.get? b=some o->H b=none->b∉ex->H' b=none
 there:∀b o,h.get? b=some o->b∉ex->∃o',h'.get? b=some o'
 tups:∀b xs,H b=some (.tup xs)->H' b=some (.tup xs)
 frzs:∀b o u,H b=some (.frz o u)->H' b=some (.frz o u)
 tbls:∀b ps,H b=some (.tbl ps)->∃more,H' b=some (.tbl (ps++more))
section
variable {fs fs' ex ex' : List Addr} {H H1 H2 : Hp} {h h1 h2 h' : Heap} {a x e : Addr} {o : HO}
theorem Un.any(u:Un fs ex H H1 h h1){b:Addr}{ob:Obj}(q:h.get? b=some ob)(n:H b=none)(hx:b∉ex):∃sl,h1.get? b=some {ob with slots:=sl}:=by
 by_cases hb:b∈fs
 ·exact u.slot b ob q n hb hx
 ·exact⟨ob.slots,u.keep b ob q n hb hx⟩
theorem Un.kept(k:∀b u,h.get? b=some u->h'.get? b=some u):Un fs ex H H h h':=
 ⟨λb ob q _ _ _=>k b ob q,λb ob q _ _ _=>⟨ob.slots,k b ob q⟩,λ_ _ _ n _=>n,λb ob q _=>⟨ob,k b ob q⟩,λ_ _ q=>q,λ_ _ _ q=>q,λ_ ps q=>⟨#[],by rw[q];simp⟩⟩
theorem Un.refl:Un fs ex H H h h:=Un.kept λ_ _ q=>q
theorem Un.laid(k:∀b u,h.get? b=some u->h'.get? b=some u)(hp:h.objs.size<=a)(hn:H a=none):Un fs ex H (upd H a o) h h' where
 keep:=λb u q _ _ _=>k b u q
 slot:=λb u q _ _ _=>⟨u.slots,k b u q⟩
 free:=λb u q n _=>by rw[jae (Nat.ne_of_lt (Nat.lt_of_lt_of_le (Heap.lt_size q) hp))];exact n
 there:=λb u q _=>⟨u,k b u q⟩
 tups:=λb xs q=>by rw[jae (jb1 q hn)];exact q
 frzs:=λb u xs q=>by rw[jae (jb1 q hn)];exact q
 tbls:=λb ps q=>⟨#[],by rw[jae (jb1 q hn),q];simp⟩
theorem Un.write(mu:Mut (H x))(he:e=x \/ H e=some (.own x))(k:∀b u,b≠e->h.get? b=some u->h'.get? b=some u)(heo:∃u,h'.get? e=some u):Un fs ex H (upd H x o) h h':=by
 have hx:∀b,H b=none->b≠x:=λb n z=>by subst z;rw[n] at mu;exact mu
 have hb:∀b,H b=none->b≠e:=λb n z=>by
  subst z
  rcases he with r | r
  ·exact hx b n r
  ·rw[n] at r;cases r
 have hm:∀b u,H b=some u->¬Mut (some u)->b≠x:=λb u q nm z=>by subst z;rw[q] at mu;exact nm mu
 refine⟨λb u q n _ _=>k b u (hb b n) q,λb u q n _ _=>⟨u.slots,k b u (hb b n) q⟩,λb u q n _=>by rw[jae (hx b n)];exact n,λb u q _=> ?_,
  λb xs q=>by rw[jae (hm b _ q λz=>z)];exact q,λb u xs q=>by rw[jae (hm b _ q λz=>z)];exact q,λb ps q=>⟨#[],by rw[jae (hm b _ q λz=>z),q];simp⟩⟩
 by_cases hbe:b=e
 ·subst hbe;exact heo
 ·exact⟨u,k b u hbe q⟩
end
def trk(h:Heap)(H:Hp):List Addr:=(List.range h.objs.size).filter λa=>(H a).isSome
def hidT(h:Heap)(H:Hp):Heap:=W.hideAll h (trk h H)
theorem jr7(h:Heap)(H:Hp):(hidT h H).objs.size=h.objs.size:=W.hideAll_size _ _
theorem jtv{h:Heap}{H:Hp}{b:Addr}{o:Obj}(e:h.get? b=some o)(n:H b=none):(hidT h H).get? b=some o:=
 W.hideAll_get _ e λhm=>by
  have q:(H b).isSome=true:=(List.mem_filter.mp hm).2
  rw[n] at q;simp at q
theorem jy2{h:Heap}{H:Hp}{b:Addr}{o:Obj}(e:(hidT h H).get? b=some o):h.get? b=some o /\ H b=none:=by
 have e':h.get? b=some o:=W.of_hideAll (trk h H) e
 refine⟨e',?_⟩
 cases q:H b with
 | none=>rfl
 | some x=>
  have hm:b∈trk h H:=List.mem_filter.mpr ⟨List.mem_range.mpr (Heap.lt_size e'),by simp[q]⟩
  have z:(hidT h H).get? b=none:=W.hideAll_none (trk h H) hm
  rw[z] at e;cases e
structure Mod (K:W.Frag) (mg:Str->Option Value) (base:Heap):Prop where
 kin:K.In base
 glob:base.Ns mainGlobals mg
 blt:∃mb,base.Ns builtinsNs mb /\ ∀x:Str,x≠"__name__"->mb x=bootBuiltins x
 nolimit:base.NoLimit
structure Cx where
 prog:Program
 w:World
 K:W.Frag
 mg:Str->Option Value
 base:Heap
 A:Around
 N:List Str
 s₀:Shared
 H₀:Hp
 env:Env
 outer:List Env
 stack:List Env
 ex:List Addr
 fn:Str->Bool
 calm:Bool
 pn:List (Addr×Obj)
 xe:Value->Shared->Prop
def frs(l:List Env):List Addr:=l.filterMap (·.frame)
abbrev Cx.fs(X:Cx):List Addr:=frs X.outer
def Vis(sc:Scope)(x:Str):Prop:=sc.names.lookup x=some .local \/ sc.names.lookup x=some .cell \/ sc.names.lookup x=some .free
def Loc(sc:Scope)(x:Str):Prop:=sc.names.lookup x=some .local \/ sc.names.lookup x=some .cell
def Look(env:Env)(h:Heap)(m:Str->Option Value)(x:Str)(u:Value):Prop:=
 (env.kindOf x=some .local /\ m x=some u) \/ ((env.kindOf x=some .cell \/ env.kindOf x=some .free) /\ ∃c,env.cells.lookup x=some c /\ h.IsCell c (some u))
structure Cx.Ok (X:Cx):Prop where
 mod:Mod X.K X.mg X.base
 kind:X.env.scope.kind= .function
 glob:X.env.globals=mainGlobals
 blt:X.env.builtins=builtinsNs
 above:X.s₀.heap.objs.size<=X.env.locals
 inj:∀x y c,X.env.cells.lookup x=some c->X.env.cells.lookup y=some c->x=y
 has:∀x,(X.env.kindOf x=some .cell \/ X.env.kindOf x=some .free)->∃c,X.env.cells.lookup x=some c
 cab:∀x c,X.fn x=true->X.env.cells.lookup x=some c->X.s₀.heap.objs.size<=c
 hd:X.calm=true->X.A.handled=none
 frames:X.A.frames=some X.stack
 stk:X.stack=X.outer \/ (X.stack=X.env::X.outer /\ X.env.frame=some X.env.locals)
 exf:∀b∈X.ex,b≠X.env.locals /\ ∀x c,X.env.cells.lookup x=some c->c≠b
 bs:∀b o,X.base.get? b=some o->X.s₀.heap.get? b=some o /\ X.H₀ b=none
 bsz:X.base.objs.size<=X.s₀.heap.objs.size
 noex:∀b o,X.base.get? b=some o->b∉X.ex
 exfs:∀b∈X.ex,b∉X.fs
 funs:X.s₀.heap.FunFrames X.base X.outer
 frf:∀b∈X.fs,X.H₀ b=none
structure Inv (X:Cx) (pins:List (Addr×Obj)) (σ:List (Option V)) (H:Hp) (s:Shared):Prop where
 ok:X.Ok
 os:s.os=X.s₀.os
 bare:AllBare s.gens
 base:Un X.fs X.ex X.H₀ H X.s₀.heap s.heap
 loc:∃m,s.heap.Ns X.env.locals m /\ ∀(i:Nat) (x:Str) (v:V),X.N[i]?=some x->σ[i]?=some (some v)->Vis X.env.scope x->∃u,RelV v u /\ Look X.env s.heap m x u
 cell:∀x c,X.env.cells.lookup x=some c->∃v,s.heap.IsCell c v
 free:H X.env.locals=none
 freeC:∀x c,X.env.cells.lookup x=some c->H c=none
 pin:∀p∈X.pn++pins,s.heap.get? p.1=some p.2 /\ H p.1=none /\ p.1≠X.env.locals /\ p.1∉X.fs /\ ∀v,p.2.data≠ .cell v
 hok:HOk X.prog X.w H s.heap
 len:σ.length=X.N.length
section
variable {X : Cx} {pins : List (Addr × Obj)} {σ : List (Option V)} {H H' : Hp} {s : Shared} {h' : Heap}
theorem Cx.Ok.nofr(ok:X.Ok){b:Addr}{o:Obj}(e:X.base.get? b=some o):b∉X.fs:=λhb=>by
 have:=(ok.funs.mem hb).1
 rw[e] at this;cases this
theorem Inv.bs(I:Inv X pins σ H s):∀b o,X.base.get? b=some o->s.heap.get? b=some o /\ H b=none:=λb o e=>
 ⟨I.base.keep b o (I.ok.bs b o e).1 (I.ok.bs b o e).2 (I.ok.nofr e) (I.ok.noex b o e),I.base.free b o (I.ok.bs b o e).1 (I.ok.bs b o e).2 (I.ok.noex b o e)⟩
theorem Inv.bk(I:Inv X pins σ H s):∀b o,X.base.get? b=some o->s.heap.get? b=some o:=λb o e=>(I.bs b o e).1
theorem Inv.mod(I:Inv X pins σ H s):Mod X.K X.mg X.base:=I.ok.mod
theorem Inv.kIn(I:Inv X pins σ H s):X.K.In s.heap:=I.ok.mod.kin.keeps I.bk
theorem Inv.lt(I:Inv X pins σ H s):X.env.locals<s.heap.objs.size:=let ⟨_,hn,_⟩:=I.loc;hn.lt
theorem Inv.sz(I:Inv X pins σ H s):X.s₀.heap.objs.size<=s.heap.objs.size:=Nat.le_trans I.ok.above (Nat.le_of_lt I.lt)
theorem Inv.nofs(I:Inv X pins σ H s){a:Addr}(h:s.heap.objs.size<=a):a∉X.fs:=λhb=>by
 obtain⟨_,o,ho,_⟩:=I.ok.funs.mem hb
 exact absurd (Nat.lt_of_lt_of_le (Heap.lt_size ho) (Nat.le_trans I.sz h)) (Nat.lt_irrefl _)
theorem Inv.cne(I:Inv X pins σ H s):∀x c,X.env.cells.lookup x=some c->c≠X.env.locals:=λx c e z=>by
 obtain⟨v,o,ho,hd⟩:=I.cell x c e
 obtain⟨m,⟨o',es,ep,ho',hd',_⟩,_⟩:=I.loc
 rw[z,ho'] at ho;cases ho;rw[hd'] at hd;cases hd
theorem Inv.funs(I:Inv X pins σ H s):s.heap.FunFrames X.base X.outer:=by
 have all:∀(l:List Env),(∀b∈frs l,b∈X.fs)->X.s₀.heap.FunFrames X.base l->s.heap.FunFrames X.base l:=by
  intro l
  induction l with
  | nil=>intro _ _;trivial
  | cons env r ih=>
   intro hs hl
   obtain⟨hk,⟨L,o,hf,hn,ho,hd⟩,hr⟩:=hl
   have hL:L∈X.fs:=hs L (by unfold frs;rw[List.filterMap_cons,hf];exact List.mem_cons_self)
   obtain⟨sl,e⟩:=I.base.slot L o ho (I.ok.frf L hL) hL λz=>I.ok.exfs L z hL
   exact⟨hk,⟨L,_,hf,hn,e,hd⟩,ih (λb hb=>hs b (by unfold frs;rw[List.filterMap_cons,hf];exact List.mem_cons_of_mem _ hb)) hr⟩
 exact all X.outer (λ_ hb=>hb) I.ok.funs
theorem Inv.stack(I:Inv X pins σ H s):s.heap.FunFrames X.base X.stack:=by
 rcases I.ok.stk with e | ⟨e,hf⟩
 ·rw[e];exact I.funs
 ·rw[e]
  obtain⟨m,hn,_⟩:=I.loc
  refine .cons (by rw[I.ok.kind];decide) hf hn ?_ I.funs
  exact Heap.get?_none_of_le (Nat.le_trans I.ok.bsz I.ok.above)
theorem Inv.stkSub(I:Inv X pins σ H s):∀b∈frs X.stack,b∈X.env.locals::X.fs:=λb hb=>by
 rcases I.ok.stk with e | ⟨e,hf⟩
 ·rw[e] at hb;exact List.mem_cons_of_mem _ hb
 ·rw[e] at hb
  unfold frs at hb
  rw[List.filterMap_cons,hf] at hb
  exact hb
theorem Inv.stkFree(I:Inv X pins σ H s):∀b∈frs X.stack,H b=none:=λb hb=>by
 rcases List.mem_cons.mp (I.stkSub b hb) with e | hb
 ·rw[e];exact I.free
 ·obtain⟨_,o,ho,_⟩:=I.ok.funs.mem hb
  exact I.base.free b o ho (I.ok.frf b hb) λz=>I.ok.exfs b z hb
theorem Inv.step{g':Array GenState}{t':Nat}{d':Drawn}{ch:List Addr}(I:Inv X pins σ H s)
  (hch:∀b∈ch,(b∈X.ex \/ X.s₀.heap.objs.size<=b) /\ b≠X.env.locals /\ (∀x c,X.env.cells.lookup x=some c->c≠b) /\ ∀p∈X.pn++pins,p.1≠b)
  (keep:∀b o,b≠X.env.locals->b∉X.fs->b∉ch->s.heap.get? b=some o->H b=none->h'.get? b=some o)
  (slot:∀b o,b≠X.env.locals->b∈X.fs->b∉ch->s.heap.get? b=some o->H b=none->∃sl,h'.get? b=some {o with slots:=sl}) (free:∀b o,b∉ch->s.heap.get? b=some o->H b=none->H' b=none)
  (there:∀b o,b∉ch->s.heap.get? b=some o->∃o',h'.get? b=some o')
  (tups:∀b xs,H b=some (.tup xs)->H' b=some (.tup xs)) (frzs:∀b o u,H b=some (.frz o u)->H' b=some (.frz o u)) (tbls:∀b ps,H b=some (.tbl ps)->∃more,H' b=some (.tbl (ps++more)))
  (ns:∀m,s.heap.Ns X.env.locals m->h'.Ns X.env.locals m) (hok:HOk X.prog X.w H' h') (hg:AllBare g'):
  Inv X pins σ H' {s with heap:=h',gens:=g',drawn:=d',toks:=t'}:=by
 have neL:∀b o,X.s₀.heap.get? b=some o->b≠X.env.locals:=λb o e=>Nat.ne_of_lt (Nat.lt_of_lt_of_le (Heap.lt_size e) I.ok.above)
 have neC:∀b o,X.s₀.heap.get? b=some o->b∉X.ex->b∉ch:=λb o e hx hb=>by
  rcases(hch b hb).1 with z | z
  ·exact hx z
  ·exact absurd (Nat.lt_of_lt_of_le (Heap.lt_size e) z) (Nat.lt_irrefl _)
 have cellK:∀x c,X.env.cells.lookup x=some c->∀v,s.heap.IsCell c v->h'.IsCell c v:=λx c e v ⟨o,ho,hd⟩=>by
  have nch:c∉ch:=λz=>(hch c z).2.2.1 x c e rfl
  by_cases hc:c∈X.fs
  ·obtain⟨sl,q⟩:=slot c o (I.cne x c e) hc nch ho (I.freeC x c e)
   exact⟨_,q,hd⟩
  ·exact⟨o,keep c o (I.cne x c e) hc nch ho (I.freeC x c e),hd⟩
 refine⟨I.ok,I.os,hg,⟨λb o e n hb hx=> ?_,λb o e n hb hx=> ?_,λb o e n hx=> ?_,λb o e hx=> ?_,λb xs e=>tups b xs (I.base.tups b xs e),λb o xs e=>frzs b o xs (I.base.frzs b o xs e),λb ps e=> ?_⟩,?_,λx c e=> ?_,?_,λx c e=> ?_,λp hp=> ?_,hok,I.len⟩
 ·exact keep b o (neL b o e) hb (neC b o e hx) (I.base.keep b o e n hb hx) (I.base.free b o e n hx)
 ·obtain⟨sl,e1⟩:=I.base.slot b o e n hb hx
  obtain⟨sl',e2⟩:=slot b _ (neL b o e) hb (neC b o e hx) e1 (I.base.free b o e n hx)
  exact⟨sl',e2⟩
 ·obtain⟨o',e1⟩:=I.base.there b o e hx
  exact free b o' (neC b o e hx) e1 (I.base.free b o e n hx)
 ·obtain⟨o',e1⟩:=I.base.there b o e hx
  exact there b o' (neC b o e hx) e1
 ·obtain⟨m1,e1⟩:=I.base.tbls b ps e
  obtain⟨m2,e2⟩:=tbls b _ e1
  exact⟨m1++m2,by rw[e2,Array.append_assoc]⟩
 ·obtain⟨m,hn,hl⟩:=I.loc
  refine⟨m,ns m hn,λi x v e1 e2 e3=> ?_⟩
  obtain⟨u,r,l⟩:=hl i x v e1 e2 e3
  refine⟨u,r,?_⟩
  rcases l with l | ⟨k,c,e,z⟩
  ·exact .inl l
  ·exact .inr ⟨k,c,e,cellK x c e _ z⟩
 ·obtain⟨v,z⟩:=I.cell x c e
  exact⟨v,cellK x c e v z⟩
 ·obtain⟨m,⟨o,_,_,ho,_⟩,_⟩:=I.loc
  exact free _ o (λz=>(hch _ z).2.1 rfl) ho I.free
 ·obtain⟨v,o,ho,hd⟩:=I.cell x c e
  exact free c o (λz=>(hch c z).2.2.1 x c e rfl) ho (I.freeC x c e)
 ·obtain⟨e,n,ne,nf,d⟩:=I.pin p hp
  have nch:p.1∉ch:=λz=>(hch p.1 z).2.2.2 p hp rfl
  exact⟨keep p.1 p.2 ne nf nch e n,free p.1 p.2 nch e n,ne,nf,d⟩
theorem Inv.un{t':Nat}(I:Inv X pins σ H s)(u:Un X.fs [] H H' s.heap h')(hok:HOk X.prog X.w H' h'):Inv X pins σ H' {s with heap:=h',toks:=t'}:=by
 obtain⟨m,⟨o,es,ep,ho,r⟩,_⟩:=id I.loc
 obtain⟨sl,hL⟩:=u.any ho I.free (by simp)
 exact I.step (g':=s.gens) (d':=s.drawn) (ch:=[]) (λ_ z=>nomatch z) (λb o _ hb _ e n=>u.keep b o e n hb (by simp)) (λb o _ hb _ e n=>u.slot b o e n hb (by simp)) (λb o _ e n=>u.free b o e n (by simp)) (λb o _ e=>u.there b o e (by simp)) u.tups u.frzs u.tbls (λm' hm=>by
  obtain⟨o',es',ep',ho',r'⟩:=hm
  rw[ho] at ho';cases ho'
  exact⟨_,es',ep',hL,r'⟩) hok I.bare
theorem Inv.call{g':Array GenState}{t':Nat}{d':Drawn}{ch:List Addr}(I:Inv X pins σ H s)(u:Un (frs X.stack) ch H H' s.heap h')(hok:HOk X.prog X.w H' h')(hg:AllBare g')
  (hch:∀b∈ch,(b∈X.ex \/ X.s₀.heap.objs.size<=b) /\ b≠X.env.locals /\ (∀x c,X.env.cells.lookup x=some c->c≠b) /\ ∀p∈X.pn++pins,p.1≠b):
  Inv X pins σ H' {s with heap:=h',gens:=g',drawn:=d',toks:=t'}:=by
 obtain⟨m,⟨o,es,ep,ho,r⟩,_⟩:=id I.loc
 obtain⟨sl,hL⟩:=u.any ho I.free λz=>(hch _ z).2.1 rfl
 exact I.step (ch:=ch) hch (λb o hL hb hc e n=>u.keep b o e n (λz=>(List.mem_cons.mp (I.stkSub b z)).elim hL hb) hc) (λb o _ _ hc e n=>u.any e n hc) (λb o hc e n=>u.free b o e n hc) (λb o hc e=>u.there b o e hc) u.tups u.frzs u.tbls (λm' hm=>by
  obtain⟨o',es',ep',ho',r'⟩:=hm
  rw[ho] at ho';cases ho'
  exact⟨_,es',ep',hL,r'⟩) hok hg
theorem Inv.turned{t':Nat}{it:Addr}(I:Inv X pins σ H s)(k:∀b o,b≠it->s.heap.get? b=some o->h'.get? b=some o)(hn:H it=none)(hL:it≠X.env.locals)
  (h1:it∈X.ex \/ X.s₀.heap.objs.size<=it) (h2:∀x c,X.env.cells.lookup x=some c->c≠it) (h3:∀p∈X.pn++pins,p.1≠it):Inv X pins σ H {s with heap:=h',toks:=t'}:=by
 have nit:∀b u,H b=some u->b≠it:=λb u e z=>by rw[z,hn] at e;cases e
 refine I.step (g':=s.gens) (d':=s.drawn) (ch:=[it]) (λb hb=> ?_) (λb o _ _ hc e _=>k b o (λz=>hc (by simp[z])) e) (λb o _ _ hc e _=>⟨o.slots,k b o (λz=>hc (by simp[z])) e⟩) (λ_ _ _ _ n=>n)
  (λb o hc e=>⟨o,k b o (λz=>hc (by simp[z])) e⟩) (λ_ _ e=>e) (λ_ _ _ e=>e) (λb ps e=>⟨#[],by rw[e];simp⟩) (λm hm=> ?_) (λb u e=> ?_) I.bare
 ·have e:b=it:=by simpa using hb
  subst e
  exact⟨h1,hL,h2,h3⟩
 ·obtain⟨o,es,ep,ho,r⟩:=hm
  exact⟨o,es,ep,k _ o (Ne.symm hL) ho,r⟩
 ·refine(I.hok b u e).stay (λc v hc q=>k c v ?_ q) (λ_ q=>q) λ_ _ q=>q
  rcases hc with z | z
  ·rw[z];exact nit b u e
  ·exact nit c _ z
theorem Inv.tok(I:Inv X pins σ H s)(t:Nat):Inv X pins σ H {s with toks:=t}:=I.un (h':=s.heap) (t':=t) Un.refl I.hok
theorem Inv.kept{t':Nat}(I:Inv X pins σ H s)(k:∀b u,s.heap.get? b=some u->h'.get? b=some u):Inv X pins σ H {s with heap:=h',toks:=t'}:=I.un (Un.kept k) (I.hok.kept k)
theorem Inv.laid{a:Addr}{o:HO}{t':Nat}(I:Inv X pins σ H s)(k:∀b u,s.heap.get? b=some u->h'.get? b=some u)(hp:s.heap.objs.size<=a)(new:jc2 X.prog X.w (upd H a o) h' a o):
  Inv X pins σ (upd H a o) {s with heap:=h',toks:=t'}:=I.un (Un.laid k hp (I.hok.fresh hp)) (I.hok.laid k hp new)
theorem Inv.write{x e:Addr}{o:HO}{t':Nat}(I:Inv X pins σ H s)(mu:Mut (H x))(he:e=x \/ H e=some (.own x))(k:∀b u,b≠e->s.heap.get? b=some u->h'.get? b=some u)(heo:∃u,h'.get? e=some u)
  (new:jc2 X.prog X.w (upd H x o) h' x o):Inv X pins σ (upd H x o) {s with heap:=h',toks:=t'}:=I.un (Un.write mu he k heo) (I.hok.write mu he k heo new)
theorem Inv.weak{σ':List (Option V)}(I:Inv X pins σ H s)(hl:σ'.length=σ.length)(w:∀(i:Nat) v,σ'[i]?=some (some v)->σ[i]?=some (some v)):Inv X pins σ' H s:=
 ⟨I.ok,I.os,I.bare,I.base,let ⟨m,hn,hl'⟩:=I.loc;⟨m,hn,λi x v e1 e2 e3=>hl' i x v e1 (w i v e2) e3⟩,I.cell,I.free,I.freeC,I.pin,I.hok,hl.trans I.len⟩
theorem Inv.pins_of{pins':List (Addr×Obj)}(I:Inv X pins σ H s)(h:∀p∈pins',s.heap.get? p.1=some p.2 /\ H p.1=none /\ p.1≠X.env.locals /\ p.1∉X.fs /\ ∀v,p.2.data≠ .cell v):Inv X pins' σ H s:=
 ⟨I.ok,I.os,I.bare,I.base,I.loc,I.cell,I.free,I.freeC,λp hp=>(List.mem_append.mp hp).elim (λz=>I.pin p (List.mem_append_left _ z)) (h p),I.hok,I.len⟩
theorem jjj{N:List Str}(hN:N.Nodup){i j:Nat}{x:Str}(a:N[i]?=some x)(b:N[j]?=some x):i=j:=by
 obtain⟨h1,e1⟩:=List.getElem?_eq_some_iff.mp a
 obtain⟨h2,e2⟩:=List.getElem?_eq_some_iff.mp b
 exact(List.getElem_inj hN).mp (e1.trans e2.symm)
theorem jkt{M:Model}{A:Around}{E:Value->Shared->Prop}{i:Nat}{x:Str}{v:V}{u:Value}{Q:Unit->Shared->Prop}(I:Inv X pins σ H s)(hN:X.N.Nodup)(hi:X.N[i]?=some x)(hx:Loc X.env.scope x)(r:RelV v u)
  (h:∀s',Inv X pins (σ.set i (some v)) H s'->(∃a,Heap.SameBut a s.heap s'.heap /\ (a=X.env.locals \/ X.env.cells.lookup x=some a))->Q () s') (hf:X.fn x=true \/ X.env.scope.names.lookup x=some .local:=by first | exact .inl rfl | exact .inr rfl | assumption):wpAny M A (storeName X.env x u) Q E s:=by
 obtain⟨m,hn,hl⟩:=id I.loc
 have hcls:(X.env.scope.kind== .class||(X.env.scope.kind== .module&&X.env.locals !=X.env.globals))=false:=by rw[I.ok.kind];rfl
 have hiσ:i<σ.length:=by rw[I.len];exact(List.getElem?_eq_some_iff.mp hi).1
 have cne:=I.cne
 have tracked:∀{a:Addr} {h':Heap},(∃o,s.heap.get? a=some o /\ H a=none)->Heap.SameBut a s.heap h'->HOk X.prog X.w H h':=fun{a h'} ha hs b ob e=>by
  obtain⟨_,_,hfree⟩:=ha
  refine(I.hok b ob e).stay (λc w' hc q=>(hs.2 c ?_).trans q) (λ_ q=>q) λ_ _ q=>q
  rintro rfl
  rcases hc with rfl | hc
  ·rw[hfree] at e;cases e
  ·rw[hfree] at hc;cases hc
 rcases hx with hk | hk
 ·refine wpAny_storeName_local hk hn (λh' hn' hs=> ?_) hcls
  obtain⟨oL,_,_,hoL,_⟩:=id hn
  refine h _ ⟨I.ok,I.os,I.bare,⟨λb o e n hb hx=> ?_,λb o e n hb hx=> ?_,I.base.free,λb o e hx=> ?_,I.base.tups,I.base.frzs,I.base.tbls⟩,⟨_,hn',λj y v' e1 e2 e3=> ?_⟩,λy c e=> ?_,I.free,I.freeC,λp hp=> ?_,tracked ⟨oL,hoL,I.free⟩ hs,by simpa using I.len⟩ ⟨_,hs,.inl rfl⟩
  ·exact(hs.2 b (Nat.ne_of_lt (Nat.lt_of_lt_of_le (Heap.lt_size e) I.ok.above))).trans (I.base.keep b o e n hb hx)
  ·obtain⟨sl,e1⟩:=I.base.slot b o e n hb hx
   exact⟨sl,(hs.2 b (Nat.ne_of_lt (Nat.lt_of_lt_of_le (Heap.lt_size e) I.ok.above))).trans e1⟩
  ·obtain⟨o',e1⟩:=I.base.there b o e hx
   exact⟨o',(hs.2 b (Nat.ne_of_lt (Nat.lt_of_lt_of_le (Heap.lt_size e) I.ok.above))).trans e1⟩
  ·by_cases hj:j=i
   ·subst hj
    rw[hi] at e1;cases e1
    rw[List.getElem?_set_self hiσ] at e2
    cases e2
    exact⟨u,r,.inl ⟨hk,by simp⟩⟩
   ·rw[List.getElem?_set_ne (Ne.symm hj)] at e2
    obtain⟨u',r',q⟩:=hl j y v' e1 e2 e3
    refine⟨u',r',?_⟩
    rcases q with⟨k,e⟩ | ⟨k,c,e,z⟩
    ·refine .inl ⟨k,?_⟩
     have:y≠x:=λe=>hj (jjj hN e1 (e▸hi))
     simp[this,e]
    ·exact .inr ⟨k,c,e,z.sameBut hs (cne y c e)⟩
  ·obtain⟨w',z⟩:=I.cell y c e
   exact⟨w',z.sameBut hs (cne y c e)⟩
  ·obtain⟨e,n,ne,nf,d⟩:=I.pin p hp
   exact⟨(hs.2 p.1 ne).trans e,n,ne,nf,d⟩
 ·have hfn:X.fn x=true:=by
   rcases hf with z | z
   ·exact z
   ·rw[z] at hk;cases hk
  obtain⟨c,hc⟩:=I.ok.has x (.inl hk)
  obtain⟨w',z⟩:=I.cell x c hc
  refine wpAny_storeName_cell I.ok.kind hk hc z (λh' hc' hs=> ?_)
  obtain⟨oc,hoc,hocd⟩:=id z
  refine h {s with heap:=h'} ⟨I.ok,I.os,I.bare,⟨λb o e n hb hx=> ?_,λb o e n hb hx=> ?_,I.base.free,λb o e hx=> ?_,I.base.tups,I.base.frzs,I.base.tbls⟩,⟨m,hn.sameBut hs (Ne.symm (cne x c hc)),λj y v' e1 e2 e3=> ?_⟩,λy c' e=> ?_,I.free,I.freeC,λp hp=> ?_,tracked ⟨oc,hoc,I.freeC x c hc⟩ hs,by simpa using I.len⟩ ⟨c,hs,.inr hc⟩
  ·exact(hs.2 b (Nat.ne_of_lt (Nat.lt_of_lt_of_le (Heap.lt_size e) (I.ok.cab x c hfn hc)))).trans (I.base.keep b o e n hb hx)
  ·obtain⟨sl,e1⟩:=I.base.slot b o e n hb hx
   exact⟨sl,(hs.2 b (Nat.ne_of_lt (Nat.lt_of_lt_of_le (Heap.lt_size e) (I.ok.cab x c hfn hc)))).trans e1⟩
  ·obtain⟨o',e1⟩:=I.base.there b o e hx
   exact⟨o',(hs.2 b (Nat.ne_of_lt (Nat.lt_of_lt_of_le (Heap.lt_size e) (I.ok.cab x c hfn hc)))).trans e1⟩
  ·by_cases hj:j=i
   ·subst hj
    rw[hi] at e1;cases e1
    rw[List.getElem?_set_self hiσ] at e2
    cases e2
    exact⟨u,r,.inr ⟨.inl hk,c,hc,hc'⟩⟩
   ·rw[List.getElem?_set_ne (Ne.symm hj)] at e2
    obtain⟨u',r',q⟩:=hl j y v' e1 e2 e3
    refine⟨u',r',?_⟩
    rcases q with q | ⟨k,c',e,z'⟩
    ·exact .inl q
    ·refine .inr ⟨k,c',e,z'.sameBut hs ?_⟩
     rintro rfl
     exact hj (jjj hN e1 (I.ok.inj _ _ _ e hc▸hi))
  ·by_cases hcc:c'=c
   ·subst hcc;exact⟨_,hc'⟩
   ·obtain⟨w2,z2⟩:=I.cell y c' e
    exact⟨w2,z2.sameBut hs hcc⟩
  ·obtain⟨e,n,ne,nf,d⟩:=I.pin p hp
   refine⟨(hs.2 p.1 ?_).trans e,n,ne,nf,d⟩
   intro q
   rw[q,hoc] at e
   have q':oc=p.2:=Option.some.inj e
   exact d w' (by rw[<-q'];exact hocd)
theorem jh2{M:Model}{A:Around}{E:Value->Shared->Prop}{i:Nat}{x:Str}{v:V}{u:Value}{Q:Unit->Shared->Prop}(I:Inv X pins σ H s)(hN:X.N.Nodup)(hi:X.N[i]?=some x)(hx:Loc X.env.scope x)(r:RelV v u)
  (h:∀s',Inv X pins (σ.set i (some v)) H s'->Q () s') (hf:X.fn x=true \/ X.env.scope.names.lookup x=some .local:=by first | exact .inl rfl | exact .inr rfl | assumption):wpAny M A (storeName X.env x u) Q E s:=
 jkt I hN hi hx r (λs' I' _=>h s' I') hf
theorem Inv.call'{s':Shared}{ch:List Addr}(I:Inv X pins σ H s)(ho:s'.os=s.os)(u:Un (frs X.stack) ch H H' s.heap s'.heap)(hok:HOk X.prog X.w H' s'.heap)(hg:AllBare s'.gens)
  (hch:∀b∈ch,(b∈X.ex \/ X.s₀.heap.objs.size<=b) /\ b≠X.env.locals /\ (∀x c,X.env.cells.lookup x=some c->c≠b) /\ ∀p∈X.pn++pins,p.1≠b):Inv X pins σ H' s':=by
 obtain⟨h',g',d',t',o'⟩:=s'
 have e:o'=s.os:=ho
 subst e
 exact I.call (g':=g') (t':=t') (d':=d') u hok hg hch
end
abbrev XK:=Value->Option Addr->Hp->Prop
abbrev St:=List (Option V)
abbrev VK:=V->Hp->Prop
abbrev TE:=St->Hp->VK->Prop
abbrev TT:=St->Hp->(Bool->Hp->Prop)->Prop
abbrev TA:=St->Hp->(List V->Hp->Prop)->Prop
structure Ends where
 nx:St->Hp->Prop
 rt:VK
 bk:St->Hp->Prop:=λ_ _=>False
 ct:St->Hp->Prop:=λ_ _=>False
abbrev TS:=Ends->St->Hp->Prop
def EP(X:Cx)(pins:List (Addr×Obj))(σ:St)(Q:VK)(u:Value)(s':Shared):Prop:=∃v H',Inv X pins σ H' s' /\ RelV v u /\ Q v H'
def TP(X:Cx)(pins:List (Addr×Obj))(σ:St)(Q:Bool->Hp->Prop)(b:Bool)(s':Shared):Prop:=∃H',Inv X pins σ H' s' /\ Q b H'
def AP(X:Cx)(pins:List (Addr×Obj))(σ:St)(Q:List V->Hp->Prop)(us:List Value)(s':Shared):Prop:=∃vs H',Inv X pins σ H' s' /\ Vals vs us /\ Q vs H'
def SP(X:Cx)(pins:List (Addr×Obj))(D:Ends)(f:Flow)(s':Shared):Prop:=
 match f with
 | .next=>∃σ' H',Inv X pins σ' H' s' /\ D.nx σ' H'
 | .brk=>∃σ' H',Inv X pins σ' H' s' /\ D.bk σ' H'
 | .cont=>∃σ' H',Inv X pins σ' H' s' /\ D.ct σ' H'
 | .ret u=>∃v σ' H',Inv X pins σ' H' s' /\ RelV v u /\ D.rt v H'
def PE(X:Cx)(e:Expr)(t:TE):Prop:=
 ∀(pins:List (Addr×Obj)) (s:Shared) (σ:St) (H:Hp) (Q:VK),Inv X pins σ H s->t σ H Q->wpAny (model X.prog X.w) X.A (eval e X.env) (EP X pins σ Q) X.xe s
def PT(X:Cx)(e:Expr)(t:TT):Prop:=
 ∀(pins:List (Addr×Obj)) (s:Shared) (σ:St) (H:Hp) (Q:Bool->Hp->Prop),Inv X pins σ H s->t σ H Q->wpAny (model X.prog X.w) X.A (isTrue e X.env (eval e X.env)) (TP X pins σ Q) X.xe s
def PW(X:Cx)(e:Expr)(t:TT):Prop:=
 ∀(whole:Sem Value) (pins:List (Addr×Obj)) (s:Shared) (σ:St) (H:Hp) (Q:Bool->Hp->Prop),Inv X pins σ H s->t σ H Q->wpAny (model X.prog X.w) X.A (isTrue e X.env whole) (TP X pins σ Q) X.xe s
theorem PW.pt{X:Cx}{e:Expr}{t:TT}(h:PW X e t):PT X e t:=h _
def PA(X:Cx)(es:List Expr)(t:TA):Prop:=
 ∀(pos:Pos) (pins:List (Addr×Obj)) (s:Shared) (σ:St) (H:Hp) (Q:List V->Hp->Prop),Inv X pins σ H s->t σ H Q->wpAny (model X.prog X.w) X.A (spliced (backTo pos (starEach es X.env))) (AP X pins σ Q) X.xe s
def PS(X:Cx)(st:Stmt)(t:TS):Prop:=
 ∀(pins:List (Addr×Obj)) (s:Shared) (σ:St) (H:Hp) (D:Ends),Inv X pins σ H s->t D σ H->wpAny (model X.prog X.w) X.A (exec st X.env) (SP X pins D) X.xe s
def PSs(X:Cx)(st:List Stmt)(t:TS):Prop:=
 ∀(pins:List (Addr×Obj)) (s:Shared) (σ:St) (H:Hp) (D:Ends),Inv X pins σ H s->t D σ H->wpAny (model X.prog X.w) X.A (execs st X.env) (SP X pins D) X.xe s
theorem thn{α:Type}{t:Sem α}{Q Q':α->Shared->Prop}{M:Model}{A:Around}{E:Value->Shared->Prop}{s:Shared}(h:wpAny M A t Q E s)(hQ:∀a s,Q a s->Q' a s):wpAny M A t Q' E s:=wpAny_mono h hQ λ_ _ x=>x
section
variable {X : Cx}
def tVar(i:Nat):TE:=λσ H Q=>∃v,σ[i]?=some (some v) /\ Q v H
def tC(v:V):TE:=λ_ H Q=>Q v H
theorem pe_var{i:Nat}{x:Str}{pos:Pos}(hN:X.N[i]?=some x)(hv:Vis X.env.scope x)(hd:(x==("__debug__":Str))=false:=by decide)(hcd:(x==("__classdict__":Str))=false:=by decide):PE X (.Name x pos) (tVar i):=by
 intro pins s σ H Q I h
 obtain⟨v,e,h⟩:=h
 obtain⟨m,hn,hl⟩:=I.loc
 obtain⟨u,r,l⟩:=hl i x v hN e hv
 have fin:EP X pins σ Q u s:=⟨v,H,I,r,h⟩
 rcases l with⟨hk,hm⟩ | ⟨hk,c,hc,hcell⟩
 ·exact wpAny_Name (wpAny_loadName_local I.ok.kind hk hn hm fin) hd
 ·rcases hk with hk | hk
  ·exact wpAny_Name (wpAny_loadName_cell I.ok.kind hk hc hcell fin) hd
  ·exact wpAny_Name (wpAny_loadName_free I.ok.kind hk hc hcell fin hcd) hd
theorem ja4{i j pos}:PE X (.Constant (.int i) j pos) (tC (.int i)):=λ_ _ _ H _ I h=>wpAny_Constant_int ⟨.int i,H,I.tok _,⟨_,rfl⟩,h⟩
theorem jds{b j pos}:PE X (.Constant (.bool b) j pos) (tC (.bl b)):=λ_ _ _ H _ I h=>Constant_bool ⟨.bl b,H,I,rfl,h⟩
theorem jwi{j pos}:PE X (.Constant .none j pos) (tC .non):=λ_ _ _ H _ I h=>Constant_none ⟨.non,H,I,rfl,h⟩
theorem jat{x j pos}:PE X (.Constant (.str x) j pos) (tC (.str x)):=λ_ _ _ H _ I h=>Calls.Constant_str ⟨.str x,H,I.tok _,⟨_,rfl⟩,h⟩
def Gl(X:Cx)(x:Str):Prop:=X.env.kindOf x=some .globalImplicit
theorem jhf{E:Value->Shared->Prop}{pins:List (Addr×Obj)}{s:Shared}{σ:St}{H:Hp}{x:Str}{u:Value}{pos:Pos}{Q:Value->Shared->Prop}(I:Inv X pins σ H s)(hg:Gl X x)(hm:X.mg x=some u)(h:Q u s)
  (hd:(x==("__debug__":Str))=false:=by decide):wpAny (model X.prog X.w) X.A (eval (.Name x pos) X.env) Q E s:=
 Calls.Name_function_global I.ok.kind hg (Calls.loadGlobal_global (by rw[I.ok.glob];exact I.mod.glob.keeps I.bk) hm h) hd
theorem jkb{E:Value->Shared->Prop}{pins:List (Addr×Obj)}{s:Shared}{σ:St}{H:Hp}{x:Str}{u:Value}{pos:Pos}{Q:Value->Shared->Prop}(I:Inv X pins σ H s)(hg:Gl X x)(hm:X.mg x=none)(hv:bootBuiltins x=some u)(h:Q u s)
  (hn:x≠"__name__":=by decide) (hd:(x==("__debug__":Str))=false:=by decide):wpAny (model X.prog X.w) X.A (eval (.Name x pos) X.env) Q E s:=by
 obtain⟨mb,h1,h2⟩:=I.mod.blt
 exact Calls.Name_function_global I.ok.kind hg (Calls.loadGlobal_builtin (by rw[I.ok.glob];exact I.mod.glob.keeps I.bk) hm (by rw[I.ok.blt];exact h1.keeps I.bk) ((h2 x hn).trans hv) h) hd
theorem jyn{x:Str}{v:V}{u:Value}{pos:Pos}(hg:Gl X x)(hm:X.mg x=some u)(r:RelV v u)(hd:(x==("__debug__":Str))=false:=by decide):PE X (.Name x pos) (tC v):=
 λ_ _ _ H _ I h=>jhf I hg hm ⟨v,H,I,r,h⟩ hd
theorem jx2{x:Str}{v:V}{u:Value}{pos:Pos}(hg:Gl X x)(hm:X.mg x=none)(hv:bootBuiltins x=some u)(r:RelV v u)(hn:x≠"__name__":=by decide)(hd:(x==("__debug__":Str))=false:=by decide):PE X (.Name x pos) (tC v):=
 λ_ _ _ H _ I h=>jkb I hg hm hv ⟨v,H,I,r,h⟩ hn hd
variable {a b : Expr} {ta tb : TE} {pos : Pos}
def tB(t:TE):TT:=λσ H Q=>t σ H λx H1=>∃c,x= .bl c /\ Q c H1
variable {tA tB' : TT} {rest : List Expr}
def tAnd(t u:TT):TT:=λσ H Q=>t σ H λc H1=>if c=true then u σ H1 Q else Q false H1
def tOr(t u:TT):TT:=λσ H Q=>t σ H λc H1=>if c=true then Q true H1 else u σ H1 Q
def tNot(t:TT):TT:=λσ H Q=>t σ H λc H1=>Q (!c) H1
theorem jdh(ha:PT X a tA):PW X (.BoolOp .And [a] pos) tA:=by
 intro wh pins s σ H Q I h
 refine isTrue_and (thn (ha pins s σ H Q I h) λc s1 e=> ?_)
 cases c with
 | true=>exact isTrue_and_nil e
 | false=>exact e
theorem jnm(ha:PT X a tA):PW X (.BoolOp .Or [a] pos) tA:=by
 intro wh pins s σ H Q I h
 refine isTrue_or (thn (ha pins s σ H Q I h) λc s1 e=> ?_)
 cases c with
 | false=>exact isTrue_or_nil e
 | true=>exact e
theorem je3(ha:PT X a tA)(hb:PW X (.BoolOp .And (b::rest) pos) tB'):PW X (.BoolOp .And (a::b::rest) pos) (tAnd tA tB'):=by
 intro wh pins s σ H Q I h
 refine isTrue_and (thn (ha pins s σ H _ I h) λc s1 ⟨H1,I1,q1⟩=> ?_)
 cases c with
 | true=>exact hb wh pins s1 σ H1 Q I1 q1
 | false=>exact⟨H1,I1,q1⟩
theorem jtl(ha:PT X a tA)(hb:PW X (.BoolOp .Or (b::rest) pos) tB'):PW X (.BoolOp .Or (a::b::rest) pos) (tOr tA tB'):=by
 intro wh pins s σ H Q I h
 refine isTrue_or (thn (ha pins s σ H _ I h) λc s1 ⟨H1,I1,q1⟩=> ?_)
 cases c with
 | true=>exact⟨H1,I1,q1⟩
 | false=>exact hb wh pins s1 σ H1 Q I1 q1
theorem jcz(ha:PT X a tA):PT X (.UnaryOp .Not a pos) (tNot tA):=by
 intro pins s σ H Q I h
 exact isTrue_not (ha pins s σ H (λc H1=>Q (!c) H1) I h)
def tAndV(ta tb:TE):TE:=λσ H Q=>ta σ H λx H1=>∃c,x= .bl c /\ if c=true then tb σ H1 Q else Q (.bl false) H1
def tOrV(ta tb:TE):TE:=λσ H Q=>ta σ H λx H1=>∃c,x= .bl c /\ if c=true then Q (.bl true) H1 else tb σ H1 Q
theorem jn4{op}{t:TE}(h:PE X a t):PE X (.BoolOp op [a] pos) t:=λpins s σ H Q I hw=>BoolOp_one (h pins s σ H Q I hw)
theorem jsp(ha:PE X a ta)(hb:PE X (.BoolOp .And (b::rest) pos) tb):PE X (.BoolOp .And (a::b::rest) pos) (tAndV ta tb):=by
 intro pins s σ H Q I h
 refine BoolOp_and (thn (ha pins s σ H _ I h) λv s1 ⟨x,H1,I1,r1,q1⟩=> ?_)
 obtain⟨c,rfl,q1⟩:=q1
 cases r1
 refine wpAny_truthy_bool ?_
 cases c with
 | true=>exact hb pins s1 σ H1 Q I1 q1
 | false=>exact⟨.bl false,H1,I1,rfl,q1⟩
theorem pe_or(ha:PE X a ta)(hb:PE X (.BoolOp .Or (b::rest) pos) tb):PE X (.BoolOp .Or (a::b::rest) pos) (tOrV ta tb):=by
 intro pins s σ H Q I h
 refine BoolOp_or (thn (ha pins s σ H _ I h) λv s1 ⟨x,H1,I1,r1,q1⟩=> ?_)
 obtain⟨c,rfl,q1⟩:=q1
 cases r1
 refine wpAny_truthy_bool ?_
 cases c with
 | false=>exact hb pins s1 σ H1 Q I1 q1
 | true=>exact⟨.bl true,H1,I1,rfl,q1⟩
end
def SqL(K:W.Frag)(H:Hp)(a:Addr)(xs:List V):Prop:=
 Rd H a (.lst xs) \/
  ∃(o:Obj) (its:Array Value) (n:Nat),K.lookup a=some o /\ o.cls= .type "list" /\ o.dict=none /\ o.data= .seq its n /\ its.size<=sizeLine /\ Vals xs its.toList
def SqT(K:W.Frag)(H:Hp)(a:Addr)(xs:List V):Prop:=
 Rd H a (.tup xs) \/
  ∃(o:Obj) (its:Array Value) (n:Nat),K.lookup a=some o /\ o.cls= .type "tuple" /\ o.data= .seq its n /\ its.size<=sizeLine /\ Vals xs its.toList
def absV:Value->Option V
 | .none=>some .non
 | .bool b=>some (.bl b)
 | .int i _=>some (.int i)
 | .str x _=>some (.str x)
 | .bytes b _=>some (.byt b)
 | .float b _=>some (.flt b)
 | .ref a=>some (.ref a)
 | .type n=>some (.ty n)
 | _=>none
theorem RelV.abs{x:V}{u:Value}(r:RelV x u):absV u=some x:=by
 cases x with
 | non=>cases r;rfl
 | bl _=>cases r;rfl
 | int _=>obtain⟨t,rfl⟩:=r;rfl
 | str _=>obtain⟨t,rfl⟩:=r;rfl
 | byt _=>obtain⟨t,rfl⟩:=r;rfl
 | flt _=>obtain⟨t,rfl⟩:=r;rfl
 | ref _=>cases r;rfl
 | ty _=>cases r;rfl
theorem RelV.inj{x y:V}{u:Value}(r:RelV x u)(q:RelV y u):x=y:=Option.some.inj (r.abs.symm.trans q.abs)
theorem Vals.inj:∀{xs ys:List V} {us:List Value},Vals xs us->Vals ys us->xs=ys
 | _,_,_,.nil,.nil=>rfl
 | _,_,_,.cons r t,.cons r' t'=>by rw[r.inj r',Vals.inj t t']
section
variable {X : Cx} {pins : List (Addr × Obj)} {σ : St} {H : Hp} {s : Shared} {a : Addr} {xs ys : List V}
theorem SqL.of{K:W.Frag}(h:H a=some (.lst xs)):SqL K H a xs:= .inl (.inl h)
theorem SqT.of{K:W.Frag}(h:H a=some (.tup xs)):SqT K H a xs:= .inl (.inl h)
theorem Inv.list(I:Inv X pins σ H s)(h:SqL X.K H a xs):∃its:List Value,Vals xs its /\ PlainL s.heap a its.toArray /\ xs.length<=sizeLine:=by
 rcases h with h | ⟨o,its,n,hk,hc,hd,hs,hz,r⟩
 ·obtain⟨z,its,n,r,e⟩:=h.ok I.hok
  exact⟨its,r,⟨_,n,e,rfl,rfl,rfl⟩,z⟩
 ·refine⟨its.toList,r,⟨o,n,I.kIn a o hk,hc,hd,by simpa using hs⟩,?_⟩
  have e:=r.length
  simp only[Array.length_toList] at e
  omega
theorem Inv.tuple(I:Inv X pins σ H s)(h:SqT X.K H a xs):∃its:List Value,Vals xs its /\ IsTup s.heap a its.toArray /\ xs.length<=sizeLine:=by
 rcases h with h | ⟨o,its,n,hk,hc,hs,hz,r⟩
 ·obtain⟨z,its,r,p⟩:=h.ok I.hok
  exact⟨its,r,p,z⟩
 ·refine⟨its.toList,r,⟨o,I.kIn a o hk,hc,n,by simpa using hs⟩,?_⟩
  have e:=r.length
  simp only[Array.length_toList] at e
  omega
theorem Inv.list_inj(I:Inv X pins σ H s)(h:SqL X.K H a xs)(h':SqL X.K H a ys):xs=ys:=by
 obtain⟨its,r,⟨o,n,e,_,_,d⟩,_⟩:=I.list h
 obtain⟨its',r',⟨o',n',e',_,_,d'⟩,_⟩:=I.list h'
 rw[e] at e';cases e'
 rw[d] at d'
 injection d' with d1 _
 have:its=its':=by simpa using congrArg Array.toList d1
 subst this
 exact r.inj r'
theorem Inv.tuple_inj(I:Inv X pins σ H s)(h:SqT X.K H a xs)(h':SqT X.K H a ys):xs=ys:=by
 obtain⟨its,r,⟨o,e,_,n,d⟩,_⟩:=I.tuple h
 obtain⟨its',r',⟨o',e',_,n',d'⟩,_⟩:=I.tuple h'
 rw[e] at e';cases e'
 rw[d] at d'
 injection d' with d1 _
 have:its=its':=by simpa using congrArg Array.toList d1
 subst this
 exact r.inj r'
end
abbrev Cx.wish(X:Cx)(E:Value->Shared->Prop):Cx:={X with xe:=E}
abbrev Cx.nox(X:Cx):Cx:=X.wish λ_ _=>False
theorem Cx.Ok.wish{X:Cx}(ok:X.Ok)(E:Value->Shared->Prop):(X.wish E).Ok:=
 ⟨ok.mod,ok.kind,ok.glob,ok.blt,ok.above,ok.inj,ok.has,ok.cab,ok.hd,ok.frames,ok.stk,ok.exf,ok.bs,ok.bsz,ok.noex,ok.exfs,ok.funs,ok.frf⟩
theorem Cx.Ok.unwish{X:Cx}{E:Value->Shared->Prop}(ok:(X.wish E).Ok):X.Ok:=
 ⟨ok.mod,ok.kind,ok.glob,ok.blt,ok.above,ok.inj,ok.has,ok.cab,ok.hd,ok.frames,ok.stk,ok.exf,ok.bs,ok.bsz,ok.noex,ok.exfs,ok.funs,ok.frf⟩
section
variable {X : Cx} {pins : List (Addr × Obj)} {σ : St} {H : Hp} {s : Shared} {E : Value -> Shared -> Prop}
theorem Inv.wish(I:Inv X pins σ H s)(E:Value->Shared->Prop):Inv (X.wish E) pins σ H s:=⟨I.ok.wish E,I.os,I.bare,I.base,I.loc,I.cell,I.free,I.freeC,I.pin,I.hok,I.len⟩
theorem Inv.unwish(I:Inv (X.wish E) pins σ H s):Inv X pins σ H s:=⟨I.ok.unwish,I.os,I.bare,I.base,I.loc,I.cell,I.free,I.freeC,I.pin,I.hok,I.len⟩
end
section
variable {X : Cx} {st : Stmt} {rest : List Stmt} {t u : TS} {e : Expr} {te : TE} {pos : Pos}
def jtw:TS:=λD σ H=>D.nx σ H
def tSeq(t u:TS):TS:=λD σ H=>t {D with nx:=u D} σ H
theorem jai:PSs X [] jtw:=λ_ _ σ H _ I h=>wpAny_execs_nil ⟨σ,H,I,h⟩
theorem ja5(h1:PS X st t)(h2:PSs X rest u):PSs X (st::rest) (tSeq t u):=by
 intro pins s σ H D I h
 refine wpAny_execs_cons (thn (h1 pins s σ H {D with nx:=u D} I h) λf s1 q=> ?_)
 cases f with
 | next=>
  obtain⟨σ',H',I',q⟩:=q
  exact h2 pins s1 σ' H' D I' q
 | ret v=>exact q
 | brk=>exact q
 | cont=>exact q
theorem ja7(h1:PS X st t):PSs X [st] t:=by
 intro pins s σ H D I h
 refine wpAny_execs_cons (thn (h1 pins s σ H D I h) λf s1 q=> ?_)
 cases f with
 | next=>exact wpAny_execs_nil q
 | ret v=>exact q
 | brk=>exact q
 | cont=>exact q
theorem Inv.quiet{pins:List (Addr×Obj)}{σ:St}{H:Hp}{s:Shared}(I:Inv X pins σ H s):interactive X.env=false:=by simp[interactive,I.ok.kind]
def juv(te:TE):TS:=λD σ H=>te σ H λ_ H1=>D.nx σ H1
theorem je8(he:PE X e te)(hs:swapsWith e none pos.line X.env=pure false:=by rfl):PS X (.Expr e pos) (juv te):=by
 intro pins s σ H D I h
 exact wpAny_Expr_any (thn (he pins s σ H _ I h) λv s1 ⟨x,H1,I1,r1,q1⟩=>⟨σ,H1,I1,q1⟩) I.quiet hs
def tRet(te:TE):TS:=λD σ H=>te σ H D.rt
theorem jaf(he:PE X e te):PS X (.Return (some e) pos) (tRet te):=by
 intro pins s σ H D I h
 exact wpAny_Return_some (thn (he pins s σ H _ I h) λv s1 ⟨x,H1,I1,r1,q1⟩=>⟨x,σ,H1,I1,r1,q1⟩)
def tIfS(c:TT)(t u:TS):TS:=λD σ H=>c σ H λb H1=>if b=true then t D σ H1 else u D σ H1
theorem jb6{c:Expr}{a b:List Stmt}{tc:TT}(hc:PT X c tc)(ha:PSs X a t)(hb:PSs X b u):PS X (.If c a b pos) (tIfS tc t u):=by
 intro pins s σ H D I h
 refine wpAny_If (thn (hc pins s σ H _ I h) λd s1 ⟨H1,I1,q1⟩=> ?_)
 cases d with
 | true=>exact ha pins s1 σ H1 D I1 q1
 | false=>exact hb pins s1 σ H1 D I1 q1
end
abbrev TG:=V->St->Hp->(St->Hp->Prop)->Prop
abbrev TGs:=List V->St->Hp->(St->Hp->Prop)->Prop
def PG(X:Cx)(target:Expr)(t:TG):Prop:=
 ∀(pins:List (Addr×Obj)) (s:Shared) (σ:St) (H:Hp) (v:V) (u:Value) (Q:St->Hp->Prop),Inv X pins σ H s->RelV v u->t v σ H Q->
  wpAny (model X.prog X.w) X.A (assign target X.env u) (λ_ s'=>∃σ' H',Inv X pins σ' H' s' /\ Q σ' H') X.xe s
def PGs(X:Cx)(ts:List Expr)(t:TGs):Prop:=
 ∀(pins:List (Addr×Obj)) (s:Shared) (σ:St) (H:Hp) (vs:List V) (us:List Value) (Q:St->Hp->Prop),Inv X pins σ H s->Vals vs us->t vs σ H Q->
  wpAny (model X.prog X.w) X.A (assignInOrder ((assignEach ts X.env).map (·.2)) us) (λ_ s'=>∃σ' H',Inv X pins σ' H' s' /\ Q σ' H') X.xe s
abbrev TSet:=V->V->V->Hp->(Hp->Prop)->Prop
def PSet(X:Cx)(t:TSet):Prop:=
 ∀(pins:List (Addr×Obj)) (s:Shared) (σ:St) (H:Hp) (o i v:V) (ov iv u:Value) (Q:Hp->Prop),Inv X pins σ H s->RelV o ov->RelV i iv->RelV v u->t o i v H Q->
  wpAny (model X.prog X.w) X.A (setItem ov iv u) (λ_ s'=>∃H',Inv X pins σ H' s' /\ Q H') X.xe s
section
variable {X : Cx} {pos : Pos}
def jad(i:Nat):TG:=λv σ H Q=>Q (σ.set i (some v)) H
theorem jb8{i:Nat}{x:Str}(hN:X.N.Nodup)(hi:X.N[i]?=some x)(hx:Loc X.env.scope x)(hf:X.fn x=true \/ X.env.scope.names.lookup x=some .local:=by first | exact .inl rfl | exact .inr rfl | assumption):PG X (.Name x pos) (jad i):=by
 intro pins s σ H v u Q I r h
 exact wpAny_assign_Name (jh2 I hN hi hx r (λs' I'=>⟨_,H,I',h⟩) hf)
def gNil:TGs:=λvs σ H Q=>vs=[] /\ Q σ H
def jyf(t:TG)(u:TGs):TGs:=λvs σ H Q=>∃v r,vs=v::r /\ t v σ H λσ' H'=>u r σ' H' Q
theorem jie:PGs X [] gNil:=by
 intro pins s σ H vs us Q I r h
 obtain⟨e,h⟩:=h
 subst e
 cases r
 exact assignInOrder_nil ⟨σ,H,I,h⟩
theorem jd7{e:Expr}{es:List Expr}{t:TG}{u:TGs}(h1:PG X e t)(h2:PGs X es u)
  (hs:(assignEach (e::es) X.env).map (·.2)=assign e X.env::(assignEach es X.env).map (·.2):=by rfl):PGs X (e::es) (jyf t u):=by
 intro pins s σ H vs us Q I r h
 obtain⟨v,vr,e1,h⟩:=h
 subst e1
 cases r with
 | cons r rr=>
  rw[hs]
  refine assignInOrder_cons (thn (h1 pins s σ H _ _ _ I r h) λ_ s1 ⟨σ1,H1,I1,q1⟩=> ?_)
  exact h2 pins s1 σ1 H1 _ _ Q I1 rr q1
def gTup(K:W.Frag)(n:Nat)(t:TGs):TG:=λv σ H Q=>∃a xs,v= .ref a /\ SqT K H a xs /\ xs.length=n /\ t xs σ H Q
theorem pg_tup{es:List Expr}{k:Nat}{t:TGs}{n:Nat}(hc:X.calm=true)(h:PGs X es t)
  (hn:(assignEach es X.env).length=n:=by rfl) (hst:(assignEach es X.env).findIdx? (·.1)=none:=by rfl):PG X (.Tuple es k pos) (gTup X.K n t):=by
 intro pins s σ H v u Q I r hw
 obtain⟨a,xs,e1,hq,hl,hw⟩:=hw
 subst e1
 cases r
 obtain⟨its,rv,ht,hz⟩:=I.tuple hq
 refine assign_Tuple_tuple (I.ok.hd hc) ht (by simp[hn,<-hl,rv.length]) hst λh' hx=> ?_
 have I1:Inv X pins σ H {s with heap:=h'}:=I.kept (t':=s.toks) λb o e=>hx b o (Nat.ne_of_lt (Heap.lt_size e)) e
 exact h pins _ σ H xs _ Q I1 (by simpa using rv) hw
def gSub(to ti:TE)(t:TSet):TG:=λv σ H Q=>to σ H λo H1=>ti σ H1 λi H2=>t o i v H2 λH3=>Q σ H3
theorem jiw{o i:Expr}{to ti:TE}{t:TSet}(ho:PE X o to)(hi:PE X i ti)(hs:PSet X t)
  (ha:∀v,assign (.Subscript o i pos) X.env v=(do
   let ov<-holding [v] (eval o X.env)
   let iv<-holding [v,ov] (eval i X.env)
   standAt pos
   holding [v,ov,iv] (setItem ov iv v)
   release [v,ov,iv] []):=by intro _;rfl):PG X (.Subscript o i pos) (gSub to ti t):=by
 intro pins s σ H v u Q I r h
 rw[ha]
 refine wpAny_bind (wpAny_holding (thn (ho pins s σ H _ I h) λov s1 ⟨x,H1,I1,r1,q1⟩=> ?_))
 refine wpAny_bind (wpAny_holding (thn (hi pins s1 σ H1 _ I1 q1) λiv s2 ⟨y,H2,I2,r2,q2⟩=> ?_))
 refine wpAny_bind (wpAny_standAt (wpAny_bind (wpAny_holding (thn (hs pins s2 σ H2 x y v ov iv u _ I2 r1 r2 r q2) λ_ s3 ⟨H3,I3,q3⟩=> ?_))))
 exact wpAny_release ⟨σ,H3,I3,q3⟩
def tAsg(te:TE)(g:TG):TS:=λD σ H=>te σ H λx H1=>g x σ H1 D.nx
theorem jgi{tg e:Expr}{te:TE}{g:TG}(he:PE X e te)(hg:PG X tg g)(hs:swapsWithSole [tg] e pos.line X.env=pure false:=by rfl)(hw:swappedStores [tg] e X.env=pure none:=by rfl)
  (h1:(assignEach [tg] X.env).map (·.2)=[assign tg X.env]:=by rfl):PS X (.Assign [tg] e pos) (tAsg te g):=by
 intro pins s σ H D I h
 refine wpAny_Assign_stores (thn (he pins s σ H _ I h) λv s1 ⟨x,H1,I1,r1,q1⟩=> ?_) hs hw
 rw[h1]
 exact thn (hg pins s1 σ H1 x v _ I1 r1 q1) λ_ s2 q=>q
theorem jap{i:Nat}{x:Str}{e:Expr}{te:TE}{pos':Pos}(hN:X.N.Nodup)(hi:X.N[i]?=some x)(hx:Loc X.env.scope x)(he:PE X e te)(hs:swapsWith e (some (.Name x pos')) pos.line X.env=pure false:=by rfl)(hf:X.fn x=true \/ X.env.scope.names.lookup x=some .local:=by first | exact .inl rfl | exact .inr rfl | assumption):
  PS X (.Assign [.Name x pos'] e pos) (tAsg te (jad i)):=by
 intro pins s σ H D I h
 refine wpAny_Assign_Name (thn (he pins s σ H _ I h) λv s1 ⟨y,H1,I1,r1,q1⟩=> ?_) hs
 exact jh2 I1 hN hi hx r1 (λs2 I2=>⟨_,H1,I2,q1⟩) hf
end
section
variable {X : Cx} {pos : Pos}
def jwo(c:TT)(tb:TS):TS:=λD σ H=>∃W:Nat->St->Hp->Prop,(∃m,W m σ H) /\ ∀m σ H,W m σ H->
 c σ H λb H1=>if b=true then ∃N:St->Hp->Prop,(∀σ' H',N σ' H'->∃m',m'<m /\ W m' σ' H') /\ tb {D with nx:=N,ct:=N,bk:=D.nx} σ H1 else D.nx σ H1
theorem jmz{c:Expr}{body:List Stmt}{tc:TT}{tb:TS}(hp:PassesOwn (model X.prog X.w) X.A X.env X.xe)(hc:PT X c tc)(hb:PSs X body tb):PS X (.While c body [] pos) (jwo tc tb):=by
 intro pins s σ H D I h
 obtain⟨W,⟨m0,w0⟩,turn⟩:=h
 refine wpAny_While (codeAny_whileLoop (λn s'=>∃σ' H',Inv X pins σ' H' s' /\ W n σ' H') ?_ m0 ⟨σ,H,I,w0⟩)
 rintro n s1 ⟨σ1,H1,I1,w1⟩
 refine wpAny_passesOwn hp (thn (hc pins s1 σ1 H1 _ I1 (turn n σ1 H1 w1)) λb s2 ⟨H2,I2,q2⟩=> ?_)
 cases b with
 | true=>
  obtain⟨N,hN,q2⟩:=q2
  rw[if_pos rfl]
  refine wpAny_passesOwn hp (thn (hb pins s2 σ1 H2 _ I2 q2) λf s3 q3=> ?_)
  cases f with
  | next=>
   obtain⟨σ3,H3,I3,n3⟩:=q3
   obtain⟨m',hm,w3⟩:=hN σ3 H3 n3
   exact⟨m',hm,σ3,H3,I3,w3⟩
  | cont=>
   obtain⟨σ3,H3,I3,n3⟩:=q3
   obtain⟨m',hm,w3⟩:=hN σ3 H3 n3
   exact⟨m',hm,σ3,H3,I3,w3⟩
  | brk=>exact q3
  | ret v=>exact q3
 | false=>
  rw[if_neg Bool.false_ne_true]
  exact wpAny_execs_nil ⟨σ1,H2,I2,q2⟩
end
structure It where
 go:Nat->Hp->Prop
 yld:Nat->Hp->V->Hp->Prop
 stop:Nat->Hp->Prop
def FpOk(X:Cx)(pins:List (Addr×Obj))(H:Hp)(b:Addr):Prop:=
 H b=none /\ b≠X.env.locals /\ b∉X.fs /\ (b∈X.ex \/ X.s₀.heap.objs.size<=b) /\ (∀x c,X.env.cells.lookup x=some c->c≠b) /\ ∀p∈X.pn++pins,p.1≠b
theorem Inv.fpOk{X:Cx}{pins:List (Addr×Obj)}{σ:St}{H H':Hp}{s:Shared}{b:Addr}(I:Inv X pins σ H s)(hb:s.heap.objs.size<=b)(hn:H' b=none):FpOk X pins H' b:=by
 refine⟨hn,Nat.ne_of_gt (Nat.lt_of_lt_of_le I.lt hb),I.nofs hb,.inr (Nat.le_trans I.sz hb),λx c e z=> ?_,λp hp z=> ?_⟩
 ·obtain⟨v,q⟩:=I.cell x c e
  exact absurd (Nat.lt_of_lt_of_le q.lt (by rw[z];exact hb)) (Nat.lt_irrefl _)
 ·exact absurd (Nat.lt_of_lt_of_le (Heap.lt_size (I.pin p hp).1) (by rw[z];exact hb)) (Nat.lt_irrefl _)
structure Turn (P:Program) (w:World) (K:W.Frag) (tg:Expr) (J:It) (fp:List Addr) (it:Addr) (tn:Nat->Heap->Prop):Prop where
 mem:it∈fp
 obj:∀i h,tn i h->∀b∈fp,∃o,h.get? b=some o /\ ∀v,o.data≠ .cell v
 keep:∀i h h',tn i h->(∀b∈fp,∀o,h.get? b=some o->h'.get? b=some o)->tn i h'
 item:∀(X:Cx),X.prog=P->X.w=w->X.K=K->X.calm=true->∀(i:Nat) (pins:List (Addr×Obj)) (s:Shared) (σ:St) (H:Hp) (E:Value->Shared->Prop),Inv X pins σ H s->(∀b∈fp,FpOk X pins H b)->tn i s.heap->J.go i H->
  wpAny (model P w) X.A (pyNext (.ref it)) (λr s1=>∃u,r=some u /\
   wpAny (model P w) X.A (letOwnedTupleGo tg (.ref it) u) (λ_ s2=>∃x H',Inv X pins σ H' s2 /\ RelV x u /\ J.yld i H x H' /\ tn (i+1) s2.heap /\ ∀b∈fp,H' b=none) E s1) E s
 done:∀(X:Cx),X.prog=P->X.w=w->X.K=K->X.calm=true->∀(i:Nat) (pins:List (Addr×Obj)) (s:Shared) (σ:St) (H:Hp) (E:Value->Shared->Prop),Inv X pins σ H s->(∀b∈fp,FpOk X pins H b)->tn i s.heap->J.stop i H->
  wpAny (model P w) X.A (pyNext (.ref it)) (λr s1=>r=none /\ Inv X pins σ H s1) E s
 self:∀(A:Around) (i:Nat) (s:Shared) (Q:Value->Shared->Prop) (E:Value->Shared->Prop),tn i s.heap->Q (.ref it) s->wpAny (model P w) A (pyIter (.ref it)) Q E s
abbrev TI:=St->Hp->(It->Hp->Prop)->Prop
def PIE(X:Cx)(pins:List (Addr×Obj))(σ:St)(tg:Expr)(R:It->Hp->Prop)(itv:Value)(s2:Shared):Prop:=
 ∃(it:Addr) (fp:List Addr) (tn:Nat->Heap->Prop) (J:It) (H':Hp),itv= .ref it /\ Inv X pins σ H' s2 /\ Turn X.prog X.w X.K tg J fp it tn /\ tn 0 s2.heap /\ (∀b∈fp,FpOk X pins H' b) /\ R J H'
def PI(X:Cx)(tg iter:Expr)(wi:TI):Prop:=
 ∀(pins:List (Addr×Obj)) (s:Shared) (σ:St) (H:Hp) (R:It->Hp->Prop),Inv X pins σ H s->wi σ H R->
  wpAny (model X.prog X.w) X.A (eval iter X.env) (λv s1=>wpAny (model X.prog X.w) X.A (pyIter v) (PIE X pins σ tg R) X.xe s1) X.xe s
theorem jlz{M:Model}{A:Around}{E:Value->Shared->Prop}{s:Shared}{tg:Expr}{it:Addr}{u:Value}{o:Obj}{n:String}{vs:Array Value}{Q:Unit->Shared->Prop}(ho:s.heap.get? it=some o)(hc:o.cls= .type n)(hd:o.data= .fields vs)
    (hn:["enumerate","zip","dict_itemiterator","dict_reverseitemiterator","odict_iterator","itertools.zip_longest","itertools.pairwise"].contains n=false) (hQ:Q () s):wpAny M A (letOwnedTupleGo tg (.ref it) u) Q E s:=by
  unfold letOwnedTupleGo
  cases tg<;>first
    | exact wpAny_pure hQ
    | (cases u<;>first
        | exact wpAny_pure hQ
        | (refine wpAny_bind (wpAny_load ho ?_)
           rw[hc,hd]
           show wpAny M A (if(["enumerate","zip","dict_itemiterator","dict_reverseitemiterator","odict_iterator","itertools.zip_longest","itertools.pairwise"].contains n&&vs[0]?==some (rawInt _))=true then _ else _) Q E s
           rw[if_neg (by intro h;rw[hn,Bool.false_and] at h;cases h)]
           exact wpAny_pure hQ))
def Itl(K:W.Frag)(a:Addr):It:=
 ⟨λi H=>∃xs x,SqL K H a xs /\ xs[i]?=some x,λi H x H'=>H'=H /\ ∀xs,SqL K H a xs->xs[i]?=some x,λi H=>∃xs,SqL K H a xs /\ xs.length<=i⟩
def Itt(K:W.Frag)(a:Addr):It:=
 ⟨λi H=>∃xs x,SqT K H a xs /\ xs[i]?=some x,λi H x H'=>H'=H /\ ∀xs,SqT K H a xs->xs[i]?=some x,λi H=>∃xs,SqT K H a xs /\ xs.length<=i⟩
def Itr(lo:Int)(n:Nat):It:=⟨λi _=>i<n,λi H x H'=>H'=H /\ x= .int (lo+i),λi _=>n<=i⟩
theorem jpl{P:Program}{w:World}{K:W.Frag}{tg:Expr}(a it:Addr):Turn P w K tg (Itl K a) [it] it (λi h=>h.IsListIter it a i) where
 mem:=by simp
 obj:=λi h st b hb=>by
  have e:b=it:=by simpa using hb
  subst e
  obtain⟨o,e,c,d⟩:=st
  exact⟨o,e,λv z=>by rw[d] at z;cases z⟩
 keep:=λi h h' st k=>st.at λo e=>k it (by simp) o e
 item:=by
  intro X hP hw hK hc i pins s σ H E I hf st hg
  subst hP hw hK
  obtain⟨xs,x,hq,hx⟩:=hg
  obtain⟨its,rv,p,hz⟩:=I.list hq
  obtain⟨u,hu,ru⟩:=rv.get hx
  obtain⟨f0,f1,f2,f3,f4,f5⟩:=hf it (by simp)
  refine wpAny_pyNext_list_item st p.isList (x:=u) (by simpa using hu) λh' st' sb=> ?_
  have I1:Inv X pins σ H {s with heap:=h'}:=I.turned (t':=s.toks) (λb o hb e=>(sb.2 b hb).trans e) f0 f1 f3 f4 f5
  obtain⟨o,e,c,d⟩:=id st'
  exact⟨u,rfl,jlz (s:={s with heap:=h'}) e c d (by decide) ⟨x,H,I1,ru,⟨rfl,λys hy=>by rw[I.list_inj hy hq];exact hx⟩,st',λb hb=>(hf b hb).1⟩⟩
 done:=by
  intro X hP hw hK hc i pins s σ H E I hf st hg
  subst hP hw hK
  obtain⟨xs,hq,hx⟩:=hg
  obtain⟨its,rv,p,hz⟩:=I.list hq
  obtain⟨f0,f1,f2,f3,f4,f5⟩:=hf it (by simp)
  have hl:=rv.length
  exact wpAny_pyNext_list_end (I.ok.hd hc) st p.isList (by simp;omega) λh' eb=>⟨rfl,I.turned (t':=s.toks) (λb o hb e=>eb b o hb e) f0 f1 f3 f4 f5⟩
 self:=λ_ _ _ _ _ st h=>wpAny_pyIter_listiter st h
theorem joc{P:Program}{w:World}{K:W.Frag}{tg:Expr}(a it:Addr):Turn P w K tg (Itt K a) [it] it (λi h=>h.IsTupleIter it a i) where
 mem:=by simp
 obj:=λi h st b hb=>by
  have e:b=it:=by simpa using hb
  subst e
  obtain⟨o,e,c,d⟩:=st
  exact⟨o,e,λv z=>by rw[d] at z;cases z⟩
 keep:=λi h h' st k=>st.at λo e=>k it (by simp) o e
 item:=by
  intro X hP hw hK hc i pins s σ H E I hf st hg
  subst hP hw hK
  obtain⟨xs,x,hq,hx⟩:=hg
  obtain⟨its,rv,p,hz⟩:=I.tuple hq
  obtain⟨u,hu,ru⟩:=rv.get hx
  obtain⟨f0,f1,f2,f3,f4,f5⟩:=hf it (by simp)
  refine wpAny_pyNext_tuple_item st (show s.heap.IsTuple a its.toArray from p) (x:=u) (by simpa using hu) λh' st' sb=> ?_
  have I1:Inv X pins σ H {s with heap:=h'}:=I.turned (t':=s.toks) (λb o hb e=>(sb.2 b hb).trans e) f0 f1 f3 f4 f5
  obtain⟨o,e,c,d⟩:=id st'
  exact⟨u,rfl,jlz (s:={s with heap:=h'}) e c d (by decide) ⟨x,H,I1,ru,⟨rfl,λys hy=>by rw[I.tuple_inj hy hq];exact hx⟩,st',λb hb=>(hf b hb).1⟩⟩
 done:=by
  intro X hP hw hK hc i pins s σ H E I hf st hg
  subst hP hw hK
  obtain⟨xs,hq,hx⟩:=hg
  obtain⟨its,rv,p,hz⟩:=I.tuple hq
  obtain⟨f0,f1,f2,f3,f4,f5⟩:=hf it (by simp)
  have hl:=rv.length
  exact wpAny_pyNext_tuple_end (I.ok.hd hc) st (show s.heap.IsTuple a its.toArray from p) (by simp;omega) λh' eb=>⟨rfl,I.turned (t':=s.toks) (λb o hb e=>eb b o hb e) f0 f1 f3 f4 f5⟩
 self:=λ_ _ _ _ _ st h=>wpAny_pyIter_tupleiter st h
theorem jou{P:Program}{w:World}{K:PySem.W.Frag}{tg:Expr}(it:Addr)(lo:Int)(n:Nat):Turn P w K tg (Itr lo n) [it] it (λi h=>IsRangeIter h it (lo+(i:Nat)*1) ((n:Int) - (i:Nat)) 1) where
 mem:=by simp
 obj:=λi h st b hb=>by
  have e:b=it:=by simpa using hb
  subst e
  exact⟨_,st,λv z=>by
   have z':Data.fields _=Data.cell v:=z
   cases z'⟩
 keep:=λi h h' st k=>k it (by simp) _ st
 item:=by
  intro X hP hw hK hc i pins s σ H E I hf st hg
  subst hP hw hK
  obtain⟨f0,f1,f2,f3,f4,f5⟩:=hf it (by simp)
  have W:=Walks.range (prog:=X.prog) (w:=X.w) (I.ok.hd hc) it lo 1 n
  refine W.item i s _ _ hg st λv h' tk hv st' kk=> ?_
  obtain⟨t,rfl⟩:=hv
  have I1:Inv X pins σ H {s with heap:=h',toks:=tk}:=I.turned (λb o hb e=>kk b o (by simpa using hb) e) f0 f1 f3 f4 f5
  refine⟨_,rfl,jlz (s:={s with heap:=h',toks:=tk}) (n:="range_iterator") st' rfl rfl (by decide) ⟨.int (lo+i),H,I1,⟨t,?_⟩,⟨rfl,rfl⟩,st',λb hb=>(hf b hb).1⟩⟩
  rw[Int.mul_one]
 done:=by
  intro X hP hw hK hc i pins s σ H E I hf st hg
  subst hP hw hK
  obtain⟨f0,f1,f2,f3,f4,f5⟩:=hf it (by simp)
  exact wpAny_pyNext_range_end (I.ok.hd hc) st (by have:n<=i:=hg;omega) λh' eb=>⟨rfl,I.turned (t':=s.toks) (λb o hb e=>eb b o hb e) f0 f1 f3 f4 f5⟩
 self:=λ_ _ _ _ _ st h=>wpAny_pyIter_rangeiter st h
section
variable {X : Cx} {tg : Expr}
theorem jtr{pins:List (Addr×Obj)}{σ:St}{H:Hp}{s:Shared}{R:It->Hp->Prop}{E:Value->Shared->Prop}{lo hi:Int}{t u v:Tok}{tk:Nat}(I:Inv X pins σ H s)(h1: -(2^62)<=lo)(h2:lo<2^62)(h3: -(2^62)<=hi)(h4:hi<2^62)
  (q:R (Itr lo (hi - lo).toNat) H):wpAny (model X.prog X.w) X.A (pyIter (.ref s.heap.objs.size)) (PIE X pins σ tg R) E {s with heap:=s.heap.push {cls:= .type "range",data:= .fields #[.int lo t,.int hi u,.int 1 v]},toks:=tk}:=by
 refine wpAny_pyIter_range (IsRange.new ..) (small_one h1 h2 h3 h4) ?_
 have I1:Inv X pins σ H {s with heap:=s.heap.push {cls:= .type "range",data:= .fields #[.int lo t,.int hi u,.int 1 v]},toks:=tk}:=I.kept λb o e=>Heap.get?_push_of_some _ e
 refine⟨(s.heap.push {cls:= .type "range",data:= .fields #[.int lo t,.int hi u,.int 1 v]}).objs.size,[(s.heap.push {cls:= .type "range",data:= .fields #[.int lo t,.int hi u,.int 1 v]}).objs.size],_,_,H,rfl,
  I1.kept (t':=tk) λb o e=>Heap.get?_push_of_some _ e,jou _ lo (hi - lo).toNat,?_,λb hb=> ?_,q⟩
 ·have e1:lo+((0:Nat):Int)*1=lo:=by simp
  have e2:(((hi - lo).toNat:Nat):Int) - ((0:Nat):Int)=Builtin.Range.rangeSize lo hi 1:=by rw[rangeSize_one];split<;>omega
  show IsRangeIter _ _ (lo+((0:Nat):Int)*1) ((((hi - lo).toNat:Nat):Int) - ((0:Nat):Int)) 1
  rw[e1,e2]
  exact Heap.get?_push_size _ rfl
 ·have e:b=(s.heap.push {cls:= .type "range",data:= .fields #[.int lo t,.int hi u,.int 1 v]}).objs.size:=by simpa using hb
  subst e
  exact I1.fpOk (Nat.le_refl _) (I1.hok.fresh (Nat.le_refl _))
def iRng1(ta:TA):TI:=λσ H R=>ta σ H λvs H1=>∃j:Int,vs=[.int j] /\ -(2^62)<=j /\ j<2^62 /\ R (Itr 0 j.toNat) H1
theorem jcd{a:Expr}{ta:TA}{p pos:Pos}(hg:Gl X "range")(hm:X.mg "range"=none)(ha:PA X [a] ta)(hs:starEach [a] X.env=[(false,eval a X.env)]:=by rfl):PI X tg (.Call (.Name "range" p) [a] [] pos) (iRng1 ta):=by
 intro pins s σ H R I h
 refine Call_ (jkb I hg hm boot_range (PyProof.Rows.callWith_type1 (thn (ha pos pins s σ H _ I h) λus s1 ⟨vs,H1,I1,r1,q1⟩=> ?_) hs rfl))
 obtain⟨j,e,q1,q2,q⟩:=q1
 subst e
 cases r1 with
 | cons r rr=>
  cases rr
  obtain⟨t,rfl⟩:=r
  exact call_range_1 (jtr I1 (by omega) (by omega) q1 q2 (by simpa using q))
def tFor(wi:TI)(g:TG)(tb:TS):TS:=λD σ H=>wi σ H λJ H1=>∃W:Nat->Nat->St->Hp->Prop,(∃m,W 0 m σ H1) /\ ∀i m σ H,W i m σ H->
 (J.stop i H /\ D.nx σ H) \/ (J.go i H /\ ∃N:St->Hp->Prop,(∀σ' H',N σ' H'->∃m',m'<m /\ W (i+1) m' σ' H') /\ ∀x H',J.yld i H x H'->g x σ H' λσ2 H2=>tb {D with nx:=N,ct:=N,bk:=D.nx} σ2 H2)
def jjy(fp:List Addr)(h:Heap):List (Addr×Obj):=fp.filterMap λb=>(h.get? b).map λo=>(b,o)
theorem jfa{fp:List Addr}{h:Heap}{b:Addr}{o:Obj}(hb:b∈fp)(e:h.get? b=some o):(b,o)∈jjy fp h:=List.mem_filterMap.mpr ⟨b,hb,by rw[e];rfl⟩
theorem jsj{fp:List Addr}{h:Heap}{p:Addr×Obj}(hp:p∈jjy fp h):p.1∈fp /\ h.get? p.1=some p.2:=by
 obtain⟨b,hb,e⟩:=List.mem_filterMap.mp hp
 cases q:h.get? b with
 | none=>rw[q] at e;cases e
 | some o=>
  rw[q] at e
  have e':(b,o)=p:=Option.some.inj e
  subst e'
  exact⟨hb,q⟩
theorem Inv.pinned{pins:List (Addr×Obj)}{σ:St}{H:Hp}{s:Shared}{fp:List Addr}(I:Inv X pins σ H s)(hf:∀b∈fp,FpOk X pins H b)(ho:∀b∈fp,∃o,s.heap.get? b=some o /\ ∀v,o.data≠ .cell v):Inv X (pins++jjy fp s.heap) σ H s:=
 I.pins_of λp hp=>(List.mem_append.mp hp).elim (λz=>I.pin p (List.mem_append_right _ z)) λz=>by
  obtain⟨hb,e⟩:=jsj z
  obtain⟨f0,f1,f2,_⟩:=hf p.1 hb
  obtain⟨o,e',d⟩:=ho p.1 hb
  rw[e] at e';cases e'
  exact⟨e,f0,f1,f2,d⟩
theorem Inv.unpinned{pins pl:List (Addr×Obj)}{σ:St}{H:Hp}{s:Shared}(I:Inv X (pins++pl) σ H s):Inv X pins σ H s:=I.pins_of λp hp=>I.pin p (List.mem_append_right _ (List.mem_append_left _ hp))
theorem jeq{iter:Expr}{body:List Stmt}{wi:TI}{g:TG}{tb:TS}{pos:Pos}(hp:PassesOwn (model X.prog X.w) X.A X.env X.xe)(hc:X.calm=true)(hi:PI X tg iter wi)(hg:PG X tg g)(hb:PSs X body tb)
  (hs:∀x,foldedSetIterable iter X.env x=pure x:=by intro _;rfl):PS X (.For tg iter body [] pos) (tFor wi g tb):=by
 intro pins s σ H D I h
 refine wpAny_For (thn (hi pins s σ H _ I h) λv s1 h1=>thn h1 λitv s2 h2=> ?_) hs
 obtain⟨it,fp,tn,J,H2,e,I2,T,st2,f2,W,⟨m0,w0⟩,turn⟩:=h2
 subst e
 have stat:∀{H':Hp},(∀b∈fp,H' b=none)->∀b∈fp,FpOk X pins H' b:=λhn b hb=>⟨hn b hb,(f2 b hb).2⟩
 refine codeAny_forLoop_any (λn s'=>∃i σ' H',Inv X pins σ' H' s' /\ tn i s'.heap /\ (∀b∈fp,H' b=none) /\ W i n σ' H') ?_ m0 ⟨0,σ,H2,I2,st2,λb hb=>(f2 b hb).1,w0⟩
 rintro n s3 ⟨i,σ3,H3,I3,st3,fr3,w3⟩
 rcases turn i n σ3 H3 w3 with⟨stop,qn⟩ | ⟨go,N,hN,step⟩
 ·refine wpAny_passesOwn hp (thn (T.done X rfl rfl rfl hc i pins s3 σ3 H3 X.xe I3 (stat fr3) st3 stop) λr s4 ⟨hr,I4⟩=> ?_)
  subst hr
  exact wpAny_execs_nil ⟨σ3,H3,I4,qn⟩
 ·refine wpAny_passesOwn hp (thn (T.item X rfl rfl rfl hc i pins s3 σ3 H3 X.xe I3 (stat fr3) st3 go) λr s4 ⟨u,hr,h4⟩=> ?_)
  subst hr
  refine wpAny_passesOwn hp (thn h4 λ_ s5 ⟨x,H5,I5,r5,y5,st5,fr5⟩=> ?_)
  have I5':=I5.pinned (stat fr5) (T.obj _ _ st5)
  refine wpAny_passesOwn hp (thn (hg _ s5 σ3 H5 x u _ I5' r5 (step x H5 y5)) λ_ s6 ⟨σ6,H6,I6,q6⟩=> ?_)
  refine wpAny_passesOwn hp (thn (hb _ s6 σ6 H6 _ I6 q6) λf s7 q7=> ?_)
  have again:∀{σ7:St} {H7:Hp},Inv X (pins++jjy fp s5.heap) σ7 H7 s7->N σ7 H7->∃m,m<n /\ ∃i σ' H',Inv X pins σ' H' s7 /\ tn i s7.heap /\ (∀b∈fp,H' b=none) /\ W i m σ' H':=fun{σ7 H7} I7 n7=>by
   obtain⟨m',hm,w7⟩:=hN σ7 H7 n7
   refine⟨m',hm,i+1,σ7,H7,I7.unpinned,T.keep _ _ _ st5 λb hb o e=>(I7.pin (b,o) (List.mem_append_right _ (List.mem_append_right _ (jfa hb e)))).1,λb hb=> ?_,w7⟩
   obtain⟨o,e,d⟩:=T.obj _ _ st5 b hb
   exact(I7.pin (b,o) (List.mem_append_right _ (List.mem_append_right _ (jfa hb e)))).2.1
  cases f with
  | next=>obtain⟨σ7,H7,I7,n7⟩:=q7;exact again I7 n7
  | cont=>obtain⟨σ7,H7,I7,n7⟩:=q7;exact again I7 n7
  | brk=>obtain⟨σ7,H7,I7,q7⟩:=q7;exact⟨σ7,H7,I7.unpinned,q7⟩
  | ret v=>obtain⟨x7,σ7,H7,I7,r7,q7⟩:=q7;exact⟨x7,σ7,H7,I7.unpinned,r7,q7⟩
end
abbrev R2:=V->V->Hp->VK->Prop
def OpR(X:Cx)(f:Value->Value->Sem Value)(r:R2):Prop:=
 ∀(pins:List (Addr×Obj)) (s:Shared) (σ:St) (H:Hp) (x y:V) (v u:Value) (Q:VK),Inv X pins σ H s->RelV x v->RelV y u->r x y H Q->
  wpAny (model X.prog X.w) X.A (f v u) (EP X pins σ Q) X.xe s
def UnR(X:Cx)(f:Value->Sem Value)(r:V->Hp->VK->Prop):Prop:=
 ∀(pins:List (Addr×Obj)) (s:Shared) (σ:St) (H:Hp) (x:V) (v:Value) (Q:VK),Inv X pins σ H s->RelV x v->r x H Q->
  wpAny (model X.prog X.w) X.A (f v) (EP X pins σ Q) X.xe s
def jdi(X:Cx)(f:Value)(r:List V->Hp->VK->Prop):Prop:=
 ∀(pins:List (Addr×Obj)) (s:Shared) (σ:St) (H:Hp) (xs:List V) (us:List Value) (Q:VK),Inv X pins σ H s->Vals xs us->r xs H Q->
  wpAny (model X.prog X.w) X.A (call f us) (EP X pins σ Q) X.xe s
def TruR(X:Cx)(r:V->Hp->(Bool->Hp->Prop)->Prop):Prop:=
 ∀(pins:List (Addr×Obj)) (s:Shared) (σ:St) (H:Hp) (x:V) (v:Value) (Q:Bool->Hp->Prop),Inv X pins σ H s->RelV x v->r x H Q->
  wpAny (model X.prog X.w) X.A (truthy v) (TP X pins σ Q) X.xe s
def tOp(r:R2)(ta tb:TE):TE:=λσ H Q=>ta σ H λx H1=>tb σ H1 λy H2=>r x y H2 Q
def tUn(r:V->Hp->VK->Prop)(ta:TE):TE:=λσ H Q=>ta σ H λx H1=>r x H1 Q
def rI(C:Int->Int->Prop)(g:Int->Int->V):R2:=λx y H Q=>∃i j,x= .int i /\ y= .int j /\ C i j /\ Q (g i j) H
def rI0(g:Int->Int->V):R2:=λx y H Q=>∃i j,x= .int i /\ y= .int j /\ Q (g i j) H
def rU(g:Int->V):V->Hp->VK->Prop:=λx H Q=>∃i,x= .int i /\ Q (g i) H
section
variable {X : Cx} {a b c : Expr} {ta tb tc : TE} {pos : Pos}
theorem binT(ha:PE X a ta)(hb:PE X b tb){pins:List (Addr×Obj)}{s:Shared}{σ:St}{H:Hp}{R:V->V->Hp->Prop}(I:Inv X pins σ H s)
  (h:ta σ H λx H1=>tb σ H1 λy H2=>R x y H2) {Q:Value->Shared->Prop} {f:Value->Value->Sem Value}
  (hf:∀v u s2 x y H2,Inv X pins σ H2 s2->RelV x v->RelV y u->R x y H2->wpAny (model X.prog X.w) X.A (f v u) Q X.xe s2):
  wpAny (model X.prog X.w) X.A (eval a X.env) (λv s₁=>wpAny (model X.prog X.w) X.A (eval b X.env) (λu s₂=>wpAny (model X.prog X.w) X.A (f v u) Q X.xe s₂) X.xe s₁) X.xe s:=by
 refine thn (ha pins s σ H _ I h) λv s1 ⟨x,H1,I1,r1,q1⟩=> ?_
 refine thn (hb pins s1 σ H1 _ I1 q1) λu s2 ⟨y,H2,I2,r2,q2⟩=> ?_
 exact hf v u s2 x y H2 I2 r1 r2 q2
theorem jak{op:Operator}{r:R2}(ho:OpR X (binaryOp op) r)(ha:PE X a ta)(hb:PE X b tb):PE X (.BinOp a op b pos) (tOp r ta tb):=by
 intro pins s σ H Q I h
 exact wpAny_BinOp (binT ha hb I h λv u s2 x y H2 I2 rx ry q=>ho pins s2 σ H2 x y v u Q I2 rx ry q)
theorem jgw{op:UnaryOp}{r:V->Hp->VK->Prop}(ho:UnR X (unaryOp op) r)(ha:PE X a ta):PE X (.UnaryOp op a pos) (tUn r ta):=by
 intro pins s σ H Q I h
 exact UnaryOp_ (thn (ha pins s σ H _ I h) λv s1 ⟨x,H1,I1,r1,q1⟩=>ho pins s1 σ H1 x v Q I1 r1 q1)
theorem opI{f:Value->Value->Sem Value}{C:Int->Int->Prop}{g:Int->Int->Int}
  (rule:∀(i j:Int) (t u:Tok) (s:Shared) (Q:Value->Shared->Prop) (E:Value->Shared->Prop),C i j->Q (.int (g i j) s.toks) {s with toks:=s.toks+1}->wpAny (model X.prog X.w) X.A (f (.int i t) (.int j u)) Q E s):
  OpR X f (rI C λi j=> .int (g i j)):=by
 intro pins s σ H x y v u Q I rx ry h
 obtain⟨i,j,rfl,rfl,hc,q⟩:=h
 obtain⟨t,rfl⟩:=rx
 obtain⟨t',rfl⟩:=ry
 exact rule i j t t' s _ _ hc ⟨.int (g i j),H,I.tok _,⟨_,rfl⟩,q⟩
theorem opI0{f:Value->Value->Sem Value}{g:Int->Int->Int}
  (rule:∀(i j:Int) (t u:Tok) (s:Shared) (Q:Value->Shared->Prop) (E:Value->Shared->Prop),Q (.int (g i j) s.toks) {s with toks:=s.toks+1}->wpAny (model X.prog X.w) X.A (f (.int i t) (.int j u)) Q E s):
  OpR X f (rI0 λi j=> .int (g i j)):=by
 intro pins s σ H x y v u Q I rx ry h
 obtain⟨i,j,rfl,rfl,q⟩:=h
 obtain⟨t,rfl⟩:=rx
 obtain⟨t',rfl⟩:=ry
 exact rule i j t t' s _ _ ⟨.int (g i j),H,I.tok _,⟨_,rfl⟩,q⟩
theorem opB0{f:Value->Value->Sem Value}{g:Int->Int->Bool}
  (rule:∀(i j:Int) (t u:Tok) (s:Shared) (Q:Value->Shared->Prop) (E:Value->Shared->Prop),Q (.bool (g i j)) s->wpAny (model X.prog X.w) X.A (f (.int i t) (.int j u)) Q E s):
  OpR X f (rI0 λi j=> .bl (g i j)):=by
 intro pins s σ H x y v u Q I rx ry h
 obtain⟨i,j,rfl,rfl,q⟩:=h
 obtain⟨t,rfl⟩:=rx
 obtain⟨t',rfl⟩:=ry
 exact rule i j t t' s _ _ ⟨.bl (g i j),H,I,rfl,q⟩
def CDiv(i j:Int):Prop:=0<j /\ j<1073741824
def CPow(i j:Int):Prop:=0<=j /\ j<=1000000 /\ i.natAbs<2^64
def CMul(i j:Int):Prop:=(-(2^64)<i /\ i<2^64) \/ (-(2^64)<j /\ j<2^64)
theorem CMul.ok{i j:Int}(h:CMul i j):IntMulOk i j:=by
 rcases h with⟨h1,h2⟩ | ⟨h1,h2⟩
 ·exact .of_left (intBits_le_64 h1 h2)
 ·exact .of_right (intBits_le_64 h1 h2)
theorem joz(k:Nat):(0:Int)<=2^k:=by
 rw[two_pow_cast]
 exact Int.natCast_nonneg _
theorem op_add:OpR X (binaryOp .Add) (rI0 λi j=> .int (i+j)):=opI0 λ_ _ _ _ _ _ _ q=>add_int q
theorem jgq:OpR X (binaryOp .Sub) (rI0 λi j=> .int (i - j)):=opI0 λ_ _ _ _ _ _ _ q=>sub_int q
theorem op_mul:OpR X (binaryOp .Mult) (rI CMul λi j=> .int (i*j)):=opI λ_ _ _ _ _ _ _ hc q=>mul_int q hc.ok
theorem jci:OpR X (binaryOp .FloorDiv) (rI CDiv λi j=> .int (i / j)):=opI λi j _ _ _ _ _ hc q=>by
 have h1:(0:Int)<j:=hc.1
 have h2:j<1073741824:=hc.2
 exact floordiv_int (by omega) (by rw[Int.fdiv_eq_ediv_of_nonneg i (by omega)];exact q) (.inl (PyProof.noPylong_small (by omega)))
theorem jc6:OpR X (binaryOp .Mod) (rI (λ_ j=>0<j) λi j=> .int (i % j)):=opI λi j _ _ _ _ _ hc q=>by
 have h1:(0:Int)<j:=hc
 exact mod_int' (by omega) (by rw[Int.fmod_eq_emod_of_nonneg i (by omega)];exact q)
theorem jpq:OpR X (binaryOp .Pow) (rI CPow λi j=> .int (i^j.toNat)):=opI λ_ _ _ _ _ _ _ hc q=>pow_int_small hc.1 hc.2.1 hc.2.2 q
theorem jcc:OpR X (binaryOp .LShift) (rI CPow λi j=> .int (i*2^j.toNat)):=opI λ_ _ _ _ _ _ _ hc q=>lshift_int_small hc.1 hc.2.1 hc.2.2 q
theorem jw1:OpR X (binaryOp .RShift) (rI (λ_ j=>0<=j) λi j=> .int (i / 2^j.toNat)):=opI λi j _ _ _ _ _ hc q=>
 rshift_int hc (by rw[Int.fdiv_eq_ediv_of_nonneg i (joz _)];exact q)
theorem je5:OpR X (binaryOp .BitAnd) (rI0 λi j=> .int (Builtin.bitAnd i j)):=opI0 λ_ _ _ _ _ _ _ q=>and_int q
theorem ji9:OpR X (binaryOp .BitOr) (rI0 λi j=> .int (Builtin.bitOr i j)):=opI0 λ_ _ _ _ _ _ _ q=>or_int q
theorem jn1:OpR X (binaryOp .BitXor) (rI0 λi j=> .int (Builtin.bitXor i j)):=opI0 λ_ _ _ _ _ _ _ q=>xor_int q
theorem unI{f:Value->Sem Value}{g:Int->Int}
  (rule:∀(i:Int) (t:Tok) (s:Shared) (Q:Value->Shared->Prop) (E:Value->Shared->Prop),Q (.int (g i) s.toks) {s with toks:=s.toks+1}->wpAny (model X.prog X.w) X.A (f (.int i t)) Q E s):
  UnR X f (rU λi=> .int (g i)):=by
 intro pins s σ H x v Q I rx h
 obtain⟨i,rfl,q⟩:=h
 obtain⟨t,rfl⟩:=rx
 exact rule i t s _ _ ⟨.int (g i),H,I.tok _,⟨_,rfl⟩,q⟩
theorem jib:UnR X (unaryOp .USub) (rU λi=> .int (-i)):=unI λ_ _ _ _ _ q=>neg_int q
theorem jkw:UnR X (unaryOp .Invert) (rU λi=> .int (Builtin.bitNot i)):=unI λ_ _ _ _ _ q=>invert_int q
end
def scal:V->V->Bool
 | .non,.non=>true | .non,.int _=>true | .int _,.non=>true | .non,.bl _=>true | .bl _,.non=>true | .non,.str _=>true | .str _,.non=>true
 | .int _,.int _=>true | .bl _,.bl _=>true | .str _,.str _=>true | .byt _,.byt _=>true
 | .int _,.str _=>true | .str _,.int _=>true | .bl _,.str _=>true | .str _,.bl _=>true
 | _,_=>false
def rEq:R2:=λx y H Q=>scal x y=true /\ Q (.bl (decide (x=y))) H
def rNe:R2:=λx y H Q=>scal x y=true /\ Q (.bl (!decide (x=y))) H
theorem jqc{i j:Int}:decide (V.int i=V.int j)=(i==j):=by
 rw[Bool.eq_iff_iff]
 simp
theorem jpu{i j:Bool}:decide (V.bl i=V.bl j)=(i==j):=by
 rw[Bool.eq_iff_iff]
 simp
theorem jrh{i j:Str}:decide (V.str i=V.str j)=(i==j):=by
 rw[Bool.eq_iff_iff]
 simp
theorem jpj{i j:Array UInt8}:decide (V.byt i=V.byt j)=(i.toList==j.toList):=by
 rw[Bool.eq_iff_iff]
 cases i
 cases j
 simp
section
variable {X : Cx} {a b c : Expr} {ta tb tc : TE} {pos : Pos}
theorem jbm{pins:List (Addr×Obj)}{σ:St}{H:Hp}{s:Shared}{Q:VK}{k k':Bool}(I:Inv X pins σ H s)(q:Q (.bl k) H)(e:k=k'):EP X pins σ Q (.bool k') s:=by
 subst e
 exact⟨.bl k,H,I,rfl,q⟩
theorem op_eq:OpR X (compareOp .Eq) rEq:=by
 intro pins s σ H x y v u Q I rx ry h
 obtain⟨hs,q⟩:=h
 cases x with
 | non=>
  cases rx
  cases y with
  | non=>cases ry;exact PySem.EqNone.eq_none_none (jbm I q (by simp))
  | bl j=>cases ry;exact PySem.EqNone.eq_none_bool (jbm I q (by simp))
  | int j=>obtain⟨t',rfl⟩:=ry;exact PySem.EqNone.eq_none_int (jbm I q (by simp))
  | str j=>obtain⟨t',rfl⟩:=ry;exact PySem.EqNone.eq_none_str (jbm I q (by simp))
  | _=>exact absurd (show false=true from hs) Bool.false_ne_true
 | bl i=>
  cases rx
  cases y with
  | non=>cases ry;exact PySem.EqNone.eq_bool_none (jbm I q (by simp))
  | bl j=>cases ry;exact eq_bool (jbm I q jpu)
  | str j=>obtain⟨t',rfl⟩:=ry;exact PySem.EqMixed.eq_bool_str (jbm I q (by simp))
  | _=>exact absurd (show false=true from hs) Bool.false_ne_true
 | int i=>
  obtain⟨t,rfl⟩:=rx
  cases y with
  | non=>cases ry;exact PySem.EqNone.eq_int_none (jbm I q (by simp))
  | int j=>obtain⟨t',rfl⟩:=ry;exact eq_int (jbm I q jqc)
  | str j=>obtain⟨t',rfl⟩:=ry;exact PySem.EqMixed.eq_int_str (jbm I q (by simp))
  | _=>exact absurd (show false=true from hs) Bool.false_ne_true
 | str i=>
  obtain⟨t,rfl⟩:=rx
  cases y with
  | non=>cases ry;exact PySem.EqNone.eq_str_none (jbm I q (by simp))
  | bl j=>cases ry;exact PySem.EqMixed.eq_str_bool (jbm I q (by simp))
  | int j=>obtain⟨t',rfl⟩:=ry;exact PySem.EqMixed.eq_str_int (jbm I q (by simp))
  | str j=>obtain⟨t',rfl⟩:=ry;exact eq_str (jbm I q jrh)
  | _=>exact absurd (show false=true from hs) Bool.false_ne_true
 | byt i=>
  obtain⟨t,rfl⟩:=rx
  cases y with
  | byt j=>obtain⟨t',rfl⟩:=ry;exact W.eq_bytes (jbm I q jpj)
  | _=>exact absurd (show false=true from hs) Bool.false_ne_true
 | _=>cases y<;>exact absurd (show false=true from hs) Bool.false_ne_true
theorem op_ne:OpR X (compareOp .NotEq) rNe:=by
 intro pins s σ H x y v u Q I rx ry h
 obtain⟨hs,q⟩:=h
 cases x with
 | non=>
  cases rx
  cases y with
  | non=>cases ry;exact PySem.EqNone.ne_none_none (jbm I q (by simp))
  | bl j=>cases ry;exact PySem.EqNone.ne_none_bool (jbm I q (by simp))
  | int j=>obtain⟨t',rfl⟩:=ry;exact PySem.EqNone.ne_none_int (jbm I q (by simp))
  | str j=>obtain⟨t',rfl⟩:=ry;exact PySem.EqNone.ne_none_str (jbm I q (by simp))
  | _=>exact absurd (show false=true from hs) Bool.false_ne_true
 | bl i=>
  cases rx
  cases y with
  | non=>cases ry;exact PySem.EqNone.ne_bool_none (jbm I q (by simp))
  | bl j=>cases ry;exact ne_bool (jbm I q (congrArg not jpu))
  | str j=>obtain⟨t',rfl⟩:=ry;exact PySem.EqMixed.ne_bool_str (jbm I q (by simp))
  | _=>exact absurd (show false=true from hs) Bool.false_ne_true
 | int i=>
  obtain⟨t,rfl⟩:=rx
  cases y with
  | non=>cases ry;exact PySem.EqNone.ne_int_none (jbm I q (by simp))
  | int j=>obtain⟨t',rfl⟩:=ry;exact ne_int (jbm I q (congrArg not jqc))
  | str j=>obtain⟨t',rfl⟩:=ry;exact PySem.EqMixed.ne_int_str (jbm I q (by simp))
  | _=>exact absurd (show false=true from hs) Bool.false_ne_true
 | str i=>
  obtain⟨t,rfl⟩:=rx
  cases y with
  | non=>cases ry;exact PySem.EqNone.ne_str_none (jbm I q (by simp))
  | bl j=>cases ry;exact PySem.EqMixed.ne_str_bool (jbm I q (by simp))
  | int j=>obtain⟨t',rfl⟩:=ry;exact PySem.EqMixed.ne_str_int (jbm I q (by simp))
  | str j=>obtain⟨t',rfl⟩:=ry;exact ne_str (jbm I q (congrArg not jrh))
  | _=>exact absurd (show false=true from hs) Bool.false_ne_true
 | byt i=>
  obtain⟨t,rfl⟩:=rx
  cases y with
  | byt j=>obtain⟨t',rfl⟩:=ry;exact W.ne_bytes (jbm I q (congrArg not jpj))
  | _=>exact absurd (show false=true from hs) Bool.false_ne_true
 | _=>cases y<;>exact absurd (show false=true from hs) Bool.false_ne_true
theorem jlk:OpR X (compareOp .Lt) (rI0 λi j=> .bl (decide (i<j))):=opB0 λ_ _ _ _ _ _ _ q=>lt_int q
theorem op_le:OpR X (compareOp .LtE) (rI0 λi j=> .bl (decide (i<=j))):=opB0 λ_ _ _ _ _ _ _ q=>le_int q
theorem jye:OpR X (compareOp .GtE) (rI0 λi j=> .bl (decide (j<=i))):=opB0 λ_ _ _ _ _ _ _ q=>ge_int q
theorem jps:OpR X (compareOp .In) (λx y H Q=>∃i j,x= .str i /\ y= .str j /\ Q (.bl (!(Builtin.Str.occurrences j i 0 j.length 1).isEmpty)) H):=by
 intro pins s σ H x y v u Q I rx ry h
 obtain⟨i,j,rfl,rfl,q⟩:=h
 obtain⟨t,rfl⟩:=rx
 obtain⟨t',rfl⟩:=ry
 exact in_str (jbm I q rfl)
theorem jau(b:Expr){op:CmpOp}(h:op≠ .In:=by decide)(h2:op≠ .NotIn:=by decide):behindInMarks op b=false:=by
 have e1:(op==CmpOp.In)=false:=by cases op<;>first | rfl | exact absurd rfl h
 have e2:(op==CmpOp.NotIn)=false:=by cases op<;>first | rfl | exact absurd rfl h2
 cases b<;>simp[behindInMarks,e1,e2]
theorem jco{op:CmpOp}{r:R2}(ho:OpR X (compareOp op) r)(ha:PE X a ta)(hb:PE X b tb)(hm:behindInMarks op b=false):PE X (.Compare a [op] [b] pos) (tOp r ta tb):=by
 intro pins s σ H Q I h
 exact wpAny_Compare1 (binT ha hb I h λv u s2 x y H2 I2 rx ry q=>ho pins s2 σ H2 x y v u Q I2 rx ry q) hm
def jxg(t:TE):TT:=λσ H Q=>t σ H λx H'=>∃k,x= .bl k /\ Q k H'
theorem jar{op:CmpOp}{r:R2}(ho:OpR X (compareOp op) r)(ha:PE X a ta)(hb:PE X b tb)(hm:behindInMarks op b=false):PT X (.Compare a [op] [b] pos) (jxg (tOp r ta tb)):=by
 intro pins s σ H Q I h
 refine wpAny_isTrue_Compare1 (thn (ha pins s σ H _ I h) λv s1 ⟨x,H1,I1,r1,q1⟩=>thn (hb pins s1 σ H1 _ I1 q1) λu s2 ⟨y,H2,I2,r2,q2⟩=>
  thn (ho pins s2 σ H2 x y v u _ I2 r1 r2 q2) λc s3 ⟨z,H3,I3,r3,k,e,q3⟩=> ?_) hm
 subst e
 cases r3
 exact wpAny_truthy_bool ⟨H3,I3,q3⟩
def jvn(r r':R2)(ta tb tc:TE):TE:=λσ H Q=>ta σ H λx H1=>tb σ H1 λy H2=>r x y H2 λz H3=>∃k,z= .bl k /\
 (if k=true then tc σ H3 λw' H4=>r' y w' H4 Q else Q (.bl false) H3)
theorem jnh{op op':CmpOp}{r r':R2}(ho:OpR X (compareOp op) r)(ho':OpR X (compareOp op') r')(ha:PE X a ta)(hb:PE X b tb)(hc:PE X c tc)
  (hm:lastMarks [op,op'] [b,c]=false:=by with_unfolding_all rfl):PT X (.Compare a [op,op'] [b,c] pos) (jxg (jvn r r' ta tb tc)):=by
 intro pins s σ H Q I h
 refine isTrue_chain (thn (ha pins s σ H _ I h) λv s1 ⟨x,H1,I1,r1,q1⟩=>test_link (thn (hb pins s1 σ H1 _ I1 q1) λu s2 ⟨y,H2,I2,r2,q2⟩=>
  thn (ho pins s2 σ H2 x y v u _ I2 r1 r2 q2) λd s3 ⟨z,H3,I3,r3,k,e,q3⟩=> ?_)) hm
 subst e
 cases r3
 refine wpAny_truthy_bool ?_
 cases k with
 | false=>
  obtain⟨k',e',q'⟩:=q3
  cases e'
  exact ite_ff ⟨H3,I3,q'⟩
 | true=>
  refine ite_tt (test_last (thn (hc pins s3 σ H3 _ I3 q3) λw' s4 ⟨z',H4,I4,r4,q4⟩=>thn (ho' pins s4 σ H4 y z' u w' _ I4 r2 r4 q4) λd' s5 ⟨z2,H5,I5,r5,k2,e2,q5⟩=> ?_))
  subst e2
  cases r5
  exact wpAny_truthy_bool ⟨H5,I5,q5⟩
def TruV(K:W.Frag)(x:V)(H:Hp)(k:Bool):Prop:=
 match x with
 | .non=>k=false
 | .bl b=>k=b
 | .int i=>k=(i !=0)
 | .str y=>y.length<=sizeLine /\ k=((y.length:Int)!=0)
 | .byt y=>y.size<=sizeLine /\ k=((y.size:Int)!=0)
 | .ref p=>(∃xs,SqL K H p xs /\ k= !xs.isEmpty) \/ (∃xs,SqT K H p xs /\ k= !xs.isEmpty) \/ ∃kvs,H p=some (.dK kvs) /\ k= !kvs.isEmpty
 | _=>False
theorem jof{κ:Type}{kvs:List (κ×V)}{vs:List (κ×Value)}(r:KV kvs vs):(!vs.isEmpty)= !kvs.isEmpty:=by
 cases r<;>rfl
theorem jik{xs:List V}{its:List Value}(r:Vals xs its):(!its.toArray.isEmpty)= !xs.isEmpty:=by
 cases r<;>simp
theorem jhu:(sizeLine:Nat)<2^63:=by rw[sizeLine_eq];decide
theorem jvy:TruR X (λx H Q=>∃k,TruV X.K x H k /\ Q k H):=by
 intro pins s σ H x v Q I rx h
 obtain⟨k,e,q⟩:=h
 have hl:=jhu
 have hs:sizeLine=16777216:=sizeLine_eq
 cases x with
 | non=>
  cases rx
  have e':k=false:=e
  subst e'
  exact truthy_none ⟨H,I,q⟩
 | bl b=>
  cases rx
  have e':k=b:=e
  subst e'
  exact wpAny_truthy_bool ⟨H,I,q⟩
 | int i=>
  obtain⟨t,rfl⟩:=rx
  have e':k=(i !=0):=e
  subst e'
  exact PySem.P.truthy_int ⟨H,I,q⟩
 | str y=>
  obtain⟨t,rfl⟩:=rx
  obtain⟨hy,e'⟩:y.length<=sizeLine /\ k=((y.length:Int)!=0):=e
  subst e'
  exact PySem.P.truthy_str (by omega) ⟨H,I.tok _,q⟩
 | byt y=>
  obtain⟨t,rfl⟩:=rx
  obtain⟨hy,e'⟩:y.size<=sizeLine /\ k=((y.size:Int)!=0):=e
  subst e'
  exact W.truthy_bytes (by omega) ⟨H,I.tok _,q⟩
 | ref p=>
  cases rx
  have e':(∃xs,SqL X.K H p xs /\ k= !xs.isEmpty) \/ (∃xs,SqT X.K H p xs /\ k= !xs.isEmpty) \/ ∃kvs,H p=some (.dK kvs) /\ k= !kvs.isEmpty:=e
  rcases e' with⟨xs,hx,e'⟩ | ⟨xs,hx,e'⟩ | ⟨kvs,hx,e'⟩
  ·subst e'
   obtain⟨its,r,pl,hz⟩:=I.list hx
   have hlen:=r.length
   exact wpAny_truthy_list pl.isList (by simp only[List.size_toArray];omega) ⟨H,I.tok _,by rw[jik r];exact q⟩
  ·subst e'
   obtain⟨its,r,pl,hz⟩:=I.tuple hx
   have hlen:=r.length
   exact truthy_tuple pl (by simp only[List.size_toArray];omega) ⟨H,I.tok _,by rw[jik r];exact q⟩
  ·subst e'
   obtain⟨hz,hS,vs,r,m⟩:kvs.length<=sizeLine /\ (p==sysModules)=false /\ ∃vs,KV kvs vs /\ s.heap.DictOf (jbk X.prog X.w) p vs:=I.hok p _ hx
   have hlen:kvs.length=vs.length:=Paired.length r
   exact wpAny_truthy_dict hS m (by omega) ⟨H,I.tok _,by rw[jof r];exact q⟩
 | _=>exact(show False from e).elim
theorem juj(ha:PE X a ta)(he:∀whole,isTrue a X.env whole=(do let v<-whole;standAt a.pos;holding [v] (truthy v))):
  PT X a (λσ H Q=>ta σ H λx H'=>∃k,TruV X.K x H' k /\ Q k H'):=by
 intro pins s σ H Q I h
 exact isTrue_plain (thn (ha pins s σ H _ I h) λv s1 ⟨x,H1,I1,r1,q1⟩=>jvy pins s1 σ H1 x v Q I1 r1 q1) (he _)
theorem jp4:OpR X (binaryOp .Add) (λx y H Q=>∃i j,x= .str i /\ y= .str j /\ i.length+j.length<=sizeLine /\ Q (.str (i++j)) H):=by
 intro pins s σ H x y v u Q I rx ry h
 obtain⟨i,j,rfl,rfl,hz,q⟩:=h
 obtain⟨t,rfl⟩:=rx
 obtain⟨t',rfl⟩:=ry
 exact add_str (λt' tk=>⟨.str (i++j),H,I.tok _,⟨_,rfl⟩,q⟩) hz
theorem jiz{x:V}{us:List Value}(r:Vals [x] us):∃u,us=[u] /\ RelV x u:=by
 cases r with
 | cons r1 r2=>cases r2;exact⟨_,rfl,r1⟩
theorem vals2{x y:V}{us:List Value}(r:Vals [x,y] us):∃u w',us=[u,w'] /\ RelV x u /\ RelV y w':=by
 cases r with
 | cons r1 r2=>
  cases r2 with
  | cons r3 r4=>cases r4;exact⟨_,_,rfl,r1,r3⟩
theorem jsd:jdi X (.type "int") (λxs H Q=>(∃i,xs=[.int i] /\ Q (.int i) H) \/ ∃k,xs=[.bl k] /\ Q (.int (if k then 1 else 0)) H):=by
 intro pins s σ H xs us Q I r h
 rcases h with⟨i,rfl,q⟩ | ⟨k,rfl,q⟩
 ·obtain⟨u,rfl,t,rfl⟩:=jiz r
  exact call_int_int ⟨.int i,H,I,⟨_,rfl⟩,q⟩
 ·obtain⟨u,rfl,r1⟩:=jiz r
  cases r1
  exact call_int_bool ⟨.int (if k then 1 else 0),H,I.tok _,⟨_,rfl⟩,q⟩
end
structure ObjM (h:Heap) (x dx C:Addr) (mA:Str->Option Value):Prop where
 obj:h.get? x=some (W.instObj C dx)
 ns:h.Ns1 dx mA
 ne:dx≠x
theorem jqm{h:Heap}{dx:Addr}{mA:Str->Option Value}(n:h.Ns1 dx mA):∃od,h.get? dx=some od /\ ∀name,W.lookIn name od=some (mA name):=by
 obtain⟨o,es,ep,ho,hd,hk,_,hm⟩:=n
 refine⟨o,ho,λname=> ?_⟩
 have e:=hm name
 unfold nsFind findBy at e
 rw[<-Array.find?_toList] at e
 unfold W.lookIn
 rw[hd]
 dsimp only
 split
 ·rename_i y q
  rw[q] at e
  exact congrArg some e
 ·rename_i q
  rw[q] at e
  have a:es.toList.any (·.refKey)=false:=by
   rw[List.any_eq_false]
   intro y hy
   obtain⟨z,t,hkey⟩:=hk y (Array.mem_toList_iff.mp hy)
   simp[DictEntry.refKey,hkey]
  have a':¬es.toList.any (·.refKey)=true:=by rw[a];exact Bool.false_ne_true
  rw[if_neg a']
  exact congrArg some e
theorem ObjM.look{h:Heap}{x dx C:Addr}{mA:Str->Option Value}(I:ObjM h x dx C mA):∃od,W.InstAt h x (W.instObj C dx) C (some od) /\ ∀name,W.lookIn name od=some (mA name):=
 let ⟨od,ho,hl⟩:=jqm I.ns
 ⟨od,⟨I.obj,rfl,rfl,ho⟩,hl⟩
section
variable {prog : Program} {w : World} {A : Around} {E : Value -> Shared -> Prop} {s : Shared} {K : W.Frag} {x dx C f : Addr} {mA : Str -> Option Value} {name : Str} {v : Value}
theorem jyj{expr:Bool}{Q:Value->Shared->Prop}(X:K.In s.heap)(I:ObjM s.heap x dx C mA)(hg:W.plainGet K C name=true)(hh:W.hasDictIn K C=true)
  (ha:W.findIn K (.ref C) name=some none) (hv:mA name=some v) (hv':W.handedIn v=true) (h:Q v {s with toks:=s.toks+1}):
  wpAny (model prog w) A (getAttr (.ref x) name expr) Q E s:=by
 obtain⟨od,J,hl⟩:=I.look
 exact W.get_value X J (W.plainGet_of hg).1 (W.findObj_own hh ha rfl (by rw[hl,hv])) hv' h
theorem jtn{pl:Sem Bool}{Q:Value×List Value->Shared->Prop}(X:K.In s.heap)(I:ObjM s.heap x dx C mA)(hg:W.plainGet K C name=true)
  (hf:W.findIn K (.ref C) name=some (some (.ref f))) (ht:W.isFn K (.ref f)=true) (hv:mA name=none) (h:Q (.ref f,[.ref x]) s):
  wpAny (model prog w) A (getMethod (.ref x) name pl) Q E s:=by
 obtain⟨od,J,hl⟩:=I.look
 exact W.method_fn X J (W.plainGet_of hg).1 (W.plainGet_of hg).2 hf (beq_iff_eq.mp ht) (by show(W.lookIn name od).map (·.isSome)=some false;rw[hl,hv];rfl) h
theorem jxh{ns:List Str}{Q:Unit->Shared->Prop}(X:K.In s.heap)(I:ObjM s.heap x dx C mA)
  (hs:W.findIn K (.ref C) "__setattr__"=some (some (.builtin "object.__setattr__"))) (hp:W.plainOver K C=true) (ht:W.takerIn K C name=some none) (hh:W.hasDictIn K C=true)
  (hw:PySem.Within mA ns) (hsz:ns.length<=sizeLine)
  (h:∀h',ObjM h' x dx C (λy=>if y=name then some v else mA y)->Heap.SameBut dx s.heap h'->Q () {s with heap:=h',toks:=s.toks+2}):
  wpAny (model prog w) A (setAttr (.ref x) name v) Q E s:=by
 obtain⟨od,J,hl⟩:=I.look
 refine W.set_plain X J hs (W.osa_open (s:={s with toks:=s.toks+1}) (r:=none) X J hp ht λb=> ?_)
 obtain⟨cd,hc,hd'⟩:=W.any_some hh
 have hx:s.heap.get? x=some ⟨.ref C,some dx,.plain,#[]⟩:=I.obj
 refine wpAny_bind (wpAny_pure (wpAny_bind (wpAny_bind (wpAny_loadPart hx (wpAny_bind (W.Looks.here (s:={s with toks:=s.toks+1}) (W.looks_clsIn X hc) ?_))))))
 rw[hd']
 refine wpAny_pure (a:=some dx) (wpAny_bind (wpAny_pure (wpAny_bind ?_)))
 refine wpAny_nsSet1 (s:={s with toks:=s.toks+1}) I.ns λh' hn2 hs2=> ?_
 obtain⟨oD,esD,epD,hoD,hdD,hcD⟩:=hn2.count (PySem.Within.cons name v hw)
 refine wpAny_bind (wpAny_lookBehind hoD (by rw[hdD];exact pastItsLine_dict (Nat.le_trans hcD (by rw[List.length_cons];omega))) ?_)
 exact wpAny_pure (h _ ⟨(hs2.2 _ (Ne.symm I.ne)).trans I.obj,hn2,I.ne⟩ hs2)
theorem jta{R:Result->Shared->Prop}{vs:List Value}{kw:List (Str×Value)}(X:K.In s.heap)(hm:W.makesIn K C=true)
    (hi:W.findIn K (.ref C) "__init__"=some (some (.ref f))) (hf:W.typeIn K (.ref f)=some (.type "function"))
    (h:codeAny (model prog w) (A.under (.builtin "type.__call__" ⟨.ref C::vs,kw⟩)) (.call (.ref f) ⟨.ref (s.heap.objs.size+1)::vs,kw⟩) (W.InitBack (s.heap.objs.size+1) R)
      {s with heap:=(s.heap.push W.emptyDict).push (W.instObj C s.heap.objs.size)}):
    codeAny (model prog w) A (.call (.ref C) ⟨vs,kw⟩) R s:=by
  obtain⟨hh,g,d,t,os⟩:=s
  exact W.make_core (W.makes_of X hm) (W.looks_findIn X hi) (λself=>W.bind_fn X self hf) (.inl rfl) h
end
def putF(f:Str)(v:V):List (Str×V)->List (Str×V)
  | []=>[(f,v)]
  | (g,x)::r=>if g=f then(g,v)::r else(g,x)::putF f v r
theorem jhk(f g:Str)(v:V):∀fs:List (Str×V),(putF f v fs).lookup g=if g=f then some v else fs.lookup g
  | []=>by
    show List.lookup g [(f,v)]=_
    by_cases h:g=f
    · have hb:(g==f)=true:=beq_iff_eq.mpr h
      simp only[List.lookup,hb,if_pos h]
    · have hb:(g==f)=false:=beq_eq_false_iff_ne.mpr h
      simp only[List.lookup,hb,if_neg h]
  | (k,x)::r=>by
    have ih:=jhk f g v r
    rw[show putF f v ((k,x)::r)=(if k=f then(k,v)::r else(k,x)::putF f v r) from rfl]
    by_cases hk:k=f
    · rw[if_pos hk]
      by_cases h:g=k
      · have hb:(g==k)=true:=beq_iff_eq.mpr h
        simp only[List.lookup,hb,if_pos (h.trans hk)]
      · have hb:(g==k)=false:=beq_eq_false_iff_ne.mpr h
        simp only[List.lookup,hb,if_neg (λe:g=f=>h (e.trans hk.symm))]
    · rw[if_neg hk]
      by_cases h:g=k
      · have hb:(g==k)=true:=beq_iff_eq.mpr h
        simp only[List.lookup,hb,if_neg (λe:g=f=>hk (h.symm.trans e))]
      · have hb:(g==k)=false:=beq_eq_false_iff_ne.mpr h
        simp only[List.lookup,hb]
        exact ih
theorem ji1(f:Str)(v:V):∀fs:List (Str×V),f∈(putF f v fs).map (·.1) /\ ∀g,g∈fs.map (·.1)->g∈(putF f v fs).map (·.1)
  | []=>⟨by simp[putF],λg h=>by simp at h⟩
  | (k,x)::r=>by
    obtain⟨i1,i2⟩:=ji1 f v r
    rw[show putF f v ((k,x)::r)=(if k=f then(k,v)::r else(k,x)::putF f v r) from rfl]
    by_cases hk:k=f
    · rw[if_pos hk]
      subst hk
      exact⟨by simp,λg h=>by simpa using h⟩
    · rw[if_neg hk]
      refine⟨?_,λg h=> ?_⟩
      · rw[List.map_cons]
        exact List.mem_cons_of_mem _ i1
      · rw[List.map_cons] at h ⊢
        rcases List.mem_cons.mp h with e | e
        · exact List.mem_cons.mpr (.inl e)
        · exact List.mem_cons_of_mem _ (i2 g e)
theorem ji6(f:Str)(v:V):∀fs:List (Str×V),(putF f v fs).length<=fs.length+1
  | []=>by simp[putF]
  | (k,x)::r=>by
    have ih:=ji6 f v r
    rw[show putF f v ((k,x)::r)=(if k=f then(k,v)::r else(k,x)::putF f v r) from rfl]
    by_cases hk:k=f
    · rw[if_pos hk,List.length_cons,List.length_cons];omega
    · rw[if_neg hk,List.length_cons,List.length_cons];omega
theorem RelO.some_of{v:V}{o:Option Value}(r:RelO (some v) o):∃u,o=some u /\ RelV v u:=by
 cases o with
 | none=>exact(show False from r).elim
 | some u=>exact⟨u,rfl,r⟩
theorem RelO.none_of{o:Option Value}(r:RelO none o):o=none:=by
 cases o with
 | none=>rfl
 | some u=>exact(show False from r).elim
theorem jqa{v:V}{u:Value}(r:RelV v u):W.handedIn u=true:=by
 cases v with
 | non=>cases (show u=Value.none from r);rfl
 | bl b=>cases (show u=Value.bool b from r);rfl
 | int i=>obtain⟨t,e⟩:=(show ∃t,u=Value.int i t from r);cases e;rfl
 | str x=>obtain⟨t,e⟩:=(show ∃t,u=Value.str x t from r);cases e;rfl
 | byt b=>obtain⟨t,e⟩:=(show ∃t,u=Value.bytes b t from r);cases e;rfl
 | flt b=>obtain⟨t,e⟩:=(show ∃t,u=Value.float b t from r);cases e;rfl
 | ref a=>cases (show u=Value.ref a from r);rfl
 | ty n=>cases (show u=Value.type n from r);rfl
section
variable {P : Program} {w : World} {H H' : Hp} {h h' : Heap} {a C dx : Addr} {fs fs' : List (Str × V)}
theorem jje(hok:HOk P w H h)(e:H a=some (.ins C dx fs)):∃mA,ObjM h a dx C mA /\ (∀f,RelO (fs.lookup f) (mA f)) /\ PySem.Within mA (fs.map (·.1)) /\ fs.length<=1000 /\ H dx=some (.own a):=by
 obtain⟨d,z,ne,ob,mA,n,r,q⟩:=(show jc2 P w H h a (.ins C dx fs) from hok a _ e)
 exact⟨mA,⟨ob,n,ne⟩,r,q,z,d⟩
end
structure Cls (K:W.Frag) (C:Addr):Prop where
 pg:W.plainGet K C Str.empty=true
 hd:W.hasDictIn K C=true
 po:W.plainOver K C=true
 sa:W.findIn K (.ref C) "__setattr__"=some (some (.builtin "object.__setattr__"))
theorem Cls.get{K:W.Frag}{C:Addr}(c:Cls K C)(f:Str):W.plainGet K C f=true:=c.pg
def jcg(K:W.Frag)(C:Addr)(f:Str):Prop:=W.findIn K (.ref C) f=some none
theorem jcg.taker{K:W.Frag}{C:Addr}{f:Str}(n:jcg K C f):W.takerIn K C f=some none:=by
 unfold W.takerIn
 rw[show W.findIn K (.ref C) f=some none from n]
 rfl
structure Meth (K:W.Frag) (C:Addr) (m:Str) (f:Addr):Prop where
 at_:W.findIn K (.ref C) m=some (some (.ref f))
 fn:W.isFn K (.ref f)=true
 kp:W.keepIn K (.ref f)=true
section
variable {X : Cx} {pins : List (Addr × Obj)} {σ : St} {H : Hp} {s : Shared} {a C dx : Addr} {fs : List (Str × V)} {f : Str} {v : V} {A : Around} {E : Value -> Shared -> Prop}
theorem joi{b:Bool}{Q:Value->Shared->Prop}(I:Inv X pins σ H s)(e:H a=some (.ins C dx fs))(c:Cls X.K C)(n:jcg X.K C f)(l:fs.lookup f=some v)
  (h:∀u s',Inv X pins σ H s'->RelV v u->Q u s'):wpAny (model X.prog X.w) A (getAttr (.ref a) f b) Q E s:=by
 obtain⟨mA,O,r,_,_,_⟩:=jje I.hok e
 obtain⟨u,hu,ru⟩:=RelO.some_of (v:=v) (o:=mA f) (by rw[<-l];exact r f)
 exact jyj I.kIn O (c.get f) c.hd n hu (jqa ru) (h u _ (I.tok _) ru)
theorem jg4{m:Str}{g:Addr}{pl:Sem Bool}{Q:Value×List Value->Shared->Prop}(I:Inv X pins σ H s)(e:H a=some (.ins C dx fs))(c:Cls X.K C)(k:Meth X.K C m g)(l:fs.lookup m=none)
  (h:Q (.ref g,[.ref a]) s):wpAny (model X.prog X.w) A (getMethod (.ref a) m pl) Q E s:=by
 obtain⟨mA,O,r,_,_,_⟩:=jje I.hok e
 have hn:mA m=none:=RelO.none_of (by rw[<-l];exact r m)
 exact jtn I.kIn O (c.get m) k.at_ k.fn hn h
theorem jok{y:V}{u:Value}{Q:Unit->Shared->Prop}(I:Inv X pins σ H s)(e:H a=some (.ins C dx fs))(c:Cls X.K C)(n:jcg X.K C f)(hl:fs.length<1000)(ry:RelV y u)
  (h:∀s',Inv X pins σ (upd H a (.ins C dx (putF f y fs))) s'->Q () s'):wpAny (model X.prog X.w) A (setAttr (.ref a) f u) Q E s:=by
 obtain⟨mA,O,r,wi,_,ho⟩:=jje I.hok e
 have hz:(fs.map (·.1)).length<=sizeLine:=by rw[List.length_map,sizeLine_eq];omega
 refine jxh I.kIn O c.sa c.po n.taker c.hd wi hz λh' O' sb=>h _ ?_
 have hd:∃o,h'.get? dx=some o:=let ⟨o,_,_,e',_⟩:=O'.ns;⟨o,e'⟩
 refine I.write (x:=a) (e:=dx) (by rw[e];exact True.intro) (.inr ho) (λb q hb z=>(sb.2 b hb).trans z) hd ?_
 refine⟨by rw[jae O.ne];exact ho,?_,O.ne,O'.obj,_,O'.ns,λg=> ?_,λg hg=> ?_⟩
 ·have:=ji6 f y fs;omega
 ·show RelO ((putF f y fs).lookup g) (if g=f then some u else mA g)
  rw[jhk]
  by_cases q:g=f
  ·rw[if_pos q,if_pos q];exact ry
  ·rw[if_neg q,if_neg q];exact r g
 ·by_cases q:g=f
  ·rw[q];exact(ji1 f y fs).1
  ·refine(ji1 f y fs).2 g (wi g λz=>hg ?_)
   show(if g=f then some u else mA g)=none
   rw[if_neg q];exact z
theorem Inv.made(I:Inv X pins σ H s):Inv X pins σ (upd (upd H s.heap.objs.size (.own (s.heap.objs.size+1))) (s.heap.objs.size+1) (.ins C s.heap.objs.size []))
    {s with heap:=(s.heap.push W.emptyDict).push (W.instObj C s.heap.objs.size)}:=by
  have e1:(s.heap.push W.emptyDict).get? s.heap.objs.size=some W.emptyDict:=Heap.get?_push_size s.heap rfl
  have e2:((s.heap.push W.emptyDict).push (W.instObj C s.heap.objs.size)).get? (s.heap.objs.size+1)=some (W.instObj C s.heap.objs.size):=by
    have:=Heap.get?_push_size (s.heap.push W.emptyDict) (o:=W.instObj C s.heap.objs.size) rfl
    rwa [Heap.size_push] at this
  have e3:(s.heap.push W.emptyDict).Ns s.heap.objs.size (λ_=>none):=⟨W.emptyDict,#[],_,e1,rfl,(λe he=>absurd he (by simp)),λ_=>rfl⟩
  have I1:=I.laid (a:=s.heap.objs.size) (o:= .own (s.heap.objs.size+1)) (h':=s.heap.push W.emptyDict) (t':=s.toks) (λb u q=>Heap.get?_push_of_some _ q) (Nat.le_refl _) ⟨_,e1⟩
  refine I1.laid (a:=s.heap.objs.size+1) (o:= .ins C s.heap.objs.size []) (t':=s.toks) (λb u q=>Heap.get?_push_of_some _ q) (Nat.le_of_eq (Heap.size_push _ _)) ?_
  have ne:s.heap.objs.size≠s.heap.objs.size+1:=Nat.ne_of_lt (Nat.lt_succ_self _)
  refine⟨by rw[jae ne,jaz],Nat.zero_le _,ne,e2,λ_=>none,(Heap.Ns1.of_empty e3).at λo q=>Heap.get?_push_of_some _ q,λ_=>True.intro,λy hy=>absurd rfl hy⟩
theorem jy6{prog:Program}{w:World}{env:Env}{e:Expr}{f:Str}{pos:Pos}{s:Shared}{Q:Value->Shared->Prop}(hb:attributeBase e f env (eval e env)=eval e env)
  (h:wpAny (model prog w) A (eval e env) (λo s₁=>wpAny (model prog w) A (getAttr o f true) Q E s₁) E s):wpAny (model prog w) A (eval (.Attribute e f pos) env) Q E s:=
 Attribute_any_ h (by rw[arm_eval_Attribute,hb])
end
def tFld(K:W.Frag)(ta:TE)(f:Str):TE:=λσ H Q=>ta σ H λx H1=>∃a C dx fs v,x= .ref a /\ H1 a=some (.ins C dx fs) /\ Cls K C /\ jcg K C f /\ fs.lookup f=some v /\ Q v H1
def sFld(K:W.Frag)(ta tv:TE)(f:Str):TS:=λD σ H=>tv σ H λy H1=>ta σ H1 λx H2=>∃a C dx fs,x= .ref a /\ H2 a=some (.ins C dx fs) /\ Cls K C /\ jcg K C f /\ fs.length<1000 /\
 D.nx σ (upd H2 a (.ins C dx (putF f y fs)))
section
variable {X : Cx} {o e value : Expr} {f : Str} {pos pos' tpos : Pos} {ta tv : TE}
theorem jb4(he:PE X e ta)(hb:attributeBase e f X.env (eval e X.env)=eval e X.env):PE X (.Attribute e f pos) (tFld X.K ta f):=by
 intro pins s σ H Q I h
 refine jy6 hb (thn (he pins s σ H _ I h) λu s1 ⟨x,H1,I1,rx,a,C,dx,fs,v,ex,ea,c,n,l,q⟩=> ?_)
 subst ex
 obtain rfl:u=Value.ref a:=rx
 exact joi I1 ea c n l λu' s2 I2 ru=>⟨v,H1,I2,ru,q⟩
theorem jd9(ha:PE X o ta)(hv:PE X value tv)(hs:swapsWith value (some (.Attribute o f pos')) pos.line X.env=pure false):PS X (.Assign [.Attribute o f pos'] value pos) (sFld X.K ta tv f):=by
 intro pins s σ H D I h
 refine plainObj_wpAny_Assign_Attribute (thn (hv pins s σ H _ I h) λu s1 ⟨y,H1,I1,ry,q⟩=>thn (ha pins s1 σ H1 _ I1 q) λov s2 ⟨x,H2,I2,rx,a,C,dx,fs,ex,ea,c,n,l,q2⟩=> ?_) hs
 subst ex
 obtain rfl:ov=Value.ref a:=rx
 exact jok I2 ea c n l ry λs3 I3=>⟨σ,_,I3,q2⟩
end
section
variable {X : Cx} {pins : List (Addr × Obj)} {σ : St} {H : Hp} {s : Shared} {A : Around} {E : Value -> Shared -> Prop} {Q : Value -> Shared -> Prop} {c : Value} {b : Bool}
inductive TyOf (K:W.Frag) (H:Hp):V->Value->Prop where
 | non:TyOf K H .non (.type "NoneType")
 | bl (x:Bool):TyOf K H (.bl x) (.type "bool")
 | int (i:Int):TyOf K H (.int i) (.type "int")
 | str (x:Str):TyOf K H (.str x) (.type "str")
 | flt (x:UInt64):TyOf K H (.flt x) (.type "float")
 | lst {a:Addr} {xs:List V} (e:H a=some (.lst xs)):TyOf K H (.ref a) (.type "list")
 | frz {a:Addr} {o:Obj} {xs:List V} (e:H a=some (.frz o (.lst xs))):TyOf K H (.ref a) (.type "list")
 | tup {a:Addr} {xs:List V} (e:H a=some (.tup xs)):TyOf K H (.ref a) (.type "tuple")
 | dK {a:Addr} {kvs:List (Key×V)} (e:H a=some (.dK kvs)):TyOf K H (.ref a) (.type "dict")
 | dT {a:Addr} {kvs:List (List Key×V)} (e:H a=some (.dT kvs)):TyOf K H (.ref a) (.type "dict")
 | ins {a C dx:Addr} {fs:List (Str×V)} (e:H a=some (.ins C dx fs)) (cl:Cls K C) (ha:W.findIn K (.ref C) "__class__"=some (some (.builtin "object.__class__")))
   (hn:W.specialIn K (.builtin "object.__class__") "__get__"=some (some (.builtin "getset_descriptor.__get__"))) (htk:W.takesIn K (.builtin "object.__class__")=some true)
   (hm:W.mroIn K C (.type "object")=some true):TyOf K H (.ref a) (.ref C)
theorem jq8{x:V}{u t:Value}(I:Inv X pins σ H s)(rx:RelV x u)(ty:TyOf X.K H x t)(e:W.kitOne X.K t c=some b)(h:∀tk,Q (.bool b) {s with toks:=tk}):
  wpAny (model X.prog X.w) A (call (.builtin "isinstance") [u,c]) Q E s:=by
 cases ty with
 | non=>cases (show u=Value.none from rx);exact W.kia_one W.kitx_none I.kIn True.intro e (λz=>nomatch z) h
 | bl y=>cases (show u=Value.bool y from rx);exact W.kia_one W.kitx_bool I.kIn True.intro e (λz=>nomatch z) h
 | int i=>obtain⟨t,q⟩:=(show ∃t,u=Value.int i t from rx);cases q;exact W.kia_one W.kitx_int I.kIn True.intro e (λz=>nomatch z) h
 | str y=>obtain⟨t,q⟩:=(show ∃t,u=Value.str y t from rx);cases q;exact W.kia_one W.kitx_str I.kIn True.intro e (λz=>nomatch z) h
 | flt y=>obtain⟨t,q⟩:=(show ∃t,u=Value.float y t from rx);cases q;exact W.kia_one W.kitx_float I.kIn True.intro e (λz=>nomatch z) h
 | @lst a xs ea=>
  cases (show u=Value.ref a from rx)
  obtain⟨_,_,n,_,h1⟩:=(show jc2 X.prog X.w H s.heap a (.lst xs) from I.hok a _ ea)
  exact W.kia_one W.kitx_list I.kIn ⟨_,h1,rfl⟩ e (λz=>nomatch z) h
 | @frz a ob xs ea=>
  cases (show u=Value.ref a from rx)
  obtain⟨_,_,_,n,_,h1⟩:=(show jc2 X.prog X.w H s.heap a (.frz ob (.lst xs)) from I.hok a _ ea)
  exact W.kia_one W.kitx_list I.kIn ⟨_,h1,rfl⟩ e (λz=>nomatch z) h
 | @tup a xs ea=>
  cases (show u=Value.ref a from rx)
  obtain⟨_,_,_,p⟩:=(show jc2 X.prog X.w H s.heap a (.tup xs) from I.hok a _ ea)
  obtain⟨o,h1,h2,_⟩:=p
  exact W.kia_one W.kitx_tuple I.kIn ⟨o,h1,h2⟩ e (λz=>nomatch z) h
 | @dK a kvs ea=>
  cases (show u=Value.ref a from rx)
  obtain⟨_,_,vs,_,p⟩:=(show jc2 X.prog X.w H s.heap a (.dK kvs) from I.hok a _ ea)
  obtain⟨o,es,ep,h1,h2,_⟩:=p
  exact W.kia_one W.kitx_dict I.kIn ⟨o,h1,h2.1⟩ e (λz=>nomatch z) h
 | @dT a kvs ea=>
  cases (show u=Value.ref a from rx)
  obtain⟨_,_,xs,_,o,es,ep,h1,h2,_⟩:=(show jc2 X.prog X.w H s.heap a (.dT kvs) from I.hok a _ ea)
  exact W.kia_one W.kitx_dict I.kIn ⟨o,h1,h2.1⟩ e (λz=>nomatch z) h
 | @ins a C dx fs ea cl ha hn htk hm=>
  cases (show u=Value.ref a from rx)
  obtain⟨mA,O,_⟩:=jje I.hok ea
  obtain⟨od,J,_⟩:=O.look
  exact W.kia_one (W.kitx_own (cl.get _) cl.hd ha hn htk hm) I.kIn J e (λz=>nomatch z) h
end
structure Room (k:Nat) (A:Around):Prop where
 hd:A.handled=none
 dp:A.depth+3*k+5<recursionLimit
 un:A.units+16*k+200<cLine
theorem Room.mono{j k:Nat}{A:Around}(r:Room k A)(h:j<=k):Room j A:=⟨r.hd,by have:=r.dp;omega,by have:=r.un;omega⟩
theorem Room.deeper{k:Nat}{A:Around}(r:Room (k+1) A)(env:Env):Room k (A.deeper env):=
 ⟨r.hd,by have:=r.dp;show A.depth+1+3*k+5<_;omega,by have:=r.un;show A.units+3+16*k+200<_;omega⟩
theorem joo{A:Around}{C:Addr}{us:List Value}{kw:List (Str×Value)}:(A.under (.builtin "type.__call__" ⟨.ref C::us,kw⟩)).depth=A.depth+1:=by
 first | rfl | simp[Around.under,Code.weight,Code.isCreation,Code.isGuard,Code.isCaller,Code.frames,Code.isFrame,guardIds]
theorem jp1{A:Around}{C:Addr}{us:List Value}{kw:List (Str×Value)}:(A.under (.builtin "type.__call__" ⟨.ref C::us,kw⟩)).units=A.units+1:=by
 first | rfl | simp[Around.under,Code.cUnits,Code.frames,Code.isFrame]
theorem Room.make{k:Nat}{A:Around}(r:Room (k+1) A)(C:Addr)(us:List Value)(kw:List (Str×Value)):Room k (A.under (.builtin "type.__call__" ⟨.ref C::us,kw⟩)):=
 ⟨r.hd,by have:=r.dp;rw[joo];omega,by have:=r.un;rw[jp1];omega⟩
theorem Room.depth{k:Nat}{A:Around}(r:Room k A):A.depth<recursionLimit:=by have:=r.dp;omega
theorem Room.units{k:Nat}{A:Around}(r:Room k A):A.units+64<cLine:=by have:=r.un;omega
def tNil:TA:=λ_ H Q=>Q [] H
def jy7(ta:TE)(tr:TA):TA:=λσ H Q=>ta σ H λx H1=>tr σ H1 λxs H2=>Q (x::xs) H2
section
variable {X : Cx} {e : Expr} {es : List Expr} {te : TE} {t : TA} {pos : Pos}
theorem ja6:PA X [] tNil:=λ_ _ _ _ H Q I h=>Calls.spliced_nil ⟨[],H,I,.nil,h⟩
theorem ja0(ha:PE X e te)(hr:PA X es t)(hs:starEach (e::es) X.env=(false,eval e X.env)::starEach es X.env:=by rfl):PA X (e::es) (jy7 te t):=by
 intro pos pins s σ H Q I h
 rw[hs]
 show wpAny _ _ (spliced ((false,eval e X.env)::backTo pos (starEach es X.env))) _ _ s
 refine Calls.spliced_cons (thn (ha pins s σ H _ I h) λu s1 ⟨x,H1,I1,r1,q1⟩=> ?_)
 exact thn (hr pos pins s1 σ H1 _ I1 q1) λus s2 ⟨xs,H2,I2,r2,q2⟩=>⟨x::xs,H2,I2,.cons r1 r2,q2⟩
def tTup(t:TA):TE:=λσ H Q=>t σ H λxs H1=>xs.length<=sizeLine /\ ∀p,H1 p=none->Q (.ref p) (upd H1 p (.tup xs))
def tLst(t:TA):TE:=λσ H Q=>t σ H λxs H1=>xs.length<=sizeLine /\ ∀p,H1 p=none->Q (.ref p) (upd H1 p (.lst xs))
theorem jdw{x1}(h:PA X es t):PE X (.Tuple es x1 pos) (tTup t):=by
 intro pins s σ H Q I hq
 refine wpAny_Tuple_spliced (thn (h pos pins s σ H _ I hq) λus s1 ⟨xs,H1,I1,r,z,q⟩=>⟨by rw[<-r.length];exact z,?_⟩)
 have hf:H1 s1.heap.objs.size=none:=I1.hok.fresh (Nat.le_refl _)
 refine⟨.ref s1.heap.objs.size,upd H1 s1.heap.objs.size (.tup xs),I1.laid (t':=s1.toks) (λb u e=>Heap.get?_push_of_some _ e) (Nat.le_refl _) ?_,rfl,q _ hf⟩
 exact⟨z,us,r,⟨_,Heap.get?_push_size _ rfl,rfl,_,rfl⟩⟩
theorem jbp(h:PA X es t):PE X (.List es pos) (tLst t):=by
 intro pins s σ H Q I hq
 refine wpAny_List_spliced (thn (h pos pins s σ H _ I hq) λus s1 ⟨xs,H1,I1,r,z,q⟩=>⟨by rw[<-r.length];exact z,?_⟩)
 have hf:H1 s1.heap.objs.size=none:=I1.hok.fresh (Nat.le_refl _)
 refine⟨.ref s1.heap.objs.size,upd H1 s1.heap.objs.size (.lst xs),I1.laid (t':=s1.toks) (λb u e=>Heap.get?_push_of_some _ e) (Nat.le_refl _) ?_,rfl,q _ hf⟩
 exact⟨z,us,0,r,Heap.get?_push_size _ rfl⟩
end
abbrev Sp:=List V->Hp->VK->XK->Prop
abbrev CXT:=List Env->Hp->Shared->XK->Value->Shared->Prop
structure Env0 (P:Program) (w:World) (K:W.Frag) (mg:Str->Option Value) (base:Heap) (A:Around) (outer:List Env) (s:Shared) (H:Hp):Prop where
 frames:A.frames=some outer
 mod:Mod K mg base
 bs:∀b o,base.get? b=some o->s.heap.get? b=some o /\ H b=none
 bsz:base.objs.size<=s.heap.objs.size
 funs:s.heap.FunFrames base outer
 frf:∀b∈frs outer,H b=none
 hok:HOk P w H s.heap
 bare:AllBare s.gens
def CE(outer:List Env)(P:Program)(w:World)(H:Hp)(s:Shared)(Q:VK)(u:Value)(s':Shared):Prop:=
 ∃v H',s'.os=s.os /\ AllBare s'.gens /\ Un (frs outer) [] H H' s.heap s'.heap /\ HOk P w H' s'.heap /\ RelV v u /\ Q v H'
def CR(CX:CXT)(outer:List Env)(P:Program)(w:World)(H:Hp)(s:Shared)(Q:VK)(E:XK)(r:Result)(s':Shared):Prop:=
 match r with
 | .ok (.ret u)=>CE outer P w H s Q u s'
 | .ok _=>False
 | .error e=>CX outer H s E e s'
structure FnOk (P:Program) (w:World) (K:W.Frag) (mg:Str->Option Value) (base:Heap) (CX:CXT) (k:Nat) (f:Addr) (fd:FuncData) (ps:List Str) (sp:Sp):Prop where
 len:∀vs H Q E,sp vs H Q E->vs.length=ps.length
 run:∀(A:Around) (outer:List Env) (s:Shared) (H:Hp) (args:Args) (us:List Value) (vs:List V) (Q:VK) (E:XK),Room k A->Env0 P w K mg base A outer s H->BindsTo s fd args (ps.zip us)->Vals vs us->sp vs H Q E->
  codeAny (model P w) A (.call (.ref f) args) (CR CX outer P w H s Q E) s
theorem FnOk.mono{P:Program}{w:World}{K:W.Frag}{mg:Str->Option Value}{base:Heap}{CX:CXT}{j k:Nat}{f:Addr}{fd:FuncData}{ps:List Str}{sp:Sp}(F:FnOk P w K mg base CX j f fd ps sp)(h:j<=k):
  FnOk P w K mg base CX k f fd ps sp:=⟨F.len,λA outer s H args us vs Q E hr=>F.run A outer s H args us vs Q E (hr.mono h)⟩
theorem FnOk.imp{P:Program}{w:World}{K:W.Frag}{mg:Str->Option Value}{base:Heap}{CX:CXT}{k:Nat}{f:Addr}{fd:FuncData}{ps:List Str}{sp sp':Sp}(F:FnOk P w K mg base CX k f fd ps sp)
  (h:∀vs H Q E,sp' vs H Q E->sp vs H Q E):FnOk P w K mg base CX k f fd ps sp':=
 ⟨λvs H Q E q=>F.len vs H Q E (h _ _ _ _ q),λA outer s H args us vs Q E hr he hb hv hs=>F.run A outer s H args us vs Q E hr he hb hv (h _ _ _ _ hs)⟩
theorem Env0.make{P:Program}{w:World}{K:W.Frag}{mg:Str->Option Value}{base:Heap}{A:Around}{outer:List Env}{s:Shared}{H:Hp}(e:Env0 P w K mg base A outer s H)(C:Addr)(us:List Value)(kw:List (Str×Value)):
  Env0 P w K mg base (A.under (.builtin "type.__call__" ⟨.ref C::us,kw⟩)) outer s H:=⟨by first | exact e.frames | (simpa [Around.under,Code.envs,Code.isFrame,pushEnvs] using e.frames),e.mod,e.bs,e.bsz,e.funs,e.frf,e.hok,e.bare⟩
section
variable {X : Cx} {pins : List (Addr × Obj)} {σ : St} {H : Hp} {s s' : Shared}
theorem Inv.env0(I:Inv X pins σ H s):Env0 X.prog X.w X.K X.mg X.base X.A X.stack s H:=
 ⟨I.ok.frames,I.ok.mod,I.bs,Nat.le_trans I.ok.bsz I.sz,I.stack,I.stkFree,I.hok,I.bare⟩
theorem Inv.after{Q:VK}{u:Value}(I:Inv X pins σ H s)(h:CE X.stack X.prog X.w H s Q u s'):EP X pins σ Q u s':=by
 obtain⟨v,H',os,bare,un,hok,r,q⟩:=h
 obtain⟨hh,g,d,t,os'⟩:=s'
 obtain rfl:os'=s.os:=os
 exact⟨v,H',I.call (h':=hh) (g':=g) (d':=d) (t':=t) (ch:=[]) un hok bare (λb z=>absurd z (by simp)),r,q⟩
end
def jx3(sp:Sp)(dvs:List V)(E:XK)(t:TA):TE:=λσ H Q=>t σ H λvs H1=>sp (vs++dvs) H1 Q E
def jum(C:Addr)(sp:Sp)(dvs:List V)(E:XK)(t:TA):TE:=λσ H Q=>t σ H λvs H1=>∀x dx,H1 x=none->H1 dx=none->dx≠x->
 sp (.ref x::(vs++dvs)) (upd (upd H1 dx (.own x)) x (.ins C dx [])) (λv H2=>v= .non /\ Q (.ref x) H2) E
def jfo(K:W.Frag)(fd:FuncData)(ps:List Str)(ds:List Value):Prop:=
 ∀(s:Shared) (us:List Value),K.In s.heap->(us++ds).length=ps.length->BindsTo s fd ⟨us,[]⟩ (ps.zip (us++ds))
theorem jfo.all{K:W.Frag}{fd:FuncData}{ps:List Str}(h:∀us:List Value,us.length=ps.length->bindArgs fd ⟨us,[]⟩=pure (ps.zip us)):jfo K fd ps []:=λs us _ hl=>by
 rw[List.append_nil] at hl ⊢
 exact .of_eq (h us hl)
def jfe(CX:CXT)(X:Cx)(E:XK):Prop:=∀(pins:List (Addr×Obj)) (σ:St) (H:Hp) (s:Shared) (e:Value) (s':Shared),Inv X pins σ H s->CX X.stack H s E e s'->X.xe e s'
section
variable {X : Cx} {CX : CXT} {k : Nat} {f C : Addr} {fd : FuncData} {ps : List Str} {sp : Sp} {dvs : List V} {ds : List Value} {E : XK} {x m : Str} {p pos apos : Pos} {e o : Expr} {es : List Expr} {ta : TE} {t : TA}
theorem jpk{pins:List (Addr×Obj)}{σ:St}{H:Hp}{s:Shared}{Q:VK}{us:List Value}{vs:List V}(F:FnOk X.prog X.w X.K X.mg X.base CX k f fd ps sp)(hr:Room k X.A)(hb:jfo X.K fd ps ds)(hd:Vals dvs ds)(hx:jfe CX X E)
  (I:Inv X pins σ H s) (r:Vals vs us) (h:sp (vs++dvs) H Q E):wpAny (model X.prog X.w) X.A (call (.ref f) us) (EP X pins σ Q) X.xe s:=by
 have r2:Vals (vs++dvs) (us++ds):=r.append hd
 have hl:(us++ds).length=ps.length:=by rw[<-r2.length];exact F.len _ _ _ _ h
 refine wpAny_call (codeAny_mono (F.run X.A X.stack s H ⟨us,[]⟩ (us++ds) (vs++dvs) Q E hr I.env0 (hb s us I.kIn hl) r2 h) λr s' hq=> ?_)
 cases r with
 | error e=>exact hx pins σ H s e s' I hq
 | ok fl=>
  cases fl with
  | ret u=>exact I.after hq
  | next=>exact False.elim hq
  | brk=>exact False.elim hq
  | cont=>exact False.elim hq
theorem jx5(F:FnOk X.prog X.w X.K X.mg X.base CX k f fd ps sp)(hr:Room k X.A)(hg:Gl X x)(hm:X.mg x=some (.ref f))(hk:W.keepIn X.K (.ref f)=true)(hb:jfo X.K fd ps ds)(hd:Vals dvs ds)(hx:jfe CX X E)
  (ha:PA X (e::es) t) (hdb:(x==("__debug__":Str))=false:=by decide) (he:starEach (e::es) X.env=(false,eval e X.env)::starEach es X.env:=by rfl) (hpl:(backTo pos (starEach es X.env)).any (·.1)=false:=by rfl):
  PE X (.Call (.Name x p) (e::es) [] pos) (jx3 sp dvs E t):=by
 intro pins s σ H Q I h
 refine wpAny_Call_Name_kw (jhf I hg hm ?_ hdb)
 refine W.callWith_K (h₀:=X.base) I.ok.mod.kin hk (thn (ha pos pins s σ H _ I h) λus s1 ⟨vs,H1,I1,r,q⟩=>⟨I1.kIn,?_⟩) he hpl
 exact jpk F hr hb hd hx I1 r q
structure Mk (K:W.Frag) (C f:Addr):Prop where
 makes:W.makesIn K C=true
 init:W.findIn K (.ref C) "__init__"=some (some (.ref f))
 fn:W.isFn K (.ref f)=true
 kp:W.keepIn K (.ref C)=true
theorem jun{pins:List (Addr×Obj)}{σ:St}{H:Hp}{s:Shared}{Q:VK}{us:List Value}{vs:List V}(M:Mk X.K C f)(F:FnOk X.prog X.w X.K X.mg X.base CX k f fd ps sp)(hr:Room (k+1) X.A)(hb:jfo X.K fd ps ds)(hd:Vals dvs ds)
  (hx:jfe CX X E) (I:Inv X pins σ H s) (r:Vals vs us)
  (h:∀x dx,H x=none->H dx=none->dx≠x->sp (.ref x::(vs++dvs)) (upd (upd H dx (.own x)) x (.ins C dx [])) (λv H2=>v= .non /\ Q (.ref x) H2) E):
  wpAny (model X.prog X.w) X.A (call (.ref C) us) (EP X pins σ Q) X.xe s:=by
 have hq:=h (s.heap.objs.size+1) s.heap.objs.size (I.hok.fresh (Nat.le_succ _)) (I.hok.fresh (Nat.le_refl _)) (Nat.ne_of_lt (Nat.lt_succ_self _))
 have I2:=Inv.made (C:=C) I
 have r2:Vals (V.ref (s.heap.objs.size+1)::(vs++dvs)) (Value.ref (s.heap.objs.size+1)::(us++ds)):= .cons rfl (r.append hd)
 have hl:(Value.ref (s.heap.objs.size+1)::us++ds).length=ps.length:=by
  have e:=r2.length
  rw[F.len _ _ _ _ hq] at e
  exact e.symm
 refine wpAny_call (jta (f:=f) I.kIn M.makes M.init (beq_iff_eq.mp M.fn) (codeAny_mono (F.run _ X.stack _ _ ⟨Value.ref (s.heap.objs.size+1)::us,[]⟩ (Value.ref (s.heap.objs.size+1)::(us++ds)) _ _ E (hr.make C us [])
  (I2.env0.make C us []) (hb _ (Value.ref (s.heap.objs.size+1)::us) I2.kIn hl) r2 hq) λr s' hq'=> ?_))
 cases r with
 | error e=>exact hx pins σ _ _ e s' I2 hq'
 | ok fl=>
  cases fl with
  | ret u=>
   obtain⟨v,H',I3,rv,ev,q3⟩:=I2.after hq'
   subst ev
   exact⟨rv,⟨V.ref (s.heap.objs.size+1),H',I3,rfl,q3⟩⟩
  | next=>exact False.elim hq'
  | brk=>exact False.elim hq'
  | cont=>exact False.elim hq'
theorem jx0(M:Mk X.K C f)(F:FnOk X.prog X.w X.K X.mg X.base CX k f fd ps sp)(hr:Room (k+1) X.A)(hg:Gl X x)(hm:X.mg x=some (.ref C))(hb:jfo X.K fd ps ds)(hd:Vals dvs ds)(hx:jfe CX X E)
  (ha:PA X (e::es) t) (hdb:(x==("__debug__":Str))=false:=by decide) (he:starEach (e::es) X.env=(false,eval e X.env)::starEach es X.env:=by rfl) (hpl:(backTo pos (starEach es X.env)).any (·.1)=false:=by rfl):
  PE X (.Call (.Name x p) (e::es) [] pos) (jum C sp dvs E t):=by
 intro pins s σ H Q I h
 refine wpAny_Call_Name_kw (jhf I hg hm ?_ hdb)
 refine W.callWith_K (h₀:=X.base) I.ok.mod.kin M.kp (thn (ha pos pins s σ H _ I h) λus s1 ⟨vs,H1,I1,r,q⟩=>⟨I1.kIn,?_⟩) he hpl
 exact jun M F hr hb hd hx I1 r q
end
structure FnScope (N P:List Str) (sc:Scope):Prop where
 kind:sc.kind= .function
 co:sc.isCoroutine=false
 gen:sc.isGenerator=false
 nd:N.Nodup
 pre:N.take P.length=P
 par:∀x∈P,sc.names.lookup x=some .local \/ sc.names.lookup x=some .cell
 nofree:∀y∈sc.names,y.2≠ .free
theorem jk1{kindOf:Str->Option NameKind}{x:Str}:∀{binds:List (Str×Value)} {m:Str->Option Value},(∀v,(x,v)∉binds)->bindL kindOf binds m x=m x
  | [],_,_=>rfl
  | (n,v)::r,m,h=>by
    unfold bindL
    rw[jk1 λw hw=>h w (List.mem_cons_of_mem _ hw)]
    split
    · have:x≠n:=by rintro rfl;exact h v List.mem_cons_self
      simp[this]
    · rfl
theorem jkj{kindOf:Str->Option NameKind}{x:Str}:∀{binds:List (Str×Value)} {m:Str->Option Value},(∀v,(x,v)∉binds)->bindC kindOf binds m x=m x
  | [],_,_=>rfl
  | (n,v)::r,m,h=>by
    unfold bindC
    rw[jkj λw hw=>h w (List.mem_cons_of_mem _ hw)]
    split
    · rfl
    · have:x≠n:=by rintro rfl;exact h v List.mem_cons_self
      simp[this]
theorem jl9{kindOf:Str->Option NameKind}{x:Str}{v:Value}:∀{P:List Str} {vs:List Value} {i:Nat} {m:Str->Option Value},P.Nodup->P[i]?=some x->vs[i]?=some v->kindOf x=some .local->
  bindL kindOf (P.zip vs) m x=some v
 | [],_,_,_,_,h,_,_=>by simp at h
 | _::_,[],_,_,_,_,h,_=>by simp at h
 | p::P,w::vs,0,m,nd,h1,h2,hk=>by
  simp at h1 h2;subst h1;subst h2
  show bindL kindOf ((p,w)::P.zip vs) m p=_
  unfold bindL
  rw[jk1 λv hv=>(List.nodup_cons.mp nd).1 (List.of_mem_zip hv).1,if_pos hk]
  simp
 | p::P,w::vs,i+1,m,nd,h1,h2,hk=>by
  show bindL kindOf ((p,w)::P.zip vs) m x=_
  unfold bindL
  exact jl9 (i:=i) (List.nodup_cons.mp nd).2 (by simpa using h1) (by simpa using h2) hk
theorem jl2{kindOf:Str->Option NameKind}{x:Str}{v:Value}:∀{P:List Str} {vs:List Value} {i:Nat} {m:Str->Option Value},P.Nodup->P[i]?=some x->vs[i]?=some v->kindOf x≠some .local->
  bindC kindOf (P.zip vs) m x=some v
 | [],_,_,_,_,h,_,_=>by simp at h
 | _::_,[],_,_,_,_,h,_=>by simp at h
 | p::P,w::vs,0,m,nd,h1,h2,hk=>by
  simp at h1 h2;subst h1;subst h2
  show bindC kindOf ((p,w)::P.zip vs) m p=_
  unfold bindC
  rw[jkj λv hv=>(List.nodup_cons.mp nd).1 (List.of_mem_zip hv).1,if_neg hk]
  simp
 | p::P,w::vs,i+1,m,nd,h1,h2,hk=>by
  show bindC kindOf ((p,w)::P.zip vs) m x=_
  unfold bindC
  exact jl2 (i:=i) (List.nodup_cons.mp nd).2 (by simpa using h1) (by simpa using h2) hk
def start(N:List Str)(vs:List V):St:=vs.map some++List.replicate (N.length - vs.length) none
def cxOf(CX:CXT)(P:Program)(w:World)(K:W.Frag)(mg:Str->Option Value)(base:Heap)(N:List Str)(qual:Str)(scope:Scope)(f:Addr)(cd:Value)(A:Around)(outer:List Env)(s:Shared)(H:Hp)(E:XK):Cx where
 prog:=P
 w:=w
 K:=K
 mg:=mg
 base:=base
 A:=A.deeper (envOfC qual scope s.heap.objs.size f cd)
 N:=N
 s₀:=s
 H₀:=H
 env:=envOfC qual scope s.heap.objs.size f cd
 outer:=outer
 stack:=envOfC qual scope s.heap.objs.size f cd::outer
 ex:=[]
 calm:=true
 fn:=λ_=>true
 pn:=[]
 xe:=λe s'=>wpAny (model P w) (A.deeper (envOfC qual scope s.heap.objs.size f cd)) (leaving (envOfC qual scope s.heap.objs.size f cd) e) (λ_ s''=>CX outer H s E e s'') (λe' s''=>CX outer H s E e' s'') s'
theorem jnf{sc:Scope}{n:Nat}{x:Str}(h:sc.names.lookup x=some .cell):∃c,(cellsFrom n sc.names []).lookup x=some c:=by
 have q:=W.cellsFrom_some sc.names n [] (.inl h)
 exact Option.isSome_iff_exists.mp q
theorem jsn{CX:CXT}{P:Program}{w:World}{K:W.Frag}{mg:Str->Option Value}{base:Heap}{N ps:List Str}{qual:Str}{scope:Scope}{f:Addr}{cd:Value}{A:Around}{outer:List Env}{s s1:Shared}{H:Hp}{E:XK}{us:List Value}{vs:List V}
  (S:FnScope N ps scope) (hd:A.handled=none) (e0:Env0 P w K mg base A outer s H) (hl:vs.length=ps.length) (r:Vals vs us)
  (x:InCallC s s.heap.objs.size (bindL (envOfC qual scope s.heap.objs.size f cd).kindOf (ps.zip us) λ_=>none) (cellsFrom (s.heap.objs.size+1) scope.names []) (bindC (envOfC qual scope s.heap.objs.size f cd).kindOf (ps.zip us) λ_=>none) s1):
  Inv (cxOf CX P w K mg base N qual scope f cd A outer s H E) [] (start N vs) H s1:=by
 have hpl:ps.length<=N.length:=by have:=congrArg List.length S.pre;rw[List.length_take] at this;omega
 obtain⟨h1,tk,rfl,hk⟩:=x.done
 have noA:∀b:Addr,b∉(cxOf CX P w K mg base N qual scope f cd A outer s H E).ex:=λb z=>absurd (show b∈([]:List Addr) from z) (by simp)
 refine⟨⟨e0.mod,S.kind,rfl,rfl,Nat.le_refl _,λy z c h1 h2=> ?_,λy hy=> ?_,λy c _ h=> ?_,λ_=>hd,Around.frames_deeper e0.frames,.inr ⟨rfl,rfl⟩,λb z=>absurd z (noA b),e0.bs,e0.bsz,λb _ _=>noA b,λb z=>absurd z (noA b),e0.funs,e0.frf⟩,
  rfl,e0.bare,Un.kept hk,⟨_,x.toInCall.ns,λi y v h1 h2 h3=> ?_⟩,λy c h=>⟨_,x.cell y c h⟩,e0.hok.fresh (Nat.le_refl _),λy c h=> ?_,λp hp=>absurd (show p∈([]:List (Addr×Obj)) from hp) (by simp),e0.hok.kept hk,?_⟩
 ·exact name_of_addr x.apart (PySem.mem_of_lookup h1) (PySem.mem_of_lookup h2)
 ·have hy:scope.names.lookup y=some .cell \/ scope.names.lookup y=some .free:=hy
  rcases hy with hy | hy
  ·exact jnf hy
  ·exact absurd rfl (S.nofree _ (PySem.mem_of_lookup hy))
 ·exact Nat.le_of_lt (x.above y c (PySem.mem_of_lookup h))
 ·have hi:i<vs.length:=by
   unfold start at h2
   by_cases hi:i<vs.length
   ·exact hi
   ·rw[List.getElem?_append_right (by simpa using hi)] at h2
    rw[List.getElem?_replicate] at h2
    split at h2<;>cases h2
  have ha:vs[i]?=some v:=by
   unfold start at h2
   rw[List.getElem?_append_left (by simpa using hi),List.getElem?_map] at h2
   cases e:vs[i]? with
   | none=>rw[e] at h2;cases h2
   | some a=>rw[e] at h2;cases h2;rfl
  obtain⟨u,hu,rv⟩:=r.get ha
  have hp:ps[i]?=some y:=by
   rw[<-S.pre,List.getElem?_take_of_lt (by omega)];exact h1
  have ndP:ps.Nodup:=by rw[<-S.pre];exact S.nd.sublist (List.take_sublist _ _)
  refine⟨u,rv,?_⟩
  rcases S.par y (List.mem_of_getElem? hp) with k | k
  ·exact .inl ⟨k,jl9 ndP hp hu k⟩
  ·obtain⟨c,e⟩:=jnf (n:=s.heap.objs.size+1) k
   refine .inr ⟨.inl k,c,e,?_⟩
   have q:=x.cell y c e
   rw[jl2 ndP hp hu (by show scope.names.lookup y≠_;rw[k];decide)] at q
   exact q
 ·exact e0.hok.fresh (Nat.le_of_lt (x.above y c (PySem.mem_of_lookup h)))
 ·unfold start
  show _=N.length
  rw[List.length_append,List.length_map,List.length_replicate]
  omega
theorem fn_of{CX:CXT}{P:Program}{w:World}{K:W.Frag}{mg:Str->Option Value}{base:Heap}{k:Nat}{f:Addr}{name qual:Str}{params:Arguments}{body:List Stmt}{scope:Scope}{dV kV doc pm cdv ct oc:Value}{an od:Option Addr}
  {osl:Array (Option Value)} {N ps:List Str} {sp:Sp} (lk:K.lookup f=some ⟨oc,od,.func (W.fnOf name qual params body scope dV kV doc pm an cdv ct),osl⟩) (hcd:W.codeIn K cdv qual=true) (S:FnScope N ps scope)
  (len:∀vs H Q E,sp vs H Q E->vs.length=ps.length)
  (hbody:∀(A:Around) (outer:List Env) (s:Shared) (H:Hp) (vs:List V) (Q:VK) (E:XK),Room k (A.deeper (envOfC qual scope s.heap.objs.size f cdv))->sp vs H Q E->
   ∃t,PSs (cxOf CX P w K mg base N qual scope f cdv A outer s H E) body t /\ t {nx:=λ_ H'=>Q .non H',rt:=Q} (start N vs) H):
  FnOk P w K mg base CX (k+1) f (W.fnOf name qual params body scope dV kV doc pm an cdv ct) ps sp:=by
 refine⟨len,λA outer s H args us vs Q E hr e0 hb r hsp=> ?_⟩
 have hl:=len _ _ _ _ hsp
 have KX:K.In s.heap:=e0.mod.kin.keeps λb o e=>(e0.bs b o e).1
 have lim:s.heap.NoLimit:=e0.mod.nolimit.keeps λb o e=>(e0.bs b o e).1
 have hkind:∀y∈ps.zip us,scope.names.lookup y.1=some .local \/ (scope.names.lookup y.1=some .cell /\ ((cellsFrom (s.heap.objs.size+1) scope.names []).lookup y.1).isSome=true):=λ⟨n,v⟩ hy=>by
  rcases S.par n (List.of_mem_zip hy).1 with q | q
  ·exact .inl q
  ·exact .inr ⟨q,W.cellsFrom_some _ _ _ (.inl q)⟩
 refine codeAny_call_function hr.depth (KX _ _ lk) rfl S.co S.gen rfl (W.codeRec_of KX hcd) (hb _ _ _ _ ?_)
 refine wpAny_newFunctionEnv_cells S.kind hkind λenv he s1 x=> ?_
 subst he
 refine⟨lim.keeps x.toInCall.keep,codeAny_func ?_⟩
 obtain⟨t,ht,hq⟩:=hbody A outer s H vs Q E (hr.deeper _) hsp
 have I:Inv (cxOf CX P w K mg base N qual scope f cdv A outer s H E) [] (start N vs) H s1:=jsn S hr.hd e0 hl r x
 refine wpAny_mono (ht [] s1 (start N vs) H _ I hq) (λfl s' hs=> ?_) λe s' hs=>hs
 have fin:∀{σ':St} {H':Hp} {v:V} {u:Value},Inv (cxOf CX P w K mg base N qual scope f cdv A outer s H E) [] σ' H' s'->RelV v u->Q v H'->CE outer P w H s Q u s':=
  fun{σ' H' v u} J rv q=>⟨v,H',J.os,J.bare,J.base,J.hok,rv,q⟩
 cases fl with
 | ret u=>
  obtain⟨v,σ',H',J,rv,q⟩:=hs
  exact fin J rv q
 | next=>
  obtain⟨σ',H',J,q⟩:=hs
  exact fin (v:=V.non) (u:=Value.none) J rfl q
 | brk=>
  obtain⟨_,_,_,q⟩:=hs
  exact False.elim q
 | cont=>
  obtain⟨_,_,_,q⟩:=hs
  exact False.elim q
section
variable {X : Cx} {x : Str} {p pos : Pos} {e : Expr} {es : List Expr} {t : TA} {id T : String} {r : List V -> Hp -> VK -> Prop}
def tCB(r:List V->Hp->VK->Prop)(t:TA):TE:=λσ H Q=>t σ H λvs H1=>r vs H1 Q
theorem jay(hc:jdi X (.builtin id) r)(hg:Gl X x)(hm:X.mg x=none)(hv:bootBuiltins x=some (.builtin id))(ha:PA X (e::es) t)(hn:x≠"__name__":=by decide)(hdb:(x==("__debug__":Str))=false:=by decide)
  (he:starEach (e::es) X.env=(false,eval e X.env)::starEach es X.env:=by rfl) (hpl:(backTo pos (starEach es X.env)).any (·.1)=false:=by rfl):PE X (.Call (.Name x p) (e::es) [] pos) (tCB r t):=by
 intro pins s σ H Q I h
 refine wpAny_Call_Name_kw (jkb I hg hm hv ?_ hn hdb)
 exact PyProof.Rows.callWith_builtin1 (thn (ha pos pins s σ H _ I h) λus s1 ⟨vs,H1,I1,r1,q1⟩=>hc pins s1 σ H1 vs us Q I1 r1 q1) he hpl
theorem jct(hc:jdi X (.type T) r)(hg:Gl X x)(hm:X.mg x=none)(hv:bootBuiltins x=some (.type T))(ha:PA X (e::es) t)(hn:x≠"__name__":=by decide)(hdb:(x==("__debug__":Str))=false:=by decide)
  (he:starEach (e::es) X.env=(false,eval e X.env)::starEach es X.env:=by rfl) (hpl:(backTo pos (starEach es X.env)).any (·.1)=false:=by rfl):PE X (.Call (.Name x p) (e::es) [] pos) (tCB r t):=by
 intro pins s σ H Q I h
 refine wpAny_Call_Name_kw (jkb I hg hm hv ?_ hn hdb)
 exact PyProof.Rows.callWith_type1 (thn (ha pos pins s σ H _ I h) λus s1 ⟨vs,H1,I1,r1,q1⟩=>hc pins s1 σ H1 vs us Q I1 r1 q1) he hpl
end
end L2
namespace HT
open PySem PyProof.Rows
section
variable {prog : Program} {w : World} {A : Around} {E : Value -> Shared -> Prop} {s : Shared}
theorem jxr{t b:Addr}{vs ws:List Value}{Q:Value->Shared->Prop}(ht:IsTup s.heap t vs.toArray)(hb:IsTup s.heap b ws.toArray)(hv:vs≠[])
  (h1:ws=[]->Q (.ref t) s) (h2:ws≠[]->Q (.ref s.heap.objs.size) {s with heap:=s.heap.push {cls:= .type "tuple",data:= .seq (vs++ws).toArray}})
  (hsz:vs.length+ws.length<=sizeLine):wpAny (model prog w) A (binaryOp .Add (.ref t) (.ref b)) Q E s:=by
 obtain⟨⟨cls,dd,data,sl⟩,ho,hc,n,hd⟩:=id ht
 obtain⟨⟨cls2,dd2,data2,sl2⟩,ho2,hc2,n2,hd2⟩:=id hb
 simp only at hc hd hc2 hd2
 subst hc hd hc2 hd2
 have e:vs.toArray++ws.toArray=(vs++ws).toArray:=by simp
 by_cases hw:ws=[]
 ·exact concat_meets ⟨_,ho,rfl⟩ ⟨_,ho2,rfl⟩ noFill_tuple_add seq_tuple_add PySem.F.slot_tuple_add PySem.F.entry_tuple_add (PySem.F.args_tuple_add_2 _ _)
   (tuple_addW1 t b vs.toArray ws.toArray n n2 dd dd2 sl sl2 (by simpa using hv) (by simp[hw])) ⟨ho,ho2,h1 hw⟩
 ·refine concat_meets ⟨_,ho,rfl⟩ ⟨_,ho2,rfl⟩ noFill_tuple_add seq_tuple_add PySem.F.slot_tuple_add PySem.F.entry_tuple_add (PySem.F.args_tuple_add_2 _ _)
   (tuple_addW2 t b vs.toArray ws.toArray n n2 dd dd2 sl sl2 (by simpa using hv) (by simpa using hw) (by rw[List.size_toArray,List.size_toArray];exact hsz)) ⟨ho,ho2,?_⟩
  rw[e]
  exact h2 hw
def sIx(n d:Nat):Option Int->Nat
 | none=>d
 | some v=>if v<0 then(v+(n:Int)).toNat else min v.toNat n
theorem sIx_le(n d:Nat)(hd:d<=n)(o:Option Int):sIx n d o<=n:=by
 cases o with
 | none=>exact hd
 | some v=>
  show(if v<0 then(v+(n:Int)).toNat else min v.toNat n)<=n
  by_cases hv:v<0
  ·rw[if_pos hv];omega
  ·rw[if_neg hv];exact Nat.min_le_right _ _
theorem jq1(v:Int)(n d:Nat):(if v<0 then max (v+(n:Int)) 0 else min v (n:Int))=((sIx n d (some v):Nat):Int):=by
 show(if v<0 then max (v+(n:Int)) 0 else min v (n:Int))=(((if v<0 then(v+(n:Int)).toNat else min v.toNat n):Nat):Int)
 by_cases hv:v<0
 ·simp only[if_pos hv];omega
 ·simp only[if_neg hv];omega
theorem joq(lo hi:Option Int)(n:Nat):Builtin.Slice.sliceAdjust lo hi 1 (n:Int)=(((sIx n 0 lo:Nat):Int),((sIx n n hi:Nat):Int)):=by
 have h1:¬((1:Int)<0):=by omega
 unfold Builtin.Slice.sliceAdjust
 simp only[h1,if_false]
 refine Prod.ext ?_ ?_
 ·cases lo with
  | none=>rfl
  | some v=>exact jq1 v n 0
 ·cases hi with
  | none=>rfl
  | some v=>exact jq1 v n n
theorem jp0(i j:Nat):Builtin.Slice.slicePlaces (i:Int) (j:Int) 1=j - i:=by
 unfold Builtin.Slice.slicePlaces
 have h1:(1:Int)>0:=by omega
 simp only[h1,if_true,Int.ediv_one]
 split<;>omega
theorem jim{v:Value}{o:Option Int}{Q:Option Int->Shared->Prop}(p:IsPart v o)(h:Q o s):wpAny (model prog w) A (Builtin.Slice.slicePartIndex v) Q E s:=by
 cases p with
 | none=>exact slicePart_none h
 | int i t=>exact slicePart_int h
theorem jgu{sl:Addr}{vl vu:Value}{lo hi:Option Int}{n:Nat}{Q:Int×Int×Nat->Shared->Prop}(hs:s.heap.IsSliceOf sl vl vu .none)(pl:IsPart vl lo)(pu:IsPart vu hi)
  (h:Q (((sIx n 0 lo:Nat):Int),1,sIx n n hi - sIx n 0 lo) s):wpAny (model prog w) A (Builtin.Slice.sliceApplied (.ref sl) (pure (n:Int))) Q E s:=by
 obtain⟨os,hos,hcs,hds⟩:=id hs
 unfold Builtin.Slice.sliceApplied Builtin.Slice.sliceFields
 refine wpAny_bind (wpAny_bind (wpAny_field hos hds (x:=vl) rfl (wpAny_bind (wpAny_field hos hds (x:=vu) rfl (wpAny_bind (wpAny_field hos hds (x:= .none) rfl (wpAny_pure ?_)))))))
 refine wpAny_bind (slicePart_none ?_)
 show wpAny _ _ (if((1:Int)==0)=true then _ else _) _ _ s
 rw[if_neg (by decide)]
 refine wpAny_bind (jim pl (wpAny_bind (jim pu (wpAny_bind (wpAny_pure ?_)))))
 show wpAny _ _ (match Builtin.Slice.sliceAdjust lo hi 1 (n:Int) with | (lo,hi)=>pure (lo,(1:Int),Builtin.Slice.slicePlaces lo hi 1)) _ _ s
 rw[joq lo hi n]
 show wpAny _ _ (pure (((sIx n 0 lo:Nat):Int),(1:Int),Builtin.Slice.slicePlaces ((sIx n 0 lo:Nat):Int) ((sIx n n hi:Nat):Int) 1)) _ _ s
 rw[jp0]
 exact wpAny_pure h
theorem jv5(xs:Array Value)(i k:Nat):((List.range k).filterMap λ(m:Nat)=>xs[((i:Int)+(m:Int)*1).toNat]?).toArray=((xs.toList.drop i).take k).toArray:=by
 have e:(λ(m:Nat)=>xs[((i:Int)+(m:Int)*1).toNat]?)=λm=>xs[i+m]?:=by
  funext m
  have:((i:Int)+(m:Int)*1).toNat=i+m:=by omega
  rw[this]
 rw[e]
 have:=pick_run xs i k
 rw[List.filterMap_map] at this
 have e2:((λx=>xs[x]?)∘λx=>i+x)=λm=>xs[i+m]?:=rfl
 rw[e2] at this
 rw[this]
theorem jgd{t sl:Addr}{items:Array Value}{vl vu:Value}{lo hi:Option Int}{Q:Value->Shared->Prop}(ht:IsTup s.heap t items)(hs:s.heap.IsSliceOf sl vl vu .none)(pl:IsPart vl lo)(pu:IsPart vu hi)
  (hw:¬(sIx items.size 0 lo=0 /\ sIx items.size items.size hi=items.size))
  (h:Q (.ref s.heap.objs.size) {s with heap:=s.heap.push {cls:= .type "tuple",data:= .seq ((items.toList.drop (sIx items.size 0 lo)).take (sIx items.size items.size hi - sIx items.size 0 lo)).toArray}})
  (hsz:items.size<=sizeLine):wpAny (model prog w) A (getItem (.ref t) (.ref sl)) Q E s:=by
 have htake:sizeOk (.seq ((items.toList.drop (sIx items.size 0 lo)).take (sIx items.size items.size hi - sIx items.size 0 lo)).toArray):=by
  show((items.toList.drop (sIx items.size 0 lo)).take (sIx items.size items.size hi - sIx items.size 0 lo)).toArray.size<=sizeLine
  rw[List.size_toArray,List.length_take,List.length_drop,Array.length_toList]
  omega
 have hj:sIx items.size items.size hi<=items.size:=sIx_le _ _ (Nat.le_refl _) hi
 obtain⟨os,hos,hcs,hds⟩:=id hs
 have hTs:s.TypeIs (.ref sl) "slice":=⟨os,hos,hcs⟩
 unfold getItem
 try with_reducible refine wpAny_holding ?_
 first | refine wpAny_bind (wpAny_pure ?_) | skip
 refine wpAny_bind (wpAny_sequenceKey ht.typeIs (by decide) ?_)
 refine wpAny_bind (wpAny_callSpecial?_slot (name:=Str.ofString "__getitem__") ht.typeIs PyProof.Rows.slot_tuple_getitem
  (wpAny_call_entry PyProof.Rows.slot_tuple_getitem ht.typeIs entry_tuple_getitem ?_ (args_tuple_getitem _ _)))
 show wpAny _ _ (Builtin.Tuple.tupleItemsOf (.ref t) >>= _) _ _ s
 refine wpAny_bind (tupleItemsOf_ ht ?_)
 refine wpAny_bind (wpAny_typeOf hTs ?_)
 rw[if_pos (by decide)]
 refine wpAny_bind (jgu hs pl pu ?_)
 have hno:¬((((sIx items.size 0 lo:Nat):Int)==0&&(1:Int)==1&&(sIx items.size items.size hi - sIx items.size 0 lo)==items.size)=true):=by
  intro q
  rw[Bool.and_eq_true,Bool.and_eq_true] at q
  have q1:((sIx items.size 0 lo:Nat):Int)=0:=eq_of_beq q.1.1
  have q2:sIx items.size items.size hi - sIx items.size 0 lo=items.size:=eq_of_beq q.2
  exact hw ⟨by omega,by omega⟩
 show wpAny _ _ (if(((sIx items.size 0 lo:Nat):Int)==0&&(1:Int)==1&&(sIx items.size items.size hi - sIx items.size 0 lo)==items.size)=true then _ else _) _ _ s
 rw[if_neg hno,jv5]
 first
  | exact wpAny_bind (m:=Builtin.Tuple.tupleExact _) (wpAny_newObj_type (wpAny_pure ⟨_,rfl,wpAny_pure h⟩) htake)
  | exact wpAny_bind (m:=Builtin.Tuple.tupleExact _) (wpAny_newObj_type (wpAny_bind (wpAny_pure (wpAny_pure ⟨_,rfl,wpAny_pure h⟩))) htake)
  | exact wpAny_bind (wpAny_bind (m:=Builtin.Tuple.tupleExact _) (wpAny_newObj_type (wpAny_pure (wpAny_pure ⟨_,rfl,wpAny_pure h⟩)) htake))
  | exact wpAny_bind (wpAny_bind (m:=Builtin.Tuple.tupleExact _) (wpAny_newObj_type (wpAny_pure ⟨_,rfl,wpAny_pure h⟩) htake))
end
end HT
namespace L2
open PySem PySem.Spec PyProof.Rows
abbrev TO:=St->Hp->(Option Int->Hp->Prop)->Prop
def PO(X:Cx)(e:Option Expr)(t:TO):Prop:=
 ∀(pins:List (Addr×Obj)) (s:Shared) (σ:St) (H:Hp) (Q:Option Int->Hp->Prop),Inv X pins σ H s->t σ H Q->
  wpAny (model X.prog X.w) X.A (evalPart e X.env) (λu s'=>∃o H',Inv X pins σ H' s' /\ IsPart u o /\ Q o H') X.xe s
def jpr:TO:=λ_ H Q=>Q none H
def tPart(t:TE):TO:=λσ H Q=>t σ H λx H1=>∃i,x= .int i /\ Q (some i) H1
theorem jp7{ns:List Int}:∀{us:List Value},Vals (ns.map V.int) us->IntsAre us ns:=by
 induction ns with
 | nil=>intro us r;rw[List.map_nil] at r;cases r;exact .nil
 | cons n ns ih=>
  intro us r
  rw[List.map_cons] at r
  cases r with
  | cons r1 r2=>
   obtain⟨t,e⟩:=r1
   subst e
   exact .cons n t (ih r2)
section
variable {X : Cx} {e : Expr} {te : TE} {lo hi : Option Expr} {tl th : TO} {pos p2 : Pos}
theorem jxb:PO X none jpr:=by
 intro pins s σ H Q I h
 rw[evalPart_none]
 exact wpAny_pure ⟨none,H,I,.none,h⟩
theorem jju(h:PE X e te):PO X (some e) (tPart te):=by
 intro pins s σ H Q I hw
 rw[evalPart_some]
 refine thn (h pins s σ H _ I hw) λu s1 ⟨x,H1,I1,r1,q1⟩=> ?_
 obtain⟨i,rfl,q⟩:=q1
 obtain⟨t,rfl⟩:=r1
 exact⟨some i,H1,I1,.int i t,q⟩
def SlR(X:Cx)(r:V->Option Int->Option Int->Hp->VK->Prop):Prop:=
 ∀(pins:List (Addr×Obj)) (s:Shared) (σ:St) (H:Hp) (x:V) (v vl vu:Value) (lo hi:Option Int) (sl:Addr) (Q:VK),Inv X pins σ H s->RelV x v->s.heap.IsSliceOf sl vl vu .none->IsPart vl lo->IsPart vu hi->r x lo hi H Q->
  ∃T id,typeLookup (.type T) "__getitem__"=pure (some (.builtin id)) /\ s.TypeIs v T /\ wpAny (model X.prog X.w) X.A (getItem v (.ref sl)) (EP X pins σ Q) X.xe s
theorem SlR.or{r r':V->Option Int->Option Int->Hp->VK->Prop}(h:SlR X r)(h':SlR X r'):SlR X (λx lo hi H Q=>r x lo hi H Q \/ r' x lo hi H Q):=by
 intro pins s σ H x v vl vu lo hi sl Q I rx hs pl pu q
 rcases q with q | q
 ·exact h pins s σ H x v vl vu lo hi sl Q I rx hs pl pu q
 ·exact h' pins s σ H x v vl vu lo hi sl Q I rx hs pl pu q
def tSl(r:V->Option Int->Option Int->Hp->VK->Prop)(te:TE)(tl th:TO):TE:=λσ H Q=>te σ H λx H1=>tl σ H1 λl H2=>th σ H2 λu H3=>r x l u H3 Q
theorem juw{r:V->Option Int->Option Int->Hp->VK->Prop}(hr:SlR X r)(he:PE X e te)(hl:PO X lo tl)(hu:PO X hi th):PE X (.Subscript e (.Slice lo hi none p2) pos) (tSl r te tl th):=by
 intro pins s σ H Q I h
 refine Subscript_ (thn (he pins s σ H _ I h) λv s1 ⟨x,H1,I1,r1,q1⟩=> ?_)
 refine wpAny_Slice (thn (hl pins s1 σ H1 _ I1 q1) λvl s2 ⟨l,H2,I2,pl,q2⟩=>thn (hu pins s2 σ H2 _ I2 q2) λvu s3 ⟨u,H3,I3,pu,q3⟩=> ?_)
 rw[evalPart_none]
 refine wpAny_pure ?_
 have I4:Inv X pins σ H3 {s3 with heap:=s3.heap.push {cls:= .type "slice",data:= .fields #[vl,vu,.none]}}:=I3.kept (t':=s3.toks) λb ob q=>Heap.get?_push_of_some _ q
 obtain⟨T,id,hT,ht,hg⟩:=hr pins {s3 with heap:=s3.heap.push {cls:= .type "slice",data:= .fields #[vl,vu,.none]}} σ H3 x v vl vu l u s3.heap.objs.size Q I4 r1 (Heap.IsSliceOf.new ..) pl pu q3
 show wpAny (model X.prog X.w) X.A (subscriptTail e (.Slice lo hi none p2) v (.ref s3.heap.objs.size)) (EP X pins σ Q) X.xe {s3 with heap:=s3.heap.push {cls:= .type "slice",data:= .fields #[vl,vu,.none]}}
 exact tail_any (ops:=[.ref s3.heap.objs.size,v]) ht hT hg (by with_unfolding_all rfl)
def cutV(xs:List V)(lo hi:Option Int):List V:=(xs.drop (HT.sIx xs.length 0 lo)).take (HT.sIx xs.length xs.length hi - HT.sIx xs.length 0 lo)
theorem jhr(xs:List V)(lo hi:Option Int):(cutV xs lo hi).length<=xs.length:=by
 unfold cutV
 rw[List.length_take,List.length_drop]
 omega
def rSlT(K:W.Frag):V->Option Int->Option Int->Hp->VK->Prop:=λx lo hi H Q=>∃a xs,x= .ref a /\ SqT K H a xs /\
 ¬(HT.sIx xs.length 0 lo=0 /\ HT.sIx xs.length xs.length hi=xs.length) /\ ∀p,H p=none->Q (.ref p) (upd H p (.tup (cutV xs lo hi)))
theorem sl_tup:SlR X (rSlT X.K):=by
 intro pins s σ H x v vl vu lo hi sl Q I rx hs pl pu h
 obtain⟨a,xs,rfl,hx,hw,q⟩:=h
 cases rx
 obtain⟨its,r,ht,hz⟩:=I.tuple hx
 have hlen:its.toArray.size=xs.length:=by rw[List.size_toArray];exact r.length.symm
 refine⟨"tuple",_,PyProof.Rows.slot_tuple_getitem.lookup,ht.typeIs,?_⟩
 refine HT.jgd ht hs pl pu (by rw[hlen];exact hw) ?_ (by rw[hlen];exact hz)
 rw[hlen]
 refine⟨.ref s.heap.objs.size,_,I.laid (t':=s.toks) (o:= .tup (cutV xs lo hi)) (λb ob q=>Heap.get?_push_of_some _ q) (Nat.le_refl _) ?_,rfl,q _ (I.hok.fresh (Nat.le_refl _))⟩
 exact⟨Nat.le_trans (jhr xs lo hi) hz,_,(r.drop (HT.sIx xs.length 0 lo)).take (HT.sIx xs.length xs.length hi - HT.sIx xs.length 0 lo),IsTup.new _ _⟩
def rCatT(K:W.Frag):R2:=λx y H Q=>∃a b xs ys,x= .ref a /\ y= .ref b /\ SqT K H a xs /\ SqT K H b ys /\ xs≠[] /\ xs.length+ys.length<=sizeLine /\
 (ys=[]->Q (.ref a) H) /\ (ys≠[]->∀p,H p=none->Q (.ref p) (upd H p (.tup (xs++ys))))
theorem Vals.nil_iff{xs:List V}{us:List Value}(r:Vals xs us):us=[]↔xs=[]:=by
 cases r with
 | nil=>simp
 | cons _ _=>simp
theorem jyq:OpR X (binaryOp .Add) (rCatT X.K):=by
 intro pins s σ H x y v u Q I rx ry h
 obtain⟨a,b,xs,ys,rfl,rfl,ha,hb,hx,hz,q1,q2⟩:=h
 cases rx
 cases ry
 obtain⟨its,r1,p1,_⟩:=I.tuple ha
 obtain⟨its2,r2,p2,_⟩:=I.tuple hb
 refine HT.jxr p1 p2 (λz=>hx (r1.nil_iff.mp z)) (λz=>⟨.ref a,H,I,rfl,q1 (r2.nil_iff.mp z)⟩) (λz=> ?_) (by rw[<-r1.length,<-r2.length];exact hz)
 refine⟨.ref s.heap.objs.size,_,I.laid (t':=s.toks) (o:= .tup (xs++ys)) (λb ob q=>Heap.get?_push_of_some _ q) (Nat.le_refl _) ?_,rfl,q2 (λw=>z (r2.nil_iff.mpr w)) _ (I.hok.fresh (Nat.le_refl _))⟩
 exact⟨by rw[List.length_append];exact hz,_,r1.append r2,IsTup.new _ _⟩
end
def ixN(n:Nat)(i:Int):Option Nat:=if 0<=i then(if i<n then some i.toNat else none) else if -(n:Int)<=i then some (i+n).toNat else none
def atI{α:Type}(xs:List α)(i:Int):Option α:=(ixN xs.length i).bind λj=>xs[j]?
theorem jpb{n:Nat}{i:Int}{j:Nat}(h:ixN n i=some j):seqIndex? i n=some j /\ j<n /\ -(n:Int)<=i /\ i<n:=by
 unfold ixN at h
 by_cases h0:0<=i
 ·rw[if_pos h0] at h
  by_cases h1:i<n
  ·rw[if_pos h1] at h
   have e:i.toNat=j:=Option.some.inj h
   exact⟨by rw[seqIndex_of h0 h1,e],by omega,by omega,h1⟩
  ·rw[if_neg h1] at h;cases h
 ·rw[if_neg h0] at h
  by_cases h1: -(n:Int)<=i
  ·rw[if_pos h1] at h
   have e:(i+n).toNat=j:=Option.some.inj h
   exact⟨by rw[seqIndex_neg (by omega) h1,e],by omega,h1,by omega⟩
  ·rw[if_neg h1] at h;cases h
theorem jml{α:Type}{xs:List α}{i:Int}{v:α}(h:atI xs i=some v):∃j,seqIndex? i xs.length=some j /\ xs[j]?=some v /\ j<xs.length /\ -(xs.length:Int)<=i /\ i<xs.length:=by
 unfold atI at h
 cases e:ixN xs.length i with
 | none=>rw[e] at h;cases h
 | some j=>
  rw[e] at h
  obtain⟨h1,h2,h3,h4⟩:=jpb e
  exact⟨j,h1,h,h2,h3,h4⟩
def jr5(b:Expr):Prop:=∀o i,subscripted b false o i=operate [o,i] (getItem o i)
def IxR(X:Cx)(r:R2):Prop:=
 ∀(value slice:Expr) (pins:List (Addr×Obj)) (s:Shared) (σ:St) (H:Hp) (x y:V) (v u:Value) (Q:VK),Inv X pins σ H s->RelV x v->RelV y u->r x y H Q->
  subscripted slice false v u=operate [v,u] (getItem v u)->wpAny (model X.prog X.w) X.A (subscriptTail value slice v u) (EP X pins σ Q) X.xe s
def MtR(X:Cx)(id:String)(r:V->List V->Hp->VK->Prop):Prop:=
 ∀(pins:List (Addr×Obj)) (s:Shared) (σ:St) (H:Hp) (x:V) (xs:List V) (v:Value) (us:List Value) (Q:VK),Inv X pins σ H s->RelV x v->Vals xs us->r x xs H Q->
  wpAny (model X.prog X.w) X.A (call (.builtin id) (v::us)) (EP X pins σ Q) X.xe s
section
variable {X : Cx} {a b : Expr} {ta tb : TE} {pos : Pos}
theorem IxR.or{r r':R2}(h:IxR X r)(h':IxR X r'):IxR X (λx y H Q=>r x y H Q \/ r' x y H Q):=by
 intro value slice pins s σ H x y v u Q I rx ry q hs
 rcases q with q | q
 ·exact h value slice pins s σ H x y v u Q I rx ry q hs
 ·exact h' value slice pins s σ H x y v u Q I rx ry q hs
theorem pe_ix{r:R2}(hr:IxR X r)(ha:PE X a ta)(hb:PE X b tb)(hs:jr5 b):PE X (.Subscript a b pos) (tOp r ta tb):=by
 intro pins s σ H Q I h
 exact Subscript_ (binT ha hb I h λv u s2 x y H2 I2 rx ry q=>hr a b pins s2 σ H2 x y v u Q I2 rx ry q (hs _ _))
def rIxL(K:W.Frag):R2:=λx y H Q=>∃p xs i v,x= .ref p /\ y= .int i /\ SqL K H p xs /\ atI xs i=some v /\ Q v H
def rIxT(K:W.Frag):R2:=λx y H Q=>∃p xs i v,x= .ref p /\ y= .int i /\ SqT K H p xs /\ atI xs i=some v /\ Q v H
def rIxS:R2:=λx y H Q=>∃z i c,x= .str z /\ y= .int i /\ z.length<=sizeLine /\ atI z.cps.toList i=some c /\ Q (.str ⟨#[c]⟩) H
theorem jx9:IxR X (rIxL X.K):=by
 intro value slice pins s σ H x y v u Q I rx ry h hs
 obtain⟨p,xs,i,z,rfl,rfl,hq,he,q⟩:=h
 cases rx
 obtain⟨t,rfl⟩:=ry
 obtain⟨its,r,pl,hz⟩:=I.list hq
 obtain⟨j,h1,h2,h3,h4,h5⟩:=jml he
 obtain⟨w,ew,rw'⟩:=r.get h2
 have hl:=r.length
 have hn:=jhu
 have fin:EP X pins σ Q w s:=⟨z,H,I,rw',q⟩
 by_cases h0:0<=i
 ·have hj:i.toNat=j:=by
   rw[seqIndex_of h0 h5] at h1
   exact Option.some.inj h1
  exact item_listR pl.isList h0 (by omega) (by rw[hj];simpa using ew) fin hs
 ·have hj:(i+(its.toArray.size:Int)).toNat=j:=by
   rw[seqIndex_neg (by omega) h4] at h1
   rw[List.size_toArray,<-hl]
   exact Option.some.inj h1
  exact subscriptTail_builtinR (x:=w) pl.isList.typeIs slot_list_getitem.lookup
   (wpAny_getItem_list_neg (Q:=λr s'=>r=w /\ EP X pins σ Q r s') pl.isList (by omega) (by rw[List.size_toArray]<;>omega) (by omega) (by rw[hj];simpa using ew) ⟨rfl,fin⟩) hs
theorem ix_tup:IxR X (rIxT X.K):=by
 intro value slice pins s σ H x y v u Q I rx ry h hs
 obtain⟨p,xs,i,z,rfl,rfl,hq,he,q⟩:=h
 cases rx
 obtain⟨t,rfl⟩:=ry
 obtain⟨its,r,pl,hz⟩:=I.tuple hq
 obtain⟨j,h1,h2,h3,h4,h5⟩:=jml he
 obtain⟨w,ew,rw'⟩:=r.get h2
 have hl:=r.length
 have hn:=jhu
 have fin:EP X pins σ Q w s:=⟨z,H,I,rw',q⟩
 exact subscriptTail_builtinR (x:=w) pl.typeIs slot_tuple_getitem.lookup
  (getItem_tuple (j:=j) (Q:=λr s'=>r=w /\ EP X pins σ Q r s') pl (by omega) (by omega) (by rw[List.size_toArray,<-hl];exact h1) (by simpa using ew) ⟨rfl,fin⟩) hs
theorem ix_str:IxR X rIxS:=by
 intro value slice pins s σ H x y v u Q I rx ry h hs
 obtain⟨z,i,c,rfl,rfl,hz,he,q⟩:=h
 obtain⟨t,rfl⟩:=rx
 obtain⟨t',rfl⟩:=ry
 obtain⟨j,h1,h2,h3,h4,h5⟩:=jml he
 have hl:z.cps.toList.length=z.length:=by simp[Str.length]
 rw[hl] at h1 h4 h5
 have hn:=jhu
 exact tail_any (typeIs_str s z t) slot_str_getitem.lookup (getItem_str (c:=c) (by
  have e1:decide (i< -(2^63:Int))=false:=decide_eq_false (by omega)
  have e2:decide (i>=2^63)=false:=decide_eq_false (by omega)
  rw[e1,e2,Bool.or_false]) (by rw[h1];simpa using h2) ⟨.str ⟨#[c]⟩,H,I.tok _,⟨_,rfl⟩,q⟩) hs
def rIx(K:W.Frag):R2:=λx y H Q=>rIxL K x y H Q \/ rIxT K x y H Q \/ rIxS x y H Q
theorem ix_seq:IxR X (rIx X.K):=jx9.or (ix_tup.or ix_str)
theorem jow(its:List Value)(n j:Nat)(u:Value):Obj.mapSeq (·.setIfInBounds j u) {cls:= .type "list",data:= .seq its.toArray n}={cls:= .type "list",data:= .seq (its.set j u).toArray n}:=by
 simp[Obj.mapSeq]
theorem Inv.lst{pins:List (Addr×Obj)}{σ:St}{H:Hp}{s:Shared}{p:Addr}{xs:List V}(I:Inv X pins σ H s)(h:H p=some (.lst xs)):
  ∃(its:List Value) (n:Nat),Vals xs its /\ s.heap.get? p=some {cls:= .type "list",data:= .seq its.toArray n} /\ xs.length<=sizeLine:=by
 obtain⟨z,its,n,r,e⟩:=I.hok p _ h
 exact⟨its,n,r,e,z⟩
theorem Inv.lstUpd{pins:List (Addr×Obj)}{σ:St}{H:Hp}{s:Shared}{p:Addr}{xs ys:List V}{its its':List Value}{n n':Nat}{f:Obj->Obj}(I:Inv X pins σ H s)(h:H p=some (.lst xs))
  (ho:s.heap.get? p=some {cls:= .type "list",data:= .seq its.toArray n}) (hf:f {cls:= .type "list",data:= .seq its.toArray n}={cls:= .type "list",data:= .seq its'.toArray n'}) (r:Vals ys its') (hz:ys.length<=sizeLine) (t:Nat):
  Inv X pins σ (upd H p (.lst ys)) {s with heap:=s.heap.update p f,toks:=t}:=by
 have e:(s.heap.update p f).get? p=some {cls:= .type "list",data:= .seq its'.toArray n'}:=by
  rw[Heap.get?_update_self f ho (by rw[hf]<;>rfl),hf]
 refine I.write (x:=p) (e:=p) (by rw[h];trivial) (.inl rfl) (λb u hb q=>(Heap.get?_update_other _ _ (Ne.symm hb)).trans q) ⟨_,e⟩ ?_
 exact⟨hz,its',n',r,e⟩
def rSetL:V->V->V->Hp->(Hp->Prop)->Prop:=λo i v H Q=>∃p xs k j,o= .ref p /\ i= .int k /\ H p=some (.lst xs) /\ ixN xs.length k=some j /\ Q (upd H p (.lst (xs.set j v)))
theorem jfb:PSet X rSetL:=by
 intro pins s σ H o i v ov iv u Q I ro ri rv h
 obtain⟨p,xs,k,j,rfl,rfl,hp,hj,q⟩:=h
 cases ro
 obtain⟨t,rfl⟩:=ri
 obtain⟨its,n,r,ho,hz⟩:=I.lst hp
 obtain⟨h1,h2,h3,h4⟩:=jpb hj
 have hl:=r.length
 have hn:=jhu
 have I':Inv X pins σ (upd H p (.lst (xs.set j v))) {s with heap:=s.heap.update p (Obj.mapSeq (·.setIfInBounds j u))}:=
  I.lstUpd hp ho (jow its n j u) (r.set rv j) (by rw[List.length_set];exact hz) s.toks
 by_cases h0:0<=k
 ·have hk:k.toNat=j:=by
   rw[seqIndex_of h0 h4] at h1
   exact Option.some.inj h1
  exact W.ki_setAt ho h0 (by omega) (by rw[List.size_toArray,<-hl];exact h4) (by rw[hk];exact⟨_,I',q⟩)
 ·have hk:(k+(its.toArray.size:Int)).toNat=j:=by
   rw[seqIndex_neg (by omega) h3] at h1
   rw[List.size_toArray,<-hl]
   exact Option.some.inj h1
  exact W.ki_setBack ho (by omega) (by rw[List.size_toArray,<-hl];exact h3) (by omega) (by rw[hk];exact⟨_,I',q⟩)
theorem jkh(lo hi:Option Int)(n:Nat):(sliceBounds lo hi none n).1=((HT.sIx n 0 lo:Nat):Int) /\ (sliceBounds lo hi none n).2.1=((HT.sIx n n hi:Nat):Int) /\ (sliceBounds lo hi none n).2.2=1:=by
 refine⟨?_,?_,rfl⟩
 ·cases lo with
  | none=>simp[sliceBounds,HT.sIx]
  | some i=>
   simp only[sliceBounds,HT.sIx,Option.getD_none,show(1:Int)>0 by decide,if_true]
   by_cases h:i<0
   ·simp only[h,if_true]<;>omega
   ·simp only[h,if_false]<;>omega
 ·cases hi with
  | none=>simp[sliceBounds,HT.sIx]
  | some i=>
   simp only[sliceBounds,HT.sIx,Option.getD_none,show(1:Int)>0 by decide,if_true]
   by_cases h:i<0
   ·simp only[h,if_true]<;>omega
   ·simp only[h,if_false]<;>omega
theorem jjg(its:List Value)(lo hi:Option Int):slicePick its.toArray lo hi none=((its.drop (HT.sIx its.length 0 lo)).take (HT.sIx its.length its.length hi - HT.sIx its.length 0 lo)).toArray:=by
 obtain⟨h1,h2,h3⟩:=jkh lo hi its.toArray.size
 unfold slicePick
 rw[h1,h2,h3]
 simp only[sliceRange_one,pick_run,List.size_toArray]<;>rfl
def rSlL(K:W.Frag):V->Option Int->Option Int->Hp->VK->Prop:=λx lo hi H Q=>∃a xs,x= .ref a /\ SqL K H a xs /\ ∀p,H p=none->Q (.ref p) (upd H p (.lst (cutV xs lo hi)))
theorem jwx:SlR X (rSlL X.K):=by
 intro pins s σ H x v vl vu lo hi sl Q I rx hs pl pu h
 obtain⟨a,xs,rfl,hx,q⟩:=h
 cases rx
 obtain⟨its,r,ht,hz⟩:=I.list hx
 have hlen:=r.length
 refine⟨"list",_,slot_list_getitem.lookup,ht.isList.typeIs,?_⟩
 refine wpAny_getItem_list_slice ht.isList hs pl pu .none (by simp) ?_ (by rw[List.size_toArray]<;>omega)
 rw[jjg,<-hlen]
 refine⟨.ref s.heap.objs.size,_,I.laid (t':=s.toks) (o:= .lst (cutV xs lo hi)) (λb ob q=>Heap.get?_push_of_some _ q) (Nat.le_refl _) ?_,rfl,q _ (I.hok.fresh (Nat.le_refl _))⟩
 exact⟨Nat.le_trans (jhr xs lo hi) hz,_,0,(r.drop (HT.sIx xs.length 0 lo)).take (HT.sIx xs.length xs.length hi - HT.sIx xs.length 0 lo),Heap.get?_push_size _ rfl⟩
def jii:V->Bool
 | .non=>true
 | .bl _=>true
 | .int _=>true
 | .str _=>true
 | _=>false
def eqV:V->V->Bool
 | .non,.non=>true
 | .bl a,.bl b=>a==b
 | .bl a,.int b=>(if a then 1 else 0)==b
 | .int a,.bl b=>a==(if b then 1 else 0)
 | .int a,.int b=>a==b
 | .str a,.str b=>a==b
 | _,_=>false
theorem eqAt_V{A:Around}{s:Shared}{y x:V}{u v:Value}(ry:RelV y u)(rx:RelV x v)(fy:jii y=true)(fx:jii x=true):SeqAt.EqAt A s u v (eqV y x):=by
 cases y with
 | non=>
  cases ry
  cases x with
  | non=>cases rx;exact SeqAt.EqAt.same _
  | bl b=>cases rx;exact SeqAt.EqAt.none_bool b
  | int b=>obtain⟨t,rfl⟩:=rx;exact SeqAt.EqAt.none_int b t
  | str b=>obtain⟨t,rfl⟩:=rx;exact SeqAt.EqAt.none_str b t
  | _=>exact absurd (show false=true from fx) Bool.false_ne_true
 | bl a=>
  cases ry
  cases x with
  | non=>cases rx;exact SeqAt.EqAt.bool_none a
  | bl b=>cases rx;exact SeqAt.EqAt.bool_bool a b
  | int b=>obtain⟨t,rfl⟩:=rx;exact SeqAt.EqAt.bool_int a b t
  | str b=>obtain⟨t,rfl⟩:=rx;exact SeqAt.EqAt.bool_str a b t
  | _=>exact absurd (show false=true from fx) Bool.false_ne_true
 | int a=>
  obtain⟨t',rfl⟩:=ry
  cases x with
  | non=>cases rx;exact SeqAt.EqAt.int_none a t'
  | bl b=>cases rx;exact SeqAt.EqAt.int_bool a t' b
  | int b=>obtain⟨t,rfl⟩:=rx;exact SeqAt.EqAt.int_int a t' b t
  | str b=>obtain⟨t,rfl⟩:=rx;exact SeqAt.EqAt.int_str a t' b t
  | _=>exact absurd (show false=true from fx) Bool.false_ne_true
 | str a=>
  obtain⟨t',rfl⟩:=ry
  cases x with
  | non=>cases rx;exact SeqAt.EqAt.str_none a t'
  | bl b=>cases rx;exact SeqAt.EqAt.str_bool a t' b
  | int b=>obtain⟨t,rfl⟩:=rx;exact SeqAt.EqAt.str_int a t' b t
  | str b=>obtain⟨t,rfl⟩:=rx;exact SeqAt.EqAt.str_str a t' b t
  | _=>exact absurd (show false=true from fx) Bool.false_ne_true
 | _=>exact absurd (show false=true from fy) Bool.false_ne_true
def eqU(x:V)(u:Value):Bool:=match u with
 | .none=>eqV .non x
 | .bool b=>eqV (.bl b) x
 | .int i _=>eqV (.int i) x
 | .str z _=>eqV (.str z) x
 | _=>false
theorem jw7{x y:V}{u:Value}(r:RelV y u)(f:jii y=true):eqU x u=eqV y x:=by
 cases y with
 | non=>cases r;rfl
 | bl b=>cases r;rfl
 | int i=>obtain⟨t,rfl⟩:=r;rfl
 | str z=>obtain⟨t,rfl⟩:=r;rfl
 | _=>exact absurd (show false=true from f) Bool.false_ne_true
theorem jhz{x:V}:∀{xs:List V} {us:List Value},Vals xs us->xs.all jii=true->us.any (eqU x)=xs.any λy=>eqV y x
 | _,_,.nil,_=>rfl
 | y::xs,u::us,.cons r t,f=>by
  rw[List.all_cons,Bool.and_eq_true] at f
  rw[List.any_cons,List.any_cons,jw7 r f.1,jhz t f.2]
theorem jg1{A:Around}{s:Shared}{x:V}{v:Value}(rx:RelV x v)(fx:jii x=true):∀{xs:List V} {us:List Value},Vals xs us->xs.all jii=true->∀u∈us,SeqAt.EqAt A s u v (eqU x u)
 | _,_,.nil,_=>λu hu=>by cases hu
 | y::xs,u::us,.cons r t,f=>λu' hu=>by
  rw[List.all_cons,Bool.and_eq_true] at f
  rcases List.mem_cons.mp hu with rfl | hu
  ·rw[jw7 r f.1];exact eqAt_V r rx f.1 fx
  ·exact jg1 rx fx t f.2 u' hu
def inV(x:V)(xs:List V):Bool:=xs.any λy=>eqV y x
def rIn(K:W.Frag)(neg:Bool):R2:=λx y H Q=>∃p xs,y= .ref p /\ (SqL K H p xs \/ SqT K H p xs) /\ jii x=true /\ xs.all jii=true /\ Q (.bl (if neg then !inV x xs else inV x xs)) H
theorem jpo:OpR X (compareOp .In) (rIn X.K false):=by
 intro pins s σ H x y v u Q I rx ry h
 obtain⟨p,xs,rfl,hq,fx,fs,q⟩:=h
 cases ry
 rcases hq with hq | hq
 ·obtain⟨its,r,pl,hz⟩:=I.list hq
  refine SeqAt.in_listAt (eqU x) pl.isList (λw hw=>jg1 rx fx r fs w (by simpa using hw)) ⟨.bl _,H,I,rfl,?_⟩
  rw[show its.toArray.any (eqU x)=its.any (eqU x) by simp,jhz r fs]
  exact q
 ·obtain⟨its,r,pl,hz⟩:=I.tuple hq
  refine SeqAt.in_tupleAt (eqU x) pl (λw hw=>jg1 rx fx r fs w (by simpa using hw)) ⟨.bl _,H,I,rfl,?_⟩
  rw[show its.toArray.any (eqU x)=its.any (eqU x) by simp,jhz r fs]
  exact q
theorem jkn:OpR X (compareOp .NotIn) (rIn X.K true):=by
 intro pins s σ H x y v u Q I rx ry h
 obtain⟨p,xs,rfl,hq,fx,fs,q⟩:=h
 cases ry
 rcases hq with hq | hq
 ·obtain⟨its,r,pl,hz⟩:=I.list hq
  refine SeqAt.notIn_listAt (eqU x) pl.isList (λw hw=>jg1 rx fx r fs w (by simpa using hw)) ⟨.bl _,H,I,rfl,?_⟩
  rw[show its.toArray.any (eqU x)=its.any (eqU x) by simp,jhz r fs]
  exact q
 ·obtain⟨its,r,pl,hz⟩:=I.tuple hq
  refine SeqAt.notIn_tupleAt (eqU x) pl (λw hw=>jg1 rx fx r fs w (by simpa using hw)) ⟨.bl _,H,I,rfl,?_⟩
  rw[show its.toArray.any (eqU x)=its.any (eqU x) by simp,jhz r fs]
  exact q
theorem jk6:OpR X (compareOp .NotIn) (λx y H Q=>∃i j,x= .str i /\ y= .str j /\ Q (.bl (!(!(Builtin.Str.occurrences j i 0 j.length 1).isEmpty))) H):=by
 intro pins s σ H x y v u Q I rx ry h
 obtain⟨i,j,rfl,rfl,q⟩:=h
 obtain⟨t,rfl⟩:=rx
 obtain⟨t',rfl⟩:=ry
 exact notIn_str ⟨.bl _,H,I,rfl,q⟩
theorem jkk:jdi X (.builtin "len") (λxs H Q=>∃p ys,xs=[.ref p] /\ (SqL X.K H p ys \/ SqT X.K H p ys) /\ Q (.int ys.length) H):=by
 intro pins s σ H xs us Q I r h
 obtain⟨p,ys,rfl,hq,q⟩:=h
 obtain⟨u,rfl,rx⟩:=jiz r
 cases rx
 have hn:=jhu
 rcases hq with hq | hq
 ·obtain⟨its,r',pl,hz⟩:=I.list hq
  have hlen:=r'.length
  exact Calls.call_len_list pl.isList (by simp only[List.size_toArray]<;>omega) ⟨.int ys.length,H,I.tok _,⟨s.toks+1,by rw[List.size_toArray,hlen]⟩,q⟩
 ·obtain⟨its,r',pl,hz⟩:=I.tuple hq
  have hlen:=r'.length
  exact len_tuple pl (by simp only[List.size_toArray]<;>omega) ⟨.int ys.length,H,I.tok _,⟨s.toks+1,by rw[List.size_toArray,hlen]⟩,q⟩
theorem jk7:jdi X (.builtin "len") (λxs H Q=>∃z,xs=[.str z] /\ z.length<=sizeLine /\ Q (.int z.length) H):=by
 intro pins s σ H xs us Q I r h
 obtain⟨z,rfl,hz,q⟩:=h
 obtain⟨u,rfl,t,rfl⟩:=jiz r
 have hn:=jhu
 exact len_str (by omega) ⟨.int z.length,H,I.tok _,⟨_,rfl⟩,q⟩
theorem jdi.or{f:Value}{r r':List V->Hp->VK->Prop}(h:jdi X f r)(h':jdi X f r'):jdi X f (λxs H Q=>r xs H Q \/ r' xs H Q):=by
 intro pins s σ H xs us Q I rs q
 rcases q with q | q
 ·exact h pins s σ H xs us Q I rs q
 ·exact h' pins s σ H xs us Q I rs q
theorem jl6:jdi X (.type "list") (λxs H Q=>∃p ys,xs=[.ref p] /\ (SqL X.K H p ys \/ SqT X.K H p ys) /\ ∀l,H l=none->Q (.ref l) (upd H l (.lst ys))):=by
 intro pins s σ H xs us Q I r h
 obtain⟨p,ys,rfl,hq,q⟩:=h
 obtain⟨u,rfl,rx⟩:=jiz r
 cases rx
 have fin:∀(its:List Value),Vals ys its->ys.length<=sizeLine->∀(h':Heap) (c':Nat),(∀b o',s.heap.get? b=some o'->h'.get? b=some o')->
   h'.get? s.heap.objs.size=some {cls:= .type "list",dict:=none,data:= .seq its.toArray c',slots:=#[]}->EP X pins σ Q (.ref s.heap.objs.size) {s with heap:=h'}:=λits r' hz h' c' kp e=>
  ⟨.ref s.heap.objs.size,_,I.laid (t':=s.toks) kp (Nat.le_refl _) (show jc2 X.prog X.w _ h' _ (.lst ys) from⟨hz,its,c',r',e⟩),rfl,q _ (I.hok.fresh (Nat.le_refl _))⟩
 rcases hq with hq | hq
 ·obtain⟨its,r',pl,hz⟩:=I.list hq
  have hlen:=r'.length
  obtain⟨o,ho,hc,n,hd⟩:=pl.isList
  exact call_list_seq p (.inl rfl) ho hc hd (λh' c' kp e=>fin its r' hz h' c' kp e) (by simp only[List.size_toArray]<;>omega)
 ·obtain⟨its,r',pl,hz⟩:=I.tuple hq
  have hlen:=r'.length
  obtain⟨o,ho,hc,n,hd⟩:=pl
  exact call_list_seq p (.inr rfl) ho hc hd (λh' c' kp e=>fin its r' hz h' c' kp e) (by simp only[List.size_toArray]<;>omega)
def tyV(K:W.Frag)(T:String)(x:V)(H:Hp):Prop:=match x with
 | .str _=>T="str"
 | .int _=>T="int"
 | .ref p=>(T="list" /\ ∃xs,SqL K H p xs) \/ (T="tuple" /\ ∃o,K.lookup p=some o /\ o.cls= .type "tuple" /\ o.dict=none) \/
   (T="dict" /\ ((∃kvs,H p=some (.dK kvs)) \/ ∃kvs,H p=some (.dT kvs))) \/ (T="set" /\ ∃S n,H p=some (.set S n))
 | _=>False
theorem jo7{pins:List (Addr×Obj)}{σ:St}{H:Hp}{s:Shared}{T:String}{x:V}{v:Value}(I:Inv X pins σ H s)(r:RelV x v)(ty:tyV X.K T x H):
  s.TypeIs v T /\ ∀a,v= .ref a->∃ob,s.heap.get? a=some ob /\ ob.dict=none:=by
 cases x with
 | str z=>
  obtain⟨t,rfl⟩:=r
  cases (show T="str" from ty)
  exact⟨typeIs_str s z t,λ_ e=>nomatch e⟩
 | int i=>
  obtain⟨t,rfl⟩:=r
  cases (show T="int" from ty)
  exact⟨typeIs_int s i t,λ_ e=>nomatch e⟩
 | ref p=>
  cases r
  rcases ty with⟨rfl,xs,hq⟩ | ⟨rfl,o,hk,hc,hd⟩ | ⟨rfl,hk⟩ | ⟨rfl,S,n,hk⟩
  ·obtain⟨its,_,pl,_⟩:=I.list hq
   refine⟨pl.isList.typeIs,λa e=> ?_⟩
   cases e
   obtain⟨o,n,e,c,hd,_⟩:=pl
   exact⟨o,e,hd⟩
  ·refine⟨⟨o,I.kIn p o hk,hc⟩,λa e=> ?_⟩
   cases e
   exact⟨o,I.kIn _ o hk,hd⟩
  ·have z:∃o,s.heap.get? p=some o /\ o.ExactDict:=by
    rcases hk with⟨kvs,hk⟩ | ⟨kvs,hk⟩
    ·obtain⟨_,_,_,_,o,_,_,e,ex,_⟩:=I.hok p _ hk
     exact⟨o,e,ex⟩
    ·obtain⟨_,_,_,_,o,_,_,e,ex,_⟩:=I.hok p _ hk
     exact⟨o,e,ex⟩
   obtain⟨o,e,ex⟩:=z
   refine⟨⟨o,e,ex.1⟩,λa e2=> ?_⟩
   cases e2
   exact⟨o,e,ex.2.1⟩
  ·obtain⟨o,_,_,_,e,ex,_⟩:=I.hok p _ hk
   refine⟨⟨o,e,ex.1⟩,λa e2=> ?_⟩
   cases e2
   exact⟨o,e,ex.2.1⟩
 | _=>exact False.elim ty
def tBM0(K:W.Frag)(T:String)(r:V->List V->Hp->VK->Prop)(to:TE):TE:=λσ H Q=>to σ H λx H1=>tyV K T x H1 /\ r x [] H1 Q
def tBM(K:W.Frag)(T:String)(r:V->List V->Hp->VK->Prop)(to:TE)(t:TA):TE:=λσ H Q=>to σ H λx H1=>tyV K T x H1 /\ t σ H1 λxs H2=>r x xs H2 Q
variable {o e : Expr} {es : List Expr} {to : TE} {t : TA} {name : Str} {apos cpos : Pos} {T id : String} {r : V -> List V -> Hp -> VK -> Prop}
theorem jvw(pa:PlainAttrs T)(slot:Slot T name id)(hty:typeOf (.builtin id)=pure (.type "method_descriptor"))(hm:MtR X id r)(ho:PE X o to)
  (hbase:attributeBase o name X.env (eval o X.env)=eval o X.env:=by rfl) (hline:(apos.endLine==cpos.line)=true:=by rfl):PE X (.Call (.Attribute o name apos) [] [] cpos) (tBM0 X.K T r to):=by
 intro pins s σ H Q I h
 refine wpAny_Call_method0_late hbase hline (thn (ho pins s σ H _ I h) λv s1 ⟨x,H1,I1,r1,ty,q1⟩=> ?_)
 obtain⟨h1,h2⟩:=jo7 I1 r1 ty
 exact⟨T,id,pa,slot,hty,h1,h2,Calls.callWith_builtin rfl (PySem.evalArgs_none (hm pins s1 σ H1 x [] v [] Q I1 r1 .nil q1))⟩
theorem jxn(pa:PlainAttrs T)(slot:Slot T name id)(hty:typeOf (.builtin id)=pure (.type "method_descriptor"))(hm:MtR X id r)(ho:PE X o to)(ha:PA X (e::es) t)
  (hbase:attributeBase o name X.env (eval o X.env)=eval o X.env:=by rfl)
  (hfew:((backTo cpos (starEach (e::es) X.env)).all (λx=> !x.1)&&(backToKw cpos (keywordEach [] X.env)).all (λx=>x.1.isSome)
   &&decide ((e::es).length+([]:List Keyword).length+(if([]:List Keyword).isEmpty then 0 else 1)<30))=true:=by rfl)
  (hline:(apos.endLine==cpos.line)=true:=by rfl) (hs:starEach (e::es) X.env=(false,eval e X.env)::starEach es X.env:=by rfl) (hplain:(backTo cpos (starEach es X.env)).any (·.1)=false:=by rfl):
  PE X (.Call (.Attribute o name apos) (e::es) [] cpos) (tBM X.K T r to t):=by
 intro pins s σ H Q I h
 refine wpAny_Call_method_late hbase hfew hline rfl (thn (ho pins s σ H _ I h) λv s1 ⟨x,H1,I1,r1,ty,q1⟩=> ?_)
 obtain⟨h1,h2⟩:=jo7 I1 r1 ty
 refine⟨T,id,pa,slot,hty,h1,h2,?_⟩
 have hA:=ha cpos pins s1 σ H1 _ I1 q1
 rw[hs] at hA ⊢
 refine Calls.callWith_builtin (by show(false||(backTo cpos (starEach es X.env)).any (·.1))=false;rw[hplain]<;>rfl) (Calls.evalArgs_plain ?_)
 exact thn hA λus s2 ⟨vs,H2,I2,r2,q2⟩=>hm pins s2 σ H2 x vs v us Q I2 r1 r2 q2
/- xs.append(e),list.index on a module's tuple .. are MtR facts of 06m -/
end
def MtM(X:Cx)(id:String)(r:V->List V->Hp->VK->Prop):Prop:=
 ∀(pins:List (Addr×Obj)) (s:Shared) (σ:St) (H:Hp) (x:V) (xs:List V) (v:Value) (us:List Value) (Q:VK),Inv X pins σ H s->RelV x v->Vals xs us->r x xs H Q->
  wpAny (model X.prog X.w) X.A (call (.builtin id) (v::us)) (EP X pins σ Q) X.xe s
theorem Vals.one:∀{x:V} {us:List Value},Vals [x] us->∃u,us=[u] /\ RelV x u
 | _,_,.cons r .nil=>⟨_,rfl,r⟩
theorem Vals.zero:∀{us:List Value},Vals [] us->us=[]
 | _,.nil=>rfl
theorem Vals.rep{xs:List V}{us:List Value}(h:Vals xs us):∀k:Nat,Vals (List.replicate k xs).flatten (List.replicate k us).flatten
 | 0=> .nil
 | k+1=>by
  rw[List.replicate_succ,List.replicate_succ,List.flatten_cons,List.flatten_cons]
  exact Vals.append h (Vals.rep h k)
theorem jkg(its:List Value):∀(k:Nat) (acc:List Value),
  List.foldl (λx1 x2=>x1++x2) acc.toArray (List.replicate k its.toArray)=(acc++(List.replicate k its).flatten).toArray
 | 0,acc=>by simp
 | k+1,acc=>by
  have e:acc.toArray++its.toArray=(acc++its).toArray:=by simp
  have e2:(acc++its)++(List.replicate k its).flatten=acc++(List.replicate (k+1) its).flatten:=by
   rw[List.replicate_succ,List.flatten_cons,List.append_assoc]
  rw[<-e2,<-jkg its k (acc++its),<-e,List.replicate_succ,List.foldl_cons]
section
variable {X : Cx} {pins : List (Addr × Obj)} {σ : St} {H : Hp} {s : Shared} {l b : Addr} {xs ys zs : List V}
theorem Inv.lset{its its':List Value}{n:Nat}{f:Array Value->Array Value}{t':Nat}(I:Inv X pins σ H s)(hH:H l=some (.lst xs))
  (e:s.heap.get? l=some {cls:= .type "list",data:= .seq its.toArray n}) (hf:f its.toArray=its'.toArray) (hv:Vals ys its') (hz:ys.length<=sizeLine):
  Inv X pins σ (upd H l (.lst ys)) {s with heap:=s.heap.update l (Obj.mapSeq f),toks:=t'}:=by
 have q:=PySem.IsL.update e f
 rw[hf] at q
 refine I.write (x:=l) (e:=l) (by rw[hH];exact trivial) (.inl rfl) (λb' u hb hu=>(Heap.get?_update_other s.heap (Obj.mapSeq f) (Ne.symm hb)).trans hu) ⟨_,q⟩ ?_
 exact⟨hz,its',_,hv,q⟩
theorem Inv.lnew{its:List Value}{t':Nat}(I:Inv X pins σ H s)(hv:Vals ys its)(hz:ys.length<=sizeLine):
  Inv X pins σ (upd H s.heap.objs.size (.lst ys)) {s with heap:=s.heap.push {cls:= .type "list",data:= .seq its.toArray},toks:=t'}:=
 I.laid (λ_ _ q=>Heap.get?_push_of_some _ q) (Nat.le_refl _) ⟨hz,its,0,hv,Heap.get?_push_size _ rfl⟩
theorem Inv.fresh(I:Inv X pins σ H s):H s.heap.objs.size=none:=I.hok.fresh (Nat.le_refl _)
theorem Inv.lstM(I:Inv X pins σ H s)(hH:H l=some (.lst xs)):xs.length<=sizeLine /\ ∃(its:List Value) (n:Nat),Vals xs its /\ xs.length=its.length /\ s.heap.get? l=some {cls:= .type "list",data:= .seq its.toArray n}:=by
 obtain⟨z,its,n,r,e⟩:=I.hok l _ hH
 exact⟨z,its,n,r,r.length,e⟩
theorem jtj{n:Nat}(h:n<=sizeLine):Builtin.List.listTooLong n=false:=by
 unfold Builtin.List.listTooLong
 exact decide_eq_false (by omega)
end
section
variable {X : Cx}
def jro:V->List V->Hp->VK->Prop:=λx vs H Q=>∃l xs y,x= .ref l /\ vs=[y] /\ H l=some (.lst xs) /\ xs.length<sizeLine /\ Q .non (upd H l (.lst (xs++[y])))
theorem jfx:MtM X "list.append" jro:=by
 intro pins s σ H x vs v us Q I rx rv h
 obtain⟨l,xs,y,rfl,rfl,hH,hz,q⟩:=h
 cases rx
 obtain⟨u,rfl,ru⟩:=rv.one
 obtain⟨z,its,n,r,hl,e⟩:=I.lstM hH
 refine call_meets F.slot_list_append ⟨_,e,rfl⟩ F.entry_list_append (F.args_list_append_2 _ _) (PySem.list_append l its.toArray n u (by rw[List.size_toArray];omega)) ⟨e,?_⟩
 refine⟨.non,_,I.lset (its':=its++[u]) hH e (by simp) (r.append (.cons ru .nil)) ?_,rfl,q⟩
 rw[List.length_append,List.length_singleton]
 omega
def jvr:V->List V->Hp->VK->Prop:=λx vs H Q=>∃l xs,x= .ref l /\ vs=[] /\ H l=some (.lst xs) /\ Q .non (upd H l (.lst []))
theorem juq:MtM X "list.clear" jvr:=by
 intro pins s σ H x vs v us Q I rx rv h
 obtain⟨l,xs,rfl,rfl,hH,q⟩:=h
 cases rx
 have hus:=rv.zero
 subst hus
 obtain⟨z,its,n,r,hl,e⟩:=I.lstM hH
 refine call_meets F.slot_list_clear ⟨_,e,rfl⟩ F.entry_list_clear (F.args_list_clear_1 _) (AutoSeq1.list_clear_list_0 l its.toArray n (by rw[List.size_toArray];omega)) ⟨e,?_⟩
 exact⟨.non,_,I.lset (its':=[]) (ys:=[]) hH e rfl .nil (Nat.zero_le _),rfl,q⟩
def rCat:R2:=λx y H Q=>∃l b xs zs,x= .ref l /\ y= .ref b /\ H l=some (.lst xs) /\ H b=some (.lst zs) /\ xs.length+zs.length<=sizeLine /\ ∀p,H p=none->Q (.ref p) (upd H p (.lst (xs++zs)))
theorem op_cat:OpR X (binaryOp .Add) rCat:=by
 intro pins s σ H x y v u Q I rx ry h
 obtain⟨l,b,xs,zs,rfl,rfl,hH,hB,hz,q⟩:=h
 cases rx
 cases ry
 obtain⟨z,its,n,r,hl,e⟩:=I.lstM hH
 obtain⟨z2,its2,n2,r2,hl2,e2⟩:=I.lstM hB
 refine PySem.P.add_list e e2 ?_ (by rw[List.size_toArray,List.size_toArray];omega)
 have ea:its.toArray++its2.toArray=(its++its2).toArray:=by simp
 rw[ea]
 exact⟨.ref _,_,I.lnew (t':=s.toks) (r.append r2) (by rw[List.length_append];omega),rfl,q _ I.fresh⟩
def rRep:R2:=λx y H Q=>∃l k xs,x= .ref l /\ y= .int k /\ H l=some (.lst xs) /\ -(2^63)<=k /\ k<2^63 /\ xs.length*k.toNat<=sizeLine /\
 ∀p,H p=none->Q (.ref p) (upd H p (.lst (List.replicate k.toNat xs).flatten))
theorem jyr{α:Type}(xs:List α)(k:Nat):(List.replicate k xs).flatten.length=k*xs.length:=by
 induction k with
 | zero=>simp
 | succ k ih=>rw[List.replicate_succ,List.flatten_cons,List.length_append,ih,Nat.succ_mul,Nat.add_comm]
theorem op_rep:OpR X (binaryOp .Mult) rRep:=by
 intro pins s σ H x y v u Q I rx ry h
 obtain⟨l,k,xs,rfl,rfl,hH,h1,h2,hz,q⟩:=h
 cases rx
 obtain⟨t,rfl⟩:=ry
 obtain⟨z,its,n,r,hl,e⟩:=I.lstM hH
 have hlen:its.toArray.size*k.toNat<=sizeLine:=by rw[List.size_toArray,<-hl];exact hz
 have hcap:¬its.toArray.size*k.toNat>(2^63 - 1) / 8:=by
  have:(sizeLine:Nat)<=(2^63 - 1) / 8:=by decide
  omega
 have hfit:¬(!Builtin.List.listFitsIndex k)=true:=by
  rw[fitsIndex_both h1 h2]
  exact Bool.false_ne_true
 have hlong:¬Builtin.List.listTooLong (its.toArray.size*k.toNat)=true:=by
  rw[jtj hlen]
  exact Bool.false_ne_true
 have hnew:List.foldl (λx1 x2=>x1++x2) #[] (List.replicate (if its.toArray.isEmpty=true then 0 else k.toNat) its.toArray)=(List.replicate k.toNat its).flatten.toArray:=by
  have f0:∀m:Nat,List.foldl (λx1 x2=>x1++x2) #[] (List.replicate m its.toArray)=(List.replicate m its).flatten.toArray:=λm=>by
   have:=jkg its m []
   rw[List.nil_append] at this
   exact this
  rw[f0]
  cases its with
  | nil=>simp
  | cons a r'=>rw[if_neg (by simp)]
 refine wpAny_binaryOp_repeat_ref (T:="list") (U:="int") (by decide) ⟨_,e,rfl⟩ (λs'=>typeIs_int s' k t) noFill_list_mul F.fills_int_mul F.slot_int_rmul repeat_list F.slot_int_index.lookup
  (call_meets F.slot_int_rmul (typeIs_int s k t) F.entry_int_rmul (F.args_int_rmul_2 _ _) (int___rmul___int_list k t l its.toArray n)
   ⟨e,rfl,⟨_,e,rfl⟩,call_meets F.slot_list_mul ⟨_,e,rfl⟩ F.entry_list_mul (F.args_list_mul_2 _ _) (AutoListH.list___mul___list_int_3 l its.toArray n k t hfit hcap hlong) ⟨e,?_⟩⟩)
 rw[hnew]
 exact⟨.ref _,_,I.lnew (t':=s.toks) (r.rep k.toNat) (by rw[jyr,Nat.mul_comm];exact hz),rfl,q _ I.fresh⟩
end
section
variable {κ : Type} [DecidableEq κ]
def valV(kvs:List (κ×V))(k:κ):Option V:=(kvs.find? λkv=>decide (kv.1=k)).map (·.2)
def putK(kvs:List (κ×V))(k:κ)(v:V):List (κ×V):=
 if(kvs.any λkv=>decide (kv.1=k))=true then kvs.map (λkv=>if kv.1=k then(kv.1,v) else kv) else kvs++[(k,v)]
def jj7(kvs:List (κ×V))(k:κ):List (κ×V):=kvs.filter λkv=>decide (kv.1≠k)
theorem jjw{p:κ×V}{r:List (κ×V)}{k:κ}(e:p.1=k):valV (p::r) k=some p.2:=by simp[valV,List.find?_cons,e]
theorem jix{p:κ×V}{r:List (κ×V)}{k:κ}(e:¬p.1=k):valV (p::r) k=valV r k:=by simp[valV,List.find?_cons,e]
theorem jnd(k:κ):∀kvs:List (κ×V),(kvs.any λkv=>decide (kv.1=k))=(valV kvs k).isSome
 | []=>rfl
 | p::r=>by
  rw[List.any_cons]
  by_cases e:p.1=k
  ·simp only[jjw e,decide_eq_true e,Bool.true_or,Option.isSome_some]
  ·rw[jix e,decide_eq_false e,Bool.false_or];exact jnd k r
theorem ji4(kvs:List (κ×V))(k:κ)(v:V):(putK kvs k v).length<=kvs.length+1:=by
 unfold putK
 split
 ·rw[List.length_map];omega
 ·rw[List.length_append,List.length_cons,List.length_nil];omega
theorem RelO.isSome_eq{o:Option V}{u:Option Value}(r:RelO o u):o.isSome=u.isSome:=by
 cases o with
 | none=>cases u with
  | none=>rfl
  | some _=>exact(show False from r).elim
 | some _=>cases u with
  | none=>exact(show False from r).elim
  | some _=>rfl
theorem KV.val{kvs:List (κ×V)}{vs:List (κ×Value)}(r:KV kvs vs)(k:κ):RelO (valV kvs k) (valueAt vs k):=by
 unfold KV at r
 induction r with
 | nil=>exact True.intro
 | @cons p q ps qs h t ih=>
  obtain⟨h1,h2⟩:=h
  by_cases e:p.1=k
  ·have e':q.1=k:=h1.symm.trans e
   have b:valueAt (q::qs) k=some q.2:=by simp[valueAt,List.find?_cons,e']
   rw[jjw e,b];exact h2
  ·have e':¬q.1=k:=λz=>e (h1.trans z)
   have b:valueAt (q::qs) k=valueAt qs k:=by simp[valueAt,List.find?_cons,e']
   rw[jix e,b];exact ih
theorem KV.any{kvs:List (κ×V)}{vs:List (κ×Value)}(r:KV kvs vs)(k:κ):(kvs.any λkv=>decide (kv.1=k))=vs.any λkv=>decide (kv.1=k):=by
 unfold KV at r
 induction r with
 | nil=>rfl
 | cons h t ih=>rw[List.any_cons,List.any_cons,ih,h.1]
theorem KV.repl{kvs:List (κ×V)}{vs:List (κ×Value)}(r:KV kvs vs)(k:κ){y:V}{u:Value}(ry:RelV y u):
  KV (kvs.map λkv=>if kv.1=k then(kv.1,y) else kv) (vs.map λkv=>if kv.1=k then(kv.1,u) else kv):=by
 unfold KV at r ⊢
 induction r with
 | nil=>exact .nil
 | @cons p q ps qs h t ih=>
  rw[List.map_cons,List.map_cons]
  refine .cons ?_ ih
  obtain⟨h1,h2⟩:=h
  by_cases e:p.1=k
  ·rw[if_pos e,if_pos (h1.symm.trans e)];exact⟨h1,ry⟩
  ·rw[if_neg e,if_neg (λz=>e (h1.trans z))];exact⟨h1,h2⟩
theorem KV.put{kvs:List (κ×V)}{vs:List (κ×Value)}(r:KV kvs vs)(k:κ){y:V}{u:Value}(ry:RelV y u):KV (putK kvs k y) (stored vs k u):=by
 unfold putK stored
 rw[r.any k]
 by_cases e:(vs.any λkv=>decide (kv.1=k))=true
 ·rw[if_pos e,if_pos e];exact r.repl k ry
 ·rw[if_neg e,if_neg e];exact Paired.snoc r ⟨rfl,ry⟩
theorem KV.drop{kvs:List (κ×V)}{vs:List (κ×Value)}(r:KV kvs vs)(k:κ):KV (jj7 kvs k) (without vs k):=by
 unfold KV at r ⊢
 unfold jj7 without
 induction r with
 | nil=>exact .nil
 | @cons p q ps qs h t ih=>
  obtain⟨h1,h2⟩:=h
  rw[List.filter_cons,List.filter_cons]
  by_cases e:p.1=k
  ·have a:¬decide (p.1≠k)=true:=by simp[e]
   have b:¬decide (q.1≠k)=true:=by simp[h1.symm.trans e]
   rw[if_neg a,if_neg b];exact ih
  ·have e':¬q.1=k:=λz=>e (h1.trans z)
   have a:decide (p.1≠k)=true:=by simp[e]
   have b:decide (q.1≠k)=true:=by simp[e']
   rw[if_pos a,if_pos b];exact .cons ⟨h1,h2⟩ ih
theorem KV.keys{kvs:List (κ×V)}{vs:List (κ×Value)}(r:KV kvs vs):kvs.map (·.1)=vs.map (·.1):=by
 unfold KV at r
 induction r with
 | nil=>rfl
 | cons h t ih=>rw[List.map_cons,List.map_cons,ih,h.1]
theorem KV.length{kvs:List (κ×V)}{vs:List (κ×Value)}(r:KV kvs vs):kvs.length=vs.length:=Paired.length r
theorem juk(kvs:List (κ×V))(k:κ):(jj7 kvs k).length<=kvs.length:=List.length_filter_le _ _
end
theorem jgt{P:Program}{w:World}{k:Key}{u:Value}(r:RelV (kV k) u):(jbk P w).is k u=true:=by
 cases k with
 | inl i=>obtain⟨t,e⟩:=(show ∃t,u=Value.int i t from r);subst e;exact jmx P w i t
 | inr x=>obtain⟨t,e⟩:=(show ∃t,u=Value.str x t from r);subst e;exact jmv P w x t
theorem jk4{P:Program}{w:World}:∀{ks:List Key} {us:List Value},Vals (ks.map kV) us->ItemsAre (jbk P w) ks us
 | [],_,r=>by rw[List.map_nil] at r;cases r;exact .nil
 | k::ks,_,r=>by
  rw[List.map_cons] at r
  cases r with
  | cons h t=>exact .cons (jgt h) (jk4 t)
abbrev KT(H:Hp):List (List Key×V)->List (List Key×Addr×Value)->Prop:=Paired λp q=>p.1=q.1 /\ H q.2.1=some (.tup (p.1.map kV)) /\ RelV p.2 q.2.2
theorem KT.val{H:Hp}{kvs:List (List Key×V)}{xs:List (List Key×Addr×Value)}(r:KT H kvs xs)(k:List Key):RelO (valV kvs k) ((atKey xs k).map (·.2)):=by
 induction r with
 | nil=>exact True.intro
 | @cons p q ps qs h t ih=>
  obtain⟨h1,_,h2⟩:=h
  by_cases e:p.1=k
  ·have e':q.1=k:=h1.symm.trans e
   have b:atKey (q::qs) k=some q.2:=by simp[atKey,List.find?_cons,e']
   rw[jjw e,b];exact h2
  ·have e':¬q.1=k:=λz=>e (h1.trans z)
   have b:atKey (q::qs) k=atKey qs k:=by simp[atKey,List.find?_cons,e']
   rw[jix e,b];exact ih
theorem KT.repl{H:Hp}{kvs:List (List Key×V)}{xs:List (List Key×Addr×Value)}(r:KT H kvs xs)(k:List Key){y:V}{u:Value}(ry:RelV y u):
  KT H (kvs.map λkv=>if kv.1=k then(kv.1,y) else kv) (xs.map (putAt k u)):=by
 induction r with
 | nil=>exact .nil
 | @cons p q ps qs h t ih=>
  rw[List.map_cons,List.map_cons]
  refine .cons ?_ ih
  obtain⟨h1,h2,h3⟩:=h
  unfold putAt
  by_cases e:p.1=k
  ·rw[if_pos e,if_pos (h1.symm.trans e)];exact⟨h1,h2,ry⟩
  ·rw[if_neg e,if_neg (λz=>e (h1.trans z))];exact⟨h1,h2,h3⟩
theorem KT.put{H:Hp}{kvs:List (List Key×V)}{xs:List (List Key×Addr×Value)}(r:KT H kvs xs)(k:List Key){b:Addr}{y:V}{u:Value}(hb:H b=some (.tup (k.map kV)))(ry:RelV y u):
  KT H (putK kvs k y) (storedH xs k b u):=by
 have e:(kvs.any λkv=>decide (kv.1=k))=(atKey xs k).isSome:=by
  rw[jnd,(r.val k).isSome_eq,Option.isSome_map]
 unfold putK storedH
 rw[e]
 by_cases q:(atKey xs k).isSome=true
 ·rw[if_pos q,if_pos q];exact r.repl k ry
 ·rw[if_neg q,if_neg q];exact Paired.snoc r ⟨rfl,hb,ry⟩
theorem KT.keeps{H H':Hp}{kvs:List (List Key×V)}{xs:List (List Key×Addr×Value)}(r:KT H kvs xs)(ht:∀b ys,H b=some (.tup ys)->H' b=some (.tup ys)):KT H' kvs xs:=
 Paired.mapP r λ_ _ z=>⟨z.1,ht _ _ z.2.1,z.2.2⟩
section
variable {P : Program} {w : World} {H : Hp} {h : Heap} {a : Addr}
theorem rd_of{u:HO}(ok:HOk P w H h)(e:Rd H a u):jc2 P w H h a u:=e.ok ok
theorem jmf{kvs:List (Key×V)}(ok:HOk P w H h)(e:Rd H a (.dK kvs)):kvs.length<=sizeLine /\ (a==sysModules)=false /\ ∃vs,KV kvs vs /\ h.DictOf (jbk P w) a vs:=
 show jc2 P w H h a (.dK kvs) from rd_of ok e
theorem jor{kvs:List (Key×V)}(ok:HOk P w H h)(e:H a=some (.dK kvs)):kvs.length<=sizeLine /\ (a==sysModules)=false /\ ∃vs,KV kvs vs /\ h.DictOf (jbk P w) a vs:=jmf ok (.inl e)
theorem jkq{ks:List Key}(ok:HOk P w H h)(e:H a=some (.tup (ks.map kV))):(tupleKind (jbk P w)).is h ks a:=by
 obtain⟨_,its,r,o,h1,h2,n,h3⟩:=(show jc2 P w H h a (.tup (ks.map kV)) from ok a _ e)
 exact⟨o,its.toArray,n,h1,h2,h3,by simpa using jk4 r⟩
theorem jon{kvs:List (List Key×V)}(ok:HOk P w H h)(e:Rd H a (.dT kvs)):kvs.length<=sizeLine /\ (a==sysModules)=false /\
  ∃xs,KT H kvs xs /\ h.DictOfH (tupleKind (jbk P w)) a xs:=by
 obtain⟨z,y,xs,r,o,es,ep,h1,h2,h3,h4,h5⟩:=(show jc2 P w H h a (.dT kvs) from rd_of ok e)
 refine⟨z,y,xs,r,o,es,ep,h1,h2,h3,h4,λx hx=> ?_,h5⟩
 have all:∀{l:List (List Key×V)} {m:List (List Key×Addr×Value)},KT H l m->∀x∈m,(tupleKind (jbk P w)).is h x.1 x.2.1:=by
  intro l m q
  induction q with
  | nil=>intro x hx;exact nomatch hx
  | @cons p q ps qs hq t ih=>
   intro x hx
   rcases List.mem_cons.mp hx with e | hx
   ·subst e
    exact jkq ok (by rw[<-hq.1];exact hq.2.1)
   ·exact ih x hx
 exact all r x hx
theorem dt_of{kvs:List (List Key×V)}(ok:HOk P w H h)(e:H a=some (.dT kvs)):kvs.length<=sizeLine /\ (a==sysModules)=false /\
  ∃xs,KT H kvs xs /\ h.DictOfH (tupleKind (jbk P w)) a xs:=jon ok (.inl e)
end
def DGet(H:Hp)(a:Addr)(y:V)(r:Option V):Prop:=
 (∃kvs k,Rd H a (.dK kvs) /\ y=kV k /\ r=valV kvs k) \/ ∃kvs k b,Rd H a (.dT kvs) /\ y= .ref b /\ H b=some (.tup (k.map kV)) /\ r=valV kvs k
def DPut(H:Hp)(a:Addr)(y v:V)(H':Hp):Prop:=
 (∃kvs k,H a=some (.dK kvs) /\ y=kV k /\ kvs.length<sizeLine /\ H'=upd H a (.dK (putK kvs k v))) \/
 ∃kvs k b,H a=some (.dT kvs) /\ y= .ref b /\ H b=some (.tup (k.map kV)) /\ kvs.length<sizeLine /\ H'=upd H a (.dT (putK kvs k v))
theorem DGet.k{H:Hp}{a:Addr}{kvs:List (Key×V)}{k:Key}(e:H a=some (.dK kvs)):DGet H a (kV k) (valV kvs k):= .inl ⟨kvs,k,.inl e,rfl,rfl⟩
theorem DPut.k{H:Hp}{a:Addr}{kvs:List (Key×V)}{k:Key}{v:V}(e:H a=some (.dK kvs))(hl:kvs.length<sizeLine):DPut H a (kV k) v (upd H a (.dK (putK kvs k v))):= .inl ⟨kvs,k,e,rfl,hl,rfl⟩
section
variable {X : Cx} {pins : List (Addr × Obj)} {σ : St} {H : Hp} {s : Shared} {a : Addr} {y v : V} {u r : Value} {o : Option V} {A : Around} {E : Value -> Shared -> Prop}
theorem Inv.big(I:Inv X pins σ H s):sysModules<s.heap.objs.size:=by
 have h:mainGlobals<s.heap.objs.size:=(I.mod.glob.keeps I.bk).lt
 exact Nat.lt_trans (by decide) h
theorem jqh{Q:Value->Shared->Prop}(hu:A.units+1<cLine)(I:Inv X pins σ H s)(g:DGet H a y (some v))(ry:RelV y u)(h:∀w' s',Inv X pins σ H s'->RelV v w'->Q w' s'):
  wpAny (model X.prog X.w) A (getItem (.ref a) u) Q E s:=by
 rcases g with⟨kvs,k,e,ey,l⟩ | ⟨kvs,k,b,e,ey,eb,l⟩
 ·subst ey
  obtain⟨z,hd,vs,rel,dd⟩:=jmf I.hok e
  obtain⟨w',hw,rw'⟩:=RelO.some_of (v:=v) (o:=valueAt vs k) (by rw[l];exact rel.val k)
  exact wpAny_getItem_of (jgt ry) dd.mapOf hw (h w' _ (I.tok _) rw')
 ·subst ey
  cases (show u=Value.ref b from ry)
  obtain⟨z,hd,xs,rel,dd⟩:=jon I.hok e
  obtain⟨w',hw,rw'⟩:=RelO.some_of (v:=v) (o:=(atKey xs k).map (·.2)) (by rw[l];exact rel.val k)
  obtain⟨p,hp,hp2⟩:=Option.map_eq_some_iff.mp hw
  refine wpAny_getItem_heap (tupleKind_room_in1 hu) (jkq I.hok eb) dd hp ?_
  rw[hp2]
  exact h w' _ (I.tok _) rw'
theorem d_in{Q:Value->Shared->Prop}(hu:A.units+1<cLine)(I:Inv X pins σ H s)(g:DGet H a y o)(ry:RelV y u)(h:∀s',Inv X pins σ H s'->Q (.bool o.isSome) s'):
  wpAny (model X.prog X.w) A (compareOp .In u (.ref a)) Q E s:=by
 rcases g with⟨kvs,k,e,ey,l⟩ | ⟨kvs,k,b,e,ey,eb,l⟩
 ·subst ey
  obtain⟨z,hd,vs,rel,dd⟩:=jmf I.hok e
  refine wpAny_in_of (jgt ry) hd dd.mapOf ?_
  rw[<-(rel.val k).isSome_eq,<-l]
  exact h _ (I.tok _)
 ·subst ey
  cases (show u=Value.ref b from ry)
  obtain⟨z,hd,xs,rel,dd⟩:=jon I.hok e
  refine wpAny_in_heap (tupleKind_room_in1 hu) (jkq I.hok eb) hd dd ?_
  have q:=(rel.val k).isSome_eq
  rw[Option.isSome_map] at q
  rw[<-q,<-l]
  exact h _ (I.tok _)
theorem jxy{Q:Value->Shared->Prop}(hu:A.units+1<cLine)(I:Inv X pins σ H s)(g:DGet H a y o)(ry:RelV y u)(h:∀s',Inv X pins σ H s'->Q (.bool (!o.isSome)) s'):
  wpAny (model X.prog X.w) A (compareOp .NotIn u (.ref a)) Q E s:=by
 rcases g with⟨kvs,k,e,ey,l⟩ | ⟨kvs,k,b,e,ey,eb,l⟩
 ·subst ey
  obtain⟨z,hd,vs,rel,dd⟩:=jmf I.hok e
  refine wpAny_notIn_of (jgt ry) hd dd.mapOf ?_
  rw[<-(rel.val k).isSome_eq,<-l]
  exact h _ (I.tok _)
 ·subst ey
  cases (show u=Value.ref b from ry)
  obtain⟨z,hd,xs,rel,dd⟩:=jon I.hok e
  refine wpAny_notIn_heap (tupleKind_room_in1 hu) (jkq I.hok eb) hd dd ?_
  have q:=(rel.val k).isSome_eq
  rw[Option.isSome_map] at q
  rw[<-q,<-l]
  exact h _ (I.tok _)
theorem jlh{h':Heap}{t':Nat}{ob:HO}(I:Inv X pins σ H s)(mu:Mut (H a))(hs:Heap.SameBut a s.heap h')(he:∃q,h'.get? a=some q)(new:jc2 X.prog X.w (upd H a ob) h' a ob):
  Inv X pins σ (upd H a ob) {s with heap:=h',toks:=t'}:=
 I.write (x:=a) (e:=a) mu (.inl rfl) (λb q hb z=>(hs.2 b hb).trans z) he new
theorem jvu{P:Program}{w:World}{H':Hp}{h':Heap}{kvs:List (Key×V)}{vs:List (Key×Value)}(z:kvs.length<=sizeLine)(hd:(a==sysModules)=false)(rel:KV kvs vs)(dd:h'.DictOf (jbk P w) a vs):
  jc2 P w H' h' a (.dK kvs):=⟨z,hd,vs,rel,dd⟩
theorem jrv{H':Hp}{Q:Unit->Shared->Prop}(hu:A.units+1<cLine)(I:Inv X pins σ H s)(g:DPut H a y v H')(ry:RelV y u)(rv:RelV v r)(h:∀s',Inv X pins σ H' s'->Q () s'):
  wpAny (model X.prog X.w) A (setItem (.ref a) u r) Q E s:=by
 rcases g with⟨kvs,k,e,ey,l,eH⟩ | ⟨kvs,k,b,e,ey,eb,l,eH⟩
 ·subst ey eH
  obtain⟨z,hd,vs,rel,dd⟩:=jor I.hok e
  have hz:vs.length<=sizeLine:=by rw[<-rel.length];exact z
  have hl:(putK kvs k v).length<=sizeLine:=by have:=ji4 kvs k v;omega
  refine wpAny_setItem_pairs (hsz:=hz) (jgt ry) dd λh' dd' hs=>h _ ?_
  have he:∃q,h'.get? a=some q:=let ⟨q,_,_,hq,_⟩:=dd';⟨q,hq⟩
  exact jlh I (by rw[e];exact True.intro) hs he (jvu hl hd (rel.put k rv) dd')
 ·subst ey eH
  cases (show u=Value.ref b from ry)
  obtain⟨z,hd,xs,rel,dd⟩:=dt_of I.hok e
  have hz:xs.length<=sizeLine:=by rw[<-Paired.length rel];exact z
  have hl:(putK kvs k v).length<=sizeLine:=by have:=ji4 kvs k v;omega
  refine wpAny_setItem_heap (hsz:=hz) (tupleKind_room_in1 hu) (jkq I.hok eb) dd λh' dd' hs=>h _ ?_
  obtain⟨q,es,ep,hq,h2,h3,h4,_,h5⟩:=dd'
  refine jlh I (by rw[e];exact True.intro) hs ⟨q,hq⟩ ⟨hl,hd,_,(rel.put k eb rv).keeps λc ys ec=> ?_,q,es,ep,hq,h2,h3,h4,h5⟩
  rw[jae (ne_of ec e (λz=>nomatch z))]
  exact ec
end
section
variable {X : Cx} {pins : List (Addr × Obj)} {σ : St} {H : Hp} {s : Shared} {a : Addr} {kvs : List (Key × V)} {k : Key} {u : Value} {A : Around} {E : Value -> Shared -> Prop}
theorem d_pop{v:V}{more:List Value}{Q:Value->Shared->Prop}(I:Inv X pins σ H s)(e:H a=some (.dK kvs))(ry:RelV (kV k) u)(l:valV kvs k=some v)(hm:more=[] \/ ∃x,more=[x])
  (h:∀w' s',Inv X pins σ (upd H a (.dK (jj7 kvs k))) s'->RelV v w'->Q w' s'):wpAny (model X.prog X.w) A (call (.builtin "dict.pop") (.ref a::u::more)) Q E s:=by
 obtain⟨z,hd,vs,rel,dd⟩:=jor I.hok e
 obtain⟨w',hw,rw'⟩:=RelO.some_of (v:=v) (o:=valueAt vs k) (by rw[<-l];exact rel.val k)
 have hp:(keyPart u).isSome=true:=by
  cases k with
  | inl i=>obtain⟨t,q⟩:=(show ∃t,u=Value.int i t from ry);subst q;rfl
  | inr x=>obtain⟨t,q⟩:=(show ∃t,u=Value.str x t from ry);subst q;rfl
 have ha:argsOk "dict.pop" ⟨.ref a::u::more,[]⟩:=by
  rcases hm with q | ⟨x,q⟩
  ·subst q;exact PySem.F.args_dict_pop_2 _ _
  ·subst q;exact PySem.F.args_dict_pop_3 _ _ _
 refine call_meetsIn PySem.F.slot_dict_pop dd.typeIs PySem.F.entry_dict_pop ha (meets_dict_pop_there (jbk X.prog X.w) a (jgt ry) more hm hp)
  ⟨vs,w',dd,by rw[<-rel.length];exact z,hw,λh' dd' hs=>h w' _ ?_ rw'⟩
 have he:∃q,h'.get? a=some q:=let ⟨q,_,_,hq,_⟩:=dd';⟨q,hq⟩
 exact jlh I (by rw[e];exact True.intro) hs he (jvu (Nat.le_trans (juk kvs k) z) hd (rel.drop k) dd')
theorem d_len{Q:Value->Shared->Prop}(I:Inv X pins σ H s)(e:Rd H a (.dK kvs))(h:∀t s',Inv X pins σ H s'->Q (.int kvs.length t) s'):wpAny (model X.prog X.w) A (call (.builtin "len") [.ref a]) Q E s:=by
 obtain⟨z,hd,vs,rel,dd⟩:=jmf I.hok e
 refine call_len_dict hd dd (by rw[<-rel.length];rw[sizeLine_eq] at z;omega) ?_
 rw[<-rel.length]
 exact h _ _ (I.tok _)
end
theorem jmg{X:Cx}{pins:List (Addr×Obj)}{σ:St}{H:Hp}{s:Shared}{a:Addr}{y:V}{o:Option V}(I:Inv X pins σ H s)(g:DGet H a y o):s.TypeIs (.ref a) "dict":=by
 rcases g with⟨kvs,k,e,_,_⟩ | ⟨kvs,k,b,e,_,_,_⟩
 ·obtain⟨_,_,vs,_,dd⟩:=jmf I.hok e
  exact dd.typeIs
 ·obtain⟨_,_,xs,_,dd⟩:=jon I.hok e
  exact dd.typeIs
def sDPut(td ty tv:TE):TS:=λD σ H=>tv σ H λv H1=>td σ H1 λx H2=>ty σ H2 λy H3=>∃a H4,x= .ref a /\ DPut H3 a y v H4 /\ D.nx σ H4
section
variable {X : Cx} {o i e value : Expr} {pos pos' tpos : Pos} {td ty tv : TE}
theorem jre(hu:X.A.units+1<cLine)(ho:PE X o td)(hi:PE X i ty)(hv:PE X value tv)(hs:swapsWith value (some (.Subscript o i pos')) pos.line X.env=pure false):
  PS X (.Assign [.Subscript o i pos'] value pos) (sDPut td ty tv):=by
 intro pins s σ H D I h
 refine wpAny_Assign_Subscript (thn (hv pins s σ H _ I h) λr s1 ⟨v,H1,I1,rv,q1⟩=>thn (ho pins s1 σ H1 _ I1 q1) λu s2 ⟨x,H2,I2,rx,q2⟩=>thn (hi pins s2 σ H2 _ I2 q2) λiv s3 ⟨y,H3,I3,ry,a,H4,ex,g,q3⟩=> ?_) hs
 subst ex
 obtain rfl:u=Value.ref a:=rx
 exact jrv hu I3 g ry rv λs4 I4=>⟨σ,H4,I4,q3⟩
end
theorem ju1{P:Program}{w:World}{H:Hp}(h:Heap)(hb:sysModules<h.objs.size):jc2 P w H (h.push {cls:= .type "dict",data:= .dict #[]}) h.objs.size (.dK []):=
 ⟨Nat.zero_le _,beq_eq_false_iff_ne.mpr (Ne.symm (Nat.ne_of_lt hb)),[],.nil,Heap.DictOf.new h⟩
def jwh:TE:=λ_ H Q=>∀p,H p=none->Q (.ref p) (upd H p (.dK []))
section
variable {X : Cx} {pos : Pos}
theorem jjv:PE X (.Dict [] [] pos) jwh:=λpins s σ H Q I h=>
 wpAny_Dict_empty ⟨.ref s.heap.objs.size,_,I.laid (a:=s.heap.objs.size) (o:= .dK []) (t':=s.toks) (λ_ _ q=>Heap.get?_push_of_some _ q) (Nat.le_refl _) (ju1 s.heap I.big),rfl,h _ (I.hok.fresh (Nat.le_refl _))⟩
end
structure M1 (X:Cx) (o:Expr) (m:Str) (apos:Pos) (e:Expr) (cpos:Pos):Prop where
 base:attributeBase o m X.env (eval o X.env)=eval o X.env
 few:((backTo cpos (starEach [e] X.env)).all (λx=> !x.1)&&(backToKw cpos (keywordEach [] X.env)).all (λx=>x.1.isSome)
  &&decide (([e]:List Expr).length+([]:List Keyword).length+(if([]:List Keyword).isEmpty then 0 else 1)<30))=true
 line:(apos.endLine==cpos.line)=true
 trees:backTo cpos (starEach [e] X.env)=[(false,eval e X.env)]
def IsD(H:Hp)(a:Addr):Prop:=(∃kvs,Rd H a (.dK kvs)) \/ ∃kvs,Rd H a (.dT kvs)
theorem isD_at{X:Cx}{pins:List (Addr×Obj)}{σ:St}{H:Hp}{s:Shared}{a:Addr}(I:Inv X pins σ H s)(d:IsD H a):
  s.TypeIs (.ref a) "dict" /\ (∀b,Value.ref a= .ref b->∃ob,s.heap.get? b=some ob /\ ob.dict=none) /\ (a==sysModules)=false:=by
 rcases d with⟨kvs,e⟩ | ⟨kvs,e⟩
 ·obtain⟨_,hd,vs,_,dd⟩:=jmf I.hok e
  refine⟨dd.typeIs,λb q=> ?_,hd⟩
  cases q
  obtain⟨ob,_,_,h1,h2,_⟩:=dd
  exact⟨ob,h1,h2.2.1⟩
 ·obtain⟨_,hd,xs,_,dd⟩:=jon I.hok e
  refine⟨dd.typeIs,λb q=> ?_,hd⟩
  cases q
  obtain⟨ob,_,_,h1,h2,_⟩:=dd
  exact⟨ob,h1,h2.2.1⟩
def jwd(td ty:TE):TE:=λσ H Q=>td σ H λx H1=>∃a,x= .ref a /\ IsD H1 a /\ ty σ H1 λy H2=>∃kvs k v,H2 a=some (.dK kvs) /\ y=kV k /\ valV kvs k=some v /\ Q v (upd H2 a (.dK (jj7 kvs k)))
section
variable {X : Cx} {o e f : Expr} {apos cpos : Pos} {td ty tx : TE}
theorem jo3(ho:PE X o td)(he:PE X e ty)(m:M1 X o "pop" apos e cpos):PE X (.Call (.Attribute o "pop" apos) [e] [] cpos) (jwd td ty):=by
 intro pins s σ H Q I h
 refine wpAny_Call_method m.base m.few m.line PySem.F.plainAttrs_dict PySem.F.slot_dict_pop PySem.F.type_dict_pop (thn (ho pins s σ H _ I h) λu s1 ⟨x,H1,I1,rx,a,ex,d,q1⟩=> ?_)
 subst ex
 obtain rfl:u=Value.ref a:=rx
 obtain⟨t1,t2,_⟩:=isD_at I1 d
 refine⟨t1,t2,?_⟩
 rw[m.trees]
 refine Calls.callWith_builtin rfl (Calls.evalArgs_plain (Calls.spliced_cons (thn (he pins s1 σ H1 _ I1 q1) λiv s2 ⟨y,H2,I2,ry,kvs,k,v,ea,ey,l,q2⟩=>Calls.spliced_nil ?_)))
 subst ey
 exact d_pop I2 ea ry l (.inl rfl) λw' s3 I3 rw'=>⟨v,_,I3,rw',q2⟩
end
end L2
namespace Att
open PySem PySem.W PySem.Calls PyProof.Rows
theorem jhj{P:Params}{h:Heap}:∀(ns:List Int) (vs:List Value),WellAll P h vs (ns.map WData.int)->IntsAre vs ns:=by
 intro ns
 induction ns with
 | nil=>
  intro vs w
  rw[List.map_nil] at w
  cases w
  exact .nil
 | cons n ns ih=>
  intro vs w
  rw[List.map_cons] at w
  cases w with
  | cons a b=>
   cases a
   exact .cons _ _ (ih _ b)
theorem jqw{l:OpenLaw}{n:Nat}(hn:l.most=some n){P:Params}{h:Heap}{args:List WData}{vals:List Value}
    (hpre:l.row.toRowW.claim.pre args=true) (hwl:WellAll P h vals args):
    ∃a vs ns,vals=[Value.ref a] /\ args=[WData.list (ns.map WData.int)] /\ h.get? a=some {cls:= .type "list",data:= .seq vs.toArray} /\ IntsAre vs ns /\ ns.length<=n:=by
  have hsh:WShape.hasAll [] args [.list .int]=true:=(pre_splitW hpre).1
  have hc:l.pre.holds [] {args:=args}=true:=(pre_splitW hpre).2
  obtain⟨d,r,rfl,h1,h2⟩:=hasAllW_cons hsh
  obtain rfl:=hasAllW_nil h2
  obtain⟨xs,rfl,h3⟩:=hasW_list h1
  obtain⟨ns,rfl⟩:=items_int h3
  have hlen:ns.length<=n:=by
    unfold OpenLaw.pre at hc
    have h4:(WTm.not (.lt (.lit (.int (n:Int))) (.len (.arg 0)))).holds [] {args:=[.list (ns.map .int)]}=true:=by
      have h4:=(holds_andW hc).1
      rw[hn] at h4
      exact h4
    have h5:=condW_of h4 (w_not (w_lt w_lit (w_len_list (w_arg rfl))))
    rw[List.length_map] at h5
    refine Nat.le_of_not_lt λq=> ?_
    have q':(n:Int)<((ns.length:Nat):Int):=by omega
    first
      | (rw[decide_eq_true q'] at h5;exact absurd h5 (by decide))
      | (simp at h5;omega)
  cases hwl with
  | cons w1 w2=>
    cases w2
    cases w1 with
    | list ho hall=>exact⟨_,_,ns,rfl,rfl,ho,jhj ns _ hall,hlen⟩
theorem jrk(l:OpenLaw)(args:List WData):l.row.toRowW.claim.post args (.bool true) args=true:=
 postW_of (r:=l.row.toRowW) (X:=(true==true))
  (show WShape.has [] (.bool true) .bool=true by first | rfl | decide | simp[WShape.has,WShape.arms,WShape.armsAll])
  (show(WTm.eq .res (.lit (.bool true))).value [] {args:=args,res:=some (.bool true),after:=args}=some (.bool (true==true)) from w_eq_bool (w_res rfl) w_lit) rfl
theorem attach_call{l:OpenLaw}{n:Nat}{q:Program}{loose:List Str}{XP:(Str->Option Value)->Heap->Prop}{YP:World->Heap->Prop}{d:DefRec}
  (hn:l.most=some n) (hdf:d.params.defaults=[])
  (call:∀(w:World) (s₀ s₁:Shared) (mg mb:Str->Option Value) (fa:Addr) (o:Obj) (pm cd doc:Value) (a:Addr) (vs:List Value) (ns:List Int),
   Ground q loose [] XP w s₀ mg mb s₁.heap->YP w s₁.heap->
   s₁.heap.get? fa=some o->o.data= .func (docDef d.name d.params d.body d.scope pm cd doc)->s₁.heap.CodeRec cd d.name->mg d.name=some (.ref fa)->
   s₁.heap.get? a=some {cls:= .type "list",data:= .seq vs.toArray}->IntsAre vs ns->ns.length<=n->s₁.gens=#[]->
   codeAny (model l.prog w) callerA (.call (.ref fa) ⟨[.ref a],[]⟩) (λr s'=>r= .ok (.ret (.bool true)) /\ OldK s₁.heap s'.heap /\ s'.os=s₁.os /\ AllBare s'.gens) s₁):
  WalkO q loose XP YP l.row.toRowW d [] (λf vs=>PySem.call f vs):=by
 intro w s₀ s₁ mg mb G Y fa o pm cd doc dV kV ho hd hcd hD hmg hg args vals as hpre hlay hrd hwl hlo
 obtain rfl:dV= .none:=Dflts.none hD hdf
 obtain rfl:kV= .none:=Dflts.noKw hD
 obtain⟨a,vs,ns,rfl,rfl,hobj,hints,hlen⟩:=jqw hn hpre hwl
 refine enter_call (codeAny_mono (call w s₀ s₁ mg mb fa o pm cd doc a vs ns G Y ho (fd_plain hd) hcd hmg hobj hints hlen hg) λr s' hq=> ?_)
 obtain⟨rfl,h2,h3,h4⟩:=hq
 exact⟨.inl ⟨.bool true,.bool true,[],rfl,λ_=>rfl,.bool true,jrk l _,λ_=>⟨List.Pairwise.nil,λ_ hm=>(nomatch hm)⟩⟩,h2,h3,h4⟩
end Att
namespace L2
open PySem PySem.Spec PyProof.Rows
theorem ji2:∀{vs:List Value} {ns:List Int},IntsAre vs ns->Vals (ns.map V.int) vs
 | _,_,.nil=> .nil
 | _,_,.cons n t h=> .cons ⟨t,rfl⟩ (ji2 h)
def Only(H:Hp):Prop:=∀b,H b=none \/ ∃o xs,H b=some (.frz o (.lst xs))
theorem jvi{P:Program}{w:World}{K:W.Frag}{mg mb:Str->Option Value}{CX:CXT}{k:Nat}{fa a:Addr}{fd:FuncData}{x:Str}{sp:Sp}{s₁:Shared}{vs:List Value}{ns:List Int}
  (KX:K.In s₁.heap) (hns:s₁.heap.Ns mainGlobals mg) (hb:s₁.heap.Ns builtinsNs mb) (hbb:∀x:Str,x≠"__name__"->mb x=bootBuiltins x) (hlim:s₁.heap.NoLimit) (hg:s₁.gens=#[])
  (ha:s₁.heap.get? a=some {cls:= .type "list",data:= .seq vs.toArray}) (hi:IntsAre vs ns) (hl:ns.length<=sizeLine) (hr:Room k callerA)
  (F:∀base:Heap,K.In base->base.Ns mainGlobals mg->FnOk P w K mg base CX k fa fd [x] sp) (hbind:∀(s:Shared) (u:Value),BindsTo s fd ⟨[u],[]⟩ [(x,u)])
  (hsp:∀H:Hp,Only H->SqL K H a (ns.map V.int)->sp [.ref a] H (λv _=>v= .bl true) λ_ _ _=>False)
  (hCX:∀H e s',CX [] H s₁ (λ_ _ _=>False) e s'->False):
  codeAny (model P w) callerA (.call (.ref fa) ⟨[.ref a],[]⟩) (λr s'=>r= .ok (.ret (.bool true)) /\ OldK s₁.heap s'.heap /\ s'.os=s₁.os /\ AllBare s'.gens) s₁:=by
 have rv:=ji2 hi
 have lenV:=hi.length
 have core:∀H:Hp,Only H->SqL K H a (ns.map V.int)->HOk P w H s₁.heap->(∀b,H b≠none->b=a)->(H a≠none->K.lookup a=none)->
   codeAny (model P w) callerA (.call (.ref fa) ⟨[.ref a],[]⟩) (λr s'=>r= .ok (.ret (.bool true)) /\ OldK s₁.heap s'.heap /\ s'.os=s₁.os /\ AllBare s'.gens) s₁:=by
  intro H hO hS hok hA hK
  have base_of:∀{b:Addr} {o:Obj},s₁.heap.get? b=some o->H b=none->(hidT s₁.heap H).get? b=some o:=λe n=>jtv e n
  have noA:∀{b:Addr} {o:Obj} {es:Array DictEntry} {ep:Nat},s₁.heap.get? b=some o->o.data= .dict es ep->H b=none:=fun{b o es ep} e d=>by
   cases q:H b with
   | none=>rfl
   | some u=>
    have e':b=a:=hA b (by rw[q];simp)
    subst e'
    rw[ha] at e;cases e
    have d':Data.seq vs.toArray _=Data.dict es ep:=d
    cases d'
  have nsK:∀{b:Addr} {m:Str->Option Value},s₁.heap.Ns b m->(hidT s₁.heap H).Ns b m:=fun{b m} ⟨o,es,ep,e,d,r⟩=>⟨o,es,ep,base_of e (noA e d),d,r⟩
  have hKb:K.In (hidT s₁.heap H):=λb o e=>base_of (KX b o e) (by
   cases q:H b with
   | none=>rfl
   | some u=>
    have e':b=a:=hA b (by rw[q];simp)
    subst e'
    rw[hK (by rw[q];simp)] at e;cases e)
  have hM:Mod K mg (hidT s₁.heap H):=⟨hKb,nsK hns,⟨mb,nsK hb,hbb⟩,let ⟨mc,h1,h2⟩:=hlim;⟨mc,nsK h1,h2⟩⟩
  have e0:Env0 P w K mg (hidT s₁.heap H) callerA [] s₁ H:=⟨rfl,hM,λb o e=>jy2 e,Nat.le_of_eq (jr7 _ _),trivial,λb hb=>absurd (show b∈([]:List Addr) from hb) (by simp),hok,.of_eq hg⟩
  refine codeAny_mono ((F _ hKb (nsK hns)).run callerA [] s₁ H ⟨[.ref a],[]⟩ [.ref a] [.ref a] _ _ hr e0 (hbind s₁ (.ref a)) (.cons rfl .nil) (hsp H hO hS)) λr s' h=> ?_
  cases r with
  | error e=>exact(hCX H e s' h).elim
  | ok fl=>
   cases fl with
   | next=>exact False.elim h
   | brk=>exact False.elim h
   | cont=>exact False.elim h
   | ret u=>
    obtain⟨v,H',os,bare,un,hok',r',q⟩:=h
    have q':v= .bl true:=q
    subst q'
    obtain rfl:u=Value.bool true:=r'
    refine⟨rfl,OldK.of_keep λb o e=> ?_,os,bare⟩
    cases q:H b with
    | none=>exact un.keep b o e q (by intro z;exact absurd (show b∈([]:List Addr) from z) (by simp)) (by simp)
    | some u=>
     rcases hO b with z | ⟨ob,xs,z⟩
     ·rw[q] at z;cases z
     ·have z2:=un.frzs b ob _ z
      obtain⟨e1,_⟩:=hok b _ z
      obtain⟨e2,_⟩:=hok' b _ z2
      rw[e] at e1;cases e1
      exact e2
 cases hk:K.lookup a with
 | some o=>
  have e:=KX a o hk
  rw[ha] at e
  cases e
  refine core (λ_=>none) (λ_=> .inl rfl) (.inr ⟨_,vs.toArray,_,hk,rfl,rfl,rfl,by rw[List.size_toArray,lenV];exact hl,by simpa using rv⟩) (λb u z=>by have z':(none:Option HO)=some u:=z;cases z') (λb z=>absurd rfl z) λz=>absurd rfl z
 | none=>
  refine core (λb=>if b=a then some (.frz {cls:= .type "list",data:= .seq vs.toArray} (.lst (ns.map V.int))) else none) (λb=> ?_) (.inl (.inr ⟨{cls:= .type "list",data:= .seq vs.toArray},if_pos rfl⟩)) (λb u z=> ?_) (λb z=> ?_) λ_=>hk
  ·by_cases hb:b=a
   ·exact .inr ⟨_,_,if_pos hb⟩
   ·exact .inl (if_neg hb)
  ·by_cases hb:b=a
   ·have z':=(if_pos hb).symm.trans z
    cases z'
    subst hb
    exact⟨ha,by rw[List.length_map];exact hl,vs,_,rv,ha⟩
   ·have z':=(if_neg hb).symm.trans z
    cases z'
  ·by_cases hb:b=a
   ·exact hb
   ·exact absurd (if_neg hb) z
abbrev KOf{K:W.Frag}{h:Heap}(_:K.In h):W.Frag:=K
theorem jwz{l:W.OpenLaw}{n k:Nat}{q:Program}{loose:List Str}{XP:(Str->Option Value)->Heap->Prop}{YP:World->Heap->Prop}{d:DefRec}{K:Params->W.Frag}{CX:World->CXT}{sp:World->Sp}{x:Str}
  (hn:l.most=some n) (hn2:n<=sizeLine) (hdf:d.params.defaults=[]) (hr:Room k callerA)
  (hY:∀(w:World) (h:Heap),YP w h->(K w.params).In h)
  (F:∀(w:World) (mg:Str->Option Value) (fa:Addr) (h:Heap),(K w.params).In h->h.Ns mainGlobals mg->mg d.name=some (.ref fa)->
   ∃fd:FuncData,(∀(s:Shared) (u:Value),BindsTo s fd ⟨[u],[]⟩ [(x,u)]) /\
    ∀base:Heap,(K w.params).In base->base.Ns mainGlobals mg->FnOk l.prog w (K w.params) mg base (CX w) k fa fd [x] (sp w))
  (hsp:∀(w:World) (H:Hp) (a:Addr) (ns:List Int),ns.length<=n->Only H->SqL (K w.params) H a (ns.map V.int)->sp w [.ref a] H (λv _=>v= .bl true) λ_ _ _=>False)
  (hCX:∀(w:World) (H:Hp) (s:Shared) (e:Value) (s':Shared),CX w [] H s (λ_ _ _=>False) e s'->False):
  W.WalkO q loose XP YP l.row.toRowW d [] (λf vs=>PySem.call f vs):=by
 refine Att.attach_call hn hdf λw s₀ s₁ mg mb fa o pm cd doc a vs ns G Y ho hd hcd hmg hobj hints hlen hg=> ?_
 have KX:=hY w _ Y
 obtain⟨fd,hb,hF⟩:=F w mg fa _ KX G.T.g hmg
 exact jvi KX G.T.g G.T.b G.T.builtins G.T.nolimit hg hobj hints (Nat.le_trans hlen hn2) hr hF hb (λH hO hS=>hsp w H a ns hlen hO hS) λH e s'=>hCX w H s₁ e s'
def jbc(s:Stmt)(j:Nat):Stmt:=match s with
 | .ClassDef _ _ _ body _ _ _ _ _ _ _=>body.getD j (.Pass ⟨0,0,0,0⟩)
 | _=> .Pass ⟨0,0,0,0⟩
def jel(s:Stmt):Arguments:=match s with
 | .FunctionDef _ a _ _ _ _ _ _ _ _=>a
 | _=>{posonlyargs:=[],args:=[],vararg:=none,kwonlyargs:=[],kw_defaults:=[],kwarg:=none,defaults:=[]}
def jdf(s:Stmt):List Stmt:=match s with
 | .FunctionDef _ _ b _ _ _ _ _ _ _=>b
 | _=>[]
def jab(s:Stmt):Scope:=match s with
 | .FunctionDef _ _ _ _ _ _ sc _ _ _=>sc
 | _=>{kind:= .function,names:=[],isGenerator:=false,isCoroutine:=false}
abbrev E0:XK:=λ_ _ _=>False
structure Fun (K:W.Frag) (x qual:Str) (st:Stmt) (f:Addr) (fd:FuncData):Prop where
 ex:∃(oc:Value) (od:Option Addr) (kV doc pm:Value) (an:Option Addr) (cdv ct:Value) (osl:Array (Option Value)),
  fd=W.fnOf x qual (jel st) (jdf st) (jab st) .none kV doc pm an cdv ct /\ K.lookup f=some ⟨oc,od,.func fd,osl⟩ /\ W.codeIn K cdv qual=true
 kp:W.keepIn K (.ref f)=true
section
variable {P : Program} {w : World} {K : W.Frag} {mg : Str -> Option Value} {base : Heap}
theorem Fun.binds{x qual:Str}{st:Stmt}{f:Addr}{fd:FuncData}{ps:List Str}(F:Fun K x qual st f fd)
  (h:∀(kV doc pm:Value) (an:Option Addr) (cdv ct:Value) (us:List Value),us.length=ps.length->bindArgs (W.fnOf x qual (jel st) (jdf st) (jab st) .none kV doc pm an cdv ct) ⟨us,[]⟩=pure (ps.zip us)):jfo K fd ps []:=by
 obtain⟨oc,od,kV,doc,pm,an,cdv,ct,osl,rfl,lk,hcd⟩:=F.ex
 exact .all (h kV doc pm an cdv ct)
theorem jwl{x qual:Str}{st:Stmt}{f:Addr}{oc:Value}{od an:Option Addr}{osl:Array (Option Value)}{kV doc pm cdv ct:Value}(l:K.lookup f=some ⟨oc,od,.func (W.fnOf x qual (jel st) (jdf st) (jab st) .none kV doc pm an cdv ct),osl⟩)
  (c:W.codeIn K cdv qual=true) (k:W.keepIn K (.ref f)=true):Fun K x qual st f (W.fnOf x qual (jel st) (jdf st) (jab st) .none kV doc pm an cdv ct):=⟨⟨oc,od,kV,doc,pm,an,cdv,ct,osl,rfl,l,c⟩,k⟩
end
theorem hu_of{A:Around}{k:Nat}(hr:Room k A):A.units+1<cLine:=Nat.lt_of_le_of_lt (Nat.add_le_add_left (by decide:1<=64) _) hr.units
section
variable {X : Cx}
theorem pv(i:Nat){x:Str}{pos:Pos}(hN:X.N[i]?=some x:=by rfl)(hv:Vis X.env.scope x:=by first | exact Or.inl rfl | exact Or.inr (Or.inl rfl) | exact Or.inr (Or.inr rfl))(hd:(x==("__debug__":Str))=false:=by decide)
  (hcd:(x==("__classdict__":Str))=false:=by decide):PE X (.Name x pos) (tVar i):=pe_var hN hv hd hcd
theorem jpm:jdi X (.builtin "len") (λxs H Q=>∃a kvs,xs=[V.ref a] /\ H a=some (.dK kvs) /\ Q (.int kvs.length) H):=by
 intro pins s σ H xs us Q I r h
 obtain⟨a,kvs,rfl,ha,q⟩:=h
 obtain⟨u,rfl,ru⟩:=jiz r
 cases ru
 exact d_len I (.inl ha) λt s' I'=>⟨.int kvs.length,H,I',⟨t,rfl⟩,q⟩
end
def Same(H H':Hp):Prop:=∀b o,H b=some o->H' b=some o
theorem Same.refl(H:Hp):Same H H:=λ_ _ h=>h
theorem Same.trans{H H1 H2:Hp}(a:Same H H1)(b:Same H1 H2):Same H H2:=λc o h=>b c o (a c o h)
theorem jkc{prog:Program}{w:World}{A:Around}{R:Result->Shared->Prop}{s:Shared}{elt target iter:Expr}{ifs:List Expr}{scope:Scope}{pos:Pos}{it acc:Value}{env:Env}(I:Nat->Shared->Prop)
  (turn:∀n s,I n s->wpAny (model prog w) A (pyNext it) (λr s₁=>match r with
   | none=>R (.ok .next) s₁
   | some v=>wpAny (model prog w) A (letOwnedTupleGo target it v) (λ_ s₁'=>wpAny (model prog w) A (assign target env v) (λ_ s₂=>
     wpAny (model prog w) A (forIn ifs true λc r=>if r=true then do let ok<-isTrue c env (eval c env);pure (ForInStep.yield ok) else pure (ForInStep.yield r)) (λok s₃=>
      if ok=true then wpAny (model prog w) A (eval elt env) (λx s₄=>
       wpAny (model prog w) A (call (.builtin "list.append") [acc,x]) (λ_ s₅=>∃m,m<n /\ I m s₅) (λ_ _=>False) s₄) (λ_ _=>False) s₃
      else ∃m,m<n /\ I m s₃) (λ_ _=>False) s₂) (λ_ _=>False) s₁') (λ_ _=>False) s₁) (λ_ _=>False) s)
  (n:Nat) (h:I n s):
  codeAny (model prog w) A (.compLoop (.ListComp elt [⟨target,iter,ifs,0⟩] scope pos) 0 it acc env) R s:=by
 refine codeAny_loop rfl I (λn s hI=> ?_) n h
 show wpAny _ A ((compTurn (.ListComp elt [⟨target,iter,ifs,0⟩] scope pos) 0 it acc env).onRaise (λx=>do noteFrame x env;theTreesLotGoes x)) _ _ s
 refine wpAny_noted ?_
 rw[compTurn_list]
 refine wpAny_bind (wpAny_standAt (wpAny_bind (wpAny_mono (turn n s hI) (λr s₁ h₁=> ?_) λ_ _ f=>f.elim)))
 cases r with
 | none=>exact wpAny_pure h₁
 | some v=>
  refine wpAny_bind (wpAny_mono h₁ (λ_ s₁' h₁'=>wpAny_bind (wpAny_mono h₁' (λ_ s₂ h₂=>wpAny_bind (wpAny_mono h₂ (λok s₃ h₃=> ?_) λ_ _ f=>f.elim)) λ_ _ f=>f.elim)) λ_ _ f=>f.elim)
  cases ok with
  | false=>exact wpAny_pure ⟨rfl,h₃⟩
  | true=>
   exact wpAny_bind (wpAny_bind (wpAny_mono h₃ (λx s₄ h₄=>wpAny_bind (wpAny_mono h₄ (λ_ s₅ h₅=>wpAny_pure (wpAny_pure ⟨rfl,h₅⟩)) λ_ _ f=>f.elim)) λ_ _ f=>f.elim))
def PF(X:Cx)(ifs:List Expr)(t:TT):Prop:=
 ∀(pins:List (Addr×Obj)) (s:Shared) (σ:St) (H:Hp) (Q:Bool->Hp->Prop),Inv X pins σ H s->t σ H Q->
  wpAny (model X.prog X.w) X.A (forIn ifs true λc r=>if r=true then do let ok<-isTrue c X.env (eval c X.env);pure (ForInStep.yield ok) else pure (ForInStep.yield r)) (TP X pins σ Q) X.xe s
def tYes:TT:=λ_ H Q=>Q true H
theorem jhw{X:Cx}:PF X [] tYes:=λ_ s _ H _ I q=>wpAny_tests_nil ⟨H,I,q⟩
theorem jiu{X:Cx}{c:Expr}{t:TT}(h:PT X c t):PF X [c] t:=λpins s σ H Q I q=>wpAny_tests_one (h pins s σ H Q I q)
def cxC(X:Cx)(N':List Str)(scope:Scope)(cl:List (Str×Addr))(C:Addr)(s₂:Shared)(H₂:Hp)(fp:List Addr):Cx:=
  {prog:=X.prog,w:=X.w,K:=X.K,mg:=X.mg,base:=X.base,A:=X.A,N:=N',s₀:=s₂,H₀:=H₂,env:=compEnvC scope cl C X.env,outer:=X.stack,stack:=X.stack,ex:=fp,
    fn:=λ_=>false,calm:=X.calm,pn:=[],xe:=λ_ _=>False}
inductive Caps (X:Cx) (scope:Scope) (cl:List (Str×Addr)):List Str->List Nat->Prop
 | nil:Caps X scope cl [] []
 | cons {n:Str} {j:Nat} {ns:List Str} {js:List Nat} {c:Addr}:X.N[j]?=some n->(X.env.kindOf n=some .cell \/ X.env.kindOf n=some .free)->((relabel scope X.env).names.lookup n=some .cell \/ (relabel scope X.env).names.lookup n=some .free)->
   X.env.cells.lookup n=some c->cl.lookup n=some c->Caps X scope cl ns js->Caps X scope cl (n::ns) (j::js)
theorem Caps.len{X:Cx}{scope:Scope}{cl:List (Str×Addr)}:∀{ns:List Str} {js:List Nat},Caps X scope cl ns js->ns.length=js.length
 | _,_,.nil=>rfl
 | _,_,.cons _ _ _ _ _ r=>by simp[r.len]
theorem Caps.get{X:Cx}{scope:Scope}{cl:List (Str×Addr)}:∀{ns:List Str} {js:List Nat},Caps X scope cl ns js->∀(i:Nat) (n:Str),ns[i]?=some n->
  ∃j c,js[i]?=some j /\ X.N[j]?=some n /\ (X.env.kindOf n=some .cell \/ X.env.kindOf n=some .free) /\ ((relabel scope X.env).names.lookup n=some .cell \/ (relabel scope X.env).names.lookup n=some .free) /\ X.env.cells.lookup n=some c /\ cl.lookup n=some c
 | _,_,.nil,i,n,h=>by simp at h
 | _,_,.cons a b c d e r,0,n,h=>by
  simp at h;subst h;exact⟨_,_,rfl,a,b,c,d,e⟩
 | _,_,.cons a b c d e r,i+1,n,h=>by
  obtain⟨j,c',h1,h2⟩:=r.get i n (by simpa using h)
  exact⟨j,c',by simpa using h1,h2⟩
def jf5(idx:List Nat)(σ:St):St:=idx.map λj=>(σ[j]?).getD none
def jr9(nt:Nat)(idx:List Nat)(wi:TI)(g:TG)(tc:TT)(te:TE):TE:=λσ H Q=>wi σ H λJ H1=>∀l,H1 l=none->
 ∃W:Nat->Nat->List V->Hp->Prop,(∃m,W 0 m [] (upd H1 l (.lst []))) /\ ∀i m ys H2,W i m ys H2->H2 l=some (.lst ys) /\ ys.length<sizeLine /\
  ((J.stop i H2 /\ Q (.ref l) H2) \/ (J.go i H2 /\ ∀x H3,J.yld i H2 x H3->g x (List.replicate nt none++jf5 idx σ) H3 λσ4 H4=>tc σ4 H4 λc H5=>
   if c=true then te σ4 H5 λy H6=>H6 l=some (.lst ys) /\ ∃m',m'<m /\ W (i+1) m' (ys++[y]) (upd H6 l (.lst (ys++[y]))) else ∃m',m'<m /\ W (i+1) m' ys H5))
theorem cl_sub{X:Cx}{cl:List (Str×Addr)}(hsub:∀p∈cl,X.env.cells.lookup p.1=some p.2):∀x c,cl.lookup x=some c->X.env.cells.lookup x=some c:=by
 intro x c h
 induction cl with
 | nil=>simp at h
 | cons p r ih=>
  obtain⟨y,d⟩:=p
  rw[List.lookup_cons] at h
  cases e:x==y with
  | true=>
   rw[e] at h
   simp at h;subst h
   have:=hsub (y,d) (by simp)
   rw[eq_of_beq e];exact this
  | false=>
   rw[e] at h
   exact ih (λp hp=>hsub p (by simp[hp])) (by simpa using h)
theorem Un.sameBut{fs ex:List Addr}{H₂ H₅:Hp}{h₂ h₅ h':Heap}{C:Addr}(u:Un fs ex H₂ H₅ h₂ h₅)(hC:h₂.objs.size<=C)(sb:Heap.SameBut C h₅ h'):Un fs ex H₂ H₅ h₂ h':=by
 have lt:∀{b o},h₂.get? b=some o->b≠C:=fun{b o} e q=>by
  have:=Heap.lt_size e
  rw[q] at this
  exact absurd this (Nat.not_lt.mpr hC)
 exact⟨λb o e n f x=>sb.extBut b _ (lt e) (u.keep b o e n f x),λb o e n f x=>by
   obtain⟨sl,q⟩:=u.slot b o e n f x
   exact⟨sl,sb.extBut b _ (lt e) q⟩,u.free,λb o e x=>by
   obtain⟨o',q⟩:=u.there b o e x
   exact⟨o',sb.extBut b _ (lt e) q⟩,u.tups,u.frzs,u.tbls⟩
theorem HOk.sameBut{P:Program}{w:World}{H:Hp}{h h':Heap}{C:Addr}(x:HOk P w H h)(hC:H C=none)(sb:Heap.SameBut C h h'):HOk P w H h':=λa o e=>
 (x a o e).stay (λb u hb q=>sb.extBut b u (by
  rintro rfl
  rcases hb with rfl | hb
  ·rw[hC] at e;cases e
  ·rw[hC] at hb;cases hb) q) (λ_ q=>q) λ_ _ q=>q
theorem Un.but{fs:List Addr}{H:Hp}{h h':Heap}{C:Addr}(sb:Heap.SameBut C h h'):Un fs [C] H H h h':=
 ⟨λb o e _ _ x=>sb.extBut b o (by simpa using x) e,λb o e _ _ x=>⟨o.slots,sb.extBut b o (by simpa using x) e⟩,λ_ _ _ n _=>n,λb o e x=>⟨o,sb.extBut b o (by simpa using x) e⟩,λ_ _ q=>q,λ_ _ _ q=>q,
  λ_ ps q=>⟨#[],by simpa using q⟩⟩
def GOk(nt:Nat)(g:TG):Prop:=∀x σ H Q,g x σ H Q->g x σ H λσ' H'=>Q σ' H' /\ σ'.length=σ.length /\ ∀i,nt<=i->σ'[i]?=σ[i]?
theorem jd4{nt i:Nat}(h:i<nt):GOk nt (jad i):=λx σ H Q q=>⟨q,by simp,λj hj=>by rw[List.getElem?_set_ne (by omega)]⟩
section
variable {X : Cx} {elt target iter : Expr} {ifs : List Expr} {scope : Scope} {pos : Pos} {cl : List (Str × Addr)} {nt : Nat} {tgs cap : List Str} {idx : List Nat} {wi : TI} {g : TG} {tc : TT} {te : TE}
structure CompOk (X:Cx) (scope:Scope) (cl:List (Str×Addr)) (tgs cap:List Str) (idx:List Nat):Prop where
 clos:closureFor scope X.env=pure cl
 kind:scope.kind= .function
 cell:∀y∈scope.names,y.2≠ .cell
 names:∀y∈scope.names,y.2= .local->scope.names.lookup y.1=some .local
 sub:∀p∈cl,X.env.cells.lookup p.1=some p.2
 has:((relabel scope X.env).names.all λy=> !(y.2== .cell||y.2== .free)||(cl.lookup y.1).isSome)=true
 caps:Caps X scope cl cap idx
theorem has_of{names:List (Str×NameKind)}{cl:List (Str×Addr)}(h:(names.all λy=> !(y.2== .cell||y.2== .free)||(cl.lookup y.1).isSome)=true):
  ∀x,(names.lookup x=some .cell \/ names.lookup x=some .free)->∃c,cl.lookup x=some c:=by
 induction names with
 | nil=>intro x hx;simp at hx
 | cons p r ih=>
  obtain⟨y,k⟩:=p
  rw[List.all_cons,Bool.and_eq_true] at h
  intro x hx
  rw[List.lookup_cons] at hx
  cases e:x==y with
  | true=>
   rw[e] at hx
   have ey:=eq_of_beq e
   subst ey
   have h1:=h.1
   rcases hx with hx | hx<;>(simp at hx;subst hx;exact Option.isSome_iff_exists.mp (by simpa using h1))
  | false=>
   rw[e] at hx
   exact ih h.2 x (by simpa using hx)
theorem jop{pins:List (Addr×Obj)}{s₂:Shared}{σ:St}{H₂:Hp}{fp:List Addr}{h₁:Heap}{tk:Nat}{C:Addr}(eC:C=s₂.heap.objs.size+1)(O:CompOk X scope cl tgs cap idx)(I:Inv X pins σ H₂ s₂)(hfp:∀b∈fp,FpOk X pins H₂ b)(hfo:∀b∈fp,b<s₂.heap.objs.size)
  (hns:h₁.Ns C (λx=>([]:List (Str×Value)).reverse.lookup x))
  (hsb:Heap.SameBut C ((s₂.heap.push {cls:= .type "list",dict:=none,data:= .seq ([]:List Value).toArray}).push {cls:= .type "dict",data:= .dict #[]}) h₁):
  Inv (cxC X (tgs++cap) scope cl C s₂ H₂ fp) [] (List.replicate tgs.length none++jf5 idx σ) (upd H₂ s₂.heap.objs.size (.lst [])) {s₂ with heap:=h₁,toks:=tk}:=by
 have ltC:∀{b:Addr},b<s₂.heap.objs.size->b≠C:=fun{b} lt=>by rw[eC];exact Nat.ne_of_lt (Nat.lt_succ_of_lt lt)
 have kp:∀b o,s₂.heap.get? b=some o->h₁.get? b=some o:=λb o e=>by
  have lt:=Heap.lt_size e
  exact hsb.extBut b o (ltC lt) (Heap.get?_push_of_some _ (Heap.get?_push_of_some _ e))
 have hD:h₁.get? s₂.heap.objs.size=some {cls:= .type "list",dict:=none,data:= .seq ([]:List Value).toArray}:=
  hsb.extBut _ _ (by rw[eC];exact Nat.ne_of_lt (Nat.lt_succ_self _)) (Heap.get?_push_of_some _ (Heap.get?_push_size _ rfl))
 have fresh:∀a,s₂.heap.objs.size<=a->H₂ a=none:=λa ha=>I.hok.fresh ha
 have stk:=I.stkSub
 have nf:∀b∈fp,b∉frs X.stack:=λb hb hm=>by
  rcases List.mem_cons.mp (stk b hm) with e | e
  ·exact(hfp b hb).2.1 e
  ·exact(hfp b hb).2.2.1 e
 have sub:=cl_sub O.sub
 have clt:∀x c,cl.lookup x=some c->c<s₂.heap.objs.size:=λx c e=>by
  obtain⟨v,o,e',_⟩:=I.cell x c (sub x c e)
  exact Heap.lt_size e'
 refine⟨⟨I.ok.mod,?_,I.ok.glob,I.ok.blt,(by show s₂.heap.objs.size<=C;rw[eC];exact Nat.le_succ _),?_,?_,?_,I.ok.hd,I.ok.frames,.inl rfl,?_,?_,?_,?_,nf,I.stack,I.stkFree⟩,rfl,I.bare,?_,?_,?_,?_,?_,?_,?_,?_⟩
 ·exact O.kind
 ·intro x y c h1 h2;exact I.ok.inj x y c (sub _ _ h1) (sub _ _ h2)
 ·exact has_of O.has
 ·intro x c h;cases h
 ·intro b hb
  have lt:=hfo b hb
  exact⟨ltC lt,λx c h=>(hfp b hb).2.2.2.2.1 x c (sub _ _ h)⟩
 ·exact I.bs
 ·exact Nat.le_trans I.ok.bsz I.sz
 ·intro b o e hb
  rcases(hfp b hb).2.2.2.1 with h | h
  ·exact I.ok.noex b o e h
  ·exact absurd (Heap.lt_size e) (Nat.not_lt.mpr (Nat.le_trans I.ok.bsz h))
 ·exact(Un.laid (a:=s₂.heap.objs.size) kp (Nat.le_refl _) (fresh _ (Nat.le_refl _)))
 ·refine⟨_,hns,λi x v hN hv hvis=> ?_⟩
  by_cases hi:i<tgs.length
  ·rw[List.getElem?_append_left (by simpa using hi)] at hv
   rw[List.getElem?_replicate] at hv
   simp[hi] at hv
  ·have hi':tgs.length<=i:=Nat.not_lt.mp hi
   have hN':(tgs++cap)[i]?=some x:=hN
   rw[List.getElem?_append_right hi'] at hN'
   rw[List.getElem?_append_right (by simpa using hi')] at hv
   simp only[List.length_replicate] at hv
   obtain⟨j,c,h1,h2,h3,h4,h5,h6⟩:=O.caps.get _ _ hN'
   unfold jf5 at hv
   rw[List.getElem?_map,h1] at hv
   simp at hv
   have hv':σ[j]?=some (some v):=by
    cases e:σ[j]? with
    | none=>rw[e] at hv;cases hv
    | some z=>rw[e] at hv;simp at hv;rw[hv]
   obtain⟨m,hm,lk⟩:=I.loc
   obtain⟨u,ru,lk⟩:=lk j x v h2 hv' (by rcases h3 with h3 | h3;exact .inr (.inl h3);exact .inr (.inr h3))
   refine⟨u,ru,.inr ⟨h4,?_⟩⟩
   rcases lk with⟨k1,_⟩ | ⟨_,c',k2,k3⟩
   ·rcases h3 with h3 | h3<;>(rw[h3] at k1;cases k1)
   ·rw[h5] at k2;cases k2
    obtain⟨o,k4,k5⟩:=k3
    exact⟨c,h6,o,kp _ _ k4,k5⟩
 ·intro x c e
  obtain⟨v,o,e',q⟩:=I.cell x c (sub x c e)
  exact⟨v,o,kp _ _ e',q⟩
 ·show(upd H₂ s₂.heap.objs.size (.lst [])) C=none
  rw[eC,jae (Nat.ne_of_gt (Nat.lt_succ_self _))];exact fresh _ (Nat.le_succ _)
 ·intro x c e
  have:=clt x c e
  rw[jae (Nat.ne_of_lt this)];exact I.freeC x c (sub x c e)
 ·intro p hp;cases hp
 ·exact I.hok.laid kp (Nat.le_refl _) ⟨Nat.zero_le _,[],0,.nil,hD⟩
 ·have:=O.caps.len
  simp[jf5,cxC,this]
theorem jil{RR:Value->Addr->Result->Shared->Prop}{E₀:Value->Shared->Prop}{pins:List (Addr×Obj)}{s₂:Shared}{σ:St}{H₂:Hp}{it:Addr}{fp:List Addr}{tn:Nat->Heap->Prop}{J:It}{Fin:Addr->Hp->Prop}
  (O:CompOk X scope cl tgs cap idx) (hc:X.calm=true) (hgo:GOk tgs.length g)
  (hg:∀C s₂ H₂ fp,PG (cxC X (tgs++cap) scope cl C s₂ H₂ fp) target g) (ht:∀C s₂ H₂ fp,PF (cxC X (tgs++cap) scope cl C s₂ H₂ fp) ifs tc) (he:∀C s₂ H₂ fp,PE (cxC X (tgs++cap) scope cl C s₂ H₂ fp) elt te)
  (I:Inv X pins σ H₂ s₂) (T:Turn X.prog X.w X.K target J fp it tn) (st:tn 0 s₂.heap) (hfp:∀b∈fp,FpOk X pins H₂ b)
  (rd:∀l,H₂ l=none->∃W:Nat->Nat->List V->Hp->Prop,(∃m,W 0 m [] (upd H₂ l (.lst []))) /\ ∀i m ys H2,W i m ys H2->H2 l=some (.lst ys) /\ ys.length<sizeLine /\
   ((J.stop i H2 /\ Fin l H2) \/ (J.go i H2 /\ ∀x H3,J.yld i H2 x H3->g x (List.replicate tgs.length none++jf5 idx σ) H3 λσ4 H4=>tc σ4 H4 λc H5=>
    if c=true then te σ4 H5 λy H6=>H6 l=some (.lst ys) /\ ∃m',m'<m /\ W (i+1) m' (ys++[y]) (upd H6 l (.lst (ys++[y]))) else ∃m',m'<m /\ W (i+1) m' ys H5)))
  (fin:∀C σ5 H5 s5,s₂.heap.objs.size<=C->s₂.heap.objs.size≠C->Inv (cxC X (tgs++cap) scope cl C s₂ H₂ fp) [] σ5 H5 s5->Fin s₂.heap.objs.size H5->RR (.ref s₂.heap.objs.size) C (.ok .next) s5):
  wpAny (model X.prog X.w) X.A (newList []) (λacc s₃=>wpAny (model X.prog X.w) X.A (newFunctionEnv scope X.env.globals cl [] X.env.qual none .none (some X.env)) (λcenv s₄=>
   codeAny (model X.prog X.w) X.A (.compStart (.ListComp elt [⟨target,iter,ifs,0⟩] scope pos) 0 (.ref it) acc {cenv with scope:=relabel scope X.env}) (RR acc cenv.locals) s₄) E₀ s₃) E₀ s₂:=by
 have hfo:∀b∈fp,b<s₂.heap.objs.size:=λb hb=>by
  obtain⟨o,e,_⟩:=T.obj 0 _ st b hb
  exact Heap.lt_size e
 refine wpAny_newObj_type (wpAny_newFunctionEnv O.cell (by intro y hy;simp at hy) (λh₁ hns₁ hsb₁=> ?_) O.kind)
 have eC:(s₂.heap.push {cls:= .type "list",dict:=none,data:= .seq ([]:List Value).toArray}).objs.size=s₂.heap.objs.size+1:=Heap.size_push ..
 dsimp only at hns₁ hsb₁ ⊢
 generalize (s₂.heap.push {cls:= .type "list",dict:=none,data:= .seq ([]:List Value).toArray}).objs.size=C at eC hns₁ hsb₁ ⊢
 have ltC:∀{b:Addr},b<s₂.heap.objs.size->b≠C:=fun{b} lt=>by rw[eC];exact Nat.ne_of_lt (Nat.lt_succ_of_lt lt)
 have IC:=jop (tk:=s₂.toks+([]:List (Str×Value)).length) eC O I hfp hfo hns₁ hsb₁
 have kp:∀b o,s₂.heap.get? b=some o->h₁.get? b=some o:=λb o e=>by
  have lt:=Heap.lt_size e
  exact hsb₁.extBut b o (ltC lt) (Heap.get?_push_of_some _ (Heap.get?_push_of_some _ e))
 have st₁:tn 0 h₁:=T.keep 0 _ _ st λb _ o e=>kp b o e
 obtain⟨W,⟨m₀,w₀⟩,step⟩:=rd s₂.heap.objs.size (I.hok.fresh (Nat.le_refl _))
 have fp0:∀b∈fp,(upd H₂ s₂.heap.objs.size (.lst [])) b=none:=λb hb=>by
  rw[jae (Nat.ne_of_lt (hfo b hb))];exact(hfp b hb).1
 have stat:∀{pl:List (Addr×Obj)} {H':Hp},(∀b∈fp,H' b=none)->pl=[]->∀b∈fp,FpOk (cxC X (tgs++cap) scope cl C s₂ H₂ fp) pl H' b:=fun{pl H'} hn hp b hb=>by
  subst hp
  have lt:=hfo b hb
  refine⟨hn b hb,ltC lt,IC.ok.exfs b hb,.inl hb,λx c h=>(IC.ok.exf b hb).2 x c h,λp hp=>by cases hp⟩
 have loop:codeAny (model X.prog X.w) X.A (.compLoop (.ListComp elt [⟨target,iter,ifs,0⟩] scope pos) 0 (.ref it) (.ref s₂.heap.objs.size) (compEnvC scope cl C X.env))
   (RR (.ref s₂.heap.objs.size) C) {s₂ with heap:=h₁,toks:=s₂.toks+([]:List (Str×Value)).length}:=by
  refine jkc (λn s'=>∃i ys H',Inv (cxC X (tgs++cap) scope cl C s₂ H₂ fp) [] (List.replicate tgs.length none++jf5 idx σ) H' s' /\ tn i s'.heap /\ (∀b∈fp,H' b=none) /\ W i n ys H') ?_ m₀
   ⟨0,[],_,IC,st₁,fp0,w₀⟩
  rintro n s3 ⟨i,ys,H3,I3,st3,fr3,w3⟩
  obtain⟨hl,hz,w3⟩:=step i n ys H3 w3
  rcases w3 with⟨stop,q⟩ | ⟨go,w3⟩
  ·refine thn (T.done (cxC X (tgs++cap) scope cl C s₂ H₂ fp) rfl rfl rfl hc i [] s3 _ H3 _ I3 (stat fr3 rfl) st3 stop) λr s4 ⟨hr,I4⟩=> ?_
   subst hr
   exact fin C _ H3 s4 (by rw[eC];exact Nat.le_succ _) (by rw[eC];exact Nat.ne_of_lt (Nat.lt_succ_self _)) I4 q
  ·refine thn (T.item (cxC X (tgs++cap) scope cl C s₂ H₂ fp) rfl rfl rfl hc i [] s3 _ H3 _ I3 (stat fr3 rfl) st3 go) λr s4 ⟨u,hr,h4⟩=> ?_
   subst hr
   refine thn h4 λ_ s5 ⟨x,H5,I5,r5,y5,st5,fr5⟩=> ?_
   have I5':=I5.pinned (stat fr5 rfl) (T.obj _ _ st5)
   refine thn (hg _ _ _ _ _ s5 _ H5 x u _ I5' r5 (hgo _ _ _ _ (w3 x H5 y5))) λ_ s6 ⟨σ6,H6,I6,q6,len6,same6⟩=> ?_
   refine thn (ht _ _ _ _ _ s6 σ6 H6 _ I6 q6) λok s7 ⟨H7,I7,q7⟩=> ?_
   have again:∀{H8:Hp} {s8:Shared},Inv (cxC X (tgs++cap) scope cl C s₂ H₂ fp) ([]++jjy fp s5.heap) σ6 H8 s8->
     Inv (cxC X (tgs++cap) scope cl C s₂ H₂ fp) [] (List.replicate tgs.length none++jf5 idx σ) H8 s8 /\ tn (i+1) s8.heap /\ ∀b∈fp,H8 b=none:=fun{H8 s8} I8=>by
    refine⟨?_,T.keep _ _ _ st5 λb hb o e=>(I8.pin (b,o) (List.mem_append_right _ (List.mem_append_right _ (jfa hb e)))).1,λb hb=> ?_⟩
    ·refine I8.unpinned.weak len6.symm λj v hv=> ?_
     by_cases hj:tgs.length<=j
     ·rw[same6 j hj];exact hv
     ·rw[List.getElem?_append_left (by simp;omega),List.getElem?_replicate] at hv
      simp[Nat.not_le.mp hj] at hv
    ·obtain⟨o,e,d⟩:=T.obj _ _ st5 b hb
     exact(I8.pin (b,o) (List.mem_append_right _ (List.mem_append_right _ (jfa hb e)))).2.1
   cases ok with
   | false=>
    rw[if_neg Bool.false_ne_true] at q7 ⊢
    obtain⟨m',hm,w8⟩:=q7
    obtain⟨a1,a2,a3⟩:=again I7
    exact⟨m',hm,i+1,ys,H7,a1,a2,a3,w8⟩
   | true=>
    rw[if_pos rfl] at q7 ⊢
    refine thn (he _ _ _ _ _ s7 σ6 H7 _ I7 q7) λy s8 ⟨v,H8,I8,r8,hl8,m',hm,w8⟩=> ?_
    refine thn (jfx _ s8 σ6 H8 (.ref s₂.heap.objs.size) [v] (.ref s₂.heap.objs.size) [y] (λ_ H9=>H9=upd H8 s₂.heap.objs.size (.lst (ys++[v]))) I8 rfl (.cons r8 .nil) ⟨_,ys,v,rfl,rfl,hl8,hz,rfl⟩) λz s9 ⟨v9,H9,I9,_,e9⟩=> ?_
    subst e9
    obtain⟨a1,a2,a3⟩:=again I9
    exact⟨m',hm,i+1,_,_,a1,a2,a3,w8⟩
 exact codeAny_compStart_list loop (T.self _ 0 _ _ _ st₁ loop)
theorem jir{pins:List (Addr×Obj)}{s₂ s5:Shared}{σ σ5:St}{H₂ H5:Hp}{fp:List Addr}{C:Addr}{h':Heap}(I:Inv X pins σ H₂ s₂)(hfp:∀b∈fp,FpOk X pins H₂ b)(hC:s₂.heap.objs.size<=C)
  (I5:Inv (cxC X (tgs++cap) scope cl C s₂ H₂ fp) [] σ5 H5 s5) (sb:Heap.SameBut C s5.heap h'):Inv X pins σ H5 {s5 with heap:=h'}:=
 I.call' (ch:=fp) I5.os (Un.sameBut I5.base hC sb) (HOk.sameBut I5.hok I5.free sb) I5.bare λb hb=>⟨(hfp b hb).2.2.2.1,(hfp b hb).2.1,(hfp b hb).2.2.2.2.1,(hfp b hb).2.2.2.2.2⟩
theorem ji7(O:CompOk X scope cl tgs cap idx)(hc:X.calm=true)(hi:PI X target iter wi)(hgo:GOk tgs.length g)
  (hg:∀C s₂ H₂ fp,PG (cxC X (tgs++cap) scope cl C s₂ H₂ fp) target g) (ht:∀C s₂ H₂ fp,PF (cxC X (tgs++cap) scope cl C s₂ H₂ fp) ifs tc) (he:∀C s₂ H₂ fp,PE (cxC X (tgs++cap) scope cl C s₂ H₂ fp) elt te)
  (hs:∀x,foldedSetIterable iter X.env x=pure x:=by intro _;rfl):
  PE X (.ListComp elt [⟨target,iter,ifs,0⟩] scope pos) (jr9 tgs.length idx wi g tc te):=by
 intro pins s σ H Q I h
 rw[eval_ListComp]
 refine wpAny_comprehension_free (use:=none) rfl hs O.clos O.kind O.names (wpAny_mono (hi pins s σ H _ I h) (λxv s₁ h₁=>wpAny_mono h₁ (λitv s₂ h₂=> ?_) λ_ _ e=>e) λ_ _ e=>e)
 obtain⟨it,fp,tn,J,H₂,rfl,I₂,T,st,hfp,rd⟩:=h₂
 refine jil (RR:=λacc C=>compPost (model X.prog X.w) X.A X.xe none (EP X pins σ Q) acc C) (Fin:=λl H=>Q (.ref l) H) O hc hgo hg ht he I₂ T st hfp rd ?_
 intro C σ5 H5 s5 hC _ I5 q
 obtain⟨m,hn,_⟩:=I5.loc
 exact⟨m,hn,λh' sb=>⟨.ref _,H5,jir I₂ hfp hC I5 sb,rfl,q⟩⟩
theorem jna{i:Nat}{y:Str}{py spos:Pos}(hN:X.N.Nodup)(hy:X.N[i]?=some y)(hly:Loc X.env.scope y)(O:CompOk X scope cl tgs cap idx)(hc:X.calm=true)(hi:PI X target iter wi)(hgo:GOk tgs.length g)
  (hg:∀C s₂ H₂ fp,PG (cxC X (tgs++cap) scope cl C s₂ H₂ fp) target g) (ht:∀C s₂ H₂ fp,PF (cxC X (tgs++cap) scope cl C s₂ H₂ fp) ifs tc) (he:∀C s₂ H₂ fp,PE (cxC X (tgs++cap) scope cl C s₂ H₂ fp) elt te)
  (hsw:swapsWith (.ListComp elt [⟨target,iter,ifs,0⟩] scope pos) (some (.Name y py)) spos.line X.env=pure true:=by rfl)
  (hs:∀x,foldedSetIterable iter X.env x=pure x:=by intro _;rfl) (hf:X.fn y=true \/ X.env.scope.names.lookup y=some .local:=by first | exact .inl rfl | exact .inr rfl | assumption):
  PS X (.Assign [.Name y py] (.ListComp elt [⟨target,iter,ifs,0⟩] scope pos) spos) (λD σ H=>jr9 tgs.length idx wi g tc te σ H λx H1=>D.nx (σ.set i (some x)) H1):=by
 intro pins s σ H D I h
 rw[exec_Assign_Name_used _ _ _ _ hsw]
 refine wpAny_bind (wpAny_standAt (wpAny_bind ?_))
 show wpAny _ X.A (do let _<-comprehension (.ListComp elt [⟨target,iter,ifs,0⟩] scope pos) scope X.env _ (newList []) false (eval iter X.env) (some (assign (.Name y py) X.env))) _ _ s
 refine wpAny_bind (wpAny_mono (wpAny_comprehension_free (use:=some (assign (.Name y py) X.env)) (Q:=λ_ s'=>SP X pins D .next s') rfl hs O.clos O.kind O.names
  (wpAny_mono (hi pins s σ H _ I h) (λxv s₁ h₁=>wpAny_mono h₁ (λitv s₂ h₂=> ?_) λ_ _ e=>e) λ_ _ e=>e)) (λ_ s' hq=>wpAny_pure (wpAny_pure hq)) λ_ _ e=>e)
 obtain⟨it,fp,tn,J,H₂,rfl,I₂,T,st,hfp,rd⟩:=h₂
 refine jil (RR:=λacc C=>compPost (model X.prog X.w) X.A X.xe (some (assign (.Name y py) X.env)) (λ_ s'=>SP X pins D .next s') acc C) (Fin:=λl H=>D.nx (σ.set i (some (.ref l))) H) O hc hgo hg ht he I₂ T st hfp rd ?_
 intro C σ5 H5 s5 hC hDC I5 q
 obtain⟨m,hn,_⟩:=I5.loc
 have I6:Inv X pins σ H5 s5:=jir I₂ hfp hC I5 (Heap.SameBut.refl _ _)
 show wpAny _ X.A (assign (.Name y py) X.env (.ref s₂.heap.objs.size)) _ _ _
 refine wpAny_assign_Name (jkt I6 hN hy hly (v:= .ref s₂.heap.objs.size) rfl (λs7 I7 ⟨a,sb,ha⟩=> ?_) hf)
 have haC:C≠a:=by
  rcases ha with rfl | ha
  ·exact Nat.ne_of_gt (Nat.lt_of_lt_of_le I₂.lt hC)
  ·obtain⟨v,o,e,_⟩:=I₂.cell _ _ ha
   exact Nat.ne_of_gt (Nat.lt_of_lt_of_le (Heap.lt_size e) hC)
 refine⟨m,hn.sameBut sb haC,λh' sb'=>⟨_,H5,?_,q⟩⟩
 have hCn:H5 C=none:=I5.free
 refine I7.call' (ch:=[C]) rfl (Un.but sb') (HOk.sameBut I7.hok hCn sb') I7.bare λb hb=> ?_
 have eb:b=C:=by simpa using hb
 subst eb
 refine⟨.inr (Nat.le_trans I₂.sz hC),?_,λx c e=> ?_,λp hp=> ?_⟩
 ·exact Nat.ne_of_gt (Nat.lt_of_lt_of_le I₂.lt hC)
 ·obtain⟨v,o,e',_⟩:=I₂.cell _ _ e
  exact Nat.ne_of_lt (Nat.lt_of_lt_of_le (Heap.lt_size e') hC)
 ·exact Nat.ne_of_lt (Nat.lt_of_lt_of_le (Heap.lt_size (I₂.pin p hp).1) hC)
end
def FnG(P:Program)(w:World)(K:W.Frag)(mg:Str->Option Value)(base:Heap)(CX:CXT)(k:Nat)(x:Str)(sp:Sp):Prop:=
 ∃f fd ps,FnOk P w K mg base CX k f fd ps sp /\ mg x=some (.ref f) /\ W.keepIn K (.ref f)=true /\ jfo K fd ps []
def MethG(P:Program)(w:World)(K:W.Frag)(mg:Str->Option Value)(base:Heap)(CX:CXT)(k:Nat)(C:Addr)(m:Str)(sp:Sp):Prop:=
 ∃f fd ps,Meth K C m f /\ FnOk P w K mg base CX k f fd ps sp /\ jfo K fd ps []
def MakeG(P:Program)(w:World)(K:W.Frag)(mg:Str->Option Value)(base:Heap)(CX:CXT)(k:Nat)(x:Str)(C:Addr)(sp:Sp):Prop:=
 ∃f fd ps,Mk K C f /\ FnOk P w K mg base CX k f fd ps sp /\ mg x=some (.ref C) /\ jfo K fd ps []
section
variable {X : Cx} {CX : CXT} {k : Nat} {C : Addr} {sp : Sp} {E : XK} {x m : Str} {p pos apos : Pos} {e o : Expr} {es : List Expr} {ta : TE} {t : TA}
theorem pe_g(G:FnG X.prog X.w X.K X.mg X.base CX k x sp)(hr:Room k X.A)(hx:jfe CX X E)(ha:PA X (e::es) t)(hg:Gl X x:=by rfl)(hdb:(x==("__debug__":Str))=false:=by decide)
  (he:starEach (e::es) X.env=(false,eval e X.env)::starEach es X.env:=by rfl) (hpl:(backTo pos (starEach es X.env)).any (·.1)=false:=by rfl):
  PE X (.Call (.Name x p) (e::es) [] pos) (jx3 sp [] E t):=by
 obtain⟨f,fd,ps,F,hm,hk,hb⟩:=G
 exact jx5 F hr hg hm hk hb .nil hx ha hdb he hpl
theorem jjq(G:MakeG X.prog X.w X.K X.mg X.base CX k x C sp)(hr:Room (k+1) X.A)(hx:jfe CX X E)(ha:PA X (e::es) t)(hg:Gl X x:=by rfl)(hdb:(x==("__debug__":Str))=false:=by decide)
  (he:starEach (e::es) X.env=(false,eval e X.env)::starEach es X.env:=by rfl) (hpl:(backTo pos (starEach es X.env)).any (·.1)=false:=by rfl):
  PE X (.Call (.Name x p) (e::es) [] pos) (jum C sp [] E t):=by
 obtain⟨f,fd,ps,M,F,hm,hb⟩:=G
 exact jx0 M F hr hg hm hb .nil hx ha hdb he hpl
def jgl(P:Program)(w:World)(K:W.Frag)(mg:Str->Option Value)(base:Heap)(CX:CXT)(k:Nat)(m:Str)(E:XK)(ta:TE)(t:TA):TE:=λσ H Q=>ta σ H λx H1=>
 ∃a C dx fs sp,x= .ref a /\ H1 a=some (.ins C dx fs) /\ Cls K C /\ MethG P w K mg base CX k C m sp /\ fs.lookup m=none /\ t σ H1 λvs H2=>sp (x::vs) H2 Q E
theorem jg5{pl:Sem Bool}(he:PE X o ta)(hr:Room k X.A)(hx:jfe CX X E)(ha:PA X (e::es) t)
  (hst:starEach (e::es) X.env=(false,eval e X.env)::starEach es X.env:=by rfl) (hpl:(backTo pos (starEach es X.env)).any (·.1)=false:=by rfl)
  (ht:eval (.Call (.Attribute o m apos) (e::es) [] pos) X.env=(do
   let ov<-eval o X.env
   standAt apos.atName
   let (f,first)<-holding [ov] (getMethod ov m pl)
   callWith pos f first (backTo pos (starEach (e::es) X.env)) (backToKw pos (keywordEach [] X.env))):=by rfl):
  PE X (.Call (.Attribute o m apos) (e::es) [] pos) (jgl X.prog X.w X.K X.mg X.base CX k m E ta t):=by
 intro pins s σ H Q I h
 refine W.methodCall_KW (pl:=pl) (thn (he pins s σ H _ I h) λu s1 ⟨x,H1,I1,rx,a,C,dx,fs,sp,ex,ea,c,⟨f,fd,ps,hm,F,hb⟩,l,q⟩=> ?_) ht
 subst ex
 obtain rfl:u=Value.ref a:=rx
 refine jg4 I1 ea c hm l ?_
 refine W.callWith_K (first:=[.ref a]) (h₀:=X.base) I.ok.mod.kin hm.kp (thn (ha pos pins s1 σ H1 _ I1 q) λus s2 ⟨vs,H2,I2,r,q2⟩=>⟨I2.kIn,?_⟩) hst hpl
 exact jpk (us:= .ref a::us) (vs:= .ref a::vs) (dvs:=[]) (ds:=[]) F hr hb .nil hx I2 (.cons rfl r) (by simpa using q2)
theorem jdz{pl:Sem Bool}(he:PE X o ta)(hr:Room k X.A)(hx:jfe CX X E)
  (ht:eval (.Call (.Attribute o m apos) [] [] pos) X.env=(do
   let ov<-eval o X.env
   standAt apos.atName
   let (f,first)<-holding [ov] (getMethod ov m pl)
   callWith pos f first (backTo pos (starEach [] X.env)) (backToKw pos (keywordEach [] X.env))):=by rfl):
  PE X (.Call (.Attribute o m apos) [] [] pos) (jgl X.prog X.w X.K X.mg X.base CX k m E ta tNil):=by
 intro pins s σ H Q I h
 refine W.methodCall_KW (pl:=pl) (thn (he pins s σ H _ I h) λu s1 ⟨x,H1,I1,rx,a,C,dx,fs,sp,ex,ea,c,⟨f,fd,ps,hm,F,hb⟩,l,q⟩=> ?_) ht
 subst ex
 obtain rfl:u=Value.ref a:=rx
 refine jg4 I1 ea c hm l ?_
 exact W.callWith_K0 (first:=[.ref a]) I1.kIn hm.kp (jpk (us:=[.ref a]) (vs:=[.ref a]) (dvs:=[]) (ds:=[]) F hr hb .nil hx I1 (.cons rfl .nil) q)
end
abbrev RU:=V->V->Hp->VK->Prop
def uAdd(K:W.Frag):RU:=λx y H Q=>match x,y with
 | .int i,.int j=>Q (.int (i+j)) H
 | .str a,.str b=>a.length+b.length<=sizeLine /\ Q (.str (a++b)) H
 | .ref a,.ref b=>rCat (.ref a) (.ref b) H Q \/ rCatT K (.ref a) (.ref b) H Q
 | _,_=>False
theorem jyc{X:Cx}:OpR X (binaryOp .Add) (uAdd X.K):=by
 intro pins s σ H x y v u Q I rx ry h
 cases x<;>cases y<;>first | exact h.elim | skip
 ·exact op_add pins s σ H _ _ v u Q I rx ry ⟨_,_,rfl,rfl,h⟩
 ·exact jp4 pins s σ H _ _ v u Q I rx ry ⟨_,_,rfl,rfl,h.1,h.2⟩
 ·rcases h with h | h
  ·exact op_cat pins s σ H _ _ v u Q I rx ry h
  ·exact jyq pins s σ H _ _ v u Q I rx ry h
mutual
def Rep(H:Hp):V->PyData->Prop
 | v,.none=>v= .non
 | v,.bool b=>v= .bl b
 | v,.int i=>v= .int i
 | v,.str x=>v= .str x
 | v,.list ds=>∃a vs,v= .ref a /\ H a=some (.lst vs) /\ Reps H vs ds
 | v,.tuple ds=>∃a vs,v= .ref a /\ H a=some (.tup vs) /\ Reps H vs ds
 | _,.dict _=>False
def Reps(H:Hp):List V->List PyData->Prop
 | [],[]=>True
 | v::vs,d::ds=>Rep H v d /\ Reps H vs ds
 | _,_=>False
end
mutual
theorem Rep.same{H H':Hp}(e:Same H H'):∀{v:V} {d:PyData},Rep H v d->Rep H' v d
 | v,.none,h=>h
 | v,.bool b,h=>h
 | v,.int i,h=>h
 | v,.str x,h=>h
 | v,.list ds,h=>by
  simp only[Rep] at h ⊢
  obtain⟨a,vs,h1,h2,h3⟩:=h
  exact⟨a,vs,h1,e _ _ h2,Reps.same e h3⟩
 | v,.tuple ds,h=>by
  simp only[Rep] at h ⊢
  obtain⟨a,vs,h1,h2,h3⟩:=h
  exact⟨a,vs,h1,e _ _ h2,Reps.same e h3⟩
 | _,.dict _,h=>by simp only[Rep] at h
theorem Reps.same{H H':Hp}(e:Same H H'):∀{vs:List V} {ds:List PyData},Reps H vs ds->Reps H' vs ds
 | [],[],_=>by simp only[Reps]
 | v::vs,d::ds,h=>by
  simp only[Reps] at h ⊢
  exact⟨Rep.same e h.1,Reps.same e h.2⟩
 | [],_::_,h=>by simp only[Reps] at h
 | _::_,[],h=>by simp only[Reps] at h
end
mutual
theorem jfy{P:Program}{w:World}{H:Hp}{h:Heap}(hk:HOk P w H h):∀{x:V} {v:Value} {d:PyData},RelV x v->Rep H x d->∃as,Reads h v d as
 | x,v,.none,r,q=>by simp only[Rep] at q;subst q;cases r;exact⟨_,.none⟩
 | x,v,.bool b,r,q=>by simp only[Rep] at q;subst q;cases r;exact⟨_,.bool b⟩
 | x,v,.int i,r,q=>by simp only[Rep] at q;subst q;obtain⟨t,rfl⟩:=r;exact⟨_,.int i t⟩
 | x,v,.str y,r,q=>by simp only[Rep] at q;subst q;obtain⟨t,rfl⟩:=r;exact⟨_,.str y t⟩
 | x,v,.list ds,r,q=>by
  simp only[Rep] at q
  obtain⟨a,vs,rfl,e,q⟩:=q
  cases r
  obtain⟨_,its,n,rv,g⟩:=hk a _ e
  obtain⟨as,z⟩:=ji8 hk rv q
  exact⟨_,.list g rfl rfl (by simpa using z)⟩
 | x,v,.tuple ds,r,q=>by
  simp only[Rep] at q
  obtain⟨a,vs,rfl,e,q⟩:=q
  cases r
  obtain⟨_,its,rv,o,g,hc,n,hd⟩:=hk a _ e
  obtain⟨as,z⟩:=ji8 hk rv q
  exact⟨_,.tuple g hc hd (by simpa using z)⟩
 | _,_,.dict _,_,q=>by simp only[Rep] at q
theorem ji8{P:Program}{w:World}{H:Hp}{h:Heap}(hk:HOk P w H h):∀{xs:List V} {us:List Value} {ds:List PyData},Vals xs us->Reps H xs ds->∃as,ReadsAll h us ds as
 | _,_,[],.nil,_=>⟨_,.nil⟩
 | _,_,d::ds,.cons r rs,q=>by
  simp only[Reps] at q
  obtain⟨as,z⟩:=jfy hk r q.1
  obtain⟨bs,y⟩:=ji8 hk rs q.2
  exact⟨_,.cons z y⟩
 | _,_,_::_,.nil,q=>by simp only[Reps] at q
 | _,_,[],.cons _ _,q=>by simp only[Reps] at q
end
def jgo(d:PyData):Prop:=SeqAt.shaped d=true
def uEq:RU:=λx y H Q=>(scal x y=true /\ Q (.bl (decide (x=y))) H) \/ ∃d e,Rep H x d /\ Rep H y e /\ jgo d /\ jgo e /\ Q (.bl (PyData.eqv d e)) H
def uNe:RU:=λx y H Q=>(scal x y=true /\ Q (.bl (!decide (x=y))) H) \/ ∃d e,Rep H x d /\ Rep H y e /\ jgo d /\ jgo e /\ Q (.bl (!PyData.eqv d e)) H
section
variable {X : Cx}
theorem jb5(hu:X.A.units+64<cLine):OpR X (compareOp .Eq) uEq:=by
 intro pins s σ H x y v u Q I rx ry h
 rcases h with h | ⟨d,e,hd,he,sd,se,q⟩
 ·exact op_eq pins s σ H x y v u Q I rx ry h
 ·obtain⟨as,ra⟩:=jfy I.hok rx hd
  obtain⟨bs,rb⟩:=jfy I.hok ry he
  exact eq_dataH ra rb sd se hu ⟨.bl _,H,I,rfl,q⟩
theorem jes(hu:X.A.units+64<cLine):OpR X (compareOp .NotEq) uNe:=by
 intro pins s σ H x y v u Q I rx ry h
 rcases h with h | ⟨d,e,hd,he,sd,se,q⟩
 ·exact op_ne pins s σ H x y v u Q I rx ry h
 ·obtain⟨as,ra⟩:=jfy I.hok rx hd
  obtain⟨bs,rb⟩:=jfy I.hok ry he
  exact ne_dataH ra rb sd se hu ⟨.bl _,H,I,rfl,q⟩
def KDict(P:Program)(w:World)(K:W.Frag)(a:Addr)(kvs:List (Key×V)):Prop:=
 ∀h:Heap,K.In h->(a==sysModules)=false /\ ∃vs,KV kvs vs /\ h.DictOf (jbk P w) a vs
def jv9(P:Program)(w:World)(K:W.Frag)(H:Hp)(a:Addr)(y:V)(r:Option V):Prop:=
 DGet H a y r \/ (∃kvs k,KDict P w K a kvs /\ y=kV k /\ r=valV kvs k) \/ ∃o kvs k,H a=some (.frz o (.dK kvs)) /\ y=kV k /\ r=valV kvs k
def rIxD(P:Program)(w:World)(K:W.Frag):R2:=λx y H Q=>∃a v,x= .ref a /\ jv9 P w K H a y (some v) /\ Q v H
theorem jxd(hu:X.A.units+64<cLine):IxR X (rIxD X.prog X.w X.K):=by
 intro value slice pins s σ H x y v u Q I rx ry h hs
 obtain⟨a,z,rfl,g,q⟩:=h
 cases rx
 rcases g with g | ⟨kvs,k,kd,rfl,e⟩ | ⟨o,kvs,k,kd,rfl,e⟩
 ·exact tail_any (jmg I g) PySem.F.slot_dict_getitem.lookup (jqh (by omega) I g ry λw' s3 I3 rw'=>⟨z,H,I3,rw',q⟩) hs
 ·obtain⟨hd,vs,rel,dd⟩:=kd _ I.kIn
  obtain⟨w',hw,rw'⟩:=RelO.some_of (v:=z) (o:=valueAt vs k) (by rw[e];exact rel.val k)
  exact tail_any dd.typeIs PySem.F.slot_dict_getitem.lookup (wpAny_getItem_of (jgt ry) dd.mapOf hw ⟨z,H,I.tok _,rw',q⟩) hs
 ·obtain⟨_,_,hd,vs,rel,dd⟩:=(show jc2 X.prog X.w H s.heap a (.frz o (.dK kvs)) from I.hok a _ kd)
  obtain⟨w',hw,rw'⟩:=RelO.some_of (v:=z) (o:=valueAt vs k) (by rw[e];exact rel.val k)
  exact tail_any dd.typeIs PySem.F.slot_dict_getitem.lookup (wpAny_getItem_of (jgt ry) dd.mapOf hw ⟨z,H,I.tok _,rw',q⟩) hs
def uIx(P:Program)(w:World)(K:W.Frag):R2:=λx y H Q=>rIx K x y H Q \/ rIxD P w K x y H Q
theorem ix_U(hu:X.A.units+64<cLine):IxR X (uIx X.prog X.w X.K):=IxR.or ix_seq (jxd hu)
def uIn(P:Program)(w:World)(K:W.Frag)(neg:Bool):RU:=λx y H Q=>
 rIn K neg x y H Q \/ (∃i j,x= .str i /\ y= .str j /\ Q (.bl (if neg then !(!(Builtin.Str.occurrences j i 0 j.length 1).isEmpty) else !(Builtin.Str.occurrences j i 0 j.length 1).isEmpty)) H) \/
 ∃a o,y= .ref a /\ jv9 P w K H a x o /\ Q (.bl (if neg then !o.isSome else o.isSome)) H
theorem op_inU(hu:X.A.units+64<cLine):OpR X (compareOp .In) (uIn X.prog X.w X.K false):=by
 intro pins s σ H x y v u Q I rx ry h
 rcases h with h | h | ⟨a,o,rfl,g,q⟩
 ·exact jpo pins s σ H x y v u Q I rx ry h
 ·exact jps pins s σ H x y v u Q I rx ry h
 ·cases ry
  rcases g with g | ⟨kvs,k,kd,rfl,e⟩ | ⟨o',kvs,k,kd,rfl,e⟩
  ·exact d_in (by omega) I g rx λs' I'=>⟨.bl _,H,I',rfl,q⟩
  ·obtain⟨hd,vs,rel,dd⟩:=kd _ I.kIn
   refine wpAny_in_of (jgt rx) hd dd.mapOf ?_
   rw[<-(rel.val k).isSome_eq,<-e]
   exact⟨.bl _,H,I.tok _,rfl,q⟩
  ·obtain⟨_,_,hd,vs,rel,dd⟩:=(show jc2 X.prog X.w H s.heap a (.frz o' (.dK kvs)) from I.hok a _ kd)
   refine wpAny_in_of (jgt rx) hd dd.mapOf ?_
   rw[<-(rel.val k).isSome_eq,<-e]
   exact⟨.bl _,H,I.tok _,rfl,q⟩
theorem jpp(hu:X.A.units+64<cLine):OpR X (compareOp .NotIn) (uIn X.prog X.w X.K true):=by
 intro pins s σ H x y v u Q I rx ry h
 rcases h with h | h | ⟨a,o,rfl,g,q⟩
 ·exact jkn pins s σ H x y v u Q I rx ry h
 ·exact jk6 pins s σ H x y v u Q I rx ry h
 ·cases ry
  rcases g with g | ⟨kvs,k,kd,rfl,e⟩ | ⟨o',kvs,k,kd,rfl,e⟩
  ·exact jxy (by omega) I g rx λs' I'=>⟨.bl _,H,I',rfl,q⟩
  ·obtain⟨hd,vs,rel,dd⟩:=kd _ I.kIn
   refine wpAny_notIn_of (jgt rx) hd dd.mapOf ?_
   rw[<-(rel.val k).isSome_eq,<-e]
   exact⟨.bl _,H,I.tok _,rfl,q⟩
  ·obtain⟨_,_,hd,vs,rel,dd⟩:=(show jc2 X.prog X.w H s.heap a (.frz o' (.dK kvs)) from I.hok a _ kd)
   refine wpAny_notIn_of (jgt rx) hd dd.mapOf ?_
   rw[<-(rel.val k).isSome_eq,<-e]
   exact⟨.bl _,H,I.tok _,rfl,q⟩
def rSlS:V->Option Int->Option Int->Hp->VK->Prop:=λx lo hi H Q=>∃z,x= .str z /\ z.length<=sizeLine /\ Q (.str (Txt.slice z lo hi)) H
def uSl(K:W.Frag):V->Option Int->Option Int->Hp->VK->Prop:=λx lo hi H Q=>rSlL K x lo hi H Q \/ rSlT K x lo hi H Q
theorem sl_U:SlR X (uSl X.K):=SlR.or jwx sl_tup
def rLenU(P:Program)(w:World)(K:W.Frag):List V->Hp->VK->Prop:=λxs H Q=>(∃p ys,xs=[.ref p] /\ (SqL K H p ys \/ SqT K H p ys) /\ Q (.int ys.length) H) \/ ∃z,xs=[.str z] /\ z.length<=sizeLine /\ Q (.int z.length) H
theorem jr1:jdi X (.builtin "len") (rLenU X.prog X.w X.K):=jdi.or jkk jk7
def rSum(K:W.Frag):List V->Hp->VK->Prop:=λxs H Q=>∃(p:Addr) (ns:List Int),xs=[.ref p] /\ SqL K H p (ns.map V.int) /\ Q (.int ns.sum) H
theorem jtx(hc:X.calm=true):jdi X (.builtin "sum") (rSum X.K):=by
 intro pins s σ H xs us Q I r h
 obtain⟨p,ns,rfl,hq,q⟩:=h
 obtain⟨u,rfl,rx⟩:=jiz r
 cases rx
 obtain⟨its,r',pl,hz⟩:=I.list hq
 have hi:=jp7 r'
 obtain⟨ys,e⟩:=(hi.allInts:AllInts its.toArray).items
 refine sum_intListG (I.ok.hd hc) (xs:=ys) (by rw[<-e];exact pl.isList) λh' tk t' k=>⟨.int ns.sum,H,I.kept (t':=tk) k,⟨t',?_⟩,q⟩
 have e2:(numsOf its.toArray.toList).sum=ns.sum:=by rw[show its.toArray.toList=its from rfl,hi.numsOf]
 rw[<-e2,e,nums_intItems,preSum_eq,List.take_of_length_le (by simp)]
def tyVal:V->Value
 | .ty n=> .type n
 | .ref a=> .ref a
 | _=> .none
def rIsi(K:W.Frag):List V->Hp->VK->Prop:=λxs H Q=>∃x c t b,xs=[x,c] /\ ((∃n,c= .ty n) \/ ∃a,c= .ref a) /\ TyOf K H x t /\ W.kitOne K t (tyVal c)=some b /\ Q (.bl b) H
theorem jtk:jdi X (.builtin "isinstance") (rIsi X.K):=by
 intro pins s σ H xs us Q I r h
 obtain⟨x,c,t,b,rfl,hc,ty,e,q⟩:=h
 obtain⟨u,w',rfl,rx,rc⟩:=vals2 r
 have ec:w'=tyVal c:=by
  rcases hc with⟨n,rfl⟩ | ⟨a,rfl⟩<;>exact rc
 subst ec
 exact jq8 I rx ty e λtk=>⟨.bl b,H,I.tok tk,rfl,q⟩
def GV(mg:Str->Option Value)(x:Str)(v:V):Prop:=∃u,mg x=some u /\ RelV v u
theorem jfp{x:Str}{v:V}{pos:Pos}(h:GV X.mg x v)(hg:Gl X x:=by rfl)(hd:(x==("__debug__":Str))=false:=by decide):PE X (.Name x pos) (tC v):=by
 obtain⟨u,hm,r⟩:=h
 exact jyn hg hm r hd
theorem jyg{a:Expr}{ta:TE}{pos:Pos}(ha:PE X a ta):PE X (.UnaryOp .Not a pos) (λσ H Q=>ta σ H λx H1=>∃k,TruV X.K x H1 k /\ Q (.bl (!k)) H1):=by
 intro pins s σ H Q I h
 refine UnaryOp_ (thn (ha pins s σ H _ I h) λv s1 ⟨x,H1,I1,r1,q1⟩=> ?_)
 exact not_of (thn (jvy pins s1 σ H1 x v (λk H2=>Q (.bl (!k)) H2) I1 r1 q1) λk s2 ⟨H2,I2,q2⟩=>⟨.bl (!k),H2,I2,rfl,q2⟩)
end
theorem jff:bootBuiltins "len"=some (.builtin "len"):=by decide+kernel
theorem jws:bootBuiltins "sum"=some (.builtin "sum"):=by decide+kernel
theorem jas:bootBuiltins "isinstance"=some (.builtin "isinstance"):=by decide+kernel
theorem jqs:bootBuiltins "sorted"=some (.builtin "sorted"):=by decide+kernel
theorem jhv:bootBuiltins "int"=some (.type "int"):=by decide+kernel
theorem jz6:bootBuiltins "bool"=some (.type "bool"):=by decide+kernel
theorem jhn:bootBuiltins "list"=some (.type "list"):=by decide+kernel
theorem jj4:bootBuiltins "ValueError"=some (.type "ValueError"):=by decide+kernel
theorem jui{X:Cx}{x:Str}{n:String}{pos:Pos}(hm:X.mg x=none)(hv:bootBuiltins x=some (.type n))(hg:Gl X x:=by rfl)(hn:x≠"__name__":=by decide)(hd:(x==("__debug__":Str))=false:=by decide):PE X (.Name x pos) (tC (.ty n)):=jx2 hg hm hv rfl hn hd
def CXE(P:Program)(w:World):CXT:=λouter H s E e s'=>
 ∃(ea C:Addr) (a0:Value) (B:Heap) (H':Hp),e= .ref ea /\ s'.os=s.os /\ AllBare s'.gens /\ Un (frs outer) [] H H' s.heap s'.heap /\ HOk P w H' B /\ Heap.FlyingW B outer ea (.ref C) a0 s'.heap /\
  (∀b o,s.heap.get? b=some o->b∉frs outer->∃o',B.get? b=some o') /\ (∀b o,s.heap.get? b=some o->H b=none->b∉frs outer->B.get? b=some o) /\ E (.ref C) none H'
theorem jip{P:Program}{w:World}{X:Cx}:jfe (CXE P w) X E0:=λ_ _ _ _ _ _ _ ⟨_,_,_,_,_,_,_,_,_,_,_,_,_,h⟩=>h.elim
section
variable {P : Program} {w : World} {K : W.Frag} {mg : Str -> Option Value} {base : Heap} {N : List Str} {qual : Str} {scope : Scope} {f : Addr} {cd : Value} {A : Around} {outer : List Env} {s₀ : Shared} {H₀ : Hp} {E : XK}
theorem jaq:jfe (CXE P w) (cxOf (CXE P w) P w K mg base N qual scope f cd A outer s₀ H₀ E) E:=by
 intro pins σ H s e s' I h
 obtain⟨ea,C,a0,B,H',rfl,hos,hg,u,hok,fl,hB,hBk,hE⟩:=h
 have fsE:frs (cxOf (CXE P w) P w K mg base N qual scope f cd A outer s₀ H₀ E).stack=s₀.heap.objs.size::frs outer:=rfl
 have ltL:∀{b o},s₀.heap.get? b=some o->b≠s₀.heap.objs.size:=fun{b o} q=>Nat.ne_of_lt (Heap.lt_size q)
 have nst:∀{b o},s₀.heap.get? b=some o->b∉frs outer->b∉frs (cxOf (CXE P w) P w K mg base N qual scope f cd A outer s₀ H₀ E).stack:=fun{b o} q n hm=>by
  rw[fsE] at hm
  rcases List.mem_cons.mp hm with z | z
  ·exact ltL q z
  ·exact n z
 have bu:=I.base
 refine wpAny_leaves_onW (env:=envOfC qual scope s₀.heap.objs.size f cd) (outer:=outer) (L:=s₀.heap.objs.size) I.ok.frames rfl fl λh'' fl'' sm=> ?_
 have nf:∀{b},b∈frs (cxOf (CXE P w) P w K mg base N qual scope f cd A outer s₀ H₀ E).stack->∀o,s'.heap.get? b=some o->∀vs,o.data≠ .fields vs:=fun{b} hb o ho=>by
  obtain⟨_,o',ho',hd⟩:=fl.2.2.1.mem (b:=b) hb
  rw[ho] at ho';cases ho';exact hd
 refine⟨ea,C,a0,B,H',rfl,hos.trans I.os,hg,⟨?_,?_,?_,?_,?_,?_,?_⟩,hok,fl'',?_,?_,hE⟩
 ·intro b o q n nm _
  have q1:=bu.keep b o q n nm (by simp[cxOf])
  have n1:=bu.free b o q n (by simp[cxOf])
  exact fl''.1 b o (hBk b o q1 n1 (nst q nm))
 ·intro b o q n hm _
  obtain⟨sl,q1⟩:=bu.slot b o q n hm (by simp[cxOf])
  have n1:=bu.free b o q n (by simp[cxOf])
  have hm':b∈frs (cxOf (CXE P w) P w K mg base N qual scope f cd A outer s₀ H₀ E).stack:=by rw[fsE];exact List.mem_cons_of_mem _ hm
  obtain⟨sl2,q2⟩:=u.slot b _ q1 n1 hm' (by simp)
  obtain⟨sl3,q3⟩:=sm b _ q2 (nf hm' _ q2)
  exact⟨sl3,q3⟩
 ·intro b o q n _
  have n1:=bu.free b o q n (by simp[cxOf])
  obtain⟨o1,q1⟩:=bu.there b o q (by simp[cxOf])
  exact u.free b o1 q1 n1 (by simp)
 ·intro b o q _
  obtain⟨o1,q1⟩:=bu.there b o q (by simp[cxOf])
  by_cases hm:b∈frs outer
  ·have hm':b∈frs (cxOf (CXE P w) P w K mg base N qual scope f cd A outer s₀ H₀ E).stack:=by rw[fsE];exact List.mem_cons_of_mem _ hm
   obtain⟨o2,q2⟩:=u.there b o1 q1 (by simp)
   obtain⟨sl3,q3⟩:=sm b _ q2 (nf hm' _ q2)
   exact⟨_,q3⟩
  ·obtain⟨o2,q2⟩:=hB b o1 q1 (nst q hm)
   exact⟨o2,fl''.1 b o2 q2⟩
 ·intro b xs q;exact u.tups b xs (bu.tups b xs q)
 ·intro b o v q;exact u.frzs b o v (bu.frzs b o v q)
 ·intro b ps q
  obtain⟨m1,q1⟩:=bu.tbls b ps q
  obtain⟨m2,q2⟩:=u.tbls b _ q1
  exact⟨m1++m2,by rw[q2,Array.append_assoc]⟩
 ·intro b o q nm
  obtain⟨o1,q1⟩:=bu.there b o q (by simp[cxOf])
  exact hB b o1 q1 (nst q nm)
 ·intro b o q n nm
  have q1:=bu.keep b o q n nm (by simp[cxOf])
  have n1:=bu.free b o q n (by simp[cxOf])
  exact hBk b o q1 n1 (nst q nm)
theorem raiseE{pins:List (Addr×Obj)}{σ:St}{H:Hp}{s:Shared}{h':Heap}{e C:Addr}{vs:List Value}(I:Inv (cxOf (CXE P w) P w K mg base N qual scope f cd A outer s₀ H₀ E) pins σ H s)
  (hx:Heap.MadeExcOf s.heap h' e (.ref C) vs) (hE:E (.ref C) none H):(cxOf (CXE P w) P w K mg base N qual scope f cd A outer s₀ H₀ E).xe (.ref e) {s with heap:=h'}:=by
 have fsE:frs (cxOf (CXE P w) P w K mg base N qual scope f cd A outer s₀ H₀ E).stack=s₀.heap.objs.size::frs outer:=rfl
 have bu:=I.base
 have ltL:∀{b o},s₀.heap.get? b=some o->b≠s₀.heap.objs.size:=fun{b o} q=>Nat.ne_of_lt (Heap.lt_size q)
 have nst:∀{b o},s₀.heap.get? b=some o->b∉frs outer->b∉(s₀.heap.objs.size::frs outer):=fun{b o} q n hm=>by
  rcases List.mem_cons.mp hm with z | z
  ·exact ltL q z
  ·exact n z
 have hin:∀env∈(envOfC qual scope s₀.heap.objs.size f cd::outer),∀a,env.frame=some a->a∈(s₀.heap.objs.size::frs outer):=λenv he b hb=>by
  rcases List.mem_cons.mp he with rfl | he
  ·have:s₀.heap.objs.size=b:=Option.some.inj hb
   subst this;exact List.mem_cons_self ..
  ·exact List.mem_cons_of_mem _ (List.mem_filterMap.mpr ⟨env,he,hb⟩)
 have stk:s.heap.FunFrames base (envOfC qual scope s₀.heap.objs.size f cd::outer):=I.stack
 have hl:=W.funFrames_hide (as:=s₀.heap.objs.size::frs outer) stk hin
 refine wpAny_leaves_madeW (base:=W.hideAll s.heap (s₀.heap.objs.size::frs outer)) (h:=s.heap) (env:=envOfC qual scope s₀.heap.objs.size f cd) (outer:=outer) (L:=s₀.heap.objs.size) I.ok.frames rfl
  (λb o q=>W.of_hideAll _ q) hl hx λh'' t fl _ _ sm=> ?_
 have hide:∀{b o},s.heap.get? b=some o->b∉(s₀.heap.objs.size::frs outer)->(W.hideAll s.heap (s₀.heap.objs.size::frs outer)).get? b=some o:=fun{b o} q n=>W.hideAll_get _ q n
 have nf:∀{b},b∈frs outer->∀o,s.heap.get? b=some o->∀vs,o.data≠ .fields vs:=fun{b} hb o ho=>by
  obtain⟨_,o',ho',hd⟩:=stk.mem (b:=b) (by rw[show List.filterMap (·.frame) (envOfC qual scope s₀.heap.objs.size f cd::outer)=s₀.heap.objs.size::frs outer from rfl];exact List.mem_cons_of_mem _ hb)
  rw[ho] at ho';cases ho';exact hd
 have thr:∀b o,s₀.heap.get? b=some o->b∉frs outer->∃o',(W.hideAll s.heap (s₀.heap.objs.size::frs outer)).get? b=some o':=λb o q nm=>by
  obtain⟨o1,q1⟩:=bu.there b o q (by simp[cxOf])
  exact⟨o1,hide q1 (nst q nm)⟩
 have kpt:∀b o,s₀.heap.get? b=some o->H₀ b=none->b∉frs outer->(W.hideAll s.heap (s₀.heap.objs.size::frs outer)).get? b=some o:=λb o q n nm=>
  hide (bu.keep b o q n nm (by simp[cxOf])) (nst q nm)
 refine⟨e,C,.ref t,_,H,rfl,I.os,I.bare,⟨?_,?_,?_,?_,bu.tups,bu.frzs,bu.tbls⟩,?_,fl,thr,kpt,hE⟩
 ·intro b o q n nm _
  exact fl.1 b o (kpt b o q n nm)
 ·intro b o q n hm _
  obtain⟨sl,q1⟩:=bu.slot b o q n hm (by simp[cxOf])
  obtain⟨sl3,q3⟩:=sm b _ (hx.keeps b _ q1) (nf hm _ q1)
  exact⟨sl3,q3⟩
 ·intro b o q n _;exact bu.free b o q n (by simp[cxOf])
 ·intro b o q _
  by_cases hm:b∈frs outer
  ·obtain⟨o1,q1⟩:=bu.there b o q (by simp[cxOf])
   obtain⟨sl3,q3⟩:=sm b _ (hx.keeps b _ q1) (nf hm _ q1)
   exact⟨_,q3⟩
  ·obtain⟨o2,q2⟩:=thr b o q hm
   exact⟨o2,fl.1 b o2 q2⟩
 ·intro a o q
  have frn:=I.stkFree
  rw[fsE] at frn
  refine(I.hok a o q).stay (λb u hb q'=>hide q' λhm=> ?_) (λ_ z=>z) λ_ _ z=>z
  have n:=frn b hm
  rcases hb with rfl | hb
  ·rw[q] at n;cases n
  ·rw[hb] at n;cases n
structure Exc (K:W.Frag) (mg:Str->Option Value) (x:Str) (C:Addr):Prop where
 at_:W.nsIn K mainGlobals x=some (some (.ref C))
 ex:∃bmB newId B initId,W.excIn K C bmB newId=true /\ ExcBaseFacts B newId initId bmB
 mg_:mg x=some (.ref C)
def RaiseK(C:Addr)(E:XK)(v:V)(H:Hp):Prop:=∃v',[v]=[v'] /\ E (.ref C) none H
def jwg(C:Addr)(E:XK)(te:TE):TS:=λ_ σ H=>te σ H λv H1=>RaiseK C E v H1
theorem jc9{x:Str}{C:Addr}{e₀:Expr}{te:TE}{np cpos pos:Pos}(O:Exc K mg x C)
  (he:PE (cxOf (CXE P w) P w K mg base N qual scope f cd A outer s₀ H₀ E) e₀ te) (hh:Room 0 (A.deeper (envOfC qual scope s₀.heap.objs.size f cd)))
  (hg:Gl (cxOf (CXE P w) P w K mg base N qual scope f cd A outer s₀ H₀ E) x:=by rfl) (hdb:(x==("__debug__":Str))=false:=by decide)
  (hst:starEach [e₀] (envOfC qual scope s₀.heap.objs.size f cd)=[(false,eval e₀ (envOfC qual scope s₀.heap.objs.size f cd))]:=by rfl):
  PS (cxOf (CXE P w) P w K mg base N qual scope f cd A outer s₀ H₀ E) (.Raise (some (.Call (.Name x np) [e₀] [] cpos)) none pos) (jwg C E te):=by
 intro pins s σ H D I h
 obtain⟨bmB,newId,B,initId,q,FB⟩:=O.ex
 have hC0:W.excIn K C bmB newId=true:=q
 have cls:∀{h:Heap},K.In h->∃bm N nm q bs hdct sn sub ab col dd k0 k1 k2 k3 k5 mN,h.get? C=some (excClassObj nm q C N bs bm hdct sn sub ab col dd k0 k1 k2 k3 k5 newId) /\ h.Ns N mN /\ mN "__init__"=none /\ OwnTail h bmB bm:=fun{h} X=>by
  unfold W.excIn at q
  split at q
  ·rename_i dd cd sl ho
   split at q
   ·rename_i C' bm k0 k1 k2 k3 n k5 hm hs
    simp only[Bool.and_eq_true,beq_iff_eq,Bool.not_eq_true'] at q
    obtain⟨⟨⟨⟨⟨rfl,rfl⟩,hdel⟩,ht⟩,hok⟩,hni⟩:=q
    obtain⟨nm,bs,mro,ns,qn,hd,sn,sub,ab,col,del⟩:=cd
    dsimp only at hm hdel hok hni
    subst hm hdel
    have hsl:sl=#[k0,k1,k2,k3,some (.builtin n),k5]:=by
     obtain⟨l⟩:=sl
     simp only at hs
     rw[hs]
    subst hsl
    exact⟨bm,ns,nm,qn,bs,hd,sn,sub,ab,col,dd,k0,k1,k2,k3,k5,_,X _ _ ho,.of_isNs (W.isNs_of_in X hok),W.nsMap_none_of_in X hok hni,W.tail_of_in X ht⟩
   ·cases q
  ·cases q
 obtain⟨tl,Nc,nm,qn,bs,hdct,sn,sub,ab,col,dd,k0,k1,k2,k3,k5,mN,hC,hN,hni,T⟩:=cls I.ok.mod.kin
 refine wpAny_Raise_call_subT (C:=C) (nm:=nm) (q:=qn) (N:=Nc) (bs:=bs) (bm:=tl) (hdct:=hdct) (sn:=sn) (sub:=sub) (ab:=ab) (col:=col) (dd:=dd) (k0:=k0) (k1:=k1) (k2:=k2) (k3:=k3) (k5:=k5)
  FB (mN:=mN) (T.hasType FB.hasBase) hh.hd (by show(backTo cpos (starEach [e₀] (envOfC qual scope s₀.heap.objs.size f cd))).any (·.1)=false;rw[hst];rfl) hni (jhf I hg O.mg_ ⟨rfl,?_⟩ hdb)
 show wpAny _ _ (evalArgs (.ref C) true (backTo cpos (starEach [e₀] (envOfC qual scope s₀.heap.objs.size f cd))) []) _ _ s
 have hA:=(ja0 he ja6 (by show starEach [e₀] (envOfC qual scope s₀.heap.objs.size f cd)=_;rw[hst];rfl)) cpos pins s σ H (λvs H1=>∃v,vs=[v] /\ E (.ref C) none H1) I h
 rw[show starEach [e₀] (cxOf (CXE P w) P w K mg base N qual scope f cd A outer s₀ H₀ E).env=[(false,eval e₀ (envOfC qual scope s₀.heap.objs.size f cd))] from hst] at hA
 rw[hst]
 refine Calls.evalArgs_plain (wpAny_mono hA (λus s₂ ⟨vs,H1,I1,r,⟨v,hl,q1⟩⟩=> ?_) λ_ _ y=>y)
 have kb:=I1.bk
 refine⟨rfl,by show us.length<=sizeLine;rw[<-r.length,hl];exact(by decide:1<=sizeLine),kb _ _ hC,hN.keeps kb,T.keeps kb,λh' e hm=>raiseE I1 hm q1⟩
theorem Fun.okE{x qual:Str}{st:Stmt}{f:Addr}{fd:FuncData}{N ps:List Str}{k:Nat}{sp:Sp}(F:Fun K x qual st f fd)(S:FnScope N ps (jab st))(len:∀vs H Q E,sp vs H Q E->vs.length=ps.length)
  (hbody:∀(cdv:Value) (A:Around) (outer:List Env) (s:Shared) (H:Hp) (vs:List V) (Q:VK) (E:XK),Room k (A.deeper (envOfC qual (jab st) s.heap.objs.size f cdv))->sp vs H Q E->
   ∃t,PSs (cxOf (CXE P w) P w K mg base N qual (jab st) f cdv A outer s H E) (jdf st) t /\ t {nx:=λ_ H'=>Q .non H',rt:=Q} (start N vs) H):FnOk P w K mg base (CXE P w) (k+1) f fd ps sp:=by
 obtain⟨oc,od,kV,doc,pm,an,cdv,ct,osl,rfl,lk,hcd⟩:=F.ex
 exact fn_of lk hcd S len λA outer s H vs Q E hr hsp=>hbody cdv A outer s H vs Q E hr hsp
theorem ownE:PassesOwn (model P w) (A.deeper (envOfC qual scope s₀.heap.objs.size f cd)) (envOfC qual scope s₀.heap.objs.size f cd) (cxOf (CXE P w) P w K mg base N qual scope f cd A outer s₀ H₀ E).xe:=PassesOwn.leaving
theorem cxe_out{H:Hp}{s:Shared}{e:Value}{s':Shared}(h:CXE P w [] H s (λ_ _ _=>False) e s'):False:=by
 obtain⟨_,_,_,_,_,_,_,_,_,_,_,_,_,h⟩:=h;exact h
end
def Its(z:Str):It:=⟨λi _=>i<z.length,λi H x H'=>H'=H /\ ∃c,z.cps[i]?=some c /\ x= .str ⟨#[c]⟩,λi _=>z.length<=i⟩
theorem jqb{P:Program}{w:World}{K:W.Frag}{tg:Expr}(z:Str)(t:Tok)(it:Addr):Turn P w K tg (Its z) [it] it (λi h=>h.IsStrIter it "str_ascii_iterator" z t i) where
 mem:=by simp
 obj:=λi h st b hb=>by
  have e:b=it:=by simpa using hb
  subst e
  obtain⟨o,e,c,d⟩:=st
  exact⟨o,e,λv z=>by rw[d] at z;cases z⟩
 keep:=λi h h' st k=>let ⟨o,ho,r⟩:=st;⟨o,k it (by simp) o ho,r⟩
 item:=by
  intro X hP hw hK hc i pins s σ H E I hf st hg
  subst hP hw hK
  obtain⟨f0,f1,f2,f3,f4,f5⟩:=hf it (by simp)
  have hi:i<z.cps.size:=hg
  refine wpAny_pyNext_ascii_item st (c:=z.cps[i]) (by simp[hi]) λh' st' sb=> ?_
  have I1:Inv X pins σ H {s with heap:=h',toks:=s.toks+1}:=I.turned (t':=s.toks+1) (λb o hb e=>(sb.2 b hb).trans e) f0 f1 f3 f4 f5
  obtain⟨o,e,c,d⟩:=id st'
  exact⟨_,rfl,jlz (s:={s with heap:=h',toks:=s.toks+1}) e c d (by decide) ⟨.str ⟨#[z.cps[i]]⟩,H,I1,⟨_,rfl⟩,⟨rfl,z.cps[i],by simp[hi],rfl⟩,st',λb hb=>(hf b hb).1⟩⟩
 done:=by
  intro X hP hw hK hc i pins s σ H E I hf st hg
  subst hP hw hK
  obtain⟨f0,f1,f2,f3,f4,f5⟩:=hf it (by simp)
  have hi:z.cps.size<=i:=hg
  exact wpAny_pyNext_ascii_end (I.ok.hd hc) st (by simp;omega) λh' eb=>⟨rfl,I.turned (t':=s.toks) (λb o hb e=>eb b o hb e) f0 f1 f3 f4 f5⟩
 self:=λ_ _ _ _ _ st h=>wpAny_pyIter_striter_ascii st h
theorem jqn{P:Program}{w:World}{K:W.Frag}{tg:Expr}(z:Str)(t:Tok)(it:Addr):Turn P w K tg (Its z) [it] it (λi h=>h.IsStrIter it "str_iterator" z t i) where
 mem:=by simp
 obj:=λi h st b hb=>by
  have e:b=it:=by simpa using hb
  subst e
  obtain⟨o,e,c,d⟩:=st
  exact⟨o,e,λv z=>by rw[d] at z;cases z⟩
 keep:=λi h h' st k=>let ⟨o,ho,r⟩:=st;⟨o,k it (by simp) o ho,r⟩
 item:=by
  intro X hP hw hK hc i pins s σ H E I hf st hg
  subst hP hw hK
  obtain⟨f0,f1,f2,f3,f4,f5⟩:=hf it (by simp)
  have hi:i<z.cps.size:=hg
  refine wpAny_pyNext_wide_item st (c:=z.cps[i]) (by simp[hi]) λh' st' sb=> ?_
  have I1:Inv X pins σ H {s with heap:=h',toks:=s.toks+1}:=I.turned (t':=s.toks+1) (λb o hb e=>(sb.2 b hb).trans e) f0 f1 f3 f4 f5
  obtain⟨o,e,c,d⟩:=id st'
  exact⟨_,rfl,jlz (s:={s with heap:=h',toks:=s.toks+1}) e c d (by decide) ⟨.str ⟨#[z.cps[i]]⟩,H,I1,⟨_,rfl⟩,⟨rfl,z.cps[i],by simp[hi],rfl⟩,st',λb hb=>(hf b hb).1⟩⟩
 done:=by
  intro X hP hw hK hc i pins s σ H E I hf st hg
  subst hP hw hK
  obtain⟨f0,f1,f2,f3,f4,f5⟩:=hf it (by simp)
  have hi:z.cps.size<=i:=hg
  exact wpAny_pyNext_wide_end (I.ok.hd hc) st (by simp;omega) λh' eb=>⟨rfl,I.turned (t':=s.toks) (λb o hb e=>eb b o hb e) f0 f1 f3 f4 f5⟩
 self:=λ_ _ _ _ _ st h=>wpAny_pyIter_striter_wide st h
def iV(K:W.Frag)(tl:TE):TI:=λσ H R=>tl σ H λx H1=>(∃a,x= .ref a /\ (((∃xs,SqL K H1 a xs) /\ R (Itl K a) H1) \/ ((∃xs,SqT K H1 a xs) /\ R (Itt K a) H1))) \/ ∃z,x= .str z /\ R (Its z) H1
section
variable {X : Cx}
theorem pi_V{tg l:Expr}{tl:TE}(hl:PE X l tl):PI X tg l (iV X.K tl):=by
 intro pins s σ H R I h
 refine thn (hl pins s σ H _ I h) λv s1 ⟨x,H1,I1,r1,q1⟩=> ?_
 have fp:∀b∈[s1.heap.objs.size],FpOk X pins H1 b:=λb hb=>by
  have e:b=s1.heap.objs.size:=by simpa using hb
  subst e
  exact I1.fpOk (Nat.le_refl _) (I1.hok.fresh (Nat.le_refl _))
 rcases q1 with⟨a,e,q⟩ | ⟨z,e,q⟩
 ·subst e
  cases r1
  rcases q with⟨⟨xs,hq⟩,q⟩ | ⟨⟨xs,hq⟩,q⟩
  ·obtain⟨its,rv,p,hz⟩:=I1.list hq
   refine wpAny_pyIter_list p.isList ?_
   exact⟨s1.heap.objs.size,[s1.heap.objs.size],_,_,H1,rfl,I1.kept (t':=s1.toks) λb o e=>Heap.get?_push_of_some _ e,jpl a _,⟨_,Heap.get?_push_size _ rfl,rfl,rfl⟩,fp,q⟩
  ·obtain⟨its,rv,p,hz⟩:=I1.tuple hq
   refine wpAny_pyIter_tuple (show s1.heap.IsTuple a its.toArray from p) ?_
   exact⟨s1.heap.objs.size,[s1.heap.objs.size],_,_,H1,rfl,I1.kept (t':=s1.toks) λb o e=>Heap.get?_push_of_some _ e,joc a _,⟨_,Heap.get?_push_size _ rfl,rfl,rfl⟩,fp,q⟩
 ·subst e
  obtain⟨t,rfl⟩:=r1
  cases ha:z.cps.all (·<128)
  ·exact wpAny_pyIter_wide ha ⟨s1.heap.objs.size,[s1.heap.objs.size],_,_,H1,rfl,I1.kept (t':=s1.toks) λb o e=>Heap.get?_push_of_some _ e,jqn z t _,⟨_,Heap.get?_push_size _ rfl,rfl,rfl⟩,fp,q⟩
  ·exact wpAny_pyIter_ascii ha ⟨s1.heap.objs.size,[s1.heap.objs.size],_,_,H1,rfl,I1.kept (t':=s1.toks) λb o e=>Heap.get?_push_of_some _ e,jqb z t _,⟨_,Heap.get?_push_size _ rfl,rfl,rfl⟩,fp,q⟩
def rInt:List V->Hp->VK->Prop:=λxs H Q=>((∃i,xs=[.int i] /\ Q (.int i) H) \/ ∃k,xs=[.bl k] /\ Q (.int (if k then 1 else 0)) H) \/ ∃z n,xs=[.str z] /\ z.length<=640 /\ intText? z=some n /\ Q (.int n) H
theorem jeh:jdi X (.type "int") rInt:=by
 refine jdi.or jsd ?_
 intro pins s σ H xs us Q I r h
 obtain⟨z,n,rfl,hl,hn,q⟩:=h
 obtain⟨u,rfl,t,rfl⟩:=jiz r
 exact W.KIN.call_text hn hl ⟨.int n,H,I.tok _,⟨_,rfl⟩,q⟩
/-! ### f"..{x}.." -/
end
section
variable {X : Cx}
theorem jpv{ns:List Int}{its:List Value}(r:Vals (ns.map V.int) its){i:Nat}{v:Value}(h:its[i]?=some v):∃t,v= .int (ns.getD i 0) t /\ i<ns.length:=by
 have hl:=r.length
 rw[List.length_map] at hl
 have hi:i<its.length:=(List.getElem?_eq_some_iff.mp h).1
 have hx:(ns.map V.int)[i]?=some (.int ns[i]):=by simp[List.getElem?_map,List.getElem?_eq_getElem (show i<ns.length by omega)]
 obtain⟨u,hu,⟨t,rfl⟩⟩:=r.get hx
 rw[h] at hu
 refine⟨t,?_,by omega⟩
 have:ns.getD i 0=ns[i]:=by simp[List.getD,List.getElem?_eq_getElem (show i<ns.length by omega)]
 rw[this];exact Option.some.inj hu
end
def Fly(X:Cx)(pins:List (Addr×Obj))(σ:St)(H':Hp)(ea C:Addr)(s':Shared):Prop:=
 ∃(a0:Value) (B:Heap) (H:Hp) (s:Shared),Inv X pins σ H s /\ s'.os=s.os /\ AllBare s'.gens /\ Un (frs X.stack) [] H H' s.heap s'.heap /\ HOk X.prog X.w H' B /\ Heap.FlyingW B X.stack ea (.ref C) a0 s'.heap /\
  (∀b o,s.heap.get? b=some o->b∉frs X.stack->∃o',B.get? b=some o') /\ (∀b o,s.heap.get? b=some o->H b=none->b∉frs X.stack->B.get? b=some o)
abbrev FK:=St->Addr->Hp->Prop
def XP(X:Cx)(pins:List (Addr×Obj))(σ:St)(F:Addr->Hp->Prop)(e:Value)(s':Shared):Prop:=
 ∃ea C H',e= .ref ea /\ Fly X pins σ H' ea C s' /\ F C H'
theorem jc2.there{P:Program}{w:World}{H:Hp}{h:Heap}{a:Addr}{o:HO}(x:jc2 P w H h a o):∃u,h.get? a=some u:=by
 cases o with
 | lst xs=>obtain⟨_,_,_,_,e⟩:=x;exact⟨_,e⟩
 | tup xs=>obtain⟨_,_,_,o,e,_⟩:=x;exact⟨_,e⟩
 | dK kvs=>obtain⟨_,_,_,_,o,_,_,e,_⟩:=x;exact⟨_,e⟩
 | dT kvs=>obtain⟨_,_,_,_,o,_,_,e,_⟩:=x;exact⟨_,e⟩
 | set S n=>obtain⟨o,_,_,_,e,_⟩:=x;exact⟨_,e⟩
 | ins C dx fs=>obtain⟨_,_,_,e,_⟩:=x;exact⟨_,e⟩
 | own y=>exact x
 | xd fs=>obtain⟨_,⟨_,_,_,e,_⟩,_⟩:=x;exact⟨_,e⟩
 | rng lo hi=>obtain⟨_,_,_,e⟩:=x;exact⟨_,e⟩
 | frz ob u=>obtain⟨e,_⟩:=x;exact⟨_,e⟩
 | tbl ps=>exact⟨_,x⟩
 | met f y=>exact⟨_,x⟩
 | ext φ=>obtain⟨_,e,_⟩:=x;exact e
section
variable {X : Cx} {pins : List (Addr × Obj)} {σ : St} {H H' : Hp} {s s' : Shared} {ea C : Addr}
theorem Fly.inv(F:Fly X pins σ H' ea C s'):Inv X pins σ H' s':=by
 obtain⟨a0,B,H,s,I,ho,hg,u,hok,fl,_,_⟩:=F
 exact I.call' ho u (hok.kept fl.1) hg λb z=>absurd z (by simp)
theorem Fly.there(F:Fly X pins σ H' ea C s'):∃o,s'.heap.get? ea=some o /\ o.cls= .ref C:=by
 obtain⟨a0,B,H,s,I,ho,hg,u,hok,fl,_,_⟩:=F
 exact fl.there
theorem Fly.fresh(F:Fly X pins σ H' ea C s'):H' ea=none:=by
 obtain⟨a0,B,H,s,I,ho,hg,u,hok,fl,_,_⟩:=F
 cases e:H' ea with
 | none=>rfl
 | some o=>
  obtain⟨x,z⟩:=(hok ea o e).there
  rw[fl.2.1] at z;cases z
theorem Fly.new(F:Fly X pins σ H' ea C s'):∃(H:Hp) (s:Shared),Inv X pins σ H s /\ s.heap.get? ea=none:=by
 obtain⟨a0,B,H,s,I,ho,hg,u,hok,fl,hB,hBk⟩:=F
 refine⟨H,s,I,?_⟩
 cases e:s.heap.get? ea with
 | none=>rfl
 | some o=>
  by_cases hm:ea∈frs X.stack
  ·obtain⟨_,o',ho',hd⟩:=fl.2.2.1.mem (b:=ea) hm
   obtain⟨oe,vs,T,oT,ts,he,hc,hdd,_⟩:=fl.2.2.2
   rw[ho'] at he;cases he
   exact absurd hdd (hd _)
  ·obtain⟨o',z⟩:=hB ea o e hm
   rw[fl.2.1] at z;cases z
theorem Fly.step{B:Heap}{a0:Value}{h:Heap}(I:Inv X pins σ H s)(ho:s'.os=s.os)(hg:AllBare s'.gens)(u:Un (frs X.stack) [] H H' s.heap s'.heap)(hok:HOk X.prog X.w H' B)
  (hB:∀b o,s.heap.get? b=some o->b∉frs X.stack->∃o',B.get? b=some o') (hBk:∀b o,s.heap.get? b=some o->H b=none->b∉frs X.stack->B.get? b=some o)
  (sm:s'.heap.UpToSlots h) (ff:s'.heap.FunFrames B X.stack) (fl:Heap.FlyingW B X.stack ea (.ref C) a0 h):Fly X pins σ H' ea C {s' with heap:=h}:=by
 have nf:∀{b},b∈frs X.stack->∀o,s'.heap.get? b=some o->∀vs,o.data≠ .fields vs:=fun{b} hb o ho=>by
  obtain⟨_,o',ho',hd⟩:=ff.mem (b:=b) hb
  rw[ho] at ho';cases ho';exact hd
 refine⟨a0,B,H,s,I,ho,hg,⟨?_,?_,u.free,?_,u.tups,u.frzs,u.tbls⟩,hok,fl,hB,hBk⟩
 ·intro b o q n nm _
  exact fl.1 b o (hBk b o q n nm)
 ·intro b o q n hm _
  obtain⟨sl2,q2⟩:=u.slot b _ q n hm (by simp)
  obtain⟨sl3,q3⟩:=sm b _ q2 (nf hm _ q2)
  exact⟨sl3,q3⟩
 ·intro b o q _
  by_cases hm:b∈frs X.stack
  ·obtain⟨o2,q2⟩:=u.there b o q (by simp)
   obtain⟨sl3,q3⟩:=sm b _ q2 (nf hm _ q2)
   exact⟨_,q3⟩
  ·obtain⟨o2,q2⟩:=hB b o q hm
   exact⟨o2,fl.1 b o2 q2⟩
theorem Fly.lands{M:Model}{A:Around}{E:Value->Shared->Prop}{Q:Unit->Shared->Prop}(F:Fly X pins σ H' ea C s')(hst:X.stack=X.env::X.outer)(hfr:X.env.frame=some X.env.locals)(hA:A.frames=some X.stack)
  (k:∀s2,Fly X pins σ H' ea C s2->Q () s2):wpAny M A (noteFrame (.ref ea) X.env) (λ_ s2=>wpAny M A (setFlight (.ref ea) none) Q E s2) E s':=by
 obtain⟨a0,B,H,s,I,ho,hg,u,hok,fl,hB,hBk⟩:=F
 have ff:=fl.2.2.1
 refine wpAny_looks_onW (env:=X.env) (outer:=X.outer) (L:=X.env.locals) (by rw[hA,hst]) hfr (by rw[<-hst];exact fl) λh₄ hheld₄ hsm₄=> ?_
 refine wpAny_landsW hheld₄ λh₅ hheld hsm₅=> ?_
 rw[<-hst] at hheld
 exact k _ (Fly.step (s':=s') I ho hg u hok hB hBk (hsm₄.trans hsm₅) ff hheld)
theorem Fly.again{M:Model}{A:Around}{E:Value->Shared->Prop}{Q:Unit->Shared->Prop}(F:Fly X pins σ H' ea C s')(k:∀s2,Fly X pins σ H' ea C s2->Q () s2):wpAny M A (setFlight (.ref ea) none) Q E s':=by
 obtain⟨a0,B,H,s,I,ho,hg,u,hok,fl,hB,hBk⟩:=F
 exact lands_againW fl λh₅ hheld hsm=>k _ (Fly.step (s':=s') I ho hg u hok hB hBk hsm fl.2.2.1 hheld)
theorem Fly.track{oe:Obj}(F:Fly X pins σ H' ea C s')(hex:X.ex=[])(he:s'.heap.get? ea=some oe):Inv X pins σ (upd H' ea (.frz oe (.own 0))) s':=by
 have I':=F.inv
 have fr:=F.fresh
 obtain⟨H,s,I,hn⟩:=F.new
 have n0:∀{b o},X.s₀.heap.get? b=some o->b≠ea:=fun{b o} e z=>by
  subst z
  obtain⟨o',q⟩:=I.base.there b o e (by rw[hex];simp)
  rw[hn] at q;cases q
 have ne:∀{b o},s.heap.get? b=some o->b≠ea:=fun{b o} e z=>by subst z;rw[hn] at e;cases e
 have nl:X.env.locals≠ea:=by
  obtain⟨m,⟨o,_,_,q,_⟩,_⟩:=I.loc
  exact ne q
 refine⟨I'.ok,I'.os,I'.bare,⟨I'.base.keep,I'.base.slot,λb o e n hx=> ?_,I'.base.there,λb xs e=> ?_,λb o u e=> ?_,λb ps e=> ?_⟩,I'.loc,I'.cell,?_,λx c e=> ?_,λp hp=> ?_,λb o e=> ?_,I'.len⟩
 ·rw[jae (n0 e)];exact I'.base.free b o e n hx
 ·have q:=I'.base.tups b xs e
  rw[jae (jb1 q fr)];exact q
 ·have q:=I'.base.frzs b o u e
  rw[jae (jb1 q fr)];exact q
 ·obtain⟨m,q⟩:=I'.base.tbls b ps e
  exact⟨m,by rw[jae (jb1 q fr)];exact q⟩
 ·rw[jae nl];exact I'.free
 ·obtain⟨v,o,q,_⟩:=I.cell x c e
  rw[jae (ne q)];exact I'.freeC x c e
 ·obtain⟨z1,z2,z3⟩:=I'.pin p hp
  have q:=(I.pin p hp).1
  exact⟨z1,by rw[jae (ne q)];exact z2,z3⟩
 ·by_cases hb:b=ea
  ·subst hb
   rw[jaz] at e;cases e
   exact⟨he,⟨_,he⟩⟩
  ·rw[jae hb] at e
   exact(I'.hok b o e).stay (λc v hcc q=>q) (λc q=>by rw[jae (jb1 q fr)];exact q) λc ys q=>by rw[jae (jb1 q fr)];exact q
abbrev Cx.mkd(X:Cx)(ea:Addr):Cx:={X with A:=X.A.mark (some (.ref ea)),calm:=false,xe:=λ_ _=>False}
theorem Inv.mkd(I:Inv X pins σ H s)(ea:Addr):Inv (X.mkd ea) pins σ H s:=
 ⟨⟨I.ok.mod,I.ok.kind,I.ok.glob,I.ok.blt,I.ok.above,I.ok.inj,I.ok.has,I.ok.cab,(λz=>nomatch z),I.ok.frames,I.ok.stk,I.ok.exf,I.ok.bs,I.ok.bsz,I.ok.noex,I.ok.exfs,I.ok.funs,I.ok.frf⟩,I.os,I.bare,I.base,I.loc,I.cell,I.free,I.freeC,I.pin,I.hok,I.len⟩
theorem Inv.unmkd(ok:X.Ok)(I:Inv (X.mkd ea) pins σ H s):Inv X pins σ H s:=⟨ok,I.os,I.bare,I.base,I.loc,I.cell,I.free,I.freeC,I.pin,I.hok,I.len⟩
theorem jj0{M:Model}{A:Around}{E:Value->Shared->Prop}{i:Nat}{x:Str}{pos:Pos}{Q:Unit->Shared->Prop}(I:Inv X pins σ H s)(hN:X.N.Nodup)(hi:X.N[i]?=some x)(hk:X.env.scope.names.lookup x=some .local)
  (h:∀s',Inv X pins (σ.set i none) H s'->Q () s'):wpAny M A (do bindName X.env x .none;unbindBehindTheSuite X.env x pos) Q E s:=by
 obtain⟨m,hn,hl⟩:=id I.loc
 have hcls:(X.env.scope.kind== .class||(X.env.scope.kind== .module&&X.env.locals !=X.env.globals))=false:=by rw[I.ok.kind];rfl
 have hiσ:i<σ.length:=by rw[I.len];exact(List.getElem?_eq_some_iff.mp hi).1
 have cne:=I.cne
 refine wpAny_nameGoes_keeps hk hn hcls λh' v hn' hs=> ?_
 obtain⟨oL,_,_,hoL,_⟩:=id hn
 refine h _ ⟨I.ok,I.os,I.bare,⟨λb o e n hb hx=> ?_,λb o e n hb hx=> ?_,I.base.free,λb o e hx=> ?_,I.base.tups,I.base.frzs,I.base.tbls⟩,⟨_,hn',λj y v' e1 e2 e3=> ?_⟩,λy c e=> ?_,I.free,I.freeC,λp hp=> ?_,λb ob e=> ?_,by simpa using I.len⟩
 ·exact(hs.2 b (Nat.ne_of_lt (Nat.lt_of_lt_of_le (Heap.lt_size e) I.ok.above))).trans (I.base.keep b o e n hb hx)
 ·obtain⟨sl,e1⟩:=I.base.slot b o e n hb hx
  exact⟨sl,(hs.2 b (Nat.ne_of_lt (Nat.lt_of_lt_of_le (Heap.lt_size e) I.ok.above))).trans e1⟩
 ·obtain⟨o',e1⟩:=I.base.there b o e hx
  exact⟨o',(hs.2 b (Nat.ne_of_lt (Nat.lt_of_lt_of_le (Heap.lt_size e) I.ok.above))).trans e1⟩
 ·by_cases hj:j=i
  ·subst hj
   rw[List.getElem?_set_self hiσ] at e2
   cases e2
  ·rw[List.getElem?_set_ne (Ne.symm hj)] at e2
   obtain⟨u',r',q⟩:=hl j y v' e1 e2 e3
   refine⟨u',r',?_⟩
   rcases q with⟨k,e⟩ | ⟨k,c,e,z⟩
   ·refine .inl ⟨k,?_⟩
    have:y≠x:=λe=>hj (jjj hN e1 (e▸hi))
    simp[this,e]
   ·exact .inr ⟨k,c,e,z.sameBut hs (cne y c e)⟩
 ·obtain⟨w',z⟩:=I.cell y c e
  exact⟨w',z.sameBut hs (cne y c e)⟩
 ·obtain⟨e,n,ne,nf,d⟩:=I.pin p hp
  exact⟨(hs.2 p.1 ne).trans e,n,ne,nf,d⟩
 ·refine(I.hok b ob e).stay (λc w' hc q=>(hs.2 c ?_).trans q) (λ_ q=>q) λ_ _ q=>q
  rintro rfl
  rcases hc with hc | hc
  ·rw[<-hc,I.free] at e;cases e
  ·rw[I.free] at hc;cases hc
end
structure Clause (K:PySem.W.Frag) (W:Addr):Prop where
 nt:PySem.W.instIn K (.ref W) (.type "tuple")=some false
 cl:PySem.W.hasDictIn K W=true
 ex:PySem.W.subIn K (.ref W) (.type "BaseException")=some true
theorem jka{M:Model}{A:Around}{E:Value->Shared->Prop}{K:PySem.W.Frag}{s:Shared}{ea C W:Addr}{oe:Obj}{b:Bool}{Q:Bool->Shared->Prop}(k:K.In s.heap)(c:Clause K W)(he:s.heap.get? ea=some oe)(hc:oe.cls= .ref C)
  (hs:PySem.W.subIn K (.ref C) (.ref W)=some b) (h:Q b s):wpAny M A (excMatches (.ref ea) (.ref W)) Q E s:=by
 obtain⟨hh,g,d,tk,os⟩:=s
 have k':K.In hh:=k
 have L1:PySem.W.Looks M hh (isInstance (.ref W) (.type "tuple")) false:=PySem.W.looks_instIn k' c.nt
 have L2:PySem.W.Looks M hh (isType (.ref W)) true:=by
  have z0:(PySem.W.clsIn K W).isSome=true:=by obtain⟨cd,hc,_⟩:=PySem.W.any_some c.cl;rw[hc];rfl
  unfold PySem.W.clsIn at z0
  split at z0
  ·rename_i c' d' cd' sl' ho
   intro A' Q' E' s' kk q
   unfold isType loadHead
   exact wpAny_bind (wpAny_loadPart (kk _ _ (k' _ _ ho)) (wpAny_pure q))
  ·cases z0
 have L3:PySem.W.Looks M hh (isSubtype (.ref W) (.type "BaseException")) true:=PySem.W.looks_subIn k' c.ex
 have L4:PySem.W.Looks M hh (isSubtype (.ref C) (.ref W)) b:=PySem.W.looks_subIn k' hs
 have L5:PySem.W.Looks M hh (typeOf (.ref ea)) (.ref C):=hc▸(PySem.W.Looks.ld (h:=hh) he).andThen .now
 unfold excMatches isExcClass
 repeat (first | (with_reducible refine L1.at ?_) | (with_reducible refine L2.at ?_) | (with_reducible refine L3.at ?_) | (with_reducible refine L4.at ?_) | (with_reducible refine L5.at ?_) | wp_step)
 cases b<;>(wp_walk;exact h)
section
variable {X : Cx}
def PH(X:Cx)(hs:List ExceptHandler)(t:Addr->TS):Prop:=
 ∀(pins:List (Addr×Obj)) (s:Shared) (σ:St) (H:Hp) (ea C:Addr) (D:Ends),Fly X pins σ H ea C s->t C D σ H->wpAny (model X.prog X.w) X.A (handleBy (.ref ea) X.env hs) (SP X pins D) X.xe s
def hNil:Addr->TS:=λ_ _ _ _=>False
theorem ph_nil:PH X [] hNil:=λ_ _ _ _ _ _ _ _ h=>h.elim
def Ends.gone(D:Ends)(i:Nat):Ends:=⟨λσ H=>D.nx (σ.set i none) H,D.rt,λσ H=>D.bk (σ.set i none) H,λσ H=>D.ct (σ.set i none) H⟩
def hAs(K:PySem.W.Frag)(W:Addr)(i:Nat)(th:TS)(rest:Addr->TS):Addr->TS:=λC D σ H=>
 ∃b,PySem.W.subIn K (.ref C) (.ref W)=some b /\ if b=true then ∀ea oe,H ea=none->oe.cls= .ref C->th (D.gone i) (σ.set i (some (.ref ea))) (upd H ea (.frz oe (.own 0))) else rest C D σ H
theorem ph_as{i:Nat}{y n:Str}{W:Addr}{np pos:Pos}{b₀:Stmt}{suite:List Stmt}{rest:List ExceptHandler}{th:TS}{tr:Addr->TS}(hex:X.ex=[])(hN:X.N.Nodup)(hi:X.N[i]?=some n)(hk:X.env.scope.names.lookup n=some .local)
  (hg:Gl X y) (hm:X.mg y=some (.ref W)) (hW:Clause X.K W) (hb:∀ea,PSs (X.mkd ea) (b₀::suite) th) (hr:PH X rest tr) (hd:(y==("__debug__":Str))=false:=by decide):
  PH X (.ExceptHandler (some (.Name y np)) (some n) (b₀::suite) pos::rest) (hAs X.K W i th tr):=by
 intro pins s σ H ea C D F h
 obtain⟨b,hs,h⟩:=h
 obtain⟨oe,he,hc⟩:=F.there
 have I:=F.inv
 refine wpAny_handleBy_cons (codeAny_handlers_test (jhf (X:=X.mkd ea) (I.mkd ea) hg hm (jka I.kIn hW he hc hs ?_) hd)) (by intro q;cases q)
 cases b with
 | false=>exact hr pins s σ H ea C D F h
 | true=>
  refine codeAny_handlers_suite_as (F.again λs2 F2=> ?_)
  obtain⟨oe2,he2,hc2⟩:=F2.there
  have I2:=F2.track hex he2
  refine jh2 I2 hN hi (.inl hk) (v:= .ref ea) (u:= .ref ea) rfl (λs3 I3=> ?_) (.inr hk)
  refine wpAny_mono (hb ea pins s3 _ _ (D.gone i) (I3.mkd ea) (h ea oe2 F2.fresh hc2)) (λf s4 q=> ?_) λ_ _ z=>False.elim z
  have ok:=I.ok
  cases f with
  | next=>obtain⟨σ',H',I',q⟩:=q;exact jj0 (I'.unmkd ok) hN hi hk λs5 I5=>⟨_,_,I5,q⟩
  | brk=>obtain⟨σ',H',I',q⟩:=q;exact jj0 (I'.unmkd ok) hN hi hk λs5 I5=>⟨_,_,I5,q⟩
  | cont=>obtain⟨σ',H',I',q⟩:=q;exact jj0 (I'.unmkd ok) hN hi hk λs5 I5=>⟨_,_,I5,q⟩
  | ret u=>obtain⟨v,σ',H',I',r,q⟩:=q;exact jj0 (I'.unmkd ok) hN hi hk λs5 I5=>⟨v,_,_,I5,r,q⟩
def PSX(X:Cx)(st:Stmt)(t:FK->TS):Prop:=
 ∀(pins:List (Addr×Obj)) (s:Shared) (σ:St) (H:Hp) (D:Ends) (F:FK),Inv X pins σ H s->t F D σ H->wpAny (model X.prog X.w) X.A (exec st X.env) (SP X pins D) (λe s'=>∃σ',XP X pins σ' (F σ') e s') s
def PSXs(X:Cx)(st:List Stmt)(t:FK->TS):Prop:=
 ∀(pins:List (Addr×Obj)) (s:Shared) (σ:St) (H:Hp) (D:Ends) (F:FK),Inv X pins σ H s->t F D σ H->wpAny (model X.prog X.w) X.A (execs st X.env) (SP X pins D) (λe s'=>∃σ',XP X pins σ' (F σ') e s') s
def PEX(X:Cx)(e:Expr)(t:(Addr->Hp->Prop)->TE):Prop:=
 ∀(pins:List (Addr×Obj)) (s:Shared) (σ:St) (H:Hp) (Q:VK) (F:Addr->Hp->Prop),Inv X pins σ H s->t F σ H Q->wpAny (model X.prog X.w) X.A (eval e X.env) (EP X pins σ Q) (XP X pins σ F) s
def FE(F:Addr->Hp->Prop):XK:=λc _ H=>∃C,c= .ref C /\ F C H
theorem jz3{k:Nat}{f:Addr}{fd:FuncData}{ps:List Str}{sp:Sp}{dvs:List V}{ds:List Value}{pins:List (Addr×Obj)}{σ:St}{H:Hp}{s:Shared}{Q:VK}{us:List Value}{vs:List V}{Fx:Addr->Hp->Prop}
  (F:FnOk X.prog X.w X.K X.mg X.base (CXE X.prog X.w) k f fd ps sp) (hr:Room k X.A) (hb:jfo X.K fd ps ds) (hd:Vals dvs ds)
  (I:Inv X pins σ H s) (r:Vals vs us) (h:sp (vs++dvs) H Q (FE Fx)):wpAny (model X.prog X.w) X.A (call (.ref f) us) (EP X pins σ Q) (XP X pins σ Fx) s:=by
 have r2:Vals (vs++dvs) (us++ds):=r.append hd
 have hl:(us++ds).length=ps.length:=by rw[<-r2.length];exact F.len _ _ _ _ h
 refine wpAny_call (codeAny_mono (F.run X.A X.stack s H ⟨us,[]⟩ (us++ds) (vs++dvs) Q (FE Fx) hr I.env0 (hb s us I.kIn hl) r2 h) λr s' hq=> ?_)
 cases r with
 | error e=>
  obtain⟨ea,C,a0,B,H',rfl,hos,hg,u,hok,fl,hB,hBk,C',hC,hE⟩:=hq
  cases hC
  exact⟨ea,C,H',rfl,⟨a0,B,H,s,I,hos,hg,u,hok,fl,hB,hBk⟩,hE⟩
 | ok fl=>
  cases fl with
  | ret u=>exact I.after hq
  | next=>exact False.elim hq
  | brk=>exact False.elim hq
  | cont=>exact False.elim hq
theorem nxa{α:Type}{M:Model}{A:Around}{t:Sem α}{Q Q':α->Shared->Prop}{E:Value->Shared->Prop}{s:Shared}(h:wpAny M A t Q (λ_ _=>False) s)(hQ:∀a s,Q a s->Q' a s):wpAny M A t Q' E s:=wpAny_mono h hQ λ_ _ z=>False.elim z
def sxSet(i:Nat)(t:(Addr->Hp->Prop)->TE):FK->TS:=λF D σ H=>t (F σ) σ H λv H1=>D.nx (σ.set i (some v)) H1
theorem jho{i:Nat}{x:Str}{e:Expr}{t:(Addr->Hp->Prop)->TE}{pos pos':Pos}(hN:X.N.Nodup)(hi:X.N[i]?=some x)(hx:Loc X.env.scope x)(he:PEX X e t)(hs:swapsWith e (some (.Name x pos')) pos.line X.env=pure false:=by rfl)
  (hf:X.fn x=true \/ X.env.scope.names.lookup x=some .local:=by first | exact .inl rfl | exact .inr rfl | assumption):PSX X (.Assign [.Name x pos'] e pos) (sxSet i t):=by
 intro pins s σ H D F I h
 refine wpAny_Assign_Name (wpAny_mono (he pins s σ H _ _ I h) (λv s1 ⟨y,H1,I1,r1,q1⟩=> ?_) λ_ _ z=>⟨σ,z⟩) hs
 exact jh2 I1 hN hi hx r1 (λs2 I2=>⟨_,H1,I2,q1⟩) hf
def sxIf(c:TT)(t u:FK->TS):FK->TS:=λF D σ H=>c σ H λb H1=>if b=true then t F D σ H1 else u F D σ H1
theorem jo0{c:Expr}{a b:List Stmt}{tc:TT}{t u:FK->TS}{pos:Pos}(hc:PT X.nox c tc)(ha:PSXs X a t)(hb:PSXs X b u):PSX X (.If c a b pos) (sxIf tc t u):=by
 intro pins s σ H D F I h
 refine wpAny_If (nxa (hc pins s σ H _ (I.wish _) h) λd s1 ⟨H1,I1,q1⟩=> ?_)
 cases d with
 | true=>exact ha pins s1 σ H1 D F I1.unwish q1
 | false=>exact hb pins s1 σ H1 D F I1.unwish q1
def sxSeq(t u:FK->TS):FK->TS:=λF D σ H=>t F {D with nx:=u F D} σ H
theorem jdm:PSXs X [] (λ_=>jtw):=λ_ _ σ H _ _ I h=>wpAny_execs_nil ⟨σ,H,I,h⟩
theorem jd1{st:Stmt}{rest:List Stmt}{t u:FK->TS}(h1:PSX X st t)(h2:PSXs X rest u):PSXs X (st::rest) (sxSeq t u):=by
 intro pins s σ H D F I h
 refine wpAny_execs_cons (thn (h1 pins s σ H {D with nx:=u F D} F I h) λf s1 q=> ?_)
 cases f with
 | next=>obtain⟨σ',H',I',q⟩:=q;exact h2 pins s1 σ' H' D F I' q
 | brk=>exact q
 | cont=>exact q
 | ret u=>exact q
def tTry(tb:FK->TS)(th:Addr->TS):TS:=λD σ H=>tb (λσ1 C H1=>th C D σ1 H1) D σ H
theorem ps_try{body:List Stmt}{h₀:ExceptHandler}{hs:List ExceptHandler}{pos:Pos}{tb:FK->TS}{th:Addr->TS}(hst:X.stack=X.env::X.outer)(hfr:X.env.frame=some X.env.locals)(hb:PSXs X body tb)(hh:PH X (h₀::hs) th):
  PS X (.Try body (h₀::hs) [] [] pos) (tTry tb th):=by
 intro pins s σ H D I h
 refine wpAny_Try_except (wpAny_mono (hb pins s σ H D _ I h) (λf s1 q=> ?_) λe s1 q=> ?_)
 ·cases f with
  | next=>exact wpAny_execs_nil q
  | brk=>exact q
  | cont=>exact q
  | ret u=>exact q
 ·obtain⟨σ',ea,C,H',rfl,F,q⟩:=q
  exact F.lands hst hfr I.ok.frames λs2 F2=>hh pins s2 σ' H' ea C D F2 q
end
end L2
namespace L2
open PySem PySem.Spec PyProof.Rows PySem.Builtin PySem.Builtin.ObjectAttr PySem.Builtin.Getset_descriptor
structure IsiC (K:W.Frag) (C:Addr):Prop where
 ga:W.findIn K (.ref C) "__getattribute__"=some (some (.builtin "BaseException.__getattribute__"))
 gt:W.findIn K (.ref C) "__getattr__"=some none
 cl:W.findIn K (.ref C) "__class__"=some (some (.builtin "object.__class__"))
 be:W.subIn K (.ref C) (.type "BaseException")=some true
 ob:W.mroIn K C (.type "object")=some true
 is:W.hasDictIn K C=true
section
variable {prog : Program} {w : World} {A : Around} {E : Value -> Shared -> Prop} {K : W.Frag} {h : Heap} {g : Array GenState} {d : Drawn} {t : Nat} {os : OsState} {a C : Addr} {o : Obj}
theorem jjk{M:Model}(hx:h.get? a=some o)(hc:o.cls= .ref C):W.Looks M h (typeOf (.ref a)) (.ref C):=hc▸(W.Looks.ld (h:=h) hx).andThen .now
theorem jjb{tp:Value}{R:Result->Shared->Prop}(k:K.In h)(c:IsiC K C)(hx:h.get? a=some o)(hc:o.cls= .ref C)(hq:R (.ok (.ret (.ref C))) ⟨h,g,d,t,os⟩):
  codeAny (model prog w) A (.call (.builtin "getset_descriptor.__get__") ⟨[.builtin "object.__class__",.ref a,tp],[]⟩) R ⟨h,g,d,t,os⟩:=by
 have L0:=jjk (M:=model prog w) hx hc
 have L1:=W.looks_mroIn (M:=model prog w) k c.ob
 refine codeAny_call_builtin W.KF.slot_gs.plain W.KF.entry_gs (W.KF.slot_gs.check _ _ _ _ _ _ _ _ W.KF.type_class (W.KF.args_gs _ _ _) ?_)
 unfold Builtin.«getset_descriptor.__get__» descrGet
 rw[W.dga_obj]
 refine wpAny_bind (wpAny_pure ?_)
 unfold descrGetter descrCheckInstance descrNameAndClass isInstance
 simp only[W.KF.owner_class]
 repeat lk
 refine⟨Code.quiet_builtin _ (by decide+kernel),codeAny_builtin W.KF.entry_class ?_⟩
 unfold Builtin.«object.__class__» shownTypeOf
 repeat lk
 all_goals first | exact hq | assumption
theorem jrd{tk:Tok}{Q:Fin->Shared->Prop}(k:K.In h)(c:IsiC K C)(hx:h.get? a=some o)(hc:o.cls= .ref C)(hq:Q (.done (.ret (.ref C))) ⟨h,g,d,t,os⟩):
  wpAny (model prog w) A (Builtin.«object.__getattribute__» ⟨[.ref a,.str "__class__" tk],[]⟩) Q E ⟨h,g,d,t,os⟩:=by
 have L0:=jjk (M:=model prog w) hx hc
 have L1:=W.looks_findIn (M:=model prog w) k c.cl
 have hT5:(⟨h,g,d,t,os⟩:Shared).TypeIs (.builtin "object.__class__") "getset_descriptor":=F.typeOf_object_class
 have f5:=F.typeOf_object_class
 have f6:=F.slot_gs_get.lookup
 have f7:=F.slot_gs_set.lookup
 repeat (any_goals (first | assumption | (with_reducible refine wpAny_loadPart_at hx ?_;rw[hc]) | (with_reducible refine L1.at ?_) | (with_reducible refine L0.at ?_) | wp_step))
 refine jjb k c hx hc ?_
 repeat (any_goals (first | assumption | wp_step))
theorem jpg{M:Model}{nameV:Value}{Q:Unit->Shared->Prop}(k:K.In h)(c:IsiC K C)(hx:h.get? a=some o)(hc:o.cls= .ref C)(hq:Q () ⟨h,g,d,t,os⟩):
  wpAny M A (checkBuiltinCall "BaseException.__getattribute__" ⟨[.ref a,nameV],[]⟩) Q E ⟨h,g,d,t,os⟩:=by
 have hk:builtinKind "BaseException.__getattribute__"=some .slot:=by decide+kernel
 have hsplit:splitId "BaseException.__getattribute__"=some ("BaseException","__getattribute__"):=by decide+kernel
 have ha:=F.args_bexc_ga (.ref a) nameV
 have L2:=W.looks_subIn (M:=M) k c.be
 simp only[checkBuiltinCall,hk,hsplit]
 refine wpAny_bind ?_
 ·unfold isInstance
  repeat (first | (with_reducible refine wpAny_loadPart_at hx ?_;rw[hc]) | (with_reducible refine L2.at ?_) | wp_step)
  exact hq
theorem juo{tk:Tok}{R:Result->Shared->Prop}(k:K.In h)(c:IsiC K C)(hx:h.get? a=some o)(hc:o.cls= .ref C)(hq:R (.ok (.ret (.ref C))) ⟨h,g,d,t,os⟩):
  codeAny (model prog w) A (.call (.builtin "BaseException.__getattribute__") ⟨[.ref a,.str "__class__" tk],[]⟩) R ⟨h,g,d,t,os⟩:=
 codeAny_call_builtin F.excAttr_ValueError.ga.plain F.entry_bexc_ga (jpg k c hx hc (jrd k c hx hc hq))
theorem exc_by{tk:Tok}{Q:Value->Shared->Prop}(k:K.In h)(c:IsiC K C)(hx:h.get? a=some o)(hc:o.cls= .ref C)(hq:Q (.ref C) ⟨h,g,d,t,os⟩):
  wpAny (model prog w) A (getAttrBy (.ref a) (.str "__class__" tk) false) Q E ⟨h,g,d,t,os⟩:=by
 have L1:=W.looks_findIn (M:=model prog w) k c.ga
 have L2:=W.looks_findIn (M:=model prog w) k c.gt
 have f3:=F.excAttr_ValueError.ga.bind (.ref a)
 have hx2:(Value.builtin "BaseException.__getattribute__"==Value.builtin "object.__getattribute__")=false:=by decide+kernel
 have hx1:(onTheHeap (Value.ref C)&&Value.builtin "BaseException.__getattribute__"==Value.builtin "object.__getattribute__")=false:=by rw[hx2];rfl
 repeat (any_goals (first | assumption | (with_reducible refine wpAny_loadPart_at hx ?_;rw[hc]) | (with_reducible refine L1.at ?_) | (with_reducible refine L2.at ?_) | wp_step))
 refine juo k c hx hc ?_
 repeat (any_goals (first | assumption | wp_step))
theorem jva{Q:Option Value->Shared->Prop}(k:K.In h)(c:IsiC K C)(hx:h.get? a=some o)(hc:o.cls= .ref C)(hq:Q (some (.ref C)) ⟨h,g,d,t+1,os⟩):
  wpAny (model prog w) A (getAttr? (.ref a) "__class__") Q E ⟨h,g,d,t,os⟩:=by
 repeat (any_goals (first | assumption | with_reducible apply exc_by k c hx hc | wp_step))
theorem jv3(c:IsiC K C)(hc:o.cls= .ref C):W.KitX K (.ref a) (.ref C) (λh=>h.get? a=some o) where
 ty:=λ_ _ _ hx=>jjk hx hc
 it:=λ_ _ k _=>by
  have z0:(W.clsIn K C).isSome=true:=by obtain⟨cd,hc,_⟩:=W.any_some c.is;rw[hc];rfl
  unfold W.clsIn at z0
  split at z0
  ·rename_i c' d' cd' sl' ho
   intro A' Q' E' s' kk q
   unfold isType loadHead
   exact wpAny_bind (wpAny_loadPart (kk _ _ (k _ _ ho)) (wpAny_pure q))
  ·cases z0
 ne:=λh tp dd its n sl k htp=>by
  refine Bool.eq_false_iff.mpr λq=> ?_
  have e:C=tp:=Value.ref.inj (beq_iff_eq.mp q)
  subst e
  have z0:(W.clsIn K C).isSome=true:=by obtain⟨cd,hc,_⟩:=W.any_some c.is;rw[hc];rfl
  unfold W.clsIn at z0
  split at z0
  ·rename_i c' d' cd' sl' ho
   have z:=(k _ _ ho).symm.trans htp
   cases z
  ·cases z0
 ca:=fun{_ _ _ _ _ s} k hx q=>by
  obtain⟨h,g,d,t,os⟩:=s
  exact jva k c hx hc q
end
section
variable {X : Cx}
theorem jnw{pins:List (Addr×Obj)}{σ:St}{H:Hp}{s:Shared}{A:Around}{E:Value->Shared->Prop}{Q:Value->Shared->Prop}{a C:Addr}{oe:Obj}{u:HO}{cv:Value}{b:Bool}(I:Inv X pins σ H s)(hH:H a=some (.frz oe u))(hc:oe.cls= .ref C)(c:IsiC X.K C)
  (e:W.kitOne X.K (.ref C) cv=some b) (h:∀tk,Q (.bool b) {s with toks:=tk}):wpAny (model X.prog X.w) A (call (.builtin "isinstance") [.ref a,cv]) Q E s:=by
 obtain⟨he,_⟩:=(show jc2 X.prog X.w H s.heap a (.frz oe u) from I.hok a _ hH)
 exact W.kia_one (jv3 c hc) I.kIn he e (λz=>nomatch z) h
end
end L2
namespace L2
open PySem PySem.Spec PyProof.Rows
section
variable {X : Cx}
def jy8:RU:=λx y H Q=>match x,y with
 | .int i,.int j=>CMul i j /\ Q (.int (i*j)) H
 | .ref a,.int k=>rRep (.ref a) (.int k) H Q
 | .str z,.int n=>n.natAbs<=16777216 /\ z.length*n.toNat<=16777216 /\ Q (.str (Txt.mul z n)) H
 | _,_=>False
theorem jll:OpR X (binaryOp .Mult) jy8:=by
 intro pins s σ H x y v u Q I rx ry h
 cases x<;>cases y<;>first | exact h.elim | skip
 ·exact op_mul pins s σ H _ _ v u Q I rx ry ⟨_,_,rfl,rfl,h.1,h.2⟩
 ·obtain⟨h1,h2,q⟩:=h
  obtain⟨t,rfl⟩:=rx
  obtain⟨t',rfl⟩:=ry
  rename_i z n
  refine SB.mul ?_ λt' k=>⟨.str _,H,I.tok k,⟨t',rfl⟩,q⟩
  have hp:¬n<1->z.length*n.toNat<=16777216:=λ_=>h2
  refine⟨?_,λh1' _=> ?_,λh1' _=> ?_⟩
  ·have a1:¬n< -(2^63:Int):=by omega
   have a2:¬n>=(2^63:Int):=by omega
   rw[decide_eq_false a1,decide_eq_false a2];rfl
  ·have hpos:0<n:=by omega
   have e:((z.length*n.toNat:Nat):Int)=(z.length:Int)*n:=by
    rw[Int.natCast_mul,Int.toNat_of_nonneg (by omega)]
   have h3:(z.length:Int)*n<=2^63 - 1:=by rw[<-e];omega
   have h4:(z.length:Int)<=(2^63 - 1) / n:=(Int.le_ediv_iff_mul_le hpos).mpr h3
   omega
  ·exact short24 h2
 ·exact op_rep pins s σ H _ _ v u Q I rx ry h
theorem sl_txt:SlR X rSlS:=by
 intro pins s σ H x v vl vu lo hi sl Q I rx hs pl pu h
 obtain⟨z,rfl,hz,q⟩:=h
 obtain⟨t,rfl⟩:=rx
 refine⟨"str",_,F.slot_str_getitem.lookup,typeIs_str _ _ _,?_⟩
 obtain⟨l,rfl,rfl⟩:∃l:Option (Int×Tok),vl=partValue l /\ lo=l.map (·.1):=by
  cases pl with
  | none=>exact⟨none,rfl,rfl⟩
  | int i t=>exact⟨some (i,t),rfl,rfl⟩
 obtain⟨u,rfl,rfl⟩:∃l:Option (Int×Tok),vu=partValue l /\ hi=l.map (·.1):=by
  cases pu with
  | none=>exact⟨none,rfl,rfl⟩
  | int i t=>exact⟨some (i,t),rfl,rfl⟩
 exact wpAny_getItem_str_slice (l:=l) (u:=u) (st:=none) hs rfl (post_val_or_str ⟨Nat.le_trans (Txt.slice_le z _ _) hz,λt' k=>⟨.str _,H,I.tok k,⟨t',rfl⟩,q⟩⟩)
def uSlS(K:W.Frag):V->Option Int->Option Int->Hp->VK->Prop:=λx lo hi H Q=>uSl K x lo hi H Q \/ rSlS x lo hi H Q
theorem sl_S:SlR X (uSlS X.K):=SlR.or sl_U sl_txt
end
def Ite(K:W.Frag)(a:Addr):It:=
 ⟨λi H=>∃xs x,SqL K H a xs /\ xs[i]?=some x,λi H v H'=>∃p x,H p=none /\ (∀xs,SqL K H a xs->xs[i]?=some x) /\ v= .ref p /\ H'=upd H p (.tup [.int i,x]),λi H=>∃xs,SqL K H a xs /\ xs.length<=i⟩
theorem jq3{P:Program}{w:World}{K:W.Frag}{elts:List Expr}{x1}{tpos:Pos}(a en it:Addr)(hne:en≠it):Turn P w K (.Tuple elts x1 tpos) (Ite K a) [en,it] en (λi h=>∃old,IsEnum h en it ((i:Nat):Int) old /\ h.IsListIter it a i) where
 mem:=by simp
 obj:=λi h st b hb=>by
  obtain⟨old,h1,h2⟩:=st
  rcases List.mem_cons.mp hb with rfl | hb
  ·exact⟨_,h1,λv z=>by
    have z':Data.fields _=Data.cell v:=z
    cases z'⟩
  ·have e:b=it:=by simpa using hb
   subst e
   obtain⟨o,e,c,d⟩:=h2
   exact⟨o,e,λv z=>by rw[d] at z;cases z⟩
 keep:=λi h h' st k=>by
  obtain⟨old,h1,h2⟩:=st
  exact⟨old,k en (by simp) _ h1,h2.at λo e=>k it (by simp) o e⟩
 item:=by
  intro X hP hw hK hc i pins s σ H E I hf st hg
  subst hP hw hK
  obtain⟨xs,x,hq,hx⟩:=hg
  obtain⟨its,rv,p,hz⟩:=I.list hq
  obtain⟨u,hu,ru⟩:=rv.get hx
  obtain⟨old,he,hit⟩:=st
  have g0:=hf en (by simp)
  have f0:=hf it (by simp)
  refine wpAny_pyNext_enum_item he hit p.isList (x:=u) (by simpa using hu) hne λh₁ heo hit₁ ht₁ hz₁ hk₁=> ?_
  refine⟨.ref s.heap.objs.size,rfl,wpAny_letOwnedTupleGo_enum heo λh₂ he₂ hs₂=> ?_⟩
  replace hs₂:Heap.SameBut en h₁ h₂:=hs₂
  have fr:H s.heap.objs.size=none:=I.hok.fresh (Nat.le_refl _)
  have kp:∀b o,b≠en->b≠it->s.heap.get? b=some o->h₂.get? b=some o:=λb o n1 n2 e=>hs₂.extBut b o n1 (hk₁ b o n1 n2 e)
  have enlt:en<s.heap.objs.size:=Heap.lt_size he
  have tup:h₂.get? s.heap.objs.size=some {cls:= .type "tuple",data:= .seq #[.int i s.toks,u]}:=hs₂.extBut _ _ (Nat.ne_of_gt enlt) ht₁
  have tr:∀{b u},H b=some u->b≠en /\ b≠it:=fun{b u} e=>⟨λz=>(by rw[z,g0.1] at e;cases e),λz=>(by rw[z,f0.1] at e;cases e)⟩
  have hok:HOk X.prog X.w (upd H s.heap.objs.size (.tup [.int i,x])) h₂:=by
   intro b o e
   by_cases hb:b=s.heap.objs.size
   ·subst hb
    rw[jaz] at e;cases e
    exact⟨(show 2<=sizeLine by decide),[.int i s.toks,u],.cons ⟨_,rfl⟩ (.cons ru .nil),⟨_,tup,rfl,_,rfl⟩⟩
   ·rw[jae hb] at e
    refine(I.hok b o e).stay (λc v hcc q=> ?_) (λc q=>by rw[jae (jb1 q fr)];exact q) λc ys q=>by rw[jae (jb1 q fr)];exact q
    have t:c≠en /\ c≠it:=by
     rcases hcc with rfl | hcc
     ·exact tr e
     ·exact tr hcc
    exact kp c v t.1 t.2 q
  have un:Un (frs X.stack) [en,it] H (upd H s.heap.objs.size (.tup [.int i,x])) s.heap h₂:=by
   have nx:∀{b:Addr},b∉[en,it]->b≠en /\ b≠it:=fun{b} hb=>⟨λz=>hb (by simp[z]),λz=>hb (by simp[z])⟩
   refine⟨λb o e _ _ hb=>kp b o (nx hb).1 (nx hb).2 e,λb o e _ _ hb=>⟨o.slots,kp b o (nx hb).1 (nx hb).2 e⟩,λb o e n _=> ?_,λb o e hb=>⟨o,kp b o (nx hb).1 (nx hb).2 e⟩,λb ys e=> ?_,λb o v e=> ?_,λb ps e=>⟨#[],?_⟩⟩
   ·rw[jae (Nat.ne_of_lt (Heap.lt_size e))];exact n
   ·rw[jae (jb1 e fr)];exact e
   ·rw[jae (jb1 e fr)];exact e
   ·rw[jae (jb1 e fr)];simpa using e
  have I2:Inv X pins σ (upd H s.heap.objs.size (.tup [.int i,x])) {s with heap:=h₂,toks:=s.toks+1}:=
   I.call' (s':={s with heap:=h₂,toks:=s.toks+1}) (ch:=[en,it]) rfl un hok I.bare λb hb=>⟨(hf b hb).2.2.2.1,(hf b hb).2.1,(hf b hb).2.2.2.2.1,(hf b hb).2.2.2.2.2⟩
  refine⟨.ref s.heap.objs.size,_,I2,rfl,⟨s.heap.objs.size,x,fr,λys hy=>by rw[I.list_inj hy hq];exact hx,rfl,rfl⟩,⟨u,?_,?_⟩,λb hb=> ?_⟩
  ·have:((i+1:Nat):Int)=(i:Int)+1:=by push_cast;rfl
   rw[this];exact he₂
  ·exact hit₁.extBut hs₂.extBut (Ne.symm hne)
  ·have:b<s.heap.objs.size:=by
    rcases List.mem_cons.mp hb with rfl | hb
    ·exact enlt
    ·have e:b=it:=by simpa using hb
     subst e
     obtain⟨o,e,_⟩:=hit
     exact Heap.lt_size e
   rw[jae (Nat.ne_of_lt this)];exact(hf b hb).1
 done:=by
  intro X hP hw hK hc i pins s σ H E I hf st hg
  subst hP hw hK
  obtain⟨xs,hq,hx⟩:=hg
  obtain⟨its,rv,p,hz⟩:=I.list hq
  obtain⟨f0,f1,f2,f3,f4,f5⟩:=hf it (by simp)
  have hl:=rv.length
  obtain⟨old,he,hit⟩:=st
  exact wpAny_pyNext_enum_end (I.ok.hd hc) he hit p.isList (by simp;omega) λh' eb=>⟨rfl,I.turned (t':=s.toks) (λb o hb e=>eb b o hb e) f0 f1 f3 f4 f5⟩
 self:=λ_ _ _ _ _ st h=>by
  obtain⟨old,he,_⟩:=st
  exact wpAny_pyIter_enum he h
theorem jky:bootBuiltins "enumerate"=some (.type "enumerate"):=by decide+kernel
def ju7(K:W.Frag)(ta:TA):TI:=λσ H R=>ta σ H λvs H1=>∃a xs,vs=[.ref a] /\ SqL K H1 a xs /\ R (Ite K a) H1
theorem jy4{X:Cx}{elts:List Expr}{x1}{tpos:Pos}{e:Expr}{ta:TA}{p pos:Pos}(hg:Gl X "enumerate")(hm:X.mg "enumerate"=none)(ha:PA X [e] ta)
  (hs:starEach [e] X.env=[(false,eval e X.env)]:=by rfl):PI X (.Tuple elts x1 tpos) (.Call (.Name "enumerate" p) [e] [] pos) (ju7 X.K ta):=by
 intro pins s σ H R I h
 refine Call_ (jkb I hg hm jky (PyProof.Rows.callWith_type1 (thn (ha pos pins s σ H _ I h) λus s1 ⟨vs,H1,I1,r1,q1⟩=> ?_) hs rfl))
 obtain⟨a,xs,rfl,hq,q⟩:=q1
 cases r1 with
 | cons r rr=>
  cases rr
  cases r
  obtain⟨its,rv,pl,hz⟩:=I1.list hq
  refine call_enumerate_list pl.isList λh' he hit hsz kp=>wpAny_pyIter_enum (s:={s1 with heap:=h'}) he ?_
  have I2:Inv X pins σ H1 {s1 with heap:=h'}:=I1.kept (t':=s1.toks) kp
  refine⟨s1.heap.objs.size+1,[s1.heap.objs.size+1,s1.heap.objs.size],_,_,H1,rfl,I2,jq3 a _ _ (Nat.succ_ne_self _),⟨_,he,hit⟩,λb hb=> ?_,q⟩
  have hb':s1.heap.objs.size<=b:=by
   rcases List.mem_cons.mp hb with rfl | hb
   ·omega
   ·have e:b=s1.heap.objs.size:=by simpa using hb
    exact Nat.le_of_eq e.symm
  exact I1.fpOk hb' (I1.hok.fresh hb')
theorem jt6{X:Cx}{K:W.Frag}{tg e:Expr}{ta:TA}(k:X.K=K)(h:PI X tg e (ju7 X.K ta)):PI X tg e (ju7 K ta):=by subst k;exact h
section
variable {prog : Program} {w : World} {A : Around} {E : Value -> Shared -> Prop}
theorem jkv{it l:Addr}{items:Array Value}(hne:l≠it):∀(n i:Nat) (s:Shared) (Q:List Value->Shared->Prop),s.heap.IsListIter it l i->s.heap.IsList l items->i+n<=items.size->
  (∀h',h'.IsListIter it l (i+n)->Heap.SameBut it s.heap h'->Q ((items.toList.drop i).take n) {s with heap:=h'})->wpAny (model prog w) A (draw (.ref it) n) Q E s
 | 0,i,s,Q,hit,_,_,hQ=>by
  show wpAny _ _ (pure []) Q E s
  exact wpAny_pure (by simpa using hQ s.heap hit (Heap.SameBut.refl ..))
 | n+1,i,s,Q,hit,hl,hle,hQ=>by
  have hlt:i<items.size:=by omega
  show wpAny _ _ (pyNext (.ref it) >>= _) Q E s
  refine wpAny_bind (wpAny_pyNext_list_item hit hl (x:=items[i]) (by simp[hlt]) λh₁ hit₁ hs₁=> ?_)
  refine wpAny_bind (wpAny_holding (jkv hne n (i+1) _ _ hit₁ (hl.extBut hs₁.extBut hne) (by omega) λh₂ hit₂ hs₂=>wpAny_pure ?_))
  have hd:items.toList.drop i=items[i]::items.toList.drop (i+1):=by simp[List.drop_eq_getElem_cons,hlt]
  have:=hQ h₂ (by rw[show i+(n+1)=i+1+n by omega];exact hit₂) (hs₁.trans hs₂)
  rw[hd,List.take_succ_cons] at this
  exact this
theorem jgv{s:Shared}{l:Addr}{items:Array Value}{Q:List Value->Shared->Prop}(hh:A.handled=none)(hl:s.heap.IsList l items)
  (hQ:∀h',Heap.ExtBut s.heap.objs.size s.heap h'->Q items.toList {s with heap:=h'}):wpAny (model prog w) A (unpackItems (.ref l) items.size none) Q E s:=by
 have hlt:l≠s.heap.objs.size:=by obtain⟨o,ho,_⟩:=hl;exact Nat.ne_of_lt (Heap.lt_size ho)
 unfold unpackItems
 refine wpAny_bind ?_
 ·unfold notIterableAtAll
  refine wpAny_bind (wpAny_specialOf hl.typeIs slot_list_iter.lookup ?_)
  refine wpAny_pure ?_
  simp only[Bool.false_eq_true,if_false]
  refine wpAny_bind (wpAny_holding (wpAny_pyIter_list hl ?_))
  refine wpAny_bind (wpAny_holding (jkv hlt items.size 0 _ _ ⟨_,Heap.get?_push_size _ rfl,rfl,rfl⟩ (hl.push _) (by omega) λh₁ hit₁ hs₁=> ?_))
  have hall:List.take items.size (List.drop 0 items.toList)=items.toList:=by
   rw[List.drop_zero];exact List.take_of_length_le (by simp)
  rw[hall]
  rw[if_neg (by simp)]
  have hl₁:h₁.IsList l items:=(hl.push _).extBut hs₁.extBut hlt
  refine wpAny_bind (wpAny_holding (wpAny_pyNext_list_end hh hit₁ hl₁ (by simp) λh₂ he₂=> ?_))
  simp only[Option.isSome_none,Bool.false_eq_true,if_false]
  refine wpAny_pure (hQ h₂ λb o hb e=>he₂ b o hb (hs₁.extBut b o hb (Heap.get?_push_of_some _ e)))
end
def gSeq(K:W.Frag)(n:Nat)(t:TGs):TG:=λv σ H Q=>∃a xs,v= .ref a /\ (SqT K H a xs \/ SqL K H a xs) /\ xs.length=n /\ t xs σ H Q
theorem jk5{X:Cx}{pos:Pos}{es:List Expr}{k:Nat}{t:TGs}{n:Nat}(hc:X.calm=true)(h:PGs X es t)
  (hn:(assignEach es X.env).length=n:=by rfl) (hst:(assignEach es X.env).findIdx? (·.1)=none:=by rfl):PG X (.Tuple es k pos) (gSeq X.K n t):=by
 intro pins s σ H v u Q I r hw
 obtain⟨a,xs,e1,hq,hl,hw⟩:=hw
 subst e1
 rcases hq with hq | hq
 ·exact pg_tup (n:=n) hc h hn hst pins s σ H (.ref a) u Q I r ⟨a,xs,rfl,hq,hl,hw⟩
 ·cases r
  obtain⟨its,rv,p,hz⟩:=I.list hq
  rw[PyProof.Rows.assign_Tuple]
  refine wpAny_bind (wpAny_standAt ?_)
  unfold unpack
  have hsz:(assignEach es X.env).length=its.toArray.size:=by simp[hn,<-hl,rv.length]
  rw[hsz,hst]
  refine wpAny_bind (wpAny_holding (jgv (I.ok.hd hc) p.isList λh' hx=> ?_))
  have I1:Inv X pins σ H {s with heap:=h'}:=I.kept (t':=s.toks) λb o e=>hx b o (Nat.ne_of_lt (Heap.lt_size e)) e
  exact h pins _ σ H xs _ Q I1 (by simpa using rv) hw
theorem jhe{X:Cx}{K:W.Frag}{tg:Expr}{n:Nat}{t:TGs}(k:X.K=K)(h:PG X tg (gSeq X.K n t)):PG X tg (gSeq K n t):=by subst k;exact h
def GOks(nt:Nat)(g:TGs):Prop:=∀xs σ H Q (σ0:St),(σ.length=σ0.length /\ ∀i,nt<=i->σ[i]?=σ0[i]?)->g xs σ H Q->g xs σ H λσ' H'=>Q σ' H' /\ σ'.length=σ0.length /\ ∀i,nt<=i->σ'[i]?=σ0[i]?
theorem jjn{nt:Nat}:GOks nt gNil:=λxs σ H Q σ0 k ⟨e,q⟩=>⟨e,q,k⟩
theorem jeg{nt i:Nat}{u:TGs}(h:i<nt)(r:GOks nt u):GOks nt (jyf (jad i) u):=λxs σ H Q σ0 k ⟨v,r',e,q⟩=>
 ⟨v,r',e,r r' _ H Q σ0 ⟨by simp[k.1],λj hj=>by rw[List.getElem?_set_ne (by omega)];exact k.2 j hj⟩ q⟩
theorem jm0{nt n:Nat}{K:W.Frag}{u:TGs}(r:GOks nt u):GOk nt (gSeq K n u):=λx σ H Q ⟨a,xs,e,hq,hl,q⟩=>⟨a,xs,e,hq,hl,r xs σ H Q σ ⟨rfl,λ_ _=>rfl⟩ q⟩
theorem jav{X:Cx}{K:W.Frag}{e:Expr}{ta:TE}{f:Str}(k:X.K=K)(h:PE X e (tFld X.K ta f)):PE X e (tFld K ta f):=by subst k;exact h
theorem jch{X:Cx}{K:W.Frag}{e:Stmt}{ta tv:TE}{f:Str}(k:X.K=K)(h:PS X e (sFld X.K ta tv f)):PS X e (sFld K ta tv f):=by subst k;exact h
theorem pe_mdK{X:Cx}{P:Program}{w:World}{K:W.Frag}{mg:Str->Option Value}{base:Heap}{CX:CXT}{k:Nat}{m:Str}{E:XK}{e:Expr}{ta:TE}{t:TA}(h1:X.prog=P)(h2:X.w=w)(h3:X.K=K)(h4:X.mg=mg)(h5:X.base=base)
  (h:PE X e (jgl X.prog X.w X.K X.mg X.base CX k m E ta t)):PE X e (jgl P w K mg base CX k m E ta t):=by subst h1 h2 h3 h4 h5;exact h
theorem jjo{i:Int}{v:Value}(h:jl8 (.inl i) v=true):∃t,v= .int i t:=by
 exact Value.isInt_shape (k:=i) (v:=v) h
section
variable {X : Cx}
def DKi(H:Hp)(a:Addr)(ns:List Int):Prop:=∃kvs:List (Key×V),H a=some (.dK kvs) /\ kvs.map (·.1)=ns.map Sum.inl
theorem dki_at{vs:List (Key×Value)}{kvs:List (Key×V)}{ns:List Int}(rel:KV kvs vs)(ek:kvs.map (·.1)=ns.map Sum.inl):vs.length=ns.length /\ ∀(i:Nat) (k:Key) (x:Value),vs[i]?=some (k,x)->k=Sum.inl (ns.getD i 0):=by
 have e1:vs.map (·.1)=ns.map Sum.inl:=by rw[<-rel.keys];exact ek
 have hl:vs.length=ns.length:=by have:=congrArg List.length e1;simpa using this
 refine⟨hl,λi k x hx=> ?_⟩
 have hi:i<ns.length:=by rw[<-hl];exact(List.getElem?_eq_some_iff.mp hx).1
 have e2:(vs.map (·.1))[i]?=some k:=by rw[List.getElem?_map,hx];rfl
 rw[e1,List.getElem?_map,List.getElem?_eq_getElem hi] at e2
 simp at e2
 rw[<-e2]
 simp[List.getD,List.getElem?_eq_getElem hi]
def jno(ns ms:List Int):Prop:=ms.Perm ns /\ ms.Pairwise (·<=·)
theorem jin:∀{vs:List Value} {ns:List Int},vs.length=ns.length->(∀(j:Nat) (v:Value),vs[j]?=some v->∃t,v= .int (ns.getD j 0) t)->IntsAre vs ns
 | [],[],_,_=> .nil
 | v::vs,n::ns,hl,h=>by
  obtain⟨t,e⟩:=h 0 v rfl
  have e':v= .int n t:=e
  rw[e']
  exact .cons n t (jin (by simpa using hl) λj w hw=>h (j+1) w hw)
 | [],_::_,hl,_=>by simp at hl
 | _::_,[],hl,_=>by simp at hl
def rBits:V->List V->Hp->VK->Prop:=λx xs H Q=>∃i:Int,x= .int i /\ xs=[] /\ Q (.int (Builtin.Int.intBits i:Nat)) H
theorem jxa:MtR X "int.bit_length" rBits:=by
 intro pins s σ H x xs v us Q I rx rv h
 obtain⟨i,rfl,rfl,q⟩:=h
 obtain⟨t,rfl⟩:=rx
 cases rv
 refine call_gives PySem.F.slot_int_bit_length (typeIs_int _ _ _) PySem.F.entry_int_bit_length (PySem.F.args_int_bit_length_1 _) (AutoIntG2.int_bit_length_int_0 i t) ?_
 exact⟨.int _,H,I.tok _,⟨_,rfl⟩,q⟩
end
section
variable {X : Cx} {k : Nat} {m : Str} {p pos apos : Pos} {e o : Expr} {es : List Expr} {ta : TE} {t : TA}
def jni(P:Program)(w:World)(K:W.Frag)(mg:Str->Option Value)(base:Heap)(k:Nat)(m:Str)(ta:TE)(t:TA):(Addr->Hp->Prop)->TE:=λF=>jgl P w K mg base (CXE P w) k m (FE F) ta t
theorem jk9{pl:Sem Bool}(he:PE X.nox o ta)(hr:Room k X.A)(ha:PA X.nox (e::es) t)
  (hst:starEach (e::es) X.env=(false,eval e X.env)::starEach es X.env:=by rfl) (hpl:(backTo pos (starEach es X.env)).any (·.1)=false:=by rfl)
  (ht:eval (.Call (.Attribute o m apos) (e::es) [] pos) X.env=(do
   let ov<-eval o X.env
   standAt apos.atName
   let (f,first)<-holding [ov] (getMethod ov m pl)
   callWith pos f first (backTo pos (starEach (e::es) X.env)) (backToKw pos (keywordEach [] X.env))):=by rfl):
  PEX X (.Call (.Attribute o m apos) (e::es) [] pos) (jni X.prog X.w X.K X.mg X.base k m ta t):=by
 intro pins s σ H Q Fx I h
 refine W.methodCall_KW (pl:=pl) (nxa (he pins s σ H _ (I.wish _) h) λu s1 ⟨x,H1,I1,rx,a,C,dx,fs,sp,ex,ea,c,⟨f,fd,ps,hm,F,hb⟩,l,q⟩=> ?_) ht
 subst ex
 obtain rfl:u=Value.ref a:=rx
 refine jg4 I1.unwish ea c hm l ?_
 refine W.callWith_K (first:=[.ref a]) (h₀:=X.base) I.ok.mod.kin hm.kp (nxa (ha pos pins s1 σ H1 _ I1 q) λus s2 ⟨vs,H2,I2,r,q2⟩=>⟨I2.kIn,?_⟩) hst hpl
 exact jz3 (us:= .ref a::us) (vs:= .ref a::vs) (dvs:=[]) (ds:=[]) F hr hb .nil I2.unwish (.cons rfl r) (by simpa using q2)
theorem jhl{P:Program}{w:World}{K:W.Frag}{mg:Str->Option Value}{base:Heap}{e:Expr}(h1:X.prog=P)(h2:X.w=w)(h3:X.K=K)(h4:X.mg=mg)(h5:X.base=base)
  (h:PEX X e (jni X.prog X.w X.K X.mg X.base k m ta t)):PEX X e (jni P w K mg base k m ta t):=by subst h1 h2 h3 h4 h5;exact h
end
def Itfz(a:Addr)(o:Obj)(kvs:List (Key×V)):It:=
 ⟨λi H=>H a=some (.frz o (.dK kvs)) /\ i<kvs.length,λi H x H'=>H'=H /\ (kvs[i]?).map (·.2)=some x,λi H=>H a=some (.frz o (.dK kvs)) /\ kvs.length<=i⟩
theorem KV.get{kvs:List (Key×V)}{vs:List (Key×Value)}(r:KV kvs vs){i:Nat}{k:Key}{u:Value}(h:vs[i]?=some (k,u)):∃x,kvs[i]?=some (k,x) /\ RelV x u:=by
 induction r generalizing i with
 | nil=>simp at h
 | @cons p q ps qs hq t ih=>
  cases i with
  | zero=>
   simp only[List.getElem?_cons_zero,Option.some.injEq] at h
   subst h
   obtain⟨h1,h2⟩:=hq
   exact⟨p.2,congrArg some (Prod.ext h1 rfl),h2⟩
  | succ i=>exact ih h
theorem jei{prog:Program}{w:World}{h:Heap}{a:Addr}{o:Obj}{vs:List (Key×Value)}{ep:Nat}(e:h.get? a=some o)(hep:∀es x,o.data= .dict es x->x=ep)(dd:h.DictOf (jbk prog w) a vs):h.DictAt (jbk prog w) a vs ep:=by
 obtain⟨ep',hat⟩:=dd.dictAt
 obtain⟨o',es,h1,h2,h3,h4⟩:=id hat
 rw[e] at h1;cases h1
 rw[hep es ep' h3] at hat
 exact hat
theorem jt2{P:Program}{w:World}{K:W.Frag}{tg:Expr}(a it:Addr)(o:Obj)(kvs:List (Key×V))(ep:Nat)(hep:∀es x,o.data= .dict es x->x=ep):Turn P w K tg (Itfz a o kvs) [it] it (λi h=>h.IsValIter it a i kvs.length ep) where
 mem:=by simp
 obj:=λi h st b hb=>by
  have e:b=it:=by simpa using hb
  subst e
  obtain⟨o,e,c,d⟩:=st
  exact⟨o,e,λv z=>by rw[d] at z;cases z⟩
 keep:=λi h h' st k=>st.at λo e=>k it (by simp) o e
 item:=by
  intro X hP hw hK hc i pins s σ H E I hf st hg
  subst hP hw hK
  obtain⟨hq,hi⟩:=hg
  obtain⟨f0,f1,f2,f3,f4,f5⟩:=hf it (by simp)
  obtain⟨eo,z,hd,vs,rel,dd⟩:=(show jc2 X.prog X.w H s.heap a (.frz o (.dK kvs)) from I.hok a _ hq)
  have hl:=rel.length
  have hat:=jei eo hep dd
  have hlt:i<vs.length:=by omega
  obtain⟨⟨k,u⟩,hx⟩:∃p,vs[i]?=some p:=⟨vs[i],by simp[hlt]⟩
  obtain⟨x,hkx,rx⟩:=rel.get hx
  rw[hl] at st
  refine wpAny_pyNext_values_item st hat hx λh' st' sb=> ?_
  have I1:Inv X pins σ H {s with heap:=h'}:=I.turned (t':=s.toks) (λb o hb e=>(sb.2 b hb).trans e) f0 f1 f3 f4 f5
  obtain⟨o',e,c,d⟩:=id st'
  rw[<-hl] at st'
  exact⟨u,rfl,jlz (s:={s with heap:=h'}) e c d (by decide) ⟨x,H,I1,rx,⟨rfl,by rw[hkx];rfl⟩,st',λb hb=>(hf b hb).1⟩⟩
 done:=by
  intro X hP hw hK hc i pins s σ H E I hf st hg
  subst hP hw hK
  obtain⟨hq,hi⟩:=hg
  obtain⟨f0,f1,f2,f3,f4,f5⟩:=hf it (by simp)
  obtain⟨eo,z,hd,vs,rel,dd⟩:=(show jc2 X.prog X.w H s.heap a (.frz o (.dK kvs)) from I.hok a _ hq)
  have hl:=rel.length
  have hat:=jei eo hep dd
  rw[hl] at st
  exact wpAny_pyNext_values_end (I.ok.hd hc) st hat (List.getElem?_eq_none (by omega)) λh' eb=>⟨rfl,I.turned (t':=s.toks) (λb o hb e=>eb b o hb e) f0 f1 f3 f4 f5⟩
 self:=λ_ _ _ _ _ st h=>wpAny_pyIter_valiter st h
def NF(X:Cx)(a:Addr):Prop:=∀o u,X.H₀ a≠some (.frz o u)
theorem Inv.recast{X:Cx}{pins:List (Addr×Obj)}{σ:St}{H:Hp}{s:Shared}{a:Addr}{u v:HO}(I:Inv X pins σ H s)(e:H a=some u)(n:NF X a)(h1:∀xs,u≠ .tup xs)(h2:∀ps,u≠ .tbl ps)(h3:∀y,u≠ .own y)(new:jc2 X.prog X.w (upd H a v) s.heap a v):Inv X pins σ (upd H a v) s:=by
 have ne:∀b,H b=none->b≠a:=λb hb z=>by rw[z,e] at hb;cases hb
 refine⟨I.ok,I.os,I.bare,⟨I.base.keep,I.base.slot,λb ob q m x=> ?_,I.base.there,λb xs q=> ?_,λb ob w q=> ?_,λb ps q=> ?_⟩,I.loc,I.cell,?_,λx c q=> ?_,λp hp=> ?_,λb ob q=> ?_,I.len⟩
 ·have:=I.base.free b ob q m x
  rw[jae (ne b this)];exact this
 ·have:=I.base.tups b xs q
  rw[jae (λz=>by rw[z,e] at this;exact h1 xs (Option.some.inj this))];exact this
 ·have nb:b≠a:=λz=>by subst z;exact n ob w q
  rw[jae nb];exact I.base.frzs b ob w q
 ·obtain⟨more,this⟩:=I.base.tbls b ps q
  exact⟨more,by rw[jae (λz=>by rw[z,e] at this;exact h2 _ (Option.some.inj this))];exact this⟩
 ·rw[jae (ne _ I.free)];exact I.free
 ·rw[jae (ne _ (I.freeC x c q))];exact I.freeC x c q
 ·obtain⟨p1,p2,p3⟩:=I.pin p hp
  exact⟨p1,by rw[jae (ne _ p2)];exact p2,p3⟩
 ·by_cases hb:b=a
  ·subst hb;rw[jaz] at q;cases q;exact new
  ·rw[jae hb] at q
   exact(I.hok b ob q).stay (λ_ _ _ r=>r) (λc r=>by rw[jae (λz=>by rw[z,e] at r;exact h3 b (Option.some.inj r))];exact r) λc xs r=>by
    rw[jae (λz=>by rw[z,e] at r;exact h1 xs (Option.some.inj r))];exact r
theorem Inv.nf{X:Cx}{pins:List (Addr×Obj)}{σ:St}{H:Hp}{s:Shared}{a:Addr}{u:HO}(I:Inv X pins σ H s)(e:H a=some u)(h:∀o w,u≠ .frz o w):NF X a:=λo w q=>by
 have:=I.base.frzs a o w q
 rw[e] at this
 exact h o w (Option.some.inj this)
theorem Inv.thaw{X:Cx}{pins:List (Addr×Obj)}{σ:St}{H:Hp}{s:Shared}{a:Addr}{o:Obj}{kvs:List (Key×V)}(I:Inv X pins σ H s)(n:NF X a)(e:H a=some (.frz o (.dK kvs))):Inv X pins σ (upd H a (.dK kvs)) s:=by
 obtain⟨_,z,hd,vs,rel,dd⟩:=(show jc2 X.prog X.w H s.heap a (.frz o (.dK kvs)) from I.hok a _ e)
 exact I.recast e n (λ_ z=>nomatch z) (λ_ z=>nomatch z) (λ_ z=>nomatch z) ⟨z,hd,vs,rel,dd⟩
def iVals(N:Addr->Prop)(te:TE):TI:=λσ H R=>te σ H λx H1=>∃a kvs,x= .ref a /\ H1 a=some (.dK kvs) /\ ∀o,o.cls= .type "dict"->N a->R (Itfz a o kvs) (upd H1 a (.frz o (.dK kvs)))
theorem jyl{X:Cx}{tg e:Expr}{te:TE}{apos cpos:Pos}(he:PE X e te)(hbase:attributeBase e "values" X.env (eval e X.env)=eval e X.env:=by rfl)(hline:(apos.endLine==cpos.line)=true:=by rfl):
  PI X tg (.Call (.Attribute e "values" apos) [] [] cpos) (iVals (NF X) te):=by
 intro pins s σ H R I h
 refine wpAny_Call_method0_late hbase hline (thn (he pins s σ H _ I h) λv s1 ⟨x,H1,I1,r1,q1⟩=> ?_)
 obtain⟨a,kvs,rfl,ea,q⟩:=q1
 cases r1
 obtain⟨z,hd,vs,rel,dd⟩:=jor I1.hok ea
 obtain⟨h1,h2⟩:=jo7 I1 (show RelV (.ref a) (.ref a) from rfl) (T:="dict") (.inr (.inr (.inl ⟨rfl,.inl ⟨_,ea⟩⟩)))
 refine⟨"dict","dict.values",PySem.F.plainAttrs_dict,PySem.F.slot_dict_values,PySem.F.type_dict_values,h1,h2,Calls.callWith_builtin rfl (PySem.evalArgs_none ?_)⟩
 refine call_meetsIn PySem.F.slot_dict_values dd.typeIs PySem.F.entry_dict_values (PySem.F.args_dict_values_1 _) (meets_dict_values (jbk X.prog X.w) a hd) ⟨⟨vs,dd⟩,?_⟩
 obtain⟨ep,hat⟩:=dd.dictAt
 obtain⟨o,es,eo,ec,edat,_⟩:=id hat
 have kp:∀b ob,s1.heap.get? b=some ob->((s1.heap.push {cls:= .type "dict_values",data:= .fields #[.ref a]}).push {cls:= .type "dict_valueiterator",data:= .fields #[.ref a,.int 0 0,.int vs.length 0,.int ep 0]}).get? b=some ob:=λb ob e=>Heap.get?_push_of_some _ (Heap.get?_push_of_some _ e)
 have I2:Inv X pins σ H1 {s1 with heap:=(s1.heap.push {cls:= .type "dict_values",data:= .fields #[.ref a]}).push {cls:= .type "dict_valueiterator",data:= .fields #[.ref a,.int 0 0,.int vs.length 0,.int ep 0]}}:=I1.kept (t':=s1.toks) kp
 have nf:NF X a:=I1.nf ea λ_ _ z=>nomatch z
 have hok2:=I2.hok a _ ea
 have I3:=I2.recast (v:= .frz o (.dK kvs)) ea nf (λ_ z=>nomatch z) (λ_ z=>nomatch z) (λ_ z=>nomatch z) ⟨kp a o eo,hok2.1,hok2.2.1,hok2.2.2⟩
 show wpAny (model X.prog X.w) X.A (pyIter (.ref s1.heap.objs.size)) (PIE X pins σ tg R) X.xe {s1 with heap:=s1.heap.push {cls:= .type "dict_values",data:= .fields #[.ref a]}}
 refine wpAny_pyIter_values (knd:=jbk X.prog X.w) (kvs:=vs) (ep:=ep) ⟨_,Heap.get?_push_size _ rfl,rfl,rfl⟩ (hat.push _) ?_
 have hl:=rel.length
 have gz:s1.heap.objs.size<=(s1.heap.push {cls:= .type "dict_values",data:= .fields #[.ref a]}).objs.size:=by rw[Heap.size_push];omega
 have na:a≠(s1.heap.push {cls:= .type "dict_values",data:= .fields #[.ref a]}).objs.size:=Nat.ne_of_lt (Nat.lt_of_lt_of_le (Heap.lt_size eo) gz)
 refine⟨_,[(s1.heap.push {cls:= .type "dict_values",data:= .fields #[.ref a]}).objs.size],_,_,_,rfl,I3,jt2 a _ o kvs ep (λes' x e=> ?_),?_,λb hb=> ?_,q o ec.1 nf⟩
 ·rw[edat] at e;cases e;rfl
 ·rw[hl];exact⟨_,Heap.get?_push_size _ rfl,rfl,rfl⟩
 ·have e:b=(s1.heap.push {cls:= .type "dict_values",data:= .fields #[.ref a]}).objs.size:=by simpa using hb
  subst e
  refine I1.fpOk gz ?_
  rw[jae (Ne.symm na)]
  exact I1.hok.fresh gz
def ju5(N:Addr->Prop)(D:Ends):Ends:=
 ⟨λσ H=>∃a o kvs,N a /\ H a=some (.frz o (.dK kvs)) /\ D.nx σ (upd H a (.dK kvs)),λv H=>∃a o kvs,N a /\ H a=some (.frz o (.dK kvs)) /\ D.rt v (upd H a (.dK kvs)),λ_ _=>False,λ_ _=>False⟩
def tForV(te:TE)(g:TG)(tb:TS):TS:=λD σ H=>∀N:Addr->Prop,tFor (iVals N te) g tb (ju5 N D) σ H
theorem jzc{X:Cx}{tg e:Expr}{te:TE}{apos cpos:Pos}{body:List Stmt}{g:TG}{tb:TS}{pos:Pos}(hp:PassesOwn (model X.prog X.w) X.A X.env X.xe)(hc:X.calm=true)(he:PE X e te)(hg:PG X tg g)(hb:PSs X body tb)
  (hs:∀x,foldedSetIterable (.Call (.Attribute e "values" apos) [] [] cpos) X.env x=pure x:=by intro _;rfl) (hbase:attributeBase e "values" X.env (eval e X.env)=eval e X.env:=by rfl) (hline:(apos.endLine==cpos.line)=true:=by rfl):
  PS X (.For tg (.Call (.Attribute e "values" apos) [] [] cpos) body [] pos) (tForV te g tb):=by
 intro pins s σ H D I h
 refine thn (jeq hp hc (jyl he hbase hline) hg hb hs pins s σ H (ju5 (NF X) D) I (h (NF X))) λf s1 q=> ?_
 cases f with
 | next=>obtain⟨σ1,H1,I1,a,o,kvs,n,e,q⟩:=q;exact⟨σ1,_,I1.thaw n e,q⟩
 | ret u=>obtain⟨v,σ1,H1,I1,r,a,o,kvs,n,e,q⟩:=q;exact⟨v,σ1,_,I1.thaw n e,r,q⟩
 | brk=>obtain⟨_,_,_,q⟩:=q;exact q.elim
 | cont=>obtain⟨_,_,_,q⟩:=q;exact q.elim
theorem jvq{k:Key}{v:Value}(h:jl8 k v=true):RelV (kV k) v:=by
 rcases jbz h with⟨i,t,rfl,rfl⟩ | ⟨x,t,rfl,rfl⟩
 ·exact⟨t,rfl⟩
 ·exact⟨t,rfl⟩
def Itit(a:Addr)(o:Obj)(kvs:List (Key×V)):It:=
 ⟨λi H=>H a=some (.frz o (.dK kvs)) /\ i<kvs.length,λi H x H'=>∃p k v,H p=none /\ kvs[i]?=some (k,v) /\ x= .ref p /\ H'=upd H p (.tup [kV k,v]),λi H=>H a=some (.frz o (.dK kvs)) /\ kvs.length<=i⟩
theorem joh{P:Program}{w:World}{K:W.Frag}{elts:List Expr}{x1}{tpos:Pos}(a it:Addr)(o:Obj)(kvs:List (Key×V))(ep:Nat)(hep:∀es x,o.data= .dict es x->x=ep):Turn P w K (.Tuple elts x1 tpos) (Itit a o kvs) [it] it (λi h=>∃ok ov,IsItemIter h it a i kvs.length ep ok ov) where
 mem:=by simp
 obj:=λi h st b hb=>by
  have e:b=it:=by simpa using hb
  subst e
  obtain⟨ok,ov,e⟩:=st
  exact⟨_,e,λv z=>by cases z⟩
 keep:=λi h h' st k=>by
  obtain⟨ok,ov,e⟩:=st
  exact⟨ok,ov,k it (by simp) _ e⟩
 item:=by
  intro X hP hw hK hc i pins s σ H E I hf st hg
  subst hP hw hK
  obtain⟨hq,hi⟩:=hg
  have f0:=hf it (by simp)
  obtain⟨eo,z,hd,vs,rel,dd⟩:=(show jc2 X.prog X.w H s.heap a (.frz o (.dK kvs)) from I.hok a _ hq)
  have hl:=rel.length
  have hat:=jei eo hep dd
  have hlt:i<vs.length:=by omega
  obtain⟨⟨k,u⟩,hx⟩:∃p,vs[i]?=some p:=⟨vs[i],by simp[hlt]⟩
  obtain⟨x,hkx,rx⟩:=rel.get hx
  obtain⟨ok,ov,hit⟩:=st
  rw[hl] at hit
  refine wpAny_pyNext_items_item hit hat hx λkey h₁ hkey heo ht₁ hz₁ hk₁=> ?_
  refine⟨.ref s.heap.objs.size,rfl,wpAny_letOwnedTupleGo_items heo λh₂ he₂ hs₂=> ?_⟩
  replace hs₂:Heap.SameBut it h₁ h₂:=hs₂
  have fr:H s.heap.objs.size=none:=I.hok.fresh (Nat.le_refl _)
  have kp:∀b o,b≠it->s.heap.get? b=some o->h₂.get? b=some o:=λb o n1 e=>hs₂.extBut b o n1 (hk₁ b o n1 e)
  have itlt:it<s.heap.objs.size:=Heap.lt_size hit
  have tup:h₂.get? s.heap.objs.size=some {cls:= .type "tuple",data:= .seq #[key,u]}:=hs₂.extBut _ _ (Nat.ne_of_gt itlt) ht₁
  have tr:∀{b u},H b=some u->b≠it:=fun{b u} e z=>by rw[z,f0.1] at e;cases e
  have rk:RelV (kV k) key:=jvq hkey
  have hok:HOk X.prog X.w (upd H s.heap.objs.size (.tup [kV k,x])) h₂:=by
   intro b o e
   by_cases hb:b=s.heap.objs.size
   ·subst hb
    rw[jaz] at e;cases e
    exact⟨(show 2<=sizeLine by decide),[key,u],.cons rk (.cons rx .nil),⟨_,tup,rfl,_,rfl⟩⟩
   ·rw[jae hb] at e
    refine(I.hok b o e).stay (λc v hcc q=> ?_) (λc q=>by rw[jae (jb1 q fr)];exact q) λc ys q=>by rw[jae (jb1 q fr)];exact q
    have t:c≠it:=by
     rcases hcc with rfl | hcc
     ·exact tr e
     ·exact tr hcc
    exact kp c v t q
  have un:Un (frs X.stack) [it] H (upd H s.heap.objs.size (.tup [kV k,x])) s.heap h₂:=by
   have nx:∀{b:Addr},b∉[it]->b≠it:=fun{b} hb z=>hb (by simp[z])
   refine⟨λb o e _ _ hb=>kp b o (nx hb) e,λb o e _ _ hb=>⟨o.slots,kp b o (nx hb) e⟩,λb o e n _=> ?_,λb o e hb=>⟨o,kp b o (nx hb) e⟩,λb ys e=> ?_,λb o v e=> ?_,λb ps e=>⟨#[],?_⟩⟩
   ·rw[jae (Nat.ne_of_lt (Heap.lt_size e))];exact n
   ·rw[jae (jb1 e fr)];exact e
   ·rw[jae (jb1 e fr)];exact e
   ·rw[jae (jb1 e fr)];simpa using e
  have I2:Inv X pins σ (upd H s.heap.objs.size (.tup [kV k,x])) {s with heap:=h₂}:=
   I.call' (s':={s with heap:=h₂}) (ch:=[it]) rfl un hok I.bare λb hb=>⟨(hf b hb).2.2.2.1,(hf b hb).2.1,(hf b hb).2.2.2.2.1,(hf b hb).2.2.2.2.2⟩
  refine⟨.ref s.heap.objs.size,_,I2,rfl,⟨s.heap.objs.size,k,x,fr,hkx,rfl,rfl⟩,⟨key,u,by rw[hl];exact he₂⟩,λb hb=> ?_⟩
  have e:b=it:=by simpa using hb
  subst e
  rw[jae (Nat.ne_of_lt itlt)];exact f0.1
 done:=by
  intro X hP hw hK hc i pins s σ H E I hf st hg
  subst hP hw hK
  obtain⟨hq,hi⟩:=hg
  obtain⟨f0,f1,f2,f3,f4,f5⟩:=hf it (by simp)
  obtain⟨eo,z,hd,vs,rel,dd⟩:=(show jc2 X.prog X.w H s.heap a (.frz o (.dK kvs)) from I.hok a _ hq)
  have hl:=rel.length
  have hat:=jei eo hep dd
  obtain⟨ok,ov,hit⟩:=st
  rw[hl] at hit
  exact wpAny_pyNext_items_end (I.ok.hd hc) hit hat (List.getElem?_eq_none (by omega)) λh' eb=>⟨rfl,I.turned (t':=s.toks) (λb o hb e=>eb b o hb e) f0 f1 f3 f4 f5⟩
 self:=λ_ _ s _ _ st h=>by
  obtain⟨ok,ov,hit⟩:=st
  exact W.kcp_self hit h
def jqg(N:Addr->Prop)(te:TE):TI:=λσ H R=>te σ H λx H1=>∃a kvs,x= .ref a /\ H1 a=some (.dK kvs) /\ ∀o,o.cls= .type "dict"->N a->R (Itit a o kvs) (upd H1 a (.frz o (.dK kvs)))
theorem jty{X:Cx}{elts:List Expr}{x1}{tpos:Pos}{e:Expr}{te:TE}{apos cpos:Pos}(he:PE X e te)(hbase:attributeBase e "items" X.env (eval e X.env)=eval e X.env:=by rfl)(hline:(apos.endLine==cpos.line)=true:=by rfl):
  PI X (.Tuple elts x1 tpos) (.Call (.Attribute e "items" apos) [] [] cpos) (jqg (NF X) te):=by
 intro pins s σ H R I h
 refine wpAny_Call_method0_late hbase hline (thn (he pins s σ H _ I h) λv s1 ⟨x,H1,I1,r1,q1⟩=> ?_)
 obtain⟨a,kvs,rfl,ea,q⟩:=q1
 cases r1
 obtain⟨z,hd,vs,rel,dd⟩:=jor I1.hok ea
 obtain⟨h1,h2⟩:=jo7 I1 (show RelV (.ref a) (.ref a) from rfl) (T:="dict") (.inr (.inr (.inl ⟨rfl,.inl ⟨_,ea⟩⟩)))
 refine⟨"dict","dict.items",PySem.F.plainAttrs_dict,PySem.F.slot_dict_items,PySem.F.type_dict_items,h1,h2,Calls.callWith_builtin rfl (PySem.evalArgs_none ?_)⟩
 refine call_meetsIn PySem.F.slot_dict_items dd.typeIs PySem.F.entry_dict_items (PySem.F.args_dict_items_1 _) (meets_dict_items (jbk X.prog X.w) a hd) ⟨⟨vs,dd⟩,?_⟩
 obtain⟨ep,hat⟩:=dd.dictAt
 obtain⟨o,es,eo,ec,edat,_⟩:=id hat
 have kp:∀b ob,s1.heap.get? b=some ob->((s1.heap.push {cls:= .type "dict_items",data:= .fields #[.ref a]}).push {cls:= .type "dict_itemiterator",data:= .fields #[.none,.bool false,.ref a,.int 0 0,.int vs.length 0,.int ep 0,.none,.none]}).get? b=some ob:=λb ob e=>Heap.get?_push_of_some _ (Heap.get?_push_of_some _ e)
 have I2:Inv X pins σ H1 {s1 with heap:=(s1.heap.push {cls:= .type "dict_items",data:= .fields #[.ref a]}).push {cls:= .type "dict_itemiterator",data:= .fields #[.none,.bool false,.ref a,.int 0 0,.int vs.length 0,.int ep 0,.none,.none]}}:=I1.kept (t':=s1.toks) kp
 have nf:NF X a:=I1.nf ea λ_ _ z=>nomatch z
 have hok2:=I2.hok a _ ea
 have I3:=I2.recast (v:= .frz o (.dK kvs)) ea nf (λ_ z=>nomatch z) (λ_ z=>nomatch z) (λ_ z=>nomatch z) ⟨kp a o eo,hok2.1,hok2.2.1,hok2.2.2⟩
 show wpAny (model X.prog X.w) X.A (pyIter (.ref s1.heap.objs.size)) (PIE X pins σ (.Tuple elts x1 tpos) R) X.xe {s1 with heap:=s1.heap.push {cls:= .type "dict_items",data:= .fields #[.ref a]}}
 refine wpAny_pyIter_items (knd:=jbk X.prog X.w) (kvs:=vs) (ep:=ep) ⟨_,Heap.get?_push_size _ rfl,rfl,rfl⟩ (hat.push _) ?_
 have hl:=rel.length
 have gz:s1.heap.objs.size<=(s1.heap.push {cls:= .type "dict_items",data:= .fields #[.ref a]}).objs.size:=by rw[Heap.size_push];omega
 have na:a≠(s1.heap.push {cls:= .type "dict_items",data:= .fields #[.ref a]}).objs.size:=Nat.ne_of_lt (Nat.lt_of_lt_of_le (Heap.lt_size eo) gz)
 refine⟨_,[(s1.heap.push {cls:= .type "dict_items",data:= .fields #[.ref a]}).objs.size],_,_,_,rfl,I3,joh a _ o kvs ep (λes' x e=> ?_),?_,λb hb=> ?_,q o ec.1 nf⟩
 ·rw[edat] at e;cases e;rfl
 ·rw[hl];exact⟨.none,.none,Heap.get?_push_size _ rfl⟩
 ·have e:b=(s1.heap.push {cls:= .type "dict_items",data:= .fields #[.ref a]}).objs.size:=by simpa using hb
  subst e
  refine I1.fpOk gz ?_
  rw[jae (Ne.symm na)]
  exact I1.hok.fresh gz
def thawQ(N:Addr->Prop)(Q:VK):VK:=λv H=>∃a o kvs,N a /\ H a=some (.frz o (.dK kvs)) /\ Q v (upd H a (.dK kvs))
def jw9(nt:Nat)(idx:List Nat)(to:TE)(g:TG)(tc:TT)(te:TE):TE:=λσ H Q=>∀N:Addr->Prop,jr9 nt idx (jqg N to) g tc te σ H (thawQ N Q)
theorem jyy{X:Cx}{e:Expr}{t:(Addr->Prop)->TE}(h:PE X e (t (NF X))):PE X e (λσ H Q=>∀N,t N σ H (thawQ N Q)):=by
 intro pins s σ H Q I q
 refine thn (h pins s σ H _ I (q (NF X))) λv s1 ⟨x,H1,I1,r1,a,o,kvs,n,e,q1⟩=> ?_
 exact⟨x,_,I1.thaw n e,r1,q1⟩
section
variable {X : Cx} {elt target iter : Expr} {ifs : List Expr} {scope : Scope} {pos : Pos} {cl : List (Str × Addr)} {nt : Nat} {tgs cap : List Str} {idx : List Nat} {wi : TI} {g : TG} {tc : TT} {te : TE}
theorem pe_lcI{elts:List Expr}{xx}{tpos apos cpos:Pos}{o:Expr}{to:TE}(O:CompOk X scope cl tgs cap idx)(hc:X.calm=true)(ho:PE X o to)(hgo:GOk tgs.length g)
  (hg:∀C s₂ H₂ fp,PG (cxC X (tgs++cap) scope cl C s₂ H₂ fp) (.Tuple elts xx tpos) g) (ht:∀C s₂ H₂ fp,PF (cxC X (tgs++cap) scope cl C s₂ H₂ fp) ifs tc) (he:∀C s₂ H₂ fp,PE (cxC X (tgs++cap) scope cl C s₂ H₂ fp) elt te)
  (hs:∀x,foldedSetIterable (.Call (.Attribute o "items" apos) [] [] cpos) X.env x=pure x:=by intro _;rfl) (hbase:attributeBase o "items" X.env (eval o X.env)=eval o X.env:=by rfl) (hline:(apos.endLine==cpos.line)=true:=by rfl):
  PE X (.ListComp elt [⟨.Tuple elts xx tpos,.Call (.Attribute o "items" apos) [] [] cpos,ifs,0⟩] scope pos) (jw9 tgs.length idx to g tc te):=
 jyy (t:=λN=>jr9 tgs.length idx (jqg N to) g tc te) (ji7 O hc (jty ho hbase hline) hgo hg ht he hs)
end
def Itkz(a:Addr)(o:Obj)(kvs:List (Key×V)):It:=
 ⟨λi H=>H a=some (.frz o (.dK kvs)) /\ i<kvs.length,λi H x H'=>H'=H /\ (kvs[i]?).map (λp=>kV p.1)=some x,λi H=>H a=some (.frz o (.dK kvs)) /\ kvs.length<=i⟩
theorem js5{P:Program}{w:World}{K:W.Frag}{tg:Expr}(a it:Addr)(o:Obj)(kvs:List (Key×V))(ep:Nat)(hep:∀es x,o.data= .dict es x->x=ep):Turn P w K tg (Itkz a o kvs) [it] it (λi h=>h.IsKeyIter it a i kvs.length ep) where
 mem:=by simp
 obj:=λi h st b hb=>by
  have e:b=it:=by simpa using hb
  subst e
  obtain⟨o,e,c,d⟩:=st
  exact⟨o,e,λv z=>by rw[d] at z;cases z⟩
 keep:=λi h h' st k=>st.at λo e=>k it (by simp) o e
 item:=by
  intro X hP hw hK hc i pins s σ H E I hf st hg
  subst hP hw hK
  obtain⟨hq,hi⟩:=hg
  obtain⟨f0,f1,f2,f3,f4,f5⟩:=hf it (by simp)
  obtain⟨eo,z,hd,vs,rel,dd⟩:=(show jc2 X.prog X.w H s.heap a (.frz o (.dK kvs)) from I.hok a _ hq)
  have hl:=rel.length
  have hat:=jei eo hep dd
  have hlt:i<vs.length:=by omega
  obtain⟨⟨k,u⟩,hx⟩:∃p,vs[i]?=some p:=⟨vs[i],by simp[hlt]⟩
  obtain⟨x,hkx,rx⟩:=rel.get hx
  rw[hl] at st
  refine wpAny_pyNext_dict_item st hat hx λkey h' hkey st' sb=> ?_
  have I1:Inv X pins σ H {s with heap:=h'}:=I.turned (t':=s.toks) (λb o hb e=>(sb.2 b hb).trans e) f0 f1 f3 f4 f5
  obtain⟨o',e,c,d⟩:=id st'
  rw[<-hl] at st'
  exact⟨key,rfl,jlz (s:={s with heap:=h'}) e c d (by decide) ⟨kV k,H,I1,jvq hkey,⟨rfl,by rw[hkx];rfl⟩,st',λb hb=>(hf b hb).1⟩⟩
 done:=by
  intro X hP hw hK hc i pins s σ H E I hf st hg
  subst hP hw hK
  obtain⟨hq,hi⟩:=hg
  obtain⟨f0,f1,f2,f3,f4,f5⟩:=hf it (by simp)
  obtain⟨eo,z,hd,vs,rel,dd⟩:=(show jc2 X.prog X.w H s.heap a (.frz o (.dK kvs)) from I.hok a _ hq)
  have hl:=rel.length
  have hat:=jei eo hep dd
  rw[hl] at st
  exact wpAny_pyNext_dict_end (I.ok.hd hc) st hat (List.getElem?_eq_none (by omega)) λh' eb=>⟨rfl,I.turned (t':=s.toks) (λb o hb e=>eb b o hb e) f0 f1 f3 f4 f5⟩
 self:=λ_ _ _ _ _ st h=>wpAny_pyIter_keyiter st h
def iKeys(N:Addr->Prop)(te:TE):TI:=λσ H R=>te σ H λx H1=>∃a kvs,x= .ref a /\ H1 a=some (.dK kvs) /\ ∀o,o.cls= .type "dict"->N a->R (Itkz a o kvs) (upd H1 a (.frz o (.dK kvs)))
theorem jy3{X:Cx}{tg e:Expr}{te:TE}(he:PE X e te):PI X tg e (iKeys (NF X) te):=by
 intro pins s σ H R I h
 refine thn (he pins s σ H _ I h) λv s1 ⟨x,H1,I1,r1,q1⟩=> ?_
 obtain⟨a,kvs,rfl,ea,q⟩:=q1
 cases r1
 obtain⟨z,hd,vs,rel,dd⟩:=jor I1.hok ea
 obtain⟨ep,hat⟩:=dd.dictAt
 obtain⟨o,es,eo,ec,edat,_⟩:=id hat
 have kp:∀b ob,s1.heap.get? b=some ob->(s1.heap.push {cls:= .type "dict_keyiterator",data:= .fields #[.ref a,.int 0 0,.int vs.length 0,.int ep 0]}).get? b=some ob:=λb ob e=>Heap.get?_push_of_some _ e
 have I2:Inv X pins σ H1 {s1 with heap:=s1.heap.push {cls:= .type "dict_keyiterator",data:= .fields #[.ref a,.int 0 0,.int vs.length 0,.int ep 0]}}:=I1.kept (t':=s1.toks) kp
 have nf:NF X a:=I1.nf ea λ_ _ z=>nomatch z
 have hok2:=I2.hok a _ ea
 have I3:=I2.recast (v:= .frz o (.dK kvs)) ea nf (λ_ z=>nomatch z) (λ_ z=>nomatch z) (λ_ z=>nomatch z) ⟨kp a o eo,hok2.1,hok2.2.1,hok2.2.2⟩
 refine wpAny_pyIter_dict (knd:=jbk X.prog X.w) (kvs:=vs) (ep:=ep) hd hat ?_
 have hl:=rel.length
 have na:a≠s1.heap.objs.size:=Nat.ne_of_lt (Heap.lt_size eo)
 refine⟨_,[s1.heap.objs.size],_,_,_,rfl,I3,js5 a _ o kvs ep (λes' x e=> ?_),?_,λb hb=> ?_,q o ec.1 nf⟩
 ·rw[edat] at e;cases e;rfl
 ·rw[hl];exact⟨_,Heap.get?_push_size _ rfl,rfl,rfl⟩
 ·have e:b=s1.heap.objs.size:=by simpa using hb
  subst e
  refine I1.fpOk (Nat.le_refl _) ?_
  rw[jae (Ne.symm na)]
  exact I1.hok.fresh (Nat.le_refl _)
def tForK(te:TE)(g:TG)(tb:TS):TS:=λD σ H=>∀N:Addr->Prop,tFor (iKeys N te) g tb (ju5 N D) σ H
theorem jz7{X:Cx}{tg e:Expr}{te:TE}{body:List Stmt}{g:TG}{tb:TS}{pos:Pos}(hp:PassesOwn (model X.prog X.w) X.A X.env X.xe)(hc:X.calm=true)(he:PE X e te)(hg:PG X tg g)(hb:PSs X body tb)
  (hs:∀x,foldedSetIterable e X.env x=pure x:=by intro _;rfl):
  PS X (.For tg e body [] pos) (tForK te g tb):=by
 intro pins s σ H D I h
 refine thn (jeq hp hc (jy3 he) hg hb hs pins s σ H (ju5 (NF X) D) I (h (NF X))) λf s1 q=> ?_
 cases f with
 | next=>obtain⟨σ1,H1,I1,a,o,kvs,n,e,q⟩:=q;exact⟨σ1,_,I1.thaw n e,q⟩
 | ret u=>obtain⟨v,σ1,H1,I1,r,a,o,kvs,n,e,q⟩:=q;exact⟨v,σ1,_,I1.thaw n e,r,q⟩
 | brk=>obtain⟨_,_,_,q⟩:=q;exact q.elim
 | cont=>obtain⟨_,_,_,q⟩:=q;exact q.elim
section
variable {X : Cx}
def jrg:List V->Hp->VK->Prop:=λxs H Q=>∃(a:Addr) (ns:List Int),xs=[.ref a] /\ DKi H a ns /\ ns.length<64 /\ ∀l ms,jno ns ms->H l=none->Q (.ref l) (upd H l (.lst (ms.map V.int)))
theorem jly(hc:X.calm=true):jdi X (.builtin "sorted") jrg:=by
 intro pins s σ H xs us Q I r h
 obtain⟨a,ns,rfl,⟨kvs,e,ek⟩,hn,q⟩:=h
 obtain⟨u,rfl,rx⟩:=jiz r
 cases rx
 obtain⟨z,hd,vs,rel,dd⟩:=jor I.hok e
 obtain⟨ep,hat⟩:=dd.dictAt
 obtain⟨hl,hk⟩:=dki_at rel ek
 refine Calls.call_function_entry kind_sorted plain_sorted entry_sorted (args_sorted1 _) ?_
 unfold Builtin.«sorted»
 refine wpAny_bind (m:=checkCount "sorted" 1 1 _) (wpAny_pure ?_)
 have hz:vs.length<=sizeLine:=by rw[<-rel.length];exact z
 refine wpAny_bind (W.kdu_collect (A:=X.A.in1) (W.kdl_dict (knd:=jbk X.prog X.w) (kvs:=vs) (ep:=ep) hd) (I.ok.hd hc) hat hz λh' tk acc kp hacc=> ?_)
 have hal:acc.toList.length=vs.length:=by rw[Array.length_toList];exact hacc.1
 refine wpAny_bind (wpAny_newList ?_ (by rw[hal];exact hz))
 have hI:IntsAre acc.toList ns:=jin (by rw[hal,hl]) λj v hv=>by
  obtain⟨k,x,hx,hkk⟩:=hacc.2 j v (by rw[<-Array.getElem?_toList];exact hv)
  rw[hk j k x hx] at hkk
  exact jjo hkk
 have hoL:(h'.push (seqObj "list" acc.toList.toArray 0)).get? h'.objs.size=some (seqObj "list" acc.toList.toArray 0):=Heap.get?_push_size _ rfl
 refine wpAny_bind (wpAny_holding (wpAny_call_entry slot_list_sort ⟨_,hoL,rfl⟩ entry_list_sort (list_sort_tree (A:=X.A.in1.in1) hoL hI (by omega) λout ns' a1 a2 a3=>⟨_,rfl,?_⟩) (args_list_sort _)))
 refine wpAny_pure ⟨_,rfl,?_⟩
 obtain⟨e2,hat2⟩:=sortedHeap_at (vs:=acc.toList) (out:=out) (n:=0) hoL
 have hl':=a2.length_eq
 have I1:Inv X pins σ H {s with heap:=h',toks:=tk}:=I.kept (t':=tk) kp
 refine⟨.ref _,_,I1.laid (t':=tk) (a:=h'.objs.size) (o:= .lst (ns'.map V.int)) (λb o e=> ?_) (Nat.le_refl _) ⟨by rw[List.length_map,hl',<-hl];exact hz,out.toList,e2,ji2 a1,by simpa using hat2⟩,rfl,q _ ns' ⟨a2,a3⟩ (I1.hok.fresh (Nat.le_refl _))⟩
 have hlt:=Heap.lt_size e
 rw[sortedHeap_old (Nat.ne_of_lt hlt) (by rw[Heap.size_push];exact Nat.lt_succ_of_lt hlt)]
 exact Heap.get?_push_of_some _ e
end
end L2
namespace Z
open PySem
inductive D where
 | non | bl (b:Bool) | int (i:Int) | str (x:Str) | tup (xs:List D) | lst (xs:List D) | arg (ns:List Int) | ref (k:Nat)
 | ty (n:String) | cls (n:String) | exc (n:String) | obj (c:String) (fs:List (Str×D)) | dic (kvs:List (Sum Int Str×D))
inductive Cell where
 | lst (xs:List D) | dct (kvs:List (Sum Int Str×D)) | ins (c:String) (fs:List (Str×D)) | fdc (kvs:List (Sum Int Str×D))
def Cell.live:Cell->Bool
 | .fdc _=>false | _=>true
abbrev MH:=List (Option Cell)
abbrev Ro:=List (Option D)
inductive Res (α:Type) where
 | ok (a:α) (h:MH) | exc (c:String) (h:MH) | stuck
inductive RS where
 | nx (ρ:Ro) (h:MH) | rt (d:D) (h:MH) | bk (ρ:Ro) (h:MH) | ct (ρ:Ro) (h:MH) | exc (c:String) (h:MH) | stuck
def Res.bind{α β:Type}(r:Res α)(f:α->MH->Res β):Res β:=match r with
 | .ok a h=>f a h | .exc c h=> .exc c h | .stuck=> .stuck
@[simp] theorem jdo{α β:Type}{a:α}{h:MH}{f:α->MH->Res β}:(Res.ok a h).bind f=f a h:=rfl
@[simp] theorem bind_exc{α β:Type}{c:String}{h:MH}{f:α->MH->Res β}:(Res.exc c h).bind f= .exc c h:=rfl
@[simp] theorem bind_stuck{α β:Type}{f:α->MH->Res β}:(Res.stuck).bind f= .stuck:=rfl
def Res.toS{α:Type}(r:Res α)(f:α->MH->RS):RS:=match r with
 | .ok a h=>f a h | .exc c h=> .exc c h | .stuck=> .stuck
@[simp] theorem jvt{α:Type}{a:α}{h:MH}{f:α->MH->RS}:(Res.ok a h).toS f=f a h:=rfl
@[simp] theorem toS_exc{α:Type}{c:String}{h:MH}{f:α->MH->RS}:(Res.exc c h).toS f= .exc c h:=rfl
@[simp] theorem toS_stuck{α:Type}{f:α->MH->RS}:(Res.stuck).toS f= .stuck:=rfl
abbrev ME:=Ro->MH->Res D
abbrev MT:=Ro->MH->Res Bool
abbrev ML:=Ro->MH->Res (List D)
abbrev MO:=Ro->MH->Res (Option Int)
abbrev MI:=Ro->MH->Res (Option Nat×List D)
abbrev MS:=Ro->MH->RS
abbrev MG:=D->Ro->MH->RS
abbrev MF:=List D->MH->Res D
abbrev B2:=D->D->MH->Res D
@[simp] def chk{α:Type}(c:Prop)[Decidable c](r:Res α):Res α:=if c then r else .stuck
@[simp] theorem chk_t{α:Type}{c:Prop}[Decidable c]{r:Res α}(h:c):chk c r=r:=if_pos h
@[simp] def mVar(i:Nat):ME:=λρ h=>match ρ[i]? with
 | some (some d)=> .ok d h | _=> .stuck
@[simp] def mC(d:D):ME:=λ_ h=> .ok d h
@[simp] def mBin(f:B2)(a b:ME):ME:=λρ h=>(a ρ h).bind λx h1=>(b ρ h1).bind λy h2=>f x y h2
@[simp] def mUn(f:D->MH->Res D)(a:ME):ME:=λρ h=>(a ρ h).bind f
@[simp] def mNil:ML:=λ_ h=> .ok [] h
@[simp] def ja3(a:ME)(l:ML):ML:=λρ h=>(a ρ h).bind λx h1=>(l ρ h1).bind λxs h2=> .ok (x::xs) h2
@[simp] def mTup(l:ML):ME:=λρ h=>(l ρ h).bind λxs h1=>chk (xs.length<=16777216) (.ok (.tup xs) h1)
@[simp] def jc3(l:ML):ML:=λρ h=>(l ρ h).bind λxs h1=>chk (xs.length<=16777216) (.ok xs h1)
@[simp] def jbh(l:ML):ME:=λρ h=>(l ρ h).bind λxs h1=> .ok (.lst xs) h1
@[simp] def jga(l:ML):ME:=λρ h=>(l ρ h).bind λxs h1=> .ok (.ref h1.length) (h1++[some (.lst xs)])
@[simp] def jaw(z:MF)(l:ML):ME:=λρ h=>(l ρ h).bind z
@[simp] def mFn(f:List D->MH->Res D)(l:ML):ME:=λρ h=>(l ρ h).bind f
@[simp] def tB(m:ME):MT:=λρ h=>(m ρ h).bind λd h1=>match d with
 | .bl b=> .ok b h1 | _=> .stuck
@[simp] def tAnd(a b:MT):MT:=λρ h=>(a ρ h).bind λc h1=>if c=true then b ρ h1 else .ok false h1
@[simp] def tOr(a b:MT):MT:=λρ h=>(a ρ h).bind λc h1=>if c=true then .ok true h1 else b ρ h1
@[simp] def tNot(a:MT):MT:=λρ h=>(a ρ h).bind λc h1=> .ok (!c) h1
@[simp] def mIf(t:MT)(a b:ME):ME:=λρ h=>(t ρ h).bind λc h1=>if c=true then a ρ h1 else b ρ h1
@[simp] def mAnd(a b:ME):ME:=λρ h=>(a ρ h).bind λd h1=>match d with
 | .bl c=>if c=true then b ρ h1 else .ok (.bl false) h1
 | _=> .stuck
@[simp] def mOr(a b:ME):ME:=λρ h=>(a ρ h).bind λd h1=>match d with
 | .bl c=>if c=true then .ok (.bl true) h1 else b ρ h1
 | _=> .stuck
@[simp] def jid(f g:B2)(a b c:ME):ME:=λρ h=>(a ρ h).bind λx h1=>(b ρ h1).bind λy h2=>(f x y h2).bind λz h3=>match z with
 | .bl k=>if k=true then(c ρ h3).bind λw h4=>g y w h4 else .ok (.bl false) h3
 | _=> .stuck
@[simp] def asL(h:MH):D->Option (List D)
 | .lst xs=>some xs
 | .ref k=>match h[k]? with
  | some (some (.lst xs))=>some xs
  | _=>none
 | _=>none
@[simp] def asQ(h:MH):D->Option (List D)
 | .lst xs=>some xs
 | .tup xs=>some xs
 | .arg ns=>some (ns.map .int)
 | .ref k=>match h[k]? with
  | some (some (.lst xs))=>some xs
  | _=>none
 | _=>none
@[simp] def asD(h:MH):D->Option (List (Sum Int Str×D))
 | .dic kvs=>some kvs
 | .ref k=>match h[k]? with
  | some (some (.dct kvs))=>some kvs
  | _=>none
 | _=>none
@[simp] def asR(h:MH):D->Option (List (Sum Int Str×D))
 | .dic kvs=>some kvs
 | .ref k=>match h[k]? with
  | some (some (.dct kvs))=>some kvs
  | some (some (.fdc kvs))=>some kvs
  | _=>none
 | _=>none
@[simp] def jfz(h:MH):D->Option Bool
 | .non=>some false
 | .bl b=>some b
 | .int i=>some (i !=0)
 | .str y=>if y.length<=16777216 then some ((y.length:Int)!=0) else none
 | d=>match asQ h d with
  | some xs=>some (!xs.isEmpty)
  | none=>match d with
   | .ref _=>(asD h d).map λkvs=> !kvs.isEmpty
   | _=>none
def oR{α:Type}(o:Option α)(h:MH):Res α:=match o with
 | some a=> .ok a h | none=> .stuck
@[simp] theorem jlt{α:Type}{a:α}{h:MH}:oR (some a) h= .ok a h:=rfl
@[simp] theorem oR_none{α:Type}{h:MH}:oR (none:Option α) h= .stuck:=rfl
@[simp] def tTru(m:ME):MT:=λρ h=>(m ρ h).bind λd h1=>oR (jfz h1 d) h1
@[simp] def jrw(m:ME):ME:=λρ h=>(m ρ h).bind λd h1=>(oR (jfz h1 d) h1).bind λb h2=> .ok (.bl (!b)) h2
def jms(i j:Int):Prop:=i.natAbs<18446744073709551616 \/ j.natAbs<18446744073709551616
instance (i j:Int):Decidable (jms i j):=by unfold jms;infer_instance
def ji3(i j:Int):Prop:=0<=j /\ j<=1000000 /\ i.natAbs<18446744073709551616
instance (i j:Int):Decidable (ji3 i j):=by unfold ji3;infer_instance
@[simp] def dAdd:B2:=λx y h=>match x,y with
 | .int i,.int j=> .ok (.int (i+j)) h
 | .str a,.str b=>chk (a.length+b.length<=16777216) (.ok (.str (a++b)) h)
 | .tup a,.tup b=>chk (a≠[] /\ a.length+b.length<=16777216) (.ok (.tup (a++b)) h)
 | _,_=>(oR (asL h x) h).bind λa h=>(oR (asL h y) h).bind λb h=>chk (a.length+b.length<=16777216) (.ok (.lst (a++b)) h)
@[simp] def dInt(f:Int->Int->Int):B2:=λx y h=>match x,y with
 | .int i,.int j=> .ok (.int (f i j)) h | _,_=> .stuck
@[simp] def jjf(c:Int->Int->Prop)[∀i j,Decidable (c i j)](f:Int->Int->Int):B2:=λx y h=>match x,y with
 | .int i,.int j=>chk (c i j) (.ok (.int (f i j)) h) | _,_=> .stuck
@[simp] def dSub:B2:=dInt (· - ·)
@[simp] def dMul:B2:=λx y h=>match x,y with
 | .int i,.int j=>chk (jms i j) (.ok (.int (i*j)) h)
 | .str z,.int n=>chk (n.natAbs<=16777216 /\ z.length*n.toNat<=16777216) (.ok (.str (Txt.mul z n)) h)
 | _,.int k=>(oR (asL h x) h).bind λa h=>chk (k.natAbs<9223372036854775808 /\ a.length*k.toNat<=16777216) (.ok (.lst (List.replicate k.toNat a).flatten) h)
 | _,_=> .stuck
@[simp] def dDiv:B2:=jjf (λ_ j=>0<j /\ j<1073741824) (· / ·)
@[simp] def dMod:B2:=jjf (λ_ j=>0<j) (· % ·)
@[simp] def dPow:B2:=jjf ji3 (λi j=>i^j.toNat)
@[simp] def dShl:B2:=jjf ji3 (λi j=>i*2^j.toNat)
@[simp] def dShr:B2:=jjf (λ_ j=>0<=j) (λi j=>i / 2^j.toNat)
@[simp] def dAnd:B2:=dInt Builtin.bitAnd
@[simp] def dOr:B2:=dInt Builtin.bitOr
@[simp] def dXor:B2:=dInt Builtin.bitXor
@[simp] def dNeg:D->MH->Res D:=λx h=>match x with
 | .int i=> .ok (.int (-i)) h | _=> .stuck
@[simp] def dInv:D->MH->Res D:=λx h=>match x with
 | .int i=> .ok (.int (Builtin.bitNot i)) h | _=> .stuck
@[simp] def dCmp(f:Int->Int->Bool):B2:=λx y h=>match x,y with
 | .int i,.int j=> .ok (.bl (f i j)) h | _,_=> .stuck
@[simp] def dLt:B2:=dCmp λi j=>decide (i<j)
@[simp] def dLe:B2:=dCmp λi j=>decide (i<=j)
@[simp] def dGt:B2:=dCmp λi j=>decide (j<i)
@[simp] def dGe:B2:=dCmp λi j=>decide (j<=i)
@[simp] def isNon:D->Bool
 | .non=>true | _=>false
@[simp] def dIs:B2:=λx y h=>match x,y with
 | .bl a,.bl b=> .ok (.bl (a==b)) h
 | x,.non=> .ok (.bl (isNon x)) h
 | _,_=> .stuck
@[simp] def dIsNot:B2:=λx y h=>match x,y with
 | .bl a,.bl b=> .ok (.bl (!(a==b))) h
 | x,.non=> .ok (.bl (!isNon x)) h
 | _,_=> .stuck
def jpn(x:Str):Bool:=x.cps.all (·<0x110000)
mutual
def D.py:D->Option PyData
 | .non=>some .none
 | .bl b=>some (.bool b)
 | .int i=>some (.int i)
 | .str x=>if jpn x then some (.str x) else none
 | .tup xs=>(D.pys xs).map .tuple
 | .lst xs=>(D.pys xs).map .list
 | _=>none
def D.pys:List D->Option (List PyData)
 | []=>some []
 | d::ds=>match D.py d,D.pys ds with
  | some p,some ps=>some (p::ps)
  | _,_=>none
end
mutual
def D.deep:D->Nat
 | .tup xs | .lst xs=>D.deeps xs+1
 | _=>0
def D.deeps:List D->Nat
 | []=>0
 | d::ds=>max (D.deep d) (D.deeps ds)
end
mutual
def D.eq:D->D->Bool
 | .non,.non=>true
 | .bl a,.bl b=>a==b
 | .bl a,.int j=>(if a then 1 else 0)==j
 | .int i,.bl b=>i==(if b then 1 else 0)
 | .int i,.int j=>i==j
 | .str x,.str y=>x==y
 | .tup xs,.tup ys=>D.eqs xs ys
 | .lst xs,.lst ys=>D.eqs xs ys
 | _,_=>false
def D.eqs:List D->List D->Bool
 | [],[]=>true
 | x::xs,y::ys=>D.eq x y&&D.eqs xs ys
 | _,_=>false
end
def D.dat(d:D):Bool:=d.py.isSome&&decide (d.deep<=64)
def res:Nat->MH->D->D
 | 0,_,d=>d
 | n+1,h,.ref k=>match h[k]? with
  | some (some (.lst xs))=> .lst (xs.map (res n h))
  | _=> .ref k
 | n+1,h,.tup xs=> .tup (xs.map (res n h))
 | n+1,h,.lst xs=> .lst (xs.map (res n h))
 | _+1,_,d=>d
def see(h:MH)(d:D):D:=res 8 h d
@[simp] def flat:D->Bool
 | .non | .bl _ | .int _ | .str _=>true
 | _=>false
@[simp] def dEq:B2:=λx y h=>match x,y with
 | .int i,.int j=> .ok (.bl (decide (i=j))) h
 | .str i,.str j=> .ok (.bl (decide (i=j))) h
 | .bl i,.bl j=> .ok (.bl (i==j)) h
 | _,_=>if x.dat=true /\ y.dat=true then .ok (.bl (x.eq y)) h else chk ((see h x).dat=true /\ (see h y).dat=true) (.ok (.bl ((see h x).eq (see h y))) h)
@[simp] def dNe:B2:=λx y h=>(dEq x y h).bind λz h=>match z with
 | .bl b=> .ok (.bl (!b)) h | _=> .stuck
def numS(n:Int):Str:=Str.ofString (toString n)
def ixN(n:Nat)(i:Int):Option Nat:=if 0<=i then(if i<n then some i.toNat else none) else if -(n:Int)<=i then some (i+n).toNat else none
def atI{α:Type}(xs:List α)(i:Int):Option α:=(ixN xs.length i).bind λj=>xs[j]?
@[simp] def jja:D->Option (Sum Int Str)
 | .int i=>some (.inl i)
 | .str x=>some (.inr x)
 | _=>none
def valK(kvs:List (Sum Int Str×D))(k:Sum Int Str):Option D:=(kvs.find? λkv=>decide (kv.1=k)).map (·.2)
def putK(kvs:List (Sum Int Str×D))(k:Sum Int Str)(v:D):List (Sum Int Str×D):=
 if kvs.any (λkv=>decide (kv.1=k)) then kvs.map λkv=>if kv.1=k then(kv.1,v) else kv else kvs++[(k,v)]
@[simp] def dIx:B2:=λx y h=>match x,y with
 | .str z,.int i=>chk (z.length<=16777216) ((oR (atI z.cps.toList i) h).bind λc h=> .ok (.str ⟨#[c]⟩) h)
 | x,y=>match asQ h x with
  | some xs=>match y with
   | .int i=>oR (atI xs i) h
   | _=> .stuck
  | none=>match asR h x,jja y with
   | some kvs,some k=>oR (valK kvs k) h
   | _,_=> .stuck
def eqF:D->D->Bool
 | .non,.non=>true
 | .bl a,.bl b=>a==b
 | .bl a,.int b=>(if a then 1 else 0)==b
 | .int a,.bl b=>a==(if b then 1 else 0)
 | .int a,.int b=>a==b
 | .str a,.str b=>a==b
 | _,_=>false
@[simp] def dIn(neg:Bool):B2:=λx y h=>match x,y with
 | .str i,.str j=> .ok (.bl (if neg then !(!(Builtin.Str.occurrences j i 0 j.length 1).isEmpty) else !(Builtin.Str.occurrences j i 0 j.length 1).isEmpty)) h
 | x,y=>match asQ h y with
  | some ys=>chk (flat x=true /\ ys.all flat=true) (.ok (.bl (if neg then !(ys.any λy=>eqF y x) else ys.any λy=>eqF y x)) h)
  | none=>match asR h y,jja x with
   | some kvs,some k=> .ok (.bl (if neg then !(valK kvs k).isSome else(valK kvs k).isSome)) h
   | _,_=> .stuck
def sIx(n d:Nat):Option Int->Nat
 | none=>d
 | some v=>if v<0 then(v+(n:Int)).toNat else min v.toNat n
def cut{α:Type}(xs:List α)(lo hi:Option Int):List α:=(xs.drop (sIx xs.length 0 lo)).take (sIx xs.length xs.length hi - sIx xs.length 0 lo)
@[simp] def oNo:MO:=λ_ h=> .ok none h
@[simp] def oSo(m:ME):MO:=λρ h=>(m ρ h).bind λd h1=>match d with
 | .int i=> .ok (some i) h1 | _=> .stuck
@[simp] def mSl(m:ME)(lo hi:MO):ME:=λρ h=>(m ρ h).bind λd h1=>(lo ρ h1).bind λl h2=>(hi ρ h2).bind λu h3=>match d with
 | .tup xs=>chk (¬(sIx xs.length 0 l=0 /\ sIx xs.length xs.length u=xs.length)) (.ok (.tup (cut xs l u)) h3)
 | .str z=>chk (z.length<=16777216) (.ok (.str (Txt.slice z l u)) h3)
 | d=>(oR (asQ h3 d) h3).bind λxs h4=> .ok (.lst (cut xs l u)) h4
@[simp] def jmh:List D->Option (List Int)
 | []=>some []
 | .int i::r=>(jmh r).map (i::·)
 | _::_=>none
@[simp] def strsD:List D->Option (List Str)
 | []=>some []
 | .str i::r=>(strsD r).map (i::·)
 | _::_=>none
@[simp] def jwj:List D->Option (List Bool)
 | []=>some []
 | .bl i::r=>(jwj r).map (i::·)
 | _::_=>none
@[simp] def asLi(h:MH)(d:D):Option (List Int):=match d with
 | .arg ns=>some ns
 | d=>(asL h d).bind jmh
def jj3(ns:List Int)(lo hi:Option Int)(st:Int):List Int:=
 (sliceRange (sliceBounds lo hi (some st) ns.length).1 (sliceBounds lo hi (some st) ns.length).2.1 (sliceBounds lo hi (some st) ns.length).2.2).filterMap (ns[·]?)
@[simp] def mSlS(m:ME)(lo hi st:MO):ME:=λρ h=>(m ρ h).bind λd h1=>(lo ρ h1).bind λl h2=>(hi ρ h2).bind λu h3=>(st ρ h3).bind λk h4=>match k with
 | some k=>chk (0<k) ((oR (asLi h4 d) h4).bind λns h5=> .ok (.lst ((jj3 ns l u k).map .int)) h5)
 | none=> .stuck
@[simp] def fLen:List D->MH->Res D:=λl h=>match l with
 | [.str z]=>chk (z.length<=16777216) (.ok (.int z.length) h)
 | [d]=>match asQ h d with
  | some xs=> .ok (.int xs.length) h
  | none=>match d with
   | .ref _=>(oR (asD h d) h).bind λkvs h=> .ok (.int kvs.length) h
   | _=> .stuck
 | _=> .stuck
@[simp] def fSum:List D->MH->Res D:=λl h=>match l with
 | [d]=>(oR (asLi h d) h).bind λns h=> .ok (.int ns.sum) h
 | _=> .stuck
def maxI:List Int->Int
 | []=>0
 | [a]=>a
 | a::r=>if maxI r>a then maxI r else a
@[simp] def fMax:List D->MH->Res D:=λl h=>match l with
 | [.int i,.int j]=> .ok (.int (if j>i then j else i)) h
 | [.tup xs]=>(oR (jmh xs) h).bind λns h=>chk (0<ns.length) (.ok (.int (maxI ns)) h)
 | _=> .stuck
@[simp] def fMin:List D->MH->Res D:=λl h=>match l with
 | [.int i,.int j]=> .ok (.int (if j<i then j else i)) h
 | _=> .stuck
@[simp] def fAbs:List D->MH->Res D:=λl h=>match l with
 | [.int i]=> .ok (.int (if i<0 then -i else i)) h
 | _=> .stuck
@[simp] def fAll:List D->MH->Res D:=λl h=>match l with
 | [d]=>(oR ((asL h d).bind jwj) h).bind λbs h=> .ok (.bl (bs.all id)) h
 | _=> .stuck
@[simp] def fInt:List D->MH->Res D:=λl h=>match l with
 | [.int i]=> .ok (.int i) h
 | [.bl k]=> .ok (.int (if k then 1 else 0)) h
 | [.str z]=>chk (z.length<=640) ((oR (intText? z) h).bind λn h=> .ok (.int n) h)
 | _=> .stuck
@[simp] def fStr:List D->MH->Res D:=λl h=>match l with
 | [.int i]=>chk (i.natAbs.log2<1920) (.ok (.str (numS i)) h)
 | _=> .stuck
@[simp] def fBool:List D->MH->Res D:=λl h=>match l with
 | [.int i]=> .ok (.bl (i !=0)) h
 | [.bl k]=> .ok (.bl k) h
 | _=> .stuck
@[simp] def jot(m:ML):ML:=λρ h=>(m ρ h).bind λl h1=>match l with
 | [d]=>oR (asQ h1 d) h1
 | _=> .stuck
@[simp] def fTuple:List D->MH->Res D:=λl h=>match l with
 | [.tup xs]=> .ok (.tup xs) h
 | [d]=>(oR (asQ h d) h).bind λxs h=> .ok (.tup xs) h
 | _=> .stuck
@[simp] def tyOf(h:MH):D->Option String
 | .non=>some "NoneType" | .bl _=>some "bool" | .int _=>some "int" | .str _=>some "str" | .tup _=>some "tuple" | .lst _=>some "list"
 | .ref k=>match h[k]? with
  | some (some (.lst _))=>some "list"
  | some (some (.dct _))=>some "dict"
  | _=>none
 | _=>none
@[simp] def isB(a b:String):Bool:=a==b||(a=="bool"&&b=="int")
@[simp] def jmk(b:String):Bool:=b=="int"||b=="bool"||b=="str"||b=="tuple"||b=="list"
@[simp] def fIsi:List D->MH->Res D:=λl h=>match l with
 | [d,.ty n]=>chk (jmk n=true) ((oR (tyOf h d) h).bind λt h=> .ok (.bl (isB t n)) h)
 | _=> .stuck
@[simp] def mSm(f:Str->List D->MH->Res D)(m:ME)(l:ML):ME:=λρ h=>(m ρ h).bind λd h1=>match d with
 | .str z=>(l ρ h1).bind λxs h2=>f z xs h2
 | _=> .stuck
@[simp] def fJoin:Str->List D->MH->Res D:=λz l h=>match l with
 | [d]=>(oR ((asL h d).bind strsD) h).bind λys h=>chk ((ys.map (·.length)).sum+ys.length*z.length<=16777216) (.ok (.str (Txt.join z ys)) h)
 | _=> .stuck
@[simp] def fFind:Str->List D->MH->Res D:=λz l h=>match l with
 | [.str y]=> .ok (.int (Txt.find z y)) h
 | _=> .stuck
@[simp] def fUpper:Str->List D->MH->Res D:=λz l h=>match l with
 | []=>chk ((Txt.upper z).length<=16777216) (.ok (.str (Txt.upper z)) h)
 | _=> .stuck
@[simp] def lSplit(m:ME)(l:ML):ML:=λρ h=>(m ρ h).bind λd h1=>match d with
 | .str z=>(l ρ h1).bind λxs h2=>match xs with
  | [.str y]=>chk (y.length≠0 /\ z.length<=16777216 /\ (Txt.split z y).length<=16777216) (.ok ((Txt.split z y).map .str) h2)
  | _=> .stuck
 | _=> .stuck
/-- f"..{x}..":the parts,in order -/
abbrev MJ:=Str->Ro->MH->Res Str
@[simp] def jNil:MJ:=λout _ h=> .ok out h
@[simp] def jCons(m:ME)(j:MJ):MJ:=λout ρ h=>(m ρ h).bind λd h1=>match d with
 | .str y=>chk ((out++y).length<=16777216) (j (out++y) ρ h1)
 | _=> .stuck
@[simp] def mJs(j:MJ):ME:=λρ h=>(j Str.empty ρ h).bind λz h1=>chk (z.length<=16777216) (.ok (.str z) h1)
@[simp] def mFmt(m:ME):ME:=λρ h=>(m ρ h).bind λd h1=>match d with
 | .int i=>chk (i.natAbs.log2<1920) (.ok (.str (numS i)) h1)
 | .str z=>chk (z.length<=16777216) (.ok (.str z) h1)
 | _=> .stuck
@[simp] def jb2:MS:=λρ h=> .nx ρ h
@[simp] def sBreak:MS:=λρ h=> .bk ρ h
@[simp] def sCont:MS:=λρ h=> .ct ρ h
@[simp] def sSeq(a b:MS):MS:=λρ h=>match a ρ h with
 | .nx ρ1 h1=>b ρ1 h1
 | r=>r
@[simp] def sIf(t:MT)(a b:MS):MS:=λρ h=>(t ρ h).toS λc h1=>if c=true then a ρ h1 else b ρ h1
@[simp] def sRet(m:ME):MS:=λρ h=>(m ρ h).toS .rt
@[simp] def sRetN:MS:=λ_ h=> .rt .non h
@[simp] def jm7(m:ME):MS:=λρ h=>(m ρ h).toS λ_ h1=> .nx ρ h1
@[simp] def sAsg(m:ME)(g:MG):MS:=λρ h=>(m ρ h).toS λd h1=>g d ρ h1
@[simp] def jdr(c:String)(m:ME):MS:=λρ h=>(m ρ h).toS λ_ h1=> .exc c h1
@[simp] def jad(i:Nat):MG:=λd ρ h=> .nx (ρ.set i (some d)) h
@[simp] def jo4:List Nat->List D->Ro->MH->RS
 | [],[],ρ,h=> .nx ρ h
 | i::is,d::ds,ρ,h=>jo4 is ds (ρ.set i (some d)) h
 | _,_,_,_=> .stuck
@[simp] def gTup(is:List Nat):MG:=λd ρ h=>match d with
 | .tup xs=>jo4 is xs ρ h
 | .lst xs=>jo4 is xs ρ h
 | _=> .stuck
@[simp] def gSub(mo mi:ME):MG:=λd ρ h=>(mo ρ h).toS λo h1=>(mi ρ h1).toS λi h2=>match o with
 | .ref k=>match h2[k]? with
  | some (some (.lst xs))=>match i with
   | .int j=>match ixN xs.length j with
    | some n=> .nx ρ (h2.set k (some (.lst (xs.set n d))))
    | none=> .stuck
   | _=> .stuck
  | _=> .stuck
 | _=> .stuck
@[simp] def jy0(mo mi me:ME):MS:=λρ h=>(me ρ h).toS λd h0=>(mo ρ h0).toS λo h1=>(mi ρ h1).toS λi h2=>match o with
 | .ref k=>match h2[k]? with
  | some (some (.dct kvs))=>match jja i with
   | some j=>if kvs.length<16777216 then .nx ρ (h2.set k (some (.dct (putK kvs j d)))) else .stuck
   | none=> .stuck
  | _=> .stuck
 | _=> .stuck
@[simp] def jdj(mo me:ME):MS:=λρ h=>(mo ρ h).toS λo h1=>match o with
 | .ref k=>match h1[k]? with
  | some (some (.lst _))=>(me ρ h1).toS λd h2=>match h2[k]? with
   | some (some (.lst xs))=>if xs.length<16777216 then .nx ρ (h2.set k (some (.lst (xs++[d])))) else .stuck
   | _=> .stuck
  | _=> .stuck
 | _=> .stuck
@[simp] def jey(i:Nat)(b:MS):MS:=λρ h=>match ρ[i]? with
 | some (some (.ref k))=>match h[k]? with
  | some (some (.lst xs))=>b (ρ.set i (some (.lst xs))) (h.set k none)
  | _=> .stuck
 | _=> .stuck
@[simp] def ju0:ME:=λ_ h=> .ok (.ref h.length) (h++[some (.dct [])])
def jc7(g:MG)(b:MS):List D->Ro->MH->RS
 | [],ρ,h=> .nx ρ h
 | d::ds,ρ,h=>match g d ρ h with
  | .nx ρ1 h1=>match b ρ1 h1 with
   | .nx ρ2 h2=>jc7 g b ds ρ2 h2
   | .ct ρ2 h2=>jc7 g b ds ρ2 h2
   | .bk ρ2 h2=> .nx ρ2 h2
   | r=>r
  | _=> .stuck
def okG(q:Option Nat)(all:List D)(h:MH):Prop:=match q with
 | none=>True
 | some k=>h[k]?=some (some (.lst all))
open Classical in
def jer(q:Option Nat)(all:List D)(g:MG)(b:MS):List D->Ro->MH->RS
 | [],ρ,h=>if okG q all h then .nx ρ h else .stuck
 | d::ds,ρ,h=>if okG q all h then(match g d ρ h with
  | .nx ρ1 h1=>match b ρ1 h1 with
   | .nx ρ2 h2=>jer q all g b ds ρ2 h2
   | .ct ρ2 h2=>jer q all g b ds ρ2 h2
   | .bk ρ2 h2=> .nx ρ2 h2
   | r=>r
  | _=> .stuck) else .stuck
@[simp] theorem jej(all:List D)(g:MG)(b:MS):∀(ds:List D) (ρ:Ro) (h:MH),jer none all g b ds ρ h=jc7 g b ds ρ h
 | [],ρ,h=>by unfold jer jc7;exact if_pos trivial
 | d::ds,ρ,h=>by
  unfold jer jc7
  rw[if_pos (show okG none all h from trivial)]
  split
  ·split
   ·exact jej all g b ds _ _
   ·exact jej all g b ds _ _
   ·rfl
   ·rfl
  ·rfl
def sFor(l:MI)(g:MG)(b:MS):MS:=λρ h=>(l ρ h).toS λs h1=>jer s.1 s.2 g b s.2 ρ h1
@[simp] theorem sFor_def(l:MI)(g:MG)(b:MS)(ρ:Ro)(h:MH):sFor l g b ρ h=(l ρ h).toS λs h1=>jer s.1 s.2 g b s.2 ρ h1:=rfl
@[simp] def lIt(m:ME):MI:=λρ h=>(m ρ h).bind λd h1=>match d with
 | .lst xs=> .ok (none,xs) h1
 | .tup xs=> .ok (none,xs) h1
 | .arg ns=> .ok (none,ns.map .int) h1
 | .str z=> .ok (none,z.cps.toList.map λc=> .str ⟨#[c]⟩) h1
 | .ref k=>match h1[k]? with
  | some (some (.lst xs))=> .ok (some k,xs) h1
  | _=> .stuck
 | _=> .stuck
def rng(lo:Int)(n:Nat):List D:=(List.range n).map λ(k:Nat)=> .int (lo+k)
@[simp] def jfm(m:ML):MI:=λρ h=>(m ρ h).bind λl h1=>match l with
 | [.int j]=>chk (j.natAbs<4611686018427387904) (.ok (none,rng 0 j.toNat) h1)
 | _=> .stuck
@[simp] def lRng2(m:ML):MI:=λρ h=>(m ρ h).bind λl h1=>match l with
 | [.int i,.int j]=>chk (i.natAbs<4611686018427387904 /\ j.natAbs<4611686018427387904) (.ok (none,rng i (j - i).toNat) h1)
 | _=> .stuck
@[simp] def lRev(m:ML):MI:=λρ h=>(m ρ h).bind λl h1=>match l with
 | [.lst xs]=> .ok (none,xs.reverse) h1
 | _=> .stuck
def jcn(c:MT)(b:MS):Nat->Ro->MH->RS
 | 0,_,_=> .stuck
 | n+1,ρ,h=>match c ρ h with
  | .ok true h1=>match b ρ h1 with
   | .nx ρ2 h2=>jcn c b n ρ2 h2
   | .ct ρ2 h2=>jcn c b n ρ2 h2
   | .bk ρ2 h2=> .nx ρ2 h2
   | r=>r
  | .ok false h1=> .nx ρ h1
  | .exc e h1=> .exc e h1
  | .stuck=> .stuck
open Classical in
def jcm(c:MT)(b:MS):MS:=λρ h=>if e:∃n,jcn c b n ρ h≠ .stuck then jcn c b e.choose ρ h else .stuck
theorem jeo(c:MT)(b:MS):∀(n k:Nat) (ρ:Ro) (h:MH),jcn c b n ρ h≠ .stuck->jcn c b (n+k) ρ h=jcn c b n ρ h
 | 0,k,ρ,h,q=>absurd rfl q
 | n+1,k,ρ,h,q=>by
  rw[show n+1+k=(n+k)+1 by omega]
  unfold jcn at q ⊢
  cases e:c ρ h with
  | ok b0 h1=>
   cases b0 with
   | false=>rfl
   | true=>
    simp only[e] at q ⊢
    cases e2:b ρ h1 with
    | nx ρ2 h2=>simp only[e2] at q ⊢;exact jeo c b n k ρ2 h2 q
    | ct ρ2 h2=>simp only[e2] at q ⊢;exact jeo c b n k ρ2 h2 q
    | bk ρ2 h2=>rfl
    | rt d h2=>rfl
    | exc x h2=>rfl
    | stuck=>rfl
  | exc x h1=>rfl
  | stuck=>rfl
theorem jif{c:MT}{b:MS}{n:Nat}{ρ:Ro}{h:MH}(q:jcn c b n ρ h≠ .stuck):jcm c b ρ h=jcn c b n ρ h:=by
 have e:∃n,jcn c b n ρ h≠ .stuck:=⟨n,q⟩
 unfold jcm
 rw[dif_pos e]
 have h1:=jeo c b e.choose n ρ h e.choose_spec
 have h2:=jeo c b n e.choose ρ h q
 rw[<-h1,<-h2,Nat.add_comm]
theorem jh8{c:MT}{b:MS}{ρ:Ro}{h:MH}(q:jcm c b ρ h≠ .stuck):∃n,jcn c b n ρ h=jcm c b ρ h:=by
 unfold jcm at q
 by_cases e:∃n,jcn c b n ρ h≠ .stuck
 ·exact⟨e.choose,by unfold jcm;rw[dif_pos e]⟩
 ·rw[dif_neg e] at q;exact absurd rfl q
theorem jh1{c:MT}{b:MS}{ρ ρ2:Ro}{h h1 h2:MH}(ec:c ρ h= .ok true h1)(eb:b ρ h1= .nx ρ2 h2):jcm c b ρ h=jcm c b ρ2 h2:=by
 by_cases q:jcm c b ρ2 h2= .stuck
 ·rw[q]
  by_cases q1:jcm c b ρ h= .stuck
  ·exact q1
  ·obtain⟨n,e⟩:=jh8 q1
   cases n with
   | zero=>rw[<-e];rfl
   | succ n=>
    rw[<-e] at q1 ⊢
    unfold jcn at q1 ⊢
    simp only[ec,eb] at q1 ⊢
    rw[<-jif q1];exact q
 ·obtain⟨n,e⟩:=jh8 q
  have e1:jcn c b (n+1) ρ h=jcn c b n ρ2 h2:=by
   conv=>lhs;unfold jcn
   simp only[ec,eb]
  rw[jif (n:=n+1) (by rw[e1,e];exact q),e1,e]
theorem jnn{c:MT}{b:MS}{ρ:Ro}{h h1:MH}(ec:c ρ h= .ok false h1):jcm c b ρ h= .nx ρ h1:=by
 have e1:jcn c b 1 ρ h= .nx ρ h1:=by unfold jcn;simp only[ec]
 rw[jif (n:=1) (by rw[e1];exact λz=>nomatch z),e1]
@[simp] def caps(idx:List Nat)(ρ:Ro):Ro:=idx.map λj=>(ρ[j]?).getD none
def compLoop(g:MG)(t:MT)(m:ME)(ρ0:Ro):List D->MH->Res (List D)
 | [],h=> .ok [] h
 | d::ds,h=>match g d ρ0 h with
  | .nx ρ1 h1=>match t ρ1 h1 with
   | .ok true h2=>match m ρ1 h2 with
    | .ok y h3=>match compLoop g t m ρ0 ds h3 with
     | .ok ys h4=> .ok (y::ys) h4
     | _=> .stuck
    | _=> .stuck
   | .ok false h2=>compLoop g t m ρ0 ds h2
   | _=> .stuck
  | _=> .stuck
@[simp] def tYes:MT:=λ_ h=> .ok true h
open Classical in
def jbf(q:Option Nat)(all:List D)(g:MG)(t:MT)(m:ME)(ρ0:Ro):List D->MH->Res (List D)
 | [],h=>if okG q all h then .ok [] h else .stuck
 | d::ds,h=>if okG q all h then(match g d ρ0 h with
  | .nx ρ1 h1=>match t ρ1 h1 with
   | .ok true h2=>match m ρ1 h2 with
    | .ok y h3=>match jbf q all g t m ρ0 ds h3 with
     | .ok ys h4=> .ok (y::ys) h4
     | _=> .stuck
    | _=> .stuck
   | .ok false h2=>jbf q all g t m ρ0 ds h2
   | _=> .stuck
  | _=> .stuck) else .stuck
@[simp] theorem jec(all:List D)(g:MG)(t:MT)(m:ME)(ρ0:Ro):∀(ds:List D) (h:MH),jbf none all g t m ρ0 ds h=compLoop g t m ρ0 ds h
 | [],h=>by unfold jbf compLoop;exact if_pos trivial
 | d::ds,h=>by
  unfold jbf compLoop
  rw[if_pos (show okG none all h from trivial)]
  split
  ·split
   ·split
    ·rw[jec all g t m ρ0 ds]
    ·rfl
   ·exact jec all g t m ρ0 ds _
   ·rfl
  ·rfl
def jft(nt:Nat)(idx:List Nat)(l:MI)(g:MG)(t:MT)(m:ME):ML:=λρ h=>(l ρ h).bind λs h1=>chk (s.2.length<16777216) (jbf s.1 s.2 g t m (List.replicate nt none++caps idx ρ) s.2 h1)
@[simp] theorem lComp_def(nt:Nat)(idx:List Nat)(l:MI)(g:MG)(t:MT)(m:ME)(ρ:Ro)(h:MH):jft nt idx l g t m ρ h=(l ρ h).bind λs h1=>chk (s.2.length<16777216) (jbf s.1 s.2 g t m (List.replicate nt none++caps idx ρ) s.2 h1):=rfl
@[simp] def asO(h:MH):D->Option (String×List (Str×D))
 | .obj c fs=>some (c,fs)
 | .ref k=>match h[k]? with
  | some (some (.ins c fs))=>some (c,fs)
  | _=>none
 | _=>none
def putF(f:Str)(d:D):List (Str×D)->List (Str×D)
  | []=>[(f,d)]
  | (g,x)::r=>if g=f then(g,d)::r else(g,x)::putF f d r
@[simp] def mFld(tab:List String)(f:Str)(m:ME):ME:=λρ h=>(m ρ h).bind λd h1=>(oR (asO h1 d) h1).bind λo h2=>chk (o.1∈tab) (oR (o.2.lookup f) h2)
@[simp] def jev(tab:List String)(f:Str)(mo me:ME):MS:=λρ h=>(me ρ h).toS λd h1=>(mo ρ h1).toS λo h2=>match o with
 | .ref k=>match h2[k]? with
  | some (some (.ins c fs))=>if c∈tab /\ fs.length<1000 then .nx ρ (h2.set k (some (.ins c (putF f d fs)))) else .stuck
  | _=> .stuck
 | _=> .stuck
@[simp] def jan(tab:List (String×MF))(f:Str)(m:ME)(l:ML):ME:=λρ h=>(m ρ h).bind λd h1=>(oR (asO h1 d) h1).bind λo h2=>(oR (tab.lookup o.1) h2).bind λz h2=>chk (o.2.lookup f=none) ((l ρ h1).bind λds h3=>z (d::ds) h3)
@[simp] def jf3(c:String)(z:MF)(l:ML):ME:=λρ h=>(l ρ h).bind λds h1=>(z (.ref h1.length::ds) (h1++[some (.ins c [])])).bind λd h2=>match d with
 | .non=>match h2[h1.length]? with
  | some (some (.ins c' fs))=> .ok (.obj c' fs) (h2.set h1.length none)
  | _=> .stuck
 | _=> .stuck
@[simp] def jgh(c:String)(z:MF)(l:ML):ME:=λρ h=>(l ρ h).bind λds h1=>(z (.ref h1.length::ds) (h1++[some (.ins c [])])).bind λd h2=>match d with
 | .non=> .ok (.ref h1.length) h2
 | _=> .stuck
def jhb(ds:List D):List D:=ds.mapIdx λi d=> .tup [.int i,d]
@[simp] def lEnum(m:ML):MI:=λρ h=>(m ρ h).bind λl h1=>match l with
 | [.lst xs]=> .ok (none,jhb xs) h1
 | [.arg ns]=> .ok (none,jhb (ns.map .int)) h1
 | _=> .stuck
def Res.noX{α:Type}(r:Res α):Res α:=match r with
 | .ok a h=> .ok a h | .exc _ _=> .stuck | .stuck=> .stuck
@[simp] theorem noX_ok{α:Type}{a:α}{h:MH}:(Res.ok a h).noX= .ok a h:=rfl
@[simp] theorem noX_exc{α:Type}{c:String}{h:MH}:(Res.exc c h:Res α).noX= .stuck:=rfl
@[simp] theorem noX_stuck{α:Type}:(Res.stuck:Res α).noX= .stuck:=rfl
@[simp] def lNox(l:ML):ML:=λρ h=>(l ρ h).noX
@[simp] def mNox(m:ME):ME:=λρ h=>(m ρ h).noX
@[simp] def tNox(m:MT):MT:=λρ h=>(m ρ h).noX
def RS.noX:RS->RS
 | .exc _ _=> .stuck | r=>r
@[simp] theorem noXS_nx{ρ:Ro}{h:MH}:(RS.nx ρ h).noX= .nx ρ h:=rfl
@[simp] theorem noXS_rt{d:D}{h:MH}:(RS.rt d h).noX= .rt d h:=rfl
@[simp] theorem noXS_bk{ρ:Ro}{h:MH}:(RS.bk ρ h).noX= .bk ρ h:=rfl
@[simp] theorem noXS_ct{ρ:Ro}{h:MH}:(RS.ct ρ h).noX= .ct ρ h:=rfl
@[simp] theorem noXS_exc{c:String}{h:MH}:(RS.exc c h).noX= .stuck:=rfl
@[simp] theorem noXS_stuck:RS.stuck.noX= .stuck:=rfl
def RS.gone(i:Nat):RS->RS
 | .nx ρ h=> .nx (ρ.set i none) h | .bk ρ h=> .bk (ρ.set i none) h | .ct ρ h=> .ct (ρ.set i none) h | r=>r
@[simp] theorem gone_nx{i:Nat}{ρ:Ro}{h:MH}:(RS.nx ρ h).gone i= .nx (ρ.set i none) h:=rfl
@[simp] theorem gone_rt{i:Nat}{d:D}{h:MH}:(RS.rt d h).gone i= .rt d h:=rfl
@[simp] theorem gone_bk{i:Nat}{ρ:Ro}{h:MH}:(RS.bk ρ h).gone i= .bk (ρ.set i none) h:=rfl
@[simp] theorem gone_ct{i:Nat}{ρ:Ro}{h:MH}:(RS.ct ρ h).gone i= .ct (ρ.set i none) h:=rfl
@[simp] theorem gone_stuck{i:Nat}:RS.stuck.gone i= .stuck:=rfl
@[simp] def sTry(b:MS)(f:String->MS):MS:=λρ h=>match b ρ h with
 | .exc c h1=>f c ρ h1 | r=>r
@[simp] def cNil:String->MS:=λ_ _ _=> .stuck
@[simp] def cAs(tab:List (String×Bool))(i:Nat)(m:MS)(r:String->MS):String->MS:=λc ρ h=>match tab.lookup c with
 | some true=>((m (ρ.set i (some (.exc c))) h).noX).gone i
 | some false=>r c ρ h
 | none=> .stuck
@[simp] def cBare(tab:List (String×Bool))(m:MS)(r:String->MS):String->MS:=λc ρ h=>match tab.lookup c with
 | some true=>(m ρ h).noX
 | some false=>r c ρ h
 | none=> .stuck
@[simp] def fIsx(tab:List ((String×Bool×String)×Bool)):List D->MH->Res D:=λl h=>match l with
 | [.exc c,.cls n]=>(oR (tab.lookup (c,true,n)) h).bind λb h=> .ok (.bl b) h
 | [.exc c,.ty n]=>(oR (tab.lookup (c,false,n)) h).bind λb h=> .ok (.bl b) h
 | _=> .stuck
mutual
def D.bnd(n:Nat):D->Bool
 | .ref k=>k<n
 | .tup xs | .lst xs=>D.bnds n xs
 | .obj _ fs=>D.bndf n fs
 | _=>true
def D.bnds(n:Nat):List D->Bool
 | []=>true
 | d::ds=>D.bnd n d&&D.bnds n ds
def D.bndf(n:Nat):List (Str×D)->Bool
  | []=>true
  | (_,d)::ds=>D.bnd n d&&D.bndf n ds
end
def Cell.bnd(n:Nat):Option Cell->Bool
 | none=>true
 | some (.lst xs)=>D.bnds n xs
 | some (.dct kvs)=>D.bnds n (kvs.map (·.2))
 | some (.fdc kvs)=>D.bnds n (kvs.map (·.2))
 | some (.ins _ fs)=>D.bnds n (fs.map (·.2))
@[simp] def fin(n:Nat)(d:D)(h:MH):Res D:=
 if h.length<=n then .ok d h else if(d.bnd n&&(h.take n).all (Cell.bnd n))=true then .ok d (h.take n) else .ok d h
@[simp] def mFun(np nn:Nat)(b:MS):MF:=λds h=>if ds.length=np then match b (ds.map some++List.replicate (nn - ds.length) none) h with
 | .nx _ h1=>fin h.length .non h1
 | .rt d h1=>fin h.length d h1
 | .exc c h1=>if h1.length<=h.length then .exc c h1 else if(h1.take h.length).all (Cell.bnd h.length)=true then .exc c (h1.take h.length) else .exc c h1
 | _=> .stuck
 else .stuck
@[simp] def lAdd(a b:ME):ML:=λρ h=>(a ρ h).bind λx h1=>(b ρ h1).bind λy h2=>(oR (asL h2 x) h2).bind λxs h3=>(oR (asL h3 y) h3).bind λys h4=>chk (xs.length+ys.length<=16777216) (.ok (xs++ys) h4)
@[simp] def lListRev(m:ML):ML:=λρ h=>(m ρ h).bind λl h1=>match l with
 | [d]=>(oR (asL h1 d) h1).bind λxs h2=> .ok xs.reverse h2
 | _=> .stuck
@[simp] def lListRng(m:ML):ML:=λρ h=>(m ρ h).bind λl h1=>match l with
 | [.int n]=>chk (n.natAbs<=16777216) (.ok ((List.range n.toNat).map λ(k:Nat)=>D.int (k:Int)) h1)
 | _=> .stuck
@[simp] def jma:List (Sum Int Str×D)->Option (List Int)
  | []=>some []
  | (.inl i,_)::r=>(jma r).map (i::·)
  | (.inr _,_)::_=>none
@[simp] def jlx(h:MH):D->Option (List Int)
 | .ref k=>match h[k]? with
  | some (some (.dct kvs))=>jma kvs
  | _=>none
 | _=>none
@[simp] def fSumD:List D->MH->Res D:=λl h=>match l with
 | [d]=>(oR (jlx h d) h).bind λns h=> .ok (.int ns.sum) h
 | _=> .stuck
def srt(ns:List Int):List Int:=ns.mergeSort (λa b=>decide (a<=b))
@[simp] def lSort(m:ML):ML:=λρ h=>(m ρ h).bind λl h1=>match l with
 | [d]=>match asLi h1 d with
  | some ns=>chk (ns.length<=100000) (.ok ((srt ns).map D.int) h1)
  | none=>(oR (jlx h1 d) h1).bind λns h2=>chk (ns.length<=100000) (.ok ((srt ns).map D.int) h2)
 | _=> .stuck
def mergeD(kvs more:List (Sum Int Str×D)):List (Sum Int Str×D):=more.foldl (λacc kv=>putK acc kv.1 kv.2) kvs
@[simp] def mUpd(mo:ME)(ml:ML):ME:=λρ h=>(mo ρ h).bind λo h1=>match o with
 | .ref k=>match h1[k]? with
  | some (some (.dct _))=>(ml ρ h1).bind λl h2=>match l with
   | [.ref j]=>match h2[k]? with
    | some (some (.dct kvs))=>match h2[j]? with
     | some (some (.dct more))=>chk (k≠j /\ kvs.length+more.length<=16777216) (.ok .non (h2.set k (some (.dct (mergeD kvs more)))))
     | _=> .stuck
    | _=> .stuck
   | _=> .stuck
  | _=> .stuck
 | _=> .stuck
@[simp] def mBits(m:ME):ME:=λρ h=>(m ρ h).bind λd h1=>match d with
 | .int i=> .ok (.int (Builtin.Int.intBits i:Nat)) h1
 | _=> .stuck
@[simp] def mDisp1(mk mv:ME):ME:=λρ h=>(mk ρ h).bind λx h1=>(mv ρ h1).bind λy h2=>match jja x with
 | some k=> .ok (.ref h2.length) (h2++[some (.dct [(k,y)])])
 | none=> .stuck
@[simp] def mDget1(mo mk:ME):ME:=λρ h=>(mo ρ h).bind λo h1=>match o with
 | .ref k=>match h1[k]? with
  | some (some (.dct _))=>(mk ρ h1).bind λy h2=>match jja y with
   | some j=>match h2[k]? with
    | some (some (.dct kvs))=> .ok ((valK kvs j).getD .non) h2
    | _=> .stuck
   | none=> .stuck
  | _=> .stuck
 | _=> .stuck
@[simp] def mDget2(mo mk md:ME):ME:=λρ h=>(mo ρ h).bind λo h1=>match o with
 | .ref k=>match h1[k]? with
  | some (some (.dct _))=>(mk ρ h1).bind λy h2=>match jja y with
   | some j=>(md ρ h2).bind λz h3=>match h3[k]? with
    | some (some (.dct kvs))=> .ok ((valK kvs j).getD z) h3
    | _=> .stuck
   | none=> .stuck
  | _=> .stuck
 | _=> .stuck
@[simp] def ju9(k:Nat)(kvs:List (Sum Int Str×D)):RS->RS
 | .nx ρ h=>match h[k]? with
  | some none=> .nx ρ (h.set k (some (.dct kvs)))
  | _=> .stuck
 | .rt d h=>match h[k]? with
  | some none=> .rt d (h.set k (some (.dct kvs)))
  | _=> .stuck
 | .exc c h=> .exc c h
 | _=> .stuck
@[simp] def sForV(mo:ME)(g:MG)(b:MS):MS:=λρ h=>(mo ρ h).toS λo h1=>match o with
 | .ref k=>match h1[k]? with
  | some (some (.dct kvs))=>ju9 k kvs (jc7 g b (kvs.map (·.2)) ρ (h1.set k none))
  | _=> .stuck
 | _=> .stuck
def keyD:Sum Int Str->D
 | .inl i=> .int i
 | .inr x=> .str x
@[simp] theorem keyD_i(i:Int):keyD (.inl i)= .int i:=rfl
@[simp] theorem keyD_s(x:Str):keyD (.inr x)= .str x:=rfl
@[simp] def jk8(p:Sum Int Str×D):D:= .tup [keyD p.1,p.2]
@[simp] def sForI(mo:ME)(g:MG)(b:MS):MS:=λρ h=>(mo ρ h).toS λo h1=>match o with
 | .ref k=>match h1[k]? with
  | some (some (.dct kvs))=>ju9 k kvs (jc7 g b (kvs.map jk8) ρ (h1.set k none))
  | _=> .stuck
 | _=> .stuck
@[simp] def thawN(k:Nat)(kvs:List (Sum Int Str×D)):Res (List D)->Res (List D)
 | .ok ds h=>match h[k]? with
  | some none=> .ok ds (h.set k (some (.dct kvs)))
  | _=> .stuck
 | .exc c h=> .exc c h
 | .stuck=> .stuck
@[simp] def jw6(nt:Nat)(idx:List Nat)(mo:ME)(g:MG)(t:MT)(m:ME):ML:=λρ h=>(mo ρ h).bind λo h1=>match o with
 | .ref k=>match h1[k]? with
  | some (some (.dct kvs))=>chk (kvs.length<16777216) (thawN k kvs (compLoop g t m (List.replicate nt none++caps idx ρ) (kvs.map jk8) (h1.set k none)))
  | _=> .stuck
 | _=> .stuck
@[simp] def lRep(ma mb:ME):ML:=λρ h=>(ma ρ h).bind λx h1=>(mb ρ h1).bind λy h2=>match y with
 | .int k=>(oR (asL h2 x) h2).bind λa h=>chk (k.natAbs<9223372036854775808 /\ a.length*k.toNat<=16777216) (.ok (List.replicate k.toNat a).flatten h)
 | _=> .stuck
@[simp] def jx7(k:Nat)(kvs:List (Sum Int Str×D)):RS->RS
 | .nx ρ h=>match h[k]? with
  | some (some (.fdc _))=> .nx ρ (h.set k (some (.dct kvs)))
  | _=> .stuck
 | .rt d h=>match h[k]? with
  | some (some (.fdc _))=> .rt d (h.set k (some (.dct kvs)))
  | _=> .stuck
 | .exc c h=> .exc c h
 | _=> .stuck
@[simp] def sForK(mo:ME)(g:MG)(b:MS):MS:=λρ h=>(mo ρ h).toS λo h1=>match o with
 | .ref k=>match h1[k]? with
  | some (some (.dct kvs))=>jx7 k kvs (jc7 g b (kvs.map λp=>keyD p.1) ρ (h1.set k (some (.fdc kvs))))
  | _=> .stuck
 | _=> .stuck
def jm1(kvs:List (Sum Int Str×D))(k:Sum Int Str):List (Sum Int Str×D):=kvs.filter λkv=>decide (kv.1≠k)
@[simp] def jsz(mo mk:ME):ME:=λρ h=>(mo ρ h).bind λo h1=>match o with
 | .ref k=>match h1[k]? with
  | some (some (.dct _))=>(mk ρ h1).bind λy h2=>match jja y with
   | some j=>match h2[k]? with
    | some (some (.dct kvs))=>match valK kvs j with
     | some v=> .ok v (h2.set k (some (.dct (jm1 kvs j))))
     | none=> .stuck
    | _=> .stuck
   | none=> .stuck
  | _=> .stuck
 | _=> .stuck
def xT(ns:List (Bool×String))(l:List (String×List Bool)):List ((String×Bool×String)×Bool):=l.flatMap λp=>(ns.zip p.2).map λq=>((p.1,q.1.1,q.1.2),q.2)
@[simp] def sExtend(mo me:ME):MS:=λρ h=>(mo ρ h).toS λo h1=>match o with
 | .ref k=>match h1[k]? with
  | some (some (.lst _))=>(me ρ h1).toS λd h2=>match h2[k]? with
   | some (some (.lst xs))=>match asL h2 d with
    | some ys=>if xs.length+ys.length<=16777216 then .nx ρ (h2.set k (some (.lst (xs++ys)))) else .stuck
    | none=> .stuck
   | _=> .stuck
  | _=> .stuck
 | _=> .stuck
@[simp] def jwp(mo:ME):MS:=λρ h=>(mo ρ h).toS λo h1=>match o with
 | .ref k=>match h1[k]? with
  | some (some (.lst _))=> .nx ρ (h1.set k (some (.lst [])))
  | _=> .stuck
 | _=> .stuck
@[simp] def jiq(m:ML):ML:=λρ h=>(m ρ h).bind λl h1=>match l with
 | [d]=>(oR (jlx h1 d) h1).bind λns h2=>chk (ns.length<64) (.ok ((srt ns).map D.int) h2)
 | _=> .stuck
@[simp] def mDcopy(m:ML):ME:=λρ h=>(m ρ h).bind λl h1=>match l with
 | [.ref k]=>match h1[k]? with
  | some (some (.dct kvs))=> .ok (.ref h1.length) (h1++[some (.dct kvs)])
  | _=> .stuck
 | _=> .stuck
end Z
set_option maxHeartbeats 4000000
namespace L2
open PySem PySem.Spec
structure Ct where
 P:Program
 w:World
 K:W.Frag
 cm:String->Addr
def fv:Z.D->Option V
 | .non=>some .non
 | .bl b=>some (.bl b)
 | .int i=>some (.int i)
 | .str x=>some (.str x)
 | _=>none
section
variable (C : Ct)
mutual
def RV(bs:List Addr)(G:Hp):V->Z.D->Prop
 | v,.non=>v= .non
 | v,.bl b=>v= .bl b
 | v,.int i=>v= .int i
 | v,.str x=>v= .str x
 | v,.tup ds=>∃a vs,v= .ref a /\ G a=some (.tup vs) /\ RVs bs G vs ds
 | v,.lst ds=>∃a vs,v= .ref a /\ G a=some (.lst vs) /\ RVs bs G vs ds
 | v,.arg ns=>∃a,v= .ref a /\ SqL C.K G a (ns.map V.int)
 | v,.ref k=>∃a,v= .ref a /\ bs[k]?=some a
 | v,.ty n=>v= .ty n
 | v,.cls n=>v= .ref (C.cm n)
 | v,.exc c=>∃a oe u,v= .ref a /\ G a=some (.frz oe u) /\ oe.cls= .ref (C.cm c)
 | v,.obj c fs=>∃a dx fvs,v= .ref a /\ G a=some (.ins (C.cm c) dx fvs) /\ RVf bs G fvs fs
 | v,.dic kvs=>∃a kws,v= .ref a /\ KDict C.P C.w C.K a kws /\ kvs.map (λp=>(p.1,fv p.2))=kws.map (λp=>(p.1,some p.2))
def RVs(bs:List Addr)(G:Hp):List V->List Z.D->Prop
 | [],[]=>True
 | v::vs,d::ds=>RV bs G v d /\ RVs bs G vs ds
 | _,_=>False
def RVf(bs:List Addr)(G:Hp):List (Str×V)->List (Str×Z.D)->Prop
  | [],[]=>True
  | (x,v)::vs,(y,d)::ds=>x=y /\ RV bs G v d /\ RVf bs G vs ds
  | _,_=>False
def RVk(bs:List Addr)(G:Hp):List (Key×V)->List (Sum Int Str×Z.D)->Prop
  | [],[]=>True
  | (x,v)::vs,(y,d)::ds=>x=y /\ RV bs G v d /\ RVk bs G vs ds
  | _,_=>False
end
end
theorem Same.sql{K:W.Frag}{H H':Hp}{a:Addr}{xs:List V}(e:Same H H')(h:SqL K H a xs):SqL K H' a xs:=by
 rcases h with(h | ⟨o,h⟩) | h
 ·exact .inl (.inl (e _ _ h))
 ·exact .inl (.inr ⟨o,e _ _ h⟩)
 ·exact .inr h
section
variable {C : Ct}
mutual
theorem RV.mono{bs bs':List Addr}{G G':Hp}(hb:∀(k:Nat) (a:Addr),bs[k]?=some a->bs'[k]?=some a)(hs:Same G G'):∀{d:Z.D} {v:V},RV C bs G v d->RV C bs' G' v d
 | .non,v,h=>by simp only[RV] at h ⊢;exact h
 | .bl b,v,h=>by simp only[RV] at h ⊢;exact h
 | .int i,v,h=>by simp only[RV] at h ⊢;exact h
 | .str x,v,h=>by simp only[RV] at h ⊢;exact h
 | .tup ds,v,h=>by
  simp only[RV] at h ⊢
  obtain⟨a,vs,h1,h2,h3⟩:=h
  exact⟨a,vs,h1,hs _ _ h2,RVs.mono hb hs h3⟩
 | .lst ds,v,h=>by
  simp only[RV] at h ⊢
  obtain⟨a,vs,h1,h2,h3⟩:=h
  exact⟨a,vs,h1,hs _ _ h2,RVs.mono hb hs h3⟩
 | .arg ns,v,h=>by
  simp only[RV] at h ⊢
  obtain⟨a,h1,h2⟩:=h
  exact⟨a,h1,hs.sql h2⟩
 | .ref k,v,h=>by
  simp only[RV] at h ⊢
  obtain⟨a,h1,h2⟩:=h
  exact⟨a,h1,hb _ _ h2⟩
 | .ty n,v,h=>by simp only[RV] at h ⊢;exact h
 | .cls n,v,h=>by simp only[RV] at h ⊢;exact h
 | .exc n,v,h=>by
  simp only[RV] at h ⊢
  obtain⟨a,oe,u,h1,h2,h3⟩:=h
  exact⟨a,oe,u,h1,hs _ _ h2,h3⟩
 | .obj c fs,v,h=>by
  simp only[RV] at h ⊢
  obtain⟨a,dx,fvs,h1,h2,h3⟩:=h
  exact⟨a,dx,fvs,h1,hs _ _ h2,RVf.mono hb hs h3⟩
 | .dic kvs,v,h=>by simp only[RV] at h ⊢;exact h
theorem RVs.mono{bs bs':List Addr}{G G':Hp}(hb:∀(k:Nat) (a:Addr),bs[k]?=some a->bs'[k]?=some a)(hs:Same G G'):∀{ds:List Z.D} {vs:List V},RVs C bs G vs ds->RVs C bs' G' vs ds
 | [],[],_=>by simp only[RVs]
 | d::ds,v::vs,h=>by
  simp only[RVs] at h ⊢
  exact⟨RV.mono hb hs h.1,RVs.mono hb hs h.2⟩
 | [],_::_,h=>by simp only[RVs] at h
 | _::_,[],h=>by simp only[RVs] at h
theorem RVf.mono{bs bs':List Addr}{G G':Hp}(hb:∀(k:Nat) (a:Addr),bs[k]?=some a->bs'[k]?=some a)(hs:Same G G'):∀{ds:List (Str×Z.D)} {vs:List (Str×V)},RVf C bs G vs ds->RVf C bs' G' vs ds
  | [],[],_=>by simp only[RVf]
  | (y,d)::ds,(x,v)::vs,h=>by
    simp only[RVf] at h ⊢
    exact⟨h.1,RV.mono hb hs h.2.1,RVf.mono hb hs h.2.2⟩
  | [],_::_,h=>by simp only[RVf] at h
  | _::_,[],h=>by simp only[RVf] at h
theorem RVk.mono{bs bs':List Addr}{G G':Hp}(hb:∀(k:Nat) (a:Addr),bs[k]?=some a->bs'[k]?=some a)(hs:Same G G'):∀{ds:List (Sum Int Str×Z.D)} {vs:List (Key×V)},RVk C bs G vs ds->RVk C bs' G' vs ds
  | [],[],_=>by simp only[RVk]
  | (y,d)::ds,(x,v)::vs,h=>by
    simp only[RVk] at h ⊢
    exact⟨h.1,RV.mono hb hs h.2.1,RVk.mono hb hs h.2.2⟩
  | [],_::_,h=>by simp only[RVk] at h
  | _::_,[],h=>by simp only[RVk] at h
end
def lv(bs:List Addr)(h:Z.MH)(a:Addr):Prop:=∃(k:Nat) (c:Z.Cell),bs[k]?=some a /\ h[k]?=some (some c) /\ c.live=true
open Classical in
def gh(ex bs:List Addr)(h:Z.MH)(H:Hp):Hp:=λa=>if a∈ex \/ lv bs h a then none else H a
theorem jbd{ex bs:List Addr}{h:Z.MH}{H:Hp}{a:Addr}{o:HO}:gh ex bs h H a=some o↔a∉ex /\ ¬lv bs h a /\ H a=some o:=by
 unfold gh
 by_cases q:a∈ex \/ lv bs h a
 ·rw[if_pos q]
  constructor
  ·intro z;cases z
  ·rintro⟨h1,h2,_⟩
   rcases q with q | q
   ·exact absurd q h1
   ·exact absurd q h2
 ·rw[if_neg q]
  exact⟨λz=>⟨λm=>q (.inl m),λm=>q (.inr m),z⟩,λz=>z.2.2⟩
theorem jbn{ex bs:List Addr}{h:Z.MH}{H:Hp}:Same (gh ex bs h H) H:=λa o e=>(jbd.mp e).2.2
def jet(C:Ct)(bs:List Addr)(G H:Hp)(a:Addr):Z.Cell->Prop
 | .lst ds=>∃vs,H a=some (.lst vs) /\ RVs C bs G vs ds
 | .dct kvs=>∃kws,H a=some (.dK kws) /\ RVk C bs G kws kvs
 | .ins c fs=>∃dx fvs,H a=some (.ins (C.cm c) dx fvs) /\ RVf C bs G fvs fs
 | .fdc kvs=>∃o kws,G a=some (.frz o (.dK kws)) /\ o.cls= .type "dict" /\ RVk C bs G kws kvs
theorem jet.mono{bs bs':List Addr}{G G' H H':Hp}{a:Addr}{c:Z.Cell}(hb:∀(k:Nat) (a:Addr),bs[k]?=some a->bs'[k]?=some a)(hs:Same G G')(e:H' a=H a)(h:jet C bs G H a c):jet C bs' G' H' a c:=by
 cases c with
 | lst ds=>obtain⟨vs,h1,h2⟩:=h;exact⟨vs,by rw[e];exact h1,h2.mono hb hs⟩
 | dct kvs=>obtain⟨vs,h1,h2⟩:=h;exact⟨vs,by rw[e];exact h1,h2.mono hb hs⟩
 | ins c fs=>obtain⟨dx,vs,h1,h2⟩:=h;exact⟨dx,vs,by rw[e];exact h1,h2.mono hb hs⟩
 | fdc kvs=>obtain⟨o,vs,h1,hc,h2⟩:=h;exact⟨o,vs,hs _ _ h1,hc,h2.mono hb hs⟩
structure HR (C:Ct) (ex bs:List Addr) (h:Z.MH) (H:Hp):Prop where
 len:bs.length=h.length
 inj:∀(i j:Nat) (a:Addr),bs[i]?=some a->bs[j]?=some a->i=j
 sep:∀a∈ex,a∉bs
 dom:∀a∈bs,H a≠none
 domx:∀a∈ex,H a≠none
 cell:∀(k:Nat) (a:Addr) (c:Z.Cell),bs[k]?=some a->h[k]?=some (some c)->jet C bs (gh ex bs h H) H a c
structure Ev (C:Ct) (ex bs:List Addr) (h:Z.MH) (H:Hp) (bs':List Addr) (h':Z.MH) (H':Hp):Prop where
 pre:∀(k:Nat) (a:Addr),bs[k]?=some a->bs'[k]?=some a
 hr:HR C ex bs' h' H'
 same:Same (gh ex bs h H) (gh ex bs' h' H')
 exs:∀a∈ex,H' a=H a
variable {ex bs bs1 bs2 : List Addr} {h h1 h2 : Z.MH} {H H1 H2 : Hp}
theorem Ev.refl(r:HR C ex bs h H):Ev C ex bs h H bs h H:=⟨λ_ _ e=>e,r,Same.refl _,λ_ _=>rfl⟩
theorem Ev.trans(a:Ev C ex bs h H bs1 h1 H1)(b:Ev C ex bs1 h1 H1 bs2 h2 H2):Ev C ex bs h H bs2 h2 H2:=
 ⟨λk x e=>b.pre k x (a.pre k x e),b.hr,a.same.trans b.same,λx hx=>(b.exs x hx).trans (a.exs x hx)⟩
theorem RV.ev{v:V}{d:Z.D}(e:Ev C ex bs h H bs1 h1 H1)(r:RV C bs (gh ex bs h H) v d):RV C bs1 (gh ex bs1 h1 H1) v d:=r.mono e.pre e.same
theorem RVs.ev{v:List V}{d:List Z.D}(e:Ev C ex bs h H bs1 h1 H1)(r:RVs C bs (gh ex bs h H) v d):RVs C bs1 (gh ex bs1 h1 H1) v d:=r.mono e.pre e.same
def RE(C:Ct)(bs:List Addr)(G:Hp)(ρ:Z.Ro)(σ:St):Prop:=ρ.length=σ.length /\ ∀(i:Nat) (d:Z.D),ρ[i]?=some (some d)->∃v,σ[i]?=some (some v) /\ RV C bs G v d
theorem RE.ev{ρ:Z.Ro}{σ:St}(e:Ev C ex bs h H bs1 h1 H1)(r:RE C bs (gh ex bs h H) ρ σ):RE C bs1 (gh ex bs1 h1 H1) ρ σ:=
 ⟨r.1,λi d q=>by obtain⟨v,h1,h2⟩:=r.2 i d q;exact⟨v,h1,h2.ev e⟩⟩
theorem RE.set{G:Hp}{ρ:Z.Ro}{σ:St}{i:Nat}{d:Z.D}{v:V}(r:RE C bs G ρ σ)(q:RV C bs G v d):RE C bs G (ρ.set i (some d)) (σ.set i (some v)):=by
 refine⟨by simp[r.1],λj e hj=> ?_⟩
 by_cases hij:i=j
 ·subst hij
  rw[List.getElem?_set_self'] at hj
  have hl:i<ρ.length:=by
   by_cases hl:i<ρ.length
   ·exact hl
   ·rw[List.getElem?_eq_none (by omega)] at hj;simp at hj
  rw[List.getElem?_eq_getElem hl] at hj
  simp at hj
  subst hj
  refine⟨v,?_,q⟩
  rw[List.getElem?_set_self (by rw[<-r.1];exact hl)]
 ·rw[List.getElem?_set_ne hij] at hj
  obtain⟨u,h1,h2⟩:=r.2 j e hj
  exact⟨u,by rw[List.getElem?_set_ne hij];exact h1,h2⟩
def Post(C:Ct)(ex:List Addr)(E:XK)(bs:List Addr)(h:Z.MH)(H:Hp){α β:Type}(R:List Addr->Hp->β->α->Prop)(r:Z.Res α)(Q:β->Hp->Prop):Prop:=match r with
 | .ok a h'=>∀b bs' H',Ev C ex bs h H bs' h' H'->R bs' (gh ex bs' h' H') b a->Q b H'
 | .exc c h'=>∀bs' H',Ev C ex bs h H bs' h' H'->E (.ref (C.cm c)) none H'
 | .stuck=>False
variable {E : XK} {α β γ δ : Type} {R : List Addr -> Hp -> β -> α -> Prop} {R1 : List Addr -> Hp -> β -> α -> Prop} {R3 : List Addr -> Hp -> δ -> γ -> Prop}
theorem Post.from{r:Z.Res α}{Q:β->Hp->Prop}(e:Ev C ex bs h H bs1 h1 H1)(p:Post C ex E bs h H R r Q):Post C ex E bs1 h1 H1 R r Q:=by
 cases r with
 | ok a h'=>exact λb bs' H' e' q=>p b bs' H' (e.trans e') q
 | exc c h'=>exact λbs' H' e'=>p bs' H' (e.trans e')
 | stuck=>exact p
theorem Post.bind{r:Z.Res α}{f:α->Z.MH->Z.Res γ}{Q:δ->Hp->Prop}{Q1:β->Hp->Prop}(p:Post C ex E bs h H R3 (r.bind f) Q)
  (k:∀a b h1 bs1 H1,Ev C ex bs h H bs1 h1 H1->R1 bs1 (gh ex bs1 h1 H1) b a->Post C ex E bs1 h1 H1 R3 (f a h1) Q->Q1 b H1):Post C ex E bs h H R1 r Q1:=by
 cases r with
 | ok a h'=>exact λb bs' H' e' q=>k a b h' bs' H' e' q (Post.from e' p)
 | exc c h'=>exact p
 | stuck=>exact p
theorem Post.now{a:α}{b:β}{Q:β->Hp->Prop}(hr:HR C ex bs h H)(p:Post C ex E bs h H R (.ok a h) Q)(q:R bs (gh ex bs h H) b a):Q b H:=p b bs H (Ev.refl hr) q
theorem Post.chk{c:Prop}[Decidable c]{r:Z.Res α}{Q:β->Hp->Prop}(p:Post C ex E bs h H R (Z.chk c r) Q):c /\ Post C ex E bs h H R r Q:=by
 unfold Z.chk at p
 by_cases q:c
 ·rw[if_pos q] at p;exact⟨q,p⟩
 ·rw[if_neg q] at p;exact p.elim
theorem Post.oR{o:Option α}{f:α->Z.MH->Z.Res γ}{Q:δ->Hp->Prop}(p:Post C ex E bs h H R3 ((Z.oR o h1).bind f) Q):∃a,o=some a /\ Post C ex E bs h H R3 (f a h1) Q:=by
 cases o with
 | none=>exact p.elim
 | some a=>exact⟨a,rfl,p⟩
theorem Post.oR1{o:Option α}{Q:β->Hp->Prop}(p:Post C ex E bs h H R (Z.oR o h1) Q):∃a,o=some a /\ Post C ex E bs h H R (.ok a h1) Q:=by
 cases o with
 | none=>exact p.elim
 | some a=>exact⟨a,rfl,p⟩
def Snd(C:Ct)(E:XK){α β:Type}(R:List Addr->Hp->β->α->Prop)(t:St->Hp->(β->Hp->Prop)->Prop)(m:Z.Ro->Z.MH->Z.Res α):Prop:=
 ∀(ex bs:List Addr) (h:Z.MH) (ρ:Z.Ro) (σ:St) (H:Hp) (Q:β->Hp->Prop),HR C ex bs h H->RE C bs (gh ex bs h H) ρ σ->Post C ex E bs h H R (m ρ h) Q->t σ H Q
abbrev SE(C:Ct)(E:XK)(t:TE)(m:Z.ME):Prop:=Snd C E (RV C) t m
abbrev SA(C:Ct)(E:XK)(t:TA)(m:Z.ML):Prop:=Snd C E (RVs C) t m
def REq{α:Type}:List Addr->Hp->α->α->Prop:=λ_ _ b a=>b=a
abbrev ST(C:Ct)(E:XK)(t:TT)(m:Z.MT):Prop:=Snd C E REq t m
abbrev SO(C:Ct)(E:XK)(t:TO)(m:Z.MO):Prop:=Snd C E REq t m
def S2(C:Ct)(r:R2)(f:Z.B2):Prop:=∀(ex bs:List Addr) (h:Z.MH) (H:Hp) (E:XK) (x y:V) (dx dy:Z.D) (Q:VK),HR C ex bs h H->RV C bs (gh ex bs h H) x dx->RV C bs (gh ex bs h H) y dy->Post C ex E bs h H (RV C) (f dx dy h) Q->r x y H Q
def S1(C:Ct)(r:V->Hp->VK->Prop)(f:Z.D->Z.MH->Z.Res Z.D):Prop:=∀(ex bs:List Addr) (h:Z.MH) (H:Hp) (E:XK) (x:V) (dx:Z.D) (Q:VK),HR C ex bs h H->RV C bs (gh ex bs h H) x dx->Post C ex E bs h H (RV C) (f dx h) Q->r x H Q
def SL(C:Ct)(r:List V->Hp->VK->Prop)(f:List Z.D->Z.MH->Z.Res Z.D):Prop:=∀(ex bs:List Addr) (h:Z.MH) (H:Hp) (E:XK) (xs:List V) (ds:List Z.D) (Q:VK),HR C ex bs h H->RVs C bs (gh ex bs h H) xs ds->Post C ex E bs h H (RV C) (f ds h) Q->r xs H Q
theorem ja2{i:Nat}:SE C E (tVar i) (Z.mVar i):=by
 intro ex bs h ρ σ H Q hr re p
 unfold Z.mVar at p
 cases q:ρ[i]? with
 | none=>rw[q] at p;exact p.elim
 | some o=>
  cases o with
  | none=>rw[q] at p;exact p.elim
  | some d=>
   rw[q] at p
   obtain⟨v,h1,h2⟩:=re.2 i d q
   exact⟨v,h1,p.now hr h2⟩
theorem s_c{v:V}{d:Z.D}(q:∀bs G,RV C bs G v d):SE C E (tC v) (Z.mC d):=λex bs h ρ σ H Q hr re p=>Post.now hr p (q _ _)
theorem ja8{i:Int}:SE C E (tC (.int i)) (Z.mC (.int i)):=s_c λ_ _=>by simp only[RV]
theorem jba{i:Str}:SE C E (tC (.str i)) (Z.mC (.str i)):=s_c λ_ _=>by simp only[RV]
theorem s_bl{i:Bool}:SE C E (tC (.bl i)) (Z.mC (.bl i)):=s_c λ_ _=>by simp only[RV]
theorem s_non:SE C E (tC .non) (Z.mC .non):=s_c λ_ _=>by simp only[RV]
theorem s_ty{n:String}:SE C E (tC (.ty n)) (Z.mC (.ty n)):=s_c λ_ _=>by simp only[RV]
theorem s_op{r:R2}{f:Z.B2}{ta tb:TE}{ma mb:Z.ME}(o:S2 C r f)(ha:SE C E ta ma)(hb:SE C E tb mb):SE C E (tOp r ta tb) (Z.mBin f ma mb):=by
 intro ex bs h ρ σ H Q hr re p
 refine ha ex bs h ρ σ H _ hr re (p.bind λdx x h1 bs1 H1 e1 rx p1=> ?_)
 refine hb ex bs1 h1 ρ σ H1 _ e1.hr (re.ev e1) (p1.bind λdy y h2 bs2 H2 e2 ry p2=> ?_)
 exact o ex bs2 h2 H2 E x y dx dy Q e2.hr (rx.ev e2) ry p2
theorem s_un{r:V->Hp->VK->Prop}{f:Z.D->Z.MH->Z.Res Z.D}{ta:TE}{ma:Z.ME}(o:S1 C r f)(ha:SE C E ta ma):SE C E (tUn r ta) (Z.mUn f ma):=by
 intro ex bs h ρ σ H Q hr re p
 refine ha ex bs h ρ σ H _ hr re (p.bind λdx x h1 bs1 H1 e1 rx p1=> ?_)
 exact o ex bs1 h1 H1 E x dx Q e1.hr rx p1
theorem jaa:SA C E tNil Z.mNil:=λex bs h ρ σ H Q hr re p=>Post.now hr p (by simp only[RVs])
theorem ja1{ta:TE}{tl:TA}{ma:Z.ME}{ml:Z.ML}(ha:SE C E ta ma)(hl:SA C E tl ml):SA C E (jy7 ta tl) (Z.ja3 ma ml):=by
 intro ex bs h ρ σ H Q hr re p
 refine ha ex bs h ρ σ H _ hr re (p.bind λdx x h1 bs1 H1 e1 rx p1=> ?_)
 refine hl ex bs1 h1 ρ σ H1 _ e1.hr (re.ev e1) (p1.bind λdy y h2 bs2 H2 e2 ry p2=> ?_)
 exact Post.now e2.hr p2 (by simp only[RVs];exact⟨rx.ev e2,ry⟩)
theorem s_cb{r:List V->Hp->VK->Prop}{f:List Z.D->Z.MH->Z.Res Z.D}{tl:TA}{ml:Z.ML}(o:SL C r f)(hl:SA C E tl ml):SE C E (tCB r tl) (Z.mFn f ml):=by
 intro ex bs h ρ σ H Q hr re p
 refine hl ex bs h ρ σ H _ hr re (p.bind λdx x h1 bs1 H1 e1 rx p1=> ?_)
 exact o ex bs1 h1 H1 E x dx Q e1.hr rx p1
theorem RVs.len{bs:List Addr}{G:Hp}:∀{ds:List Z.D} {vs:List V},RVs C bs G vs ds->vs.length=ds.length
 | [],[],_=>rfl
 | d::ds,v::vs,h=>by simp only[RVs] at h;simp[RVs.len h.2]
 | [],_::_,h=>by simp only[RVs] at h
 | _::_,[],h=>by simp only[RVs] at h
theorem Ev.alloc{p:Addr}{o:HO}(hr:HR C ex bs h H)(hp:H p=none):Ev C ex bs h H bs h (upd H p o) /\ gh ex bs h (upd H p o) p=some o:=by
 have nx:p∉ex:=λm=>hr.domx p m hp
 have nb:p∉bs:=λm=>hr.dom p m hp
 have nl:¬lv bs h p:=λ⟨k,c,e,_⟩=>nb (List.mem_of_getElem? e)
 have ne:∀{a},H a≠none->a≠p:=fun{a} q e=>q (by rw[e];exact hp)
 have sm:Same (gh ex bs h H) (gh ex bs h (upd H p o)):=λa u e=>by
  obtain⟨h1,h2,h3⟩:=jbd.mp e
  exact jbd.mpr ⟨h1,h2,by rw[jae (ne (by rw[h3];exact λz=>nomatch z))];exact h3⟩
 refine⟨⟨λ_ _ e=>e,⟨hr.len,hr.inj,hr.sep,λa m=> ?_,λa m=> ?_,λk a c e1 e2=> ?_⟩,sm,λa m=> ?_⟩,jbd.mpr ⟨nx,nl,jaz⟩⟩
 ·rw[jae (ne (hr.dom a m))];exact hr.dom a m
 ·rw[jae (ne (hr.domx a m))];exact hr.domx a m
 ·exact(hr.cell k a c e1 e2).mono (λ_ _ e=>e) sm (by rw[jae (ne (hr.dom a (List.mem_of_getElem? e1)))])
 ·rw[jae (ne (hr.domx a m))]
theorem jfs{tl:TA}{ml:Z.ML}(hl:SA C E tl ml):SE C E (tTup tl) (Z.mTup ml):=by
 intro ex bs h ρ σ H Q hr re p
 refine hl ex bs h ρ σ H _ hr re (p.bind λds xs h1 bs1 H1 e1 rx p1=> ?_)
 obtain⟨hz,p1⟩:=p1.chk
 refine⟨by rw[rx.len];exact hz,λa ha=> ?_⟩
 obtain⟨e2,g⟩:=Ev.alloc (o:= .tup xs) e1.hr ha
 exact p1 (.ref a) bs1 _ e2 (by simp only[RV];exact⟨a,xs,rfl,g,rx.ev e2⟩)
def jdb(C:Ct)(ex:List Addr)(E:XK)(bs:List Addr)(h:Z.MH)(H:Hp)(r:Z.Res (List Z.D))(Q:VK):Prop:=match r with
 | .ok ds h'=>∀p vs bs' H1,Ev C ex bs h H bs' h' H1->H1 p=none->RVs C bs' (gh ex bs' h' H1) vs ds->Q (.ref p) (upd H1 p (.lst vs))
 | .exc c h'=>∀bs' H',Ev C ex bs h H bs' h' H'->E (.ref (C.cm c)) none H'
 | .stuck=>False
def SN(C:Ct)(E:XK)(t:TE)(m:Z.ML):Prop:=
 ∀(ex bs:List Addr) (h:Z.MH) (ρ:Z.Ro) (σ:St) (H:Hp) (Q:VK),HR C ex bs h H->RE C bs (gh ex bs h H) ρ σ->jdb C ex E bs h H (m ρ h) Q->t σ H Q
theorem jdb.from{r:Z.Res (List Z.D)}{Q:VK}(e:Ev C ex bs h H bs1 h1 H1)(p:jdb C ex E bs h H r Q):jdb C ex E bs1 h1 H1 r Q:=by
 cases r with
 | ok a h'=>exact λb vs bs' H' e' hn q=>p b vs bs' H' (e.trans e') hn q
 | exc c h'=>exact λbs' H' e'=>p bs' H' (e.trans e')
 | stuck=>exact p
theorem jdb.bind{r:Z.Res α}{f:α->Z.MH->Z.Res (List Z.D)}{Q:VK}{Q1:β->Hp->Prop}(p:jdb C ex E bs h H (r.bind f) Q)
  (k:∀a b h1 bs1 H1,Ev C ex bs h H bs1 h1 H1->R1 bs1 (gh ex bs1 h1 H1) b a->jdb C ex E bs1 h1 H1 (f a h1) Q->Q1 b H1):Post C ex E bs h H R1 r Q1:=by
 cases r with
 | ok a h'=>exact λb bs' H' e' q=>k a b h' bs' H' e' q (jdb.from e' p)
 | exc c h'=>exact p
 | stuck=>exact p
theorem jdb.chk{c:Prop}[Decidable c]{r:Z.Res (List Z.D)}{Q:VK}(p:jdb C ex E bs h H (Z.chk c r) Q):c /\ jdb C ex E bs h H r Q:=by
 unfold Z.chk at p
 by_cases q:c
 ·rw[if_pos q] at p;exact⟨q,p⟩
 ·rw[if_neg q] at p;exact p.elim
theorem jdb.now{ds:List Z.D}{Q:VK}{p:Addr}{vs:List V}(hr:HR C ex bs h H)(q:jdb C ex E bs h H (.ok ds h) Q)(hp:H p=none)(r:RVs C bs (gh ex bs h H) vs ds):Q (.ref p) (upd H p (.lst vs)):=q p vs bs H (Ev.refl hr) hp r
theorem jbb{t:TE}{m:Z.ML}(hn:SN C E t m):SE C E t (Z.jbh m):=by
 intro ex bs h ρ σ H Q hr re p
 refine hn ex bs h ρ σ H Q hr re ?_
 unfold Z.jbh at p
 cases e:m ρ h with
 | ok ds h1=>
  rw[e] at p
  intro a vs bs1 H1 e1 ha rv
  obtain⟨e2,g⟩:=Ev.alloc (o:= .lst vs) e1.hr ha
  exact p (.ref a) bs1 _ (e1.trans e2) (by simp only[RV];exact⟨a,vs,rfl,g,rv.ev e2⟩)
 | exc c h1=>rw[e] at p;exact p
 | stuck=>rw[e] at p;exact p
theorem jgs{α:Type}{l:List α}{a x:α}{k:Nat}(e:l[k]?=some a):(l++[x])[k]?=some a:=by
 rw[List.getElem?_append_left (List.getElem?_eq_some_iff.mp e).1];exact e
theorem jbv{α:Type}{l:List α}{a x:α}{k:Nat}(e:(l++[x])[k]?=some a):l[k]?=some a \/ (k=l.length /\ a=x):=by
 by_cases hk:k<l.length
 ·rw[List.getElem?_append_left hk] at e;exact .inl e
 ·rw[List.getElem?_append_right (by omega)] at e
  by_cases hk2:k=l.length
  ·subst hk2;simp at e;exact .inr ⟨rfl,e.symm⟩
  ·rw[List.getElem?_eq_none (by simp;omega)] at e;cases e
theorem Ev.cell{p:Addr}{o:HO}{c:Z.Cell}(hr:HR C ex bs h H)(hp:H p=none)(hc:jet C bs (gh ex bs h H) (upd H p o) p c):Ev C ex bs h H (bs++[p]) (h++[some c]) (upd H p o):=by
 have nx:p∉ex:=λm=>hr.domx p m hp
 have nb:p∉bs:=λm=>hr.dom p m hp
 have ne:∀{a},H a≠none->a≠p:=fun{a} q e=>q (by rw[e];exact hp)
 have hb:∀(k:Nat) (a:Addr),bs[k]?=some a->(bs++[p])[k]?=some a:=λk a e=>jgs e
 have lvs:∀a,lv (bs++[p]) (h++[some c]) a->lv bs h a \/ a=p:=λa ⟨k,c',e1,e2,l2⟩=>by
  rcases jbv e1 with e1 | ⟨_,e1⟩
  ·rcases jbv e2 with e2 | ⟨e2,_⟩
   ·exact .inl ⟨k,c',e1,e2,l2⟩
   ·have:=(List.getElem?_eq_some_iff.mp e1).1
    have:=hr.len
    omega
  ·exact .inr e1
 have sm:Same (gh ex bs h H) (gh ex (bs++[p]) (h++[some c]) (upd H p o)):=λa u e=>by
  obtain⟨h1,h2,h3⟩:=jbd.mp e
  have na:a≠p:=ne (by rw[h3];exact λz=>nomatch z)
  refine jbd.mpr ⟨h1,λl=> ?_,by rw[jae na];exact h3⟩
  rcases lvs a l with l | l
  ·exact h2 l
  ·exact na l
 refine⟨hb,⟨by simp[hr.len],λi j a e1 e2=> ?_,λa m=> ?_,λa m=> ?_,λa m=> ?_,λk a c' e1 e2=> ?_⟩,sm,λa m=> ?_⟩
 ·rcases jbv e1 with e1 | ⟨k1,e1⟩
  ·rcases jbv e2 with e2 | ⟨k2,e2⟩
   ·exact hr.inj i j a e1 e2
   ·rw[e2] at e1;exact absurd (List.mem_of_getElem? e1) nb
  ·rcases jbv e2 with e2 | ⟨k2,e2⟩
   ·rw[e1] at e2;exact absurd (List.mem_of_getElem? e2) nb
   ·omega
 ·intro z
  rcases List.mem_append.mp z with z | z
  ·exact hr.sep a m z
  ·exact nx (by rw[<-(show a=p by simpa using z)];exact m)
 ·rcases List.mem_append.mp m with m | m
  ·rw[jae (ne (hr.dom a m))];exact hr.dom a m
  ·rw[show a=p by simpa using m,jaz];exact λz=>nomatch z
 ·rw[jae (ne (hr.domx a m))];exact hr.domx a m
 ·rcases jbv e1 with e1 | ⟨k1,e1⟩
  ·rcases jbv e2 with e2 | ⟨k2,e2⟩
   ·exact(hr.cell k a c' e1 e2).mono hb sm (by rw[jae (ne (hr.dom a (List.mem_of_getElem? e1)))])
   ·have:=(List.getElem?_eq_some_iff.mp e1).1
    have:=hr.len
    omega
  ·rcases jbv e2 with e2 | ⟨k2,e2⟩
   ·have:=(List.getElem?_eq_some_iff.mp e2).1
    have:=hr.len
    omega
   ·rw[e1]
    injection e2 with e2
    subst e2
    exact hc.mono hb sm rfl
 ·rw[jae (ne (hr.domx a m))]
theorem jgj{t:TE}{m:Z.ML}(hn:SN C E t m):SE C E t (Z.jga m):=by
 intro ex bs h ρ σ H Q hr re p
 refine hn ex bs h ρ σ H Q hr re ?_
 unfold Z.jga at p
 cases e:m ρ h with
 | ok ds h1=>
  rw[e] at p
  intro a vs bs1 H1 e1 ha rv
  have e2:=Ev.cell (o:= .lst vs) (c:= .lst ds) e1.hr ha ⟨vs,jaz,rv⟩
  refine p (.ref a) (bs1++[a]) _ (e1.trans e2) ?_
  simp only[RV]
  exact⟨a,rfl,by rw[<-e1.hr.len];simp⟩
 | exc c h1=>rw[e] at p;exact p
 | stuck=>rw[e] at p;exact p
theorem jbo{tl:TA}{ml:Z.ML}(hl:SA C E tl ml):SN C E (tLst tl) (Z.jc3 ml):=by
 intro ex bs h ρ σ H Q hr re p
 refine hl ex bs h ρ σ H _ hr re (jdb.bind p λds xs h1 bs1 H1 e1 rx p1=> ?_)
 obtain⟨hz,p1⟩:=p1.chk
 exact⟨by rw[rx.len];exact hz,λa ha=>p1.now e1.hr ha rx⟩
theorem jwv{k:Nat}{a x:Addr}{c c0:Z.Cell}(hk:bs[k]?=some a)(h0:h[k]?=some (some c0))(l1:c.live=true)(l0:c0.live=true):lv bs (h.set k (some c)) x↔lv bs h x:=by
 constructor
 ·rintro⟨j,c',e1,e2,l2⟩
  by_cases hj:k=j
  ·subst hj;exact⟨k,c0,e1,h0,l0⟩
  ·rw[List.getElem?_set_ne hj] at e2;exact⟨j,c',e1,e2,l2⟩
 ·rintro⟨j,c',e1,e2,l2⟩
  by_cases hj:k=j
  ·subst hj;exact⟨k,c,e1,by rw[List.getElem?_set_self (List.getElem?_eq_some_iff.mp h0).1],l1⟩
  ·exact⟨j,c',e1,by rw[List.getElem?_set_ne hj];exact e2,l2⟩
theorem Ev.put{k:Nat}{a:Addr}{o:HO}{c c0:Z.Cell}(hr:HR C ex bs h H)(hk:bs[k]?=some a)(h0:h[k]?=some (some c0))(hc:jet C bs (gh ex bs h H) (upd H a o) a c)(l1:c.live=true:=by rfl)(l0:c0.live=true:=by rfl):
  Ev C ex bs h H bs (h.set k (some c)) (upd H a o):=by
 have la:lv bs h a:=⟨k,c0,hk,h0,l0⟩
 have ab:a∈bs:=List.mem_of_getElem? hk
 have ge:gh ex bs (h.set k (some c)) (upd H a o)=gh ex bs h H:=by
  funext x
  unfold gh
  by_cases q:x∈ex \/ lv bs h x
  ·rw[if_pos q,if_pos (q.imp id (jwv hk h0 l1 l0).mpr)]
  ·rw[if_neg q,if_neg (λz=>q (z.imp id (jwv hk h0 l1 l0).mp)),jae (λz=>q (.inr (by rw[z];exact la)))]
 have na:∀{x},x∈ex->x≠a:=fun{x} m z=>hr.sep x m (by rw[z];exact ab)
 refine⟨λ_ _ e=>e,⟨by simp[hr.len],hr.inj,hr.sep,λx m=> ?_,λx m=> ?_,λj x c' e1 e2=> ?_⟩,by rw[ge];exact Same.refl _,λx m=>by rw[jae (na m)]⟩
 ·by_cases q:x=a
  ·rw[q,jaz];exact λz=>nomatch z
  ·rw[jae q];exact hr.dom x m
 ·rw[jae (na m)];exact hr.domx x m
 ·rw[ge]
  by_cases hj:k=j
  ·subst hj
   rw[hk] at e1;cases e1
   rw[List.getElem?_set_self (List.getElem?_eq_some_iff.mp h0).1] at e2
   cases e2;exact hc
  ·rw[List.getElem?_set_ne hj] at e2
   refine(hr.cell j x c' e1 e2).mono (λ_ _ e=>e) (Same.refl _) ?_
   rw[jae (λz=>hj (hr.inj k j a hk (by rw[<-z];exact e1)))]
theorem Ev.freeze{k:Nat}{a:Addr}{ds:List Z.D}(hr:HR C ex bs h H)(hk:bs[k]?=some a)(h0:h[k]?=some (some (.lst ds))):
  Ev C ex bs h H bs (h.set k none) H /\ RV C bs (gh ex bs (h.set k none) H) (.ref a) (.lst ds):=by
 have ab:a∈bs:=List.mem_of_getElem? hk
 have lvs:∀x,lv bs (h.set k none) x->lv bs h x /\ x≠a:=λx ⟨j,c',e1,e2,l2⟩=>by
  by_cases hj:k=j
  ·subst hj;rw[List.getElem?_set_self (List.getElem?_eq_some_iff.mp h0).1] at e2;cases e2
  ·rw[List.getElem?_set_ne hj] at e2
   exact⟨⟨j,c',e1,e2,l2⟩,λz=>hj (hr.inj k j a hk (by rw[<-z];exact e1))⟩
 have sm:Same (gh ex bs h H) (gh ex bs (h.set k none) H):=λx u e=>by
  obtain⟨h1,h2,h3⟩:=jbd.mp e
  exact jbd.mpr ⟨h1,λl=>h2 (lvs x l).1,h3⟩
 obtain⟨vs,h1,h2⟩:=hr.cell k a _ hk h0
 refine⟨⟨λ_ _ e=>e,⟨by simp[hr.len],hr.inj,hr.sep,hr.dom,hr.domx,λj x c' e1 e2=> ?_⟩,sm,λ_ _=>rfl⟩,?_⟩
 ·by_cases hj:k=j
  ·subst hj;rw[List.getElem?_set_self (List.getElem?_eq_some_iff.mp h0).1] at e2;cases e2
  ·rw[List.getElem?_set_ne hj] at e2
   exact(hr.cell j x c' e1 e2).mono (λ_ _ e=>e) sm rfl
 ·simp only[RV]
  exact⟨a,vs,rfl,jbd.mpr ⟨λm=>hr.sep a m ab,λl=>(lvs a l).2 rfl,h1⟩,h2.mono (λ_ _ e=>e) sm⟩
def spZ(C:Ct)(z:Z.MF):Sp:=λvs H Q E=>∃ex bs h ds,HR C ex bs h H /\ RVs C bs (gh ex bs h H) vs ds /\ Post C ex E bs h H (RV C) (z ds h) Q
theorem jam{z:Z.MF}{tl:TA}{ml:Z.ML}(hl:SA C E tl ml):SE C E (jx3 (spZ C z) [] E tl) (Z.jaw z ml):=by
 intro ex bs h ρ σ H Q hr re p
 refine hl ex bs h ρ σ H _ hr re (p.bind λds xs h1 bs1 H1 e1 rx p1=> ?_)
 exact⟨ex,bs1,h1,ds,e1.hr,by rw[List.append_nil];exact rx,p1⟩
theorem s_tB{t:TE}{m:Z.ME}(h0:SE C E t m):ST C E (tB t) (Z.tB m):=by
 intro ex bs h ρ σ H Q hr re p
 refine h0 ex bs h ρ σ H _ hr re (p.bind λd x h1 bs1 H1 e1 rx p1=> ?_)
 cases d with
 | bl b=>simp only[RV] at rx;exact⟨b,rx,Post.now e1.hr p1 rfl⟩
 | _=>exact p1.elim
theorem jao{t:TE}{m:Z.ME}(h0:SE C E t m):ST C E (jxg t) (Z.tB m):=s_tB h0
theorem je2{t u:TT}{m n:Z.MT}(ht:ST C E t m)(hu:ST C E u n):ST C E (tAnd t u) (Z.tAnd m n):=by
 intro ex bs h ρ σ H Q hr re p
 refine ht ex bs h ρ σ H _ hr re (p.bind λc b h1 bs1 H1 e1 rx p1=> ?_)
 cases rx
 cases c with
 | true=>exact hu ex bs1 h1 ρ σ H1 Q e1.hr (re.ev e1) p1
 | false=>exact Post.now e1.hr p1 rfl
theorem jv2{t u:TT}{m n:Z.MT}(ht:ST C E t m)(hu:ST C E u n):ST C E (tOr t u) (Z.tOr m n):=by
 intro ex bs h ρ σ H Q hr re p
 refine ht ex bs h ρ σ H _ hr re (p.bind λc b h1 bs1 H1 e1 rx p1=> ?_)
 cases rx
 cases c with
 | false=>exact hu ex bs1 h1 ρ σ H1 Q e1.hr (re.ev e1) p1
 | true=>exact Post.now e1.hr p1 rfl
theorem jd2{t:TT}{m:Z.MT}(ht:ST C E t m):ST C E (tNot t) (Z.tNot m):=by
 intro ex bs h ρ σ H Q hr re p
 refine ht ex bs h ρ σ H _ hr re (p.bind λc b h1 bs1 H1 e1 rx p1=> ?_)
 cases rx
 exact Post.now e1.hr p1 rfl
theorem jpf{t u:TE}{m n:Z.ME}(ht:SE C E t m)(hu:SE C E u n):SE C E (tAndV t u) (Z.mAnd m n):=by
 intro ex bs h ρ σ H Q hr re p
 refine ht ex bs h ρ σ H _ hr re (p.bind λd x h1 bs1 H1 e1 rx p1=> ?_)
 cases d with
 | bl b=>
  simp only[RV] at rx
  refine⟨b,rx,?_⟩
  cases b with
  | true=>exact hu ex bs1 h1 ρ σ H1 Q e1.hr (re.ev e1) p1
  | false=>exact Post.now e1.hr p1 (by simp only[RV])
 | _=>exact p1.elim
theorem s_orV{t u:TE}{m n:Z.ME}(ht:SE C E t m)(hu:SE C E u n):SE C E (tOrV t u) (Z.mOr m n):=by
 intro ex bs h ρ σ H Q hr re p
 refine ht ex bs h ρ σ H _ hr re (p.bind λd x h1 bs1 H1 e1 rx p1=> ?_)
 cases d with
 | bl b=>
  simp only[RV] at rx
  refine⟨b,rx,?_⟩
  cases b with
  | false=>exact hu ex bs1 h1 ρ σ H1 Q e1.hr (re.ev e1) p1
  | true=>exact Post.now e1.hr p1 (by simp only[RV])
 | _=>exact p1.elim
theorem jqe{r r':R2}{f g:Z.B2}{ta tb tc:TE}{ma mb mc:Z.ME}(o:S2 C r f)(o':S2 C r' g)(ha:SE C E ta ma)(hb:SE C E tb mb)(hc:SE C E tc mc):SE C E (jvn r r' ta tb tc) (Z.jid f g ma mb mc):=by
 intro ex bs h ρ σ H Q hr re p
 refine ha ex bs h ρ σ H _ hr re (p.bind λdx x h1 bs1 H1 e1 rx p1=> ?_)
 refine hb ex bs1 h1 ρ σ H1 _ e1.hr (re.ev e1) (p1.bind λdy y h2 bs2 H2 e2 ry p2=> ?_)
 refine o ex bs2 h2 H2 E x y dx dy _ e2.hr (rx.ev e2) ry (p2.bind λdz z h3 bs3 H3 e3 rz p3=> ?_)
 cases dz with
 | bl k=>
  simp only[RV] at rz
  refine⟨k,rz,?_⟩
  cases k with
  | false=>exact Post.now e3.hr p3 (by simp only[RV])
  | true=>
   refine hc ex bs3 h3 ρ σ H3 _ e3.hr ((re.ev e1).ev (e2.trans e3)) (p3.bind λdw w' h4 bs4 H4 e4 rw' p4=> ?_)
   exact o' ex bs4 h4 H4 E y w' dy dw Q e4.hr ((ry.ev e3).ev e4) rw' p4
 | _=>exact p3.elim
end
end L2
namespace L2
open PySem PySem.Spec
section
variable {C : Ct} {ex bs bs1 bs2 : List Addr} {h h1 h2 : Z.MH} {H H1 H2 : Hp} {E : XK} {α β : Type} {R1 : List Addr -> Hp -> β -> α -> Prop}
def jee(C:Ct)(ex:List Addr)(E:XK)(bs:List Addr)(h:Z.MH)(H:Hp)(r:Z.RS)(D:Ends):Prop:=match r with
 | .nx ρ' h'=>∀σ' bs' H',Ev C ex bs h H bs' h' H'->RE C bs' (gh ex bs' h' H') ρ' σ'->D.nx σ' H'
 | .rt d h'=>∀v bs' H',Ev C ex bs h H bs' h' H'->RV C bs' (gh ex bs' h' H') v d->D.rt v H'
 | .bk ρ' h'=>∀σ' bs' H',Ev C ex bs h H bs' h' H'->RE C bs' (gh ex bs' h' H') ρ' σ'->D.bk σ' H'
 | .ct ρ' h'=>∀σ' bs' H',Ev C ex bs h H bs' h' H'->RE C bs' (gh ex bs' h' H') ρ' σ'->D.ct σ' H'
 | .exc c h'=>∀bs' H',Ev C ex bs h H bs' h' H'->E (.ref (C.cm c)) none H'
 | .stuck=>False
def SS(C:Ct)(E:XK)(t:TS)(m:Z.MS):Prop:=
 ∀(ex bs:List Addr) (h:Z.MH) (ρ:Z.Ro) (σ:St) (H:Hp) (D:Ends),HR C ex bs h H->RE C bs (gh ex bs h H) ρ σ->jee C ex E bs h H (m ρ h) D->t D σ H
theorem jee.from{r:Z.RS}{D:Ends}(e:Ev C ex bs h H bs1 h1 H1)(p:jee C ex E bs h H r D):jee C ex E bs1 h1 H1 r D:=by
 cases r with
 | nx ρ h'=>exact λb bs' H' e' q=>p b bs' H' (e.trans e') q
 | rt d h'=>exact λb bs' H' e' q=>p b bs' H' (e.trans e') q
 | bk ρ h'=>exact λb bs' H' e' q=>p b bs' H' (e.trans e') q
 | ct ρ h'=>exact λb bs' H' e' q=>p b bs' H' (e.trans e') q
 | exc c h'=>exact λbs' H' e'=>p bs' H' (e.trans e')
 | stuck=>exact p
theorem jee.bind{r:Z.Res α}{f:α->Z.MH->Z.RS}{D:Ends}{Q1:β->Hp->Prop}(p:jee C ex E bs h H (r.toS f) D)
  (k:∀a b h1 bs1 H1,Ev C ex bs h H bs1 h1 H1->R1 bs1 (gh ex bs1 h1 H1) b a->jee C ex E bs1 h1 H1 (f a h1) D->Q1 b H1):Post C ex E bs h H R1 r Q1:=by
 cases r with
 | ok a h'=>exact λb bs' H' e' q=>k a b h' bs' H' e' q (jee.from e' p)
 | exc c h'=>exact p
 | stuck=>exact p
theorem jah:SS C E jtw Z.jb2:=λex bs h ρ σ H D hr re p=>p σ bs H (Ev.refl hr) re
theorem ja9{t u:TS}{m n:Z.MS}(ht:SS C E t m)(hu:SS C E u n):SS C E (tSeq t u) (Z.sSeq m n):=by
 intro ex bs h ρ σ H D hr re p
 refine ht ex bs h ρ σ H _ hr re ?_
 unfold Z.sSeq at p
 cases e:m ρ h with
 | nx ρ1 h1=>rw[e] at p;exact λσ1 bs1 H1 e1 re1=>hu ex bs1 h1 ρ1 σ1 H1 D e1.hr re1 (p.from e1)
 | rt d h1=>rw[e] at p;exact p
 | bk ρ1 h1=>rw[e] at p;exact p
 | ct ρ1 h1=>rw[e] at p;exact p
 | exc c h1=>rw[e] at p;exact p
 | stuck=>rw[e] at p;exact p
theorem jb7{c:TT}{t u:TS}{mc:Z.MT}{m n:Z.MS}(hc:ST C E c mc)(ht:SS C E t m)(hu:SS C E u n):SS C E (tIfS c t u) (Z.sIf mc m n):=by
 intro ex bs h ρ σ H D hr re p
 refine hc ex bs h ρ σ H _ hr re (p.bind λc b h1 bs1 H1 e1 rx p1=> ?_)
 cases rx
 cases c with
 | true=>exact ht ex bs1 h1 ρ σ H1 D e1.hr (re.ev e1) p1
 | false=>exact hu ex bs1 h1 ρ σ H1 D e1.hr (re.ev e1) p1
theorem jag{t:TE}{m:Z.ME}(ht:SE C E t m):SS C E (tRet t) (Z.sRet m):=by
 intro ex bs h ρ σ H D hr re p
 exact ht ex bs h ρ σ H _ hr re (p.bind λd x h1 bs1 H1 e1 rx p1=>p1 x bs1 H1 (Ev.refl e1.hr) rx)
theorem jg6{t:TE}{m:Z.ME}(ht:SE C E t m):SS C E (juv t) (Z.jm7 m):=by
 intro ex bs h ρ σ H D hr re p
 exact ht ex bs h ρ σ H _ hr re (p.bind λd x h1 bs1 H1 e1 rx p1=>p1 σ bs1 H1 (Ev.refl e1.hr) (re.ev e1))
def SG(C:Ct)(E:XK)(g:TG)(m:Z.MG):Prop:=
 ∀(ex bs:List Addr) (h:Z.MH) (ρ:Z.Ro) (σ:St) (H:Hp) (v:V) (d:Z.D) (D:Ends),HR C ex bs h H->RE C bs (gh ex bs h H) ρ σ->RV C bs (gh ex bs h H) v d->jee C ex E bs h H (m d ρ h) D->g v σ H D.nx
theorem jal{t:TE}{m:Z.ME}{g:TG}{mg:Z.MG}(ht:SE C E t m)(hg:SG C E g mg):SS C E (tAsg t g) (Z.sAsg m mg):=by
 intro ex bs h ρ σ H D hr re p
 exact ht ex bs h ρ σ H _ hr re (p.bind λd x h1 bs1 H1 e1 rx p1=>hg ex bs1 h1 ρ σ H1 x d D e1.hr (re.ev e1) rx p1)
theorem jac{i:Nat}:SG C E (jad i) (Z.jad i):=λex bs h ρ σ H v d D hr re rv p=>p _ bs H (Ev.refl hr) (re.set rv)
theorem jsa{t:TE}{m:Z.ME}{i:Nat}(ht:SE C E t m):SS C E (λD σ H=>t σ H λx H1=>D.nx (σ.set i (some x)) H1) (Z.sAsg m (Z.jad i)):=jal (g:=jad i) ht jac
def SGs(C:Ct)(E:XK)(g:TGs)(is:List Nat):Prop:=
 ∀(ex bs:List Addr) (h:Z.MH) (ρ:Z.Ro) (σ:St) (H:Hp) (vs:List V) (ds:List Z.D) (D:Ends),HR C ex bs h H->RE C bs (gh ex bs h H) ρ σ->RVs C bs (gh ex bs h H) vs ds->jee C ex E bs h H (Z.jo4 is ds ρ h) D->g vs σ H D.nx /\ vs.length=is.length
theorem jhm:SGs C E gNil []:=by
 intro ex bs h ρ σ H vs ds D hr re rv p
 cases ds with
 | nil=>
  cases vs with
  | nil=>exact⟨⟨rfl,p σ bs H (Ev.refl hr) re⟩,rfl⟩
  | cons _ _=>simp only[RVs] at rv
 | cons d ds=>exact p.elim
theorem jd6{g:TGs}{is:List Nat}{i:Nat}(hg:SGs C E g is):SGs C E (jyf (jad i) g) (i::is):=by
 intro ex bs h ρ σ H vs ds D hr re rv p
 cases ds with
 | nil=>exact p.elim
 | cons d ds=>
  cases vs with
  | nil=>simp only[RVs] at rv
  | cons v vs=>
   simp only[RVs] at rv
   have:=hg ex bs h (ρ.set i (some d)) (σ.set i (some v)) H vs ds D hr (re.set rv.1) rv.2 p
   exact⟨⟨v,vs,rfl,this.1⟩,by simp[this.2]⟩
theorem jkl{g:TGs}{is:List Nat}{n:Nat}(hn:n=is.length)(hg:SGs C E g is):SG C E (gSeq C.K n g) (Z.gTup is):=by
 intro ex bs h ρ σ H v d D hr re rv p
 cases d with
 | tup ds=>
  simp only[RV] at rv
  obtain⟨a,vs,rfl,ga,rs⟩:=rv
  have:=hg ex bs h ρ σ H vs ds D hr re rs p
  exact⟨a,vs,rfl,.inl (SqT.of (jbn _ _ ga)),by rw[hn];exact this.2,this.1⟩
 | lst ds=>
  simp only[RV] at rv
  obtain⟨a,vs,rfl,ga,rs⟩:=rv
  have:=hg ex bs h ρ σ H vs ds D hr re rs p
  exact⟨a,vs,rfl,.inr (SqL.of (jbn _ _ ga)),by rw[hn];exact this.2,this.1⟩
 | _=>exact p.elim
theorem RVs.set{G:Hp}{v:V}{d:Z.D}(q:RV C bs G v d):∀{ds:List Z.D} {vs:List V} (n:Nat),RVs C bs G vs ds->RVs C bs G (vs.set n v) (ds.set n d)
 | [],[],_,_=>by simp[RVs]
 | d'::ds,v'::vs,0,h=>by
  simp only[RVs,List.set_cons_zero] at h ⊢
  exact⟨q,h.2⟩
 | d'::ds,v'::vs,n+1,h=>by
  simp only[RVs,List.set_cons_succ] at h ⊢
  exact⟨h.1,RVs.set q n h.2⟩
 | [],_::_,_,h=>by simp only[RVs] at h
 | _::_,[],_,h=>by simp only[RVs] at h
theorem RVs.append{G:Hp}:∀{ds es:List Z.D} {vs ws:List V},RVs C bs G vs ds->RVs C bs G ws es->RVs C bs G (vs++ws) (ds++es)
 | [],es,[],ws,_,k=>k
 | d::ds,es,v::vs,ws,h,k=>by
  simp only[RVs,List.cons_append] at h ⊢
  exact⟨h.1,RVs.append h.2 k⟩
 | [],_,_::_,_,h,_=>by simp only[RVs] at h
 | _::_,_,[],_,h,_=>by simp only[RVs] at h
theorem RVs.one{G:Hp}{v:V}{d:Z.D}(q:RV C bs G v d):RVs C bs G [v] [d]:=by simp only[RVs];exact⟨q,trivial⟩
theorem RVs.get{G:Hp}:∀{ds:List Z.D} {vs:List V} {i:Nat} {d:Z.D},RVs C bs G vs ds->ds[i]?=some d->∃v,vs[i]?=some v /\ RV C bs G v d
 | [],_,i,d,_,e=>by simp at e
 | d::ds,v::vs,0,d',h,e=>by
  simp only[RVs] at h
  simp at e;subst e
  exact⟨v,rfl,h.1⟩
 | d::ds,v::vs,i+1,d',h,e=>by
  simp only[RVs] at h
  obtain⟨u,h1,h2⟩:=RVs.get (i:=i) (d:=d') h.2 (by simpa using e)
  exact⟨u,by simpa using h1,h2⟩
 | _::_,[],_,_,h,_=>by simp only[RVs] at h
theorem RVs.drop{G:Hp}:∀{ds:List Z.D} {vs:List V} (n:Nat),RVs C bs G vs ds->RVs C bs G (vs.drop n) (ds.drop n)
 | _,_,0,h=>h
 | [],[],n+1,h=>h
 | d::ds,v::vs,n+1,h=>by
  simp only[RVs] at h
  simpa using RVs.drop n h.2
 | [],_::_,_+1,h=>by simp only[RVs] at h
 | _::_,[],_+1,h=>by simp only[RVs] at h
theorem RVs.take{G:Hp}:∀{ds:List Z.D} {vs:List V} (n:Nat),RVs C bs G vs ds->RVs C bs G (vs.take n) (ds.take n)
 | _,_,0,_=>by simp[RVs]
 | [],[],n+1,h=>by simp[RVs]
 | d::ds,v::vs,n+1,h=>by
  simp only[RVs] at h
  simp only[List.take_succ_cons,RVs]
  exact⟨h.1,RVs.take n h.2⟩
 | [],_::_,_+1,h=>by simp only[RVs] at h
 | _::_,[],_+1,h=>by simp only[RVs] at h
theorem jiv{to ti:TE}{mo mi:Z.ME}(ho:SE C E to mo)(hi:SE C E ti mi):SG C E (gSub to ti rSetL) (Z.gSub mo mi):=by
 intro ex bs h ρ σ H v d D hr re rv p
 refine ho ex bs h ρ σ H _ hr re (p.bind λo x h1 bs1 H1 e1 rx p1=> ?_)
 refine hi ex bs1 h1 ρ σ H1 _ e1.hr (re.ev e1) (p1.bind λi y h2 bs2 H2 e2 ry p2=> ?_)
 have e:=e1.trans e2
 have rv2:=rv.ev e
 have rx2:=rx.ev e2
 cases o with
 | ref k=>
  simp only[RV] at rx2
  obtain⟨a,rfl,hk⟩:=rx2
  dsimp only at p2
  split at p2
  ·rename_i xs hc
   split at p2
   ·rename_i j
    split at p2
    ·rename_i n hn
     simp only[RV] at ry
     subst ry
     obtain⟨vs,ha,rs⟩:=e2.hr.cell k a _ hk hc
     refine⟨a,vs,j,n,rfl,rfl,ha,by rw[rs.len];exact hn,?_⟩
     have e3:=Ev.put (o:= .lst (vs.set n v)) (c:= .lst (xs.set n d)) e2.hr hk hc ⟨_,jaz,rs.set rv2 n⟩
     exact p2 σ bs2 _ e3 (((re.ev e1).ev e2).ev e3)
    ·exact p2.elim
   ·exact p2.elim
  ·exact p2.elim
 | _=>exact p2.elim
theorem jhi{to te:TE}{mo me:Z.ME}(ho:SE C E to mo)(he:SE C E te me):SS C E (juv (tBM C.K "list" jro to (jy7 te tNil))) (Z.jdj mo me):=by
 intro ex bs h ρ σ H D hr re p
 refine ho ex bs h ρ σ H _ hr re (p.bind λo x h1 bs1 H1 e1 rx p1=> ?_)
 cases o with
 | ref k=>
  simp only[RV] at rx
  obtain⟨a,rfl,hk⟩:=rx
  dsimp only at p1
  split at p1
  ·rename_i xs0 hc0
   obtain⟨vs0,ha0,_⟩:=e1.hr.cell k a _ hk hc0
   refine⟨.inl ⟨rfl,vs0,SqL.of ha0⟩,?_⟩
   refine he ex bs1 h1 ρ σ H1 _ e1.hr (re.ev e1) (p1.bind λd y h2 bs2 H2 e2 ry p2=> ?_)
   split at p2
   ·rename_i xs hc
    split at p2
    ·rename_i hz
     obtain⟨vs,ha,rs⟩:=e2.hr.cell k a _ (e2.pre k a hk) hc
     refine⟨a,vs,y,rfl,rfl,ha,by rw[rs.len];exact hz,?_⟩
     have e3:=Ev.put (o:= .lst (vs++[y])) (c:= .lst (xs++[d])) e2.hr (e2.pre k a hk) hc ⟨_,jaz,rs.append (.one ry)⟩
     exact p2 σ bs2 _ e3 (((re.ev e1).ev e2).ev e3)
    ·exact p2.elim
   ·exact p2.elim
  ·exact p1.elim
 | _=>exact p1.elim
theorem jhq{i:Nat}{t:TS}{m:Z.MS}(ht:SS C E t m):SS C E t (Z.jey i m):=by
 intro ex bs h ρ σ H D hr re p
 unfold Z.jey at p
 split at p
 ·rename_i k hk
  split at p
  ·rename_i xs hc
   obtain⟨v,hv,rv⟩:=re.2 i _ hk
   simp only[RV] at rv
   obtain⟨a,rfl,ha⟩:=rv
   obtain⟨e1,r1⟩:=Ev.freeze hr ha hc
   refine ht ex bs (h.set k none) (ρ.set i (some (.lst xs))) σ H D e1.hr ?_ (p.from e1)
   have r2:=(re.ev e1).set (i:=i) r1
   have:σ.set i (some (.ref a))=σ:=List.ext_getElem? λj=>by
    by_cases hj:i=j
    ·subst hj;rw[List.getElem?_set_self (List.getElem?_eq_some_iff.mp hv).1,hv]
    ·rw[List.getElem?_set_ne hj]
   rw[this] at r2;exact r2
  ·exact p.elim
 ·exact p.elim
end
section
variable {C : Ct} {ex bs bs1 bs2 : List Addr} {h h1 h2 : Z.MH} {H H1 H2 : Hp} {E : XK}
def ItOk(C:Ct)(bs:List Addr)(G:Hp)(J:It)(s:Option Nat×List Z.D):Prop:=
 ∀(ex2 bs2:List Addr) (h2:Z.MH) (H2:Hp),HR C ex2 bs2 h2 H2->(∀(k:Nat) (a:Addr),bs[k]?=some a->bs2[k]?=some a)->Same G (gh ex2 bs2 h2 H2)->Z.okG s.1 s.2 h2->∀i:Nat,
  (∀d,s.2[i]?=some d->J.go i H2 /\ ∀x H3,J.yld i H2 x H3->Ev C ex2 bs2 h2 H2 bs2 h2 H3 /\ RV C bs2 (gh ex2 bs2 h2 H3) x d) /\ (s.2.length<=i->J.stop i H2)
abbrev SI(C:Ct)(E:XK)(t:TI)(m:Z.MI):Prop:=Snd C E (ItOk C) t m
theorem jlm{J:It}{g:TG}{tb:TS}{gd:Option Nat}{items:List Z.D}{mg:Z.MG}{mb:Z.MS}{ρ:Z.Ro}{σ:St}{D:Ends}(hg:SG C E g mg)(hb:SS C E tb mb)(hr:HR C ex bs1 h1 H1)(re:RE C bs1 (gh ex bs1 h1 H1) ρ σ)(it:ItOk C bs1 (gh ex bs1 h1 H1) J (gd,items))(p1:jee C ex E bs1 h1 H1 (Z.jer gd items mg mb items ρ h1) D):
  ∃W:Nat->Nat->St->Hp->Prop,(∃m,W 0 m σ H1) /\ ∀i m σ H,W i m σ H->(J.stop i H /\ D.nx σ H) \/ (J.go i H /\ ∃N:St->Hp->Prop,(∀σ' H',N σ' H'->∃m',m'<m /\ W (i+1) m' σ' H') /\ ∀x H',J.yld i H x H'->g x σ H' λσ2 H2=>tb {D with nx:=N,ct:=N,bk:=D.nx} σ2 H2):=by
 have lo:∀(i:Nat) (hl:i<items.length),items.drop i=items[i]::items.drop (i+1):=λi hl=>List.drop_eq_getElem_cons hl
 refine⟨λi m σ' H'=>m=items.length - i /\ i<=items.length /\ ∃ρ' bs' h',Ev C ex bs1 h1 H1 bs' h' H' /\ RE C bs' (gh ex bs' h' H') ρ' σ' /\ jee C ex E bs' h' H' (Z.jer gd items mg mb (items.drop i) ρ' h') D,
  ⟨items.length,by simp,Nat.zero_le _,ρ,bs1,h1,Ev.refl hr,re,p1⟩,?_⟩
 rintro i m σ' H' ⟨rfl,hle,ρ',bs',h',ev,re',p'⟩
 by_cases hlt:i<items.length
 ·rw[lo i hlt] at p'
  unfold Z.jer at p'
  split at p'
  case isFalse=>exact p'.elim
  rename_i okg
  obtain⟨go,yl⟩:=(it ex bs' h' H' ev.hr ev.pre ev.same okg i).1 items[i] (List.getElem?_eq_getElem hlt)
  refine .inr ⟨go,λσ2 H2=>∃m',m'<items.length - i /\ (m'=items.length - (i+1) /\ i+1<=items.length /\ ∃ρ' bs' h',Ev C ex bs1 h1 H1 bs' h' H2 /\ RE C bs' (gh ex bs' h' H2) ρ' σ2 /\ jee C ex E bs' h' H2 (Z.jer gd items mg mb (items.drop (i+1)) ρ' h') D),λ_ _ q=>q,λx H3 y=> ?_⟩
  obtain⟨ev3,rx⟩:=yl x H3 y
  have p3:=p'.from ev3
  refine hg ex bs' h' ρ' σ' H3 x items[i] ⟨_,λ_ _=>False,λ_ _=>False,λ_ _=>False⟩ ev3.hr (re'.ev ev3) rx ?_
  cases e:mg items[i] ρ' h' with
  | nx ρ1 h1'=>
   rw[e] at p3
   intro σ2 bs2 H2 ev2 re2
   refine hb ex bs2 h1' ρ1 σ2 H2 _ ev2.hr re2 ?_
   have p4:=p3.from ev2
   have ev4:=(ev.trans ev3).trans ev2
   cases e5:mb ρ1 h1' with
   | nx ρ2 h2'=>
    dsimp only at p4
    rw[e5] at p4
    exact λσ5 bs5 H5 ev5 re5=>⟨_,by omega,rfl,hlt,ρ2,bs5,h2',ev4.trans ev5,re5,p4.from ev5⟩
   | ct ρ2 h2'=>
    dsimp only at p4
    rw[e5] at p4
    exact λσ5 bs5 H5 ev5 re5=>⟨_,by omega,rfl,hlt,ρ2,bs5,h2',ev4.trans ev5,re5,p4.from ev5⟩
   | bk ρ2 h2'=>dsimp only at p4;rw[e5] at p4;exact p4
   | rt d h2'=>dsimp only at p4;rw[e5] at p4;exact p4
   | exc c h2'=>dsimp only at p4;rw[e5] at p4;exact p4
   | stuck=>dsimp only at p4;rw[e5] at p4;exact p4
  | rt _ _=>rw[e] at p3;exact p3.elim
  | bk _ _=>rw[e] at p3;exact p3.elim
  | ct _ _=>rw[e] at p3;exact p3.elim
  | exc _ _=>rw[e] at p3;exact p3.elim
  | stuck=>rw[e] at p3;exact p3.elim
 ·have ei:i=items.length:=by omega
  subst ei
  rw[List.drop_length] at p'
  unfold Z.jer at p'
  split at p'
  case isFalse=>exact p'.elim
  rename_i okg
  exact .inl ⟨(it ex bs' h' H' ev.hr ev.pre ev.same okg items.length).2 (Nat.le_refl _),p' σ' bs' H' (Ev.refl ev.hr) re'⟩
theorem jfg{wi:TI}{g:TG}{tb:TS}{l:Z.MI}{mg:Z.MG}{mb:Z.MS}(hi:SI C E wi l)(hg:SG C E g mg)(hb:SS C E tb mb):SS C E (tFor wi g tb) (Z.sFor l mg mb):=by
 intro ex bs h ρ σ H D hr re p
 refine hi ex bs h ρ σ H _ hr re (p.bind λsrc J h1 bs1 H1 e1 it p1=> ?_)
 obtain⟨gd,items⟩:=src
 dsimp only at p1
 exact jlm hg hb e1.hr (re.ev e1) it p1
theorem jnu{c:TT}{tb:TS}{mc:Z.MT}{mb:Z.MS}(hc:ST C E c mc)(hb:SS C E tb mb):SS C E (jwo c tb) (Z.jcm mc mb):=by
 intro ex bs h ρ σ H D hr re p
 have ns:Z.jcm mc mb ρ h≠ .stuck:=λz=>by rw[z] at p;exact p
 obtain⟨n,en⟩:=Z.jh8 ns
 rw[<-en] at p
 refine⟨λm σ' H'=>∃ρ' bs' h',HR C ex bs' h' H' /\ RE C bs' (gh ex bs' h' H') ρ' σ' /\ jee C ex E bs' h' H' (Z.jcn mc mb m ρ' h') D,⟨n,ρ,bs,h,hr,re,p⟩,?_⟩
 rintro m σ' H' ⟨ρ',bs',h',hr',re',p'⟩
 cases m with
 | zero=>exact p'.elim
 | succ m=>
  unfold Z.jcn at p'
  refine hc ex bs' h' ρ' σ' H' _ hr' re' ?_
  cases e:mc ρ' h' with
  | exc x h1=>rw[e] at p';exact p'
  | stuck=>rw[e] at p';exact p'
  | ok b h1=>
   rw[e] at p'
   rintro b' bs1 H1 e1 rfl
   have p1:=p'.from e1
   cases b' with
   | false=>exact p1 σ' bs1 H1 (Ev.refl e1.hr) (re'.ev e1)
   | true=>
    dsimp only at p1
    refine⟨λσ2 H2=>∃m',m'<m+1 /\ ∃ρ' bs' h',HR C ex bs' h' H2 /\ RE C bs' (gh ex bs' h' H2) ρ' σ2 /\ jee C ex E bs' h' H2 (Z.jcn mc mb m' ρ' h') D,λ_ _ q=>q,?_⟩
    refine hb ex bs1 h1 ρ' σ' H1 _ e1.hr (re'.ev e1) ?_
    cases e5:mb ρ' h1 with
    | nx ρ2 h2=>rw[e5] at p1;exact λσ5 bs5 H5 ev5 re5=>⟨m,by omega,ρ2,bs5,h2,ev5.hr,re5,p1.from ev5⟩
    | ct ρ2 h2=>rw[e5] at p1;exact λσ5 bs5 H5 ev5 re5=>⟨m,by omega,ρ2,bs5,h2,ev5.hr,re5,p1.from ev5⟩
    | bk ρ2 h2=>rw[e5] at p1;exact p1
    | rt d h2=>rw[e5] at p1;exact p1
    | exc c h2=>rw[e5] at p1;exact p1
    | stuck=>rw[e5] at p1;exact p1
def hid(l:Addr)(H:Hp):Hp:=λb=>if b=l then none else H b
theorem jij{l b:Addr}(n:b≠l):hid l H b=H b:=if_neg n
theorem jns{l:Addr}:gh ex bs h (hid l H)=gh (l::ex) bs h H:=by
 funext x
 unfold gh
 by_cases q:x∈ex \/ lv bs h x
 ·rw[if_pos q,if_pos (q.imp (List.mem_cons_of_mem _) id)]
 ·by_cases e:x=l
  ·subst e
   rw[if_neg q,if_pos (.inl (List.mem_cons_self ..))]
   exact if_pos rfl
  ·rw[if_neg q,jij e,if_neg]
   rintro(z | z)
   ·rcases List.mem_cons.mp z with z | z
    ·exact e z
    ·exact q (.inl z)
   ·exact q (.inr z)
theorem HR.hid{l:Addr}(hl:l∉ex)(r:HR C (l::ex) bs h H):HR C ex bs h (hid l H):=by
 have lb:l∉bs:=r.sep l (List.mem_cons_self ..)
 have nb:∀{a},a∈bs->a≠l:=fun{a} m z=>lb (by rw[<-z];exact m)
 refine⟨r.len,r.inj,λa m=>r.sep a (List.mem_cons_of_mem _ m),λa m=> ?_,λa m=> ?_,λk a c e1 e2=> ?_⟩
 ·rw[jij (nb m)];exact r.dom a m
 ·rw[jij (λz=>hl (by rw[<-z];exact m))];exact r.domx a (List.mem_cons_of_mem _ m)
 ·rw[jns]
  exact(r.cell k a c e1 e2).mono (λ_ _ e=>e) (Same.refl _) (by rw[jij (nb (List.mem_of_getElem? e1))])
theorem jr4{l:Addr}{o:HO}(hl:H l=none):gh (l::ex) bs h (upd H l o)=gh ex bs h H:=by
 rw[<-jns]
 have:hid l (upd H l o)=H:=by
  funext x
  unfold hid
  by_cases e:x=l
  ·rw[if_pos e,e,hl]
  ·rw[if_neg e,jae e]
 rw[this]
theorem HR.show{l:Addr}{o:HO}(hl:H l=none)(r:HR C ex bs h H):HR C (l::ex) bs h (upd H l o):=by
 have lb:l∉bs:=λm=>r.dom l m hl
 have lx:l∉ex:=λm=>r.domx l m hl
 have nb:∀{a},a∈bs->a≠l:=fun{a} m z=>lb (by rw[<-z];exact m)
 refine⟨r.len,r.inj,λa m=> ?_,λa m=> ?_,λa m=> ?_,λk a c e1 e2=> ?_⟩
 ·rcases List.mem_cons.mp m with m | m
  ·rw[m];exact lb
  ·exact r.sep a m
 ·rw[jae (nb m)];exact r.dom a m
 ·rcases List.mem_cons.mp m with m | m
  ·rw[m,jaz];exact λz=>nomatch z
  ·rw[jae (λz=>lx (by rw[<-z];exact m))];exact r.domx a m
 ·rw[jr4 hl]
  exact(r.cell k a c e1 e2).mono (λ_ _ e=>e) (Same.refl _) (by rw[jae (nb (List.mem_of_getElem? e1))])
theorem jjl{l:Addr}{o:HO}:gh (l::ex) bs h (upd H l o)=gh (l::ex) bs h H:=by
 funext x
 unfold gh
 by_cases q:x∈l::ex \/ lv bs h x
 ·rw[if_pos q,if_pos q]
 ·rw[if_neg q,if_neg q,jae (λz=>q (.inl (by rw[z];exact List.mem_cons_self ..)))]
theorem HR.exput{l:Addr}{o:HO}(r:HR C (l::ex) bs h H):HR C (l::ex) bs h (upd H l o):=by
 have lb:l∉bs:=r.sep l (List.mem_cons_self ..)
 have nb:∀{a},a∈bs->a≠l:=fun{a} m z=>lb (by rw[<-z];exact m)
 refine⟨r.len,r.inj,r.sep,λa m=> ?_,λa m=> ?_,λk a c e1 e2=> ?_⟩
 ·rw[jae (nb m)];exact r.dom a m
 ·by_cases e:a=l
  ·rw[e,jaz];exact λz=>nomatch z
  ·rw[jae e];exact r.domx a m
 ·rw[jjl]
  exact(r.cell k a c e1 e2).mono (λ_ _ e=>e) (Same.refl _) (by rw[jae (nb (List.mem_of_getElem? e1))])
theorem RE.mono{bs bs':List Addr}{G G':Hp}{ρ:Z.Ro}{σ:St}(hb:∀(k:Nat) (a:Addr),bs[k]?=some a->bs'[k]?=some a)(hs:Same G G')(r:RE C bs G ρ σ):RE C bs' G' ρ σ:=
 ⟨r.1,λi d q=>by obtain⟨v,h1,h2⟩:=r.2 i d q;exact⟨v,h1,h2.mono hb hs⟩⟩
theorem RE.caps{G:Hp}{ρ:Z.Ro}{σ:St}(nt:Nat)(idx:List Nat)(r:RE C bs G ρ σ):RE C bs G (List.replicate nt none++Z.caps idx ρ) (List.replicate nt none++jf5 idx σ):=by
 refine⟨by simp[Z.caps,jf5],λi d hi=> ?_⟩
 by_cases hn:i<nt
 ·rw[List.getElem?_append_left (by simpa using hn),List.getElem?_replicate] at hi
  simp[hn] at hi
 ·rw[List.getElem?_append_right (by simp;omega)] at hi ⊢
  simp only[List.length_replicate] at hi ⊢
  unfold Z.caps at hi
  unfold jf5
  rw[List.getElem?_map] at hi ⊢
  cases e:idx[i - nt]? with
  | none=>rw[e] at hi;cases hi
  | some j=>
   rw[e] at hi
   simp only[Option.map_some,Option.some.injEq] at hi ⊢
   cases e2:ρ[j]? with
   | none=>rw[e2] at hi;cases hi
   | some z=>
    rw[e2] at hi
    simp only[Option.getD_some] at hi
    subst hi
    obtain⟨v,h1,h2⟩:=r.2 j d e2
    exact⟨v,by rw[h1];rfl,h2⟩
theorem jig(q:Option Nat)(all:List Z.D)(g:Z.MG)(t:Z.MT)(m:Z.ME)(ρ0:Z.Ro):∀(ds:List Z.D) (h:Z.MH) (c:String) (h':Z.MH),Z.jbf q all g t m ρ0 ds h≠ .exc c h'
 | [],h,c,h'=>by unfold Z.jbf;split<;>exact λz=>nomatch z
 | d::ds,h,c,h'=>by
  unfold Z.jbf
  split
  case isFalse=>exact λz=>nomatch z
  split
  ·split
   ·split
    ·split
     ·exact λz=>nomatch z
     ·exact λz=>nomatch z
    ·exact λz=>nomatch z
   ·exact jig q all g t m ρ0 ds _ c h'
   ·exact λz=>nomatch z
  ·exact λz=>nomatch z
theorem jkm{J:It}{nt:Nat}{idx:List Nat}{g:TG}{tc:TT}{te:TE}{gd:Option Nat}{items:List Z.D}{mg:Z.MG}{mt:Z.MT}{me:Z.ME}{ρ:Z.Ro}{σ:St}{Q:VK}(hg:SG C E0 g mg)(ht:ST C E0 tc mt)(he:SE C E0 te me)(hr:HR C ex bs1 h1 H1)(re:RE C bs1 (gh ex bs1 h1 H1) ρ σ)(it:ItOk C bs1 (gh ex bs1 h1 H1) J (gd,items))(hz:items.length<16777216)
  (p1:jdb C ex E bs1 h1 H1 (Z.jbf gd items mg mt me (List.replicate nt none++Z.caps idx ρ) items h1) Q):∀l,H1 l=none->
 ∃W:Nat->Nat->List V->Hp->Prop,(∃m,W 0 m [] (upd H1 l (.lst []))) /\ ∀i m ys H2,W i m ys H2->H2 l=some (.lst ys) /\ ys.length<sizeLine /\
  ((J.stop i H2 /\ Q (.ref l) H2) \/ (J.go i H2 /\ ∀x H3,J.yld i H2 x H3->g x (List.replicate nt none++jf5 idx σ) H3 λσ4 H4=>tc σ4 H4 λc H5=>
   if c=true then te σ4 H5 λy H6=>H6 l=some (.lst ys) /\ ∃m',m'<m /\ W (i+1) m' (ys++[y]) (upd H6 l (.lst (ys++[y]))) else ∃m',m'<m /\ W (i+1) m' ys H5)):=by
 intro a ha
 have hax:a∉ex:=λm=>hr.domx a m ha
 cases ec:Z.jbf gd items mg mt me (List.replicate nt none++Z.caps idx ρ) items h1 with
 | exc _ _=>
  exact absurd ec (jig _ _ _ _ _ _ items h1 _ _)
 | stuck=>rw[ec] at p1;exact p1.elim
 | ok all hf=>
  rw[ec] at p1
  have lo:∀(i:Nat) (hl:i<items.length),items.drop i=items[i]::items.drop (i+1):=λi hl=>List.drop_eq_getElem_cons hl
  refine⟨λi m ys H2=>m=items.length - i /\ i<=items.length /\ ∃bs' h' dys rest,HR C (a::ex) bs' h' H2 /\ (∀(k:Nat) (b:Addr),bs1[k]?=some b->bs'[k]?=some b) /\ Same (gh ex bs1 h1 H1) (gh (a::ex) bs' h' H2) /\ (∀b∈ex,H2 b=H1 b) /\
    H2 a=some (.lst ys) /\ RVs C bs' (gh (a::ex) bs' h' H2) ys dys /\ ys.length<=i /\ Z.jbf gd items mg mt me (List.replicate nt none++Z.caps idx ρ) (items.drop i) h'= .ok rest hf /\ dys++rest=all,
   ⟨items.length,by simp,Nat.zero_le _,bs1,h1,[],all,hr.show ha,λ_ _ e=>e,by rw[jr4 ha];exact Same.refl _,λb m=>by rw[jae (λz=>hax (by rw[<-z];exact m))],jaz,by simp only[RVs],Nat.zero_le _,ec,rfl⟩,?_⟩
  rintro i m ys H2 ⟨rfl,hle,bs',h',dys,rest,hr',pre,sm,exs,hl,rv,hy,er,eall⟩
  refine⟨hl,by have:sizeLine=16777216:=rfl;omega,?_⟩
  by_cases hlt:i<items.length
  ·rw[lo i hlt] at er
   unfold Z.jbf at er
   split at er
   case isFalse=>cases er
   rename_i okg
   obtain⟨go,yl⟩:=(it (a::ex) bs' h' H2 hr' pre sm okg i).1 items[i] (List.getElem?_eq_getElem hlt)
   refine .inr ⟨go,λx H3 y=> ?_⟩
   obtain⟨ev3,rx⟩:=yl x H3 y
   have re0:=(((re.mono pre sm).ev ev3).caps nt idx)
   refine hg (a::ex) bs' h' _ _ H3 x items[i] ⟨_,λ_ _=>False,λ_ _=>False,λ_ _=>False⟩ ev3.hr re0 rx ?_
   cases e:mg items[i] (List.replicate nt none++Z.caps idx ρ) h' with
   | nx ρ1 h1'=>
    rw[e] at er
    dsimp only at er
    intro σ4 bs4 H4 ev4 re4
    refine ht (a::ex) bs4 h1' ρ1 σ4 H4 _ ev4.hr re4 ?_
    cases e5:mt ρ1 h1' with
    | exc _ _=>rw[e5] at er;cases er
    | stuck=>rw[e5] at er;cases er
    | ok c h5=>
     rw[e5] at er
     rintro c' bs5 H5 ev5 rfl
     cases c' with
     | false=>
      dsimp only at er
      have ev:=(ev3.trans ev4).trans ev5
      exact⟨_,by omega,rfl,hlt,bs5,h5,dys,rest,ev5.hr,λk b q=>ev.pre k b (pre k b q),sm.trans ev.same,λb m=>(ev.exs b (List.mem_cons_of_mem _ m)).trans (exs b m),
       (ev.exs a (List.mem_cons_self ..)).trans hl,rv.ev ev,by omega,er,eall⟩
     | true=>
      dsimp only at er
      refine he (a::ex) bs5 h5 ρ1 σ4 H5 _ ev5.hr (re4.ev ev5) ?_
      cases e6:me ρ1 h5 with
      | exc _ _=>rw[e6] at er;cases er
      | stuck=>rw[e6] at er;cases er
      | ok d h6=>
       rw[e6] at er
       dsimp only at er
       intro v bs6 H6 ev6 rv6
       have ev:=((ev3.trans ev4).trans ev5).trans ev6
       have hl6:=(ev.exs a (List.mem_cons_self ..)).trans hl
       refine⟨hl6,?_⟩
       cases e7:Z.jbf gd items mg mt me (List.replicate nt none++Z.caps idx ρ) (items.drop (i+1)) h6 with
       | exc _ _=>rw[e7] at er;cases er
       | stuck=>rw[e7] at er;cases er
       | ok rest' hf'=>
        rw[e7] at er
        dsimp only at er
        cases er
        refine⟨_,by omega,rfl,hlt,bs6,h6,dys++[d],rest',ev6.hr.exput,λk b q=>ev.pre k b (pre k b q),by rw[jjl];exact sm.trans ev.same,λb m=> ?_,jaz,?_,by simp;omega,e7,by simpa using eall⟩
        ·rw[jae (λz=>hax (by rw[<-z];exact m))]
         exact(ev.exs b (List.mem_cons_of_mem _ m)).trans (exs b m)
        ·rw[jjl];exact(rv.ev ev).append (.one rv6)
   | rt _ _=>rw[e] at er;cases er
   | bk _ _=>rw[e] at er;cases er
   | ct _ _=>rw[e] at er;cases er
   | exc _ _=>rw[e] at er;cases er
   | stuck=>rw[e] at er;cases er
  ·have ei:i=items.length:=by omega
   subst ei
   rw[List.drop_length] at er
   unfold Z.jbf at er
   split at er
   case isFalse=>cases er
   rename_i okg
   cases er
   rw[List.append_nil] at eall
   subst eall
   refine .inl ⟨(it (a::ex) bs' _ H2 hr' pre sm okg items.length).2 (Nat.le_refl _),?_⟩
   have q:=p1 a ys bs' (hid a H2) ⟨pre,hr'.hid hax,by rw[jns];exact sm,λb m=>by rw[jij (λz=>hax (by rw[<-z];exact m))];exact exs b m⟩ (if_pos rfl) (by rw[jns];exact rv)
   have eq:upd (hid a H2) a (.lst ys)=H2:=by
    funext x
    by_cases e:x=a
    ·rw[e,jaz,hl]
    ·rw[jae e,jij e]
   rw[eq] at q;exact q
theorem jeu{nt:Nat}{idx:List Nat}{wi:TI}{g:TG}{tc:TT}{te:TE}{l:Z.MI}{mg:Z.MG}{mt:Z.MT}{me:Z.ME}(hi:SI C E wi l)(hg:SG C E0 g mg)(ht:ST C E0 tc mt)(he:SE C E0 te me):
  SN C E (jr9 nt idx wi g tc te) (Z.jft nt idx l mg mt me):=by
 intro ex bs h ρ σ H Q hr re p
 refine hi ex bs h ρ σ H _ hr re (jdb.bind p λsrc J h1 bs1 H1 e1 it p1=> ?_)
 obtain⟨gd,items⟩:=src
 obtain⟨hz,p1⟩:=p1.chk
 dsimp only at hz p1
 exact jkm hg ht he e1.hr (re.ev e1) it hz p1
end
end L2
namespace L2
open PySem PySem.Spec PyProof.Rows
section
variable {C : Ct} {ex bs bs1 bs2 : List Addr} {h h1 h2 : Z.MH} {H H1 H2 : Hp} {E : XK}
theorem jef{α:Type}{l:List α}{n k:Nat}{a:α}(e:(l.take n)[k]?=some a):l[k]?=some a /\ k<n:=by
 rw[List.getElem?_take] at e
 by_cases hk:k<n
 ·rw[if_pos hk] at e;exact⟨e,hk⟩
 ·rw[if_neg hk] at e;cases e
theorem jl5{α:Type}{l:List α}{n k:Nat}{a:α}(e:l[k]?=some a)(hk:k<n):(l.take n)[k]?=some a:=by
 rw[List.getElem?_take,if_pos hk];exact e
mutual
theorem RV.bnd{G:Hp}{n:Nat}:∀{d:Z.D} {v:V},RV C bs G v d->Z.D.bnd n d=true->RV C (bs.take n) G v d
 | .non,v,h,_=>by simp only[RV] at h ⊢;exact h
 | .bl b,v,h,_=>by simp only[RV] at h ⊢;exact h
 | .int i,v,h,_=>by simp only[RV] at h ⊢;exact h
 | .str x,v,h,_=>by simp only[RV] at h ⊢;exact h
 | .tup ds,v,h,q=>by
  simp only[RV] at h ⊢
  simp only[Z.D.bnd] at q
  obtain⟨a,vs,h1,h2,h3⟩:=h
  exact⟨a,vs,h1,h2,RVs.bnd h3 q⟩
 | .lst ds,v,h,q=>by
  simp only[RV] at h ⊢
  simp only[Z.D.bnd] at q
  obtain⟨a,vs,h1,h2,h3⟩:=h
  exact⟨a,vs,h1,h2,RVs.bnd h3 q⟩
 | .arg ns,v,h,_=>by simp only[RV] at h ⊢;exact h
 | .ref k,v,h,q=>by
  simp only[RV] at h ⊢
  simp only[Z.D.bnd,decide_eq_true_eq] at q
  obtain⟨a,h1,h2⟩:=h
  exact⟨a,h1,jl5 h2 q⟩
 | .ty n,v,h,_=>by simp only[RV] at h ⊢;exact h
 | .cls n,v,h,_=>by simp only[RV] at h ⊢;exact h
 | .exc n,v,h,_=>by simp only[RV] at h ⊢;exact h
 | .obj c fs,v,h,q=>by
  simp only[RV] at h ⊢
  simp only[Z.D.bnd] at q
  obtain⟨a,dx,fvs,h1,h2,h3⟩:=h
  exact⟨a,dx,fvs,h1,h2,RVf.bnd h3 q⟩
 | .dic kvs,v,h,_=>by simp only[RV] at h ⊢;exact h
theorem RVs.bnd{G:Hp}{n:Nat}:∀{ds:List Z.D} {vs:List V},RVs C bs G vs ds->Z.D.bnds n ds=true->RVs C (bs.take n) G vs ds
 | [],[],_,_=>by simp only[RVs]
 | d::ds,v::vs,h,q=>by
  simp only[RVs] at h ⊢
  simp only[Z.D.bnds,Bool.and_eq_true] at q
  exact⟨RV.bnd h.1 q.1,RVs.bnd h.2 q.2⟩
 | [],_::_,h,_=>by simp only[RVs] at h
 | _::_,[],h,_=>by simp only[RVs] at h
theorem RVf.bnd{G:Hp}{n:Nat}:∀{ds:List (Str×Z.D)} {vs:List (Str×V)},RVf C bs G vs ds->Z.D.bndf n ds=true->RVf C (bs.take n) G vs ds
  | [],[],_,_=>by simp only[RVf]
  | (y,d)::ds,(x,v)::vs,h,q=>by
    simp only[RVf] at h ⊢
    simp only[Z.D.bndf,Bool.and_eq_true] at q
    exact⟨h.1,RV.bnd h.2.1 q.1,RVf.bnd h.2.2 q.2⟩
  | [],_::_,h,_=>by simp only[RVf] at h
  | _::_,[],h,_=>by simp only[RVf] at h
end
theorem jr0{n:Nat}:∀(fs:List (Str×Z.D)),Z.D.bndf n fs=Z.D.bnds n (fs.map (·.2))
  | []=>by simp only[Z.D.bndf,List.map_nil,Z.D.bnds]
  | (y,d)::fs=>by simp only[Z.D.bndf,List.map_cons,Z.D.bnds,jr0 fs]
theorem RVk.bnd{G:Hp}{n:Nat}:∀{ds:List (Sum Int Str×Z.D)} {vs:List (Key×V)},RVk C bs G vs ds->Z.D.bnds n (ds.map (·.2))=true->RVk C (bs.take n) G vs ds
  | [],[],_,_=>by simp only[RVk]
  | (y,d)::ds,(x,v)::vs,h,q=>by
    simp only[RVk] at h ⊢
    simp only[List.map_cons,Z.D.bnds,Bool.and_eq_true] at q
    exact⟨h.1,RV.bnd h.2.1 q.1,RVk.bnd h.2.2 q.2⟩
  | [],_::_,h,_=>by simp only[RVk] at h
  | _::_,[],h,_=>by simp only[RVk] at h
theorem jet.bnd{G H:Hp}{n:Nat}{a:Addr}{c:Z.Cell}(hc:jet C bs G H a c)(q:Z.Cell.bnd n (some c)=true):jet C (bs.take n) G H a c:=by
 cases c with
 | lst ds=>obtain⟨vs,h1,h2⟩:=hc;exact⟨vs,h1,h2.bnd q⟩
 | dct kvs=>obtain⟨vs,h1,h2⟩:=hc;exact⟨vs,h1,h2.bnd q⟩
 | ins c fs=>obtain⟨dx,vs,h1,h2⟩:=hc;exact⟨dx,vs,h1,h2.bnd (by rw[jr0];exact q)⟩
 | fdc kvs=>obtain⟨o,vs,h1,h2,h3⟩:=hc;exact⟨o,vs,h1,h2,h3.bnd q⟩
theorem jlw(n:Nat):Same (gh ex bs h H) (gh ex (bs.take n) (h.take n) H):=λa o e=>by
 obtain⟨h1,h2,h3⟩:=jbd.mp e
 exact jbd.mpr ⟨h1,λ⟨k,c,e1,e2,l2⟩=>h2 ⟨k,c,(jef e1).1,(jef e2).1,l2⟩,h3⟩
theorem HR.take{n:Nat}(r:HR C ex bs h H)(q:(h.take n).all (Z.Cell.bnd n)=true):HR C ex (bs.take n) (h.take n) H:=by
 refine⟨by simp[r.len],λi j a e1 e2=>r.inj i j a (jef e1).1 (jef e2).1,λa m z=>r.sep a m (List.mem_of_mem_take z),λa m=>r.dom a (List.mem_of_mem_take m),r.domx,λk a c e1 e2=> ?_⟩
 have hc:=r.cell k a c (jef e1).1 (jef e2).1
 have qc:Z.Cell.bnd n (some c)=true:=List.all_eq_true.mp q _ (List.mem_of_getElem? e2)
 exact(hc.bnd qc).mono (λ_ _ e=>e) (jlw n) rfl
theorem Ev.take{bs':List Addr}{h':Z.MH}{H':Hp}(hr:HR C ex bs h H)(e:Ev C ex bs h H bs' h' H')(q:(h'.take h.length).all (Z.Cell.bnd h.length)=true):Ev C ex bs h H (bs'.take h.length) (h'.take h.length) H':=
 ⟨λk a z=>jl5 (e.pre k a z) (by rw[<-hr.len];exact(List.getElem?_eq_some_iff.mp z).1),e.hr.take q,e.same.trans (jlw _),e.exs⟩
theorem jnt{d:Z.D}{h':Z.MH}{Q:VK}{v:V}{bs':List Addr}{H':Hp}(hr:HR C ex bs h H)(p:Post C ex E bs h H (RV C) (Z.fin h.length d h') Q)(e:Ev C ex bs h H bs' h' H')(rv:RV C bs' (gh ex bs' h' H') v d):Q v H':=by
 unfold Z.fin at p
 split at p
 ·exact p v bs' H' e rv
 ·split at p
  ·rename_i q
   rw[Bool.and_eq_true] at q
   exact p v _ H' (e.take hr q.2) ((rv.bnd q.1).mono (λ_ _ e=>e) (jlw _))
  ·exact p v bs' H' e rv
theorem RE.start{G:Hp}{vs:List V}{ds:List Z.D}{N:List Str}(r:RVs C bs G vs ds)(hn:ds.length<=N.length):RE C bs G (ds.map some++List.replicate (N.length - ds.length) none) (L2.start N vs):=by
 have hl:=r.len
 unfold L2.start
 refine⟨by simp[hl],λi d hi=> ?_⟩
 by_cases hlt:i<ds.length
 ·rw[List.getElem?_append_left (by simpa using hlt),List.getElem?_map] at hi
  rw[List.getElem?_append_left (by simp;omega),List.getElem?_map]
  cases e:ds[i]? with
  | none=>rw[e] at hi;cases hi
  | some z=>
   rw[e] at hi
   simp at hi;subst hi
   obtain⟨v,h1,h2⟩:=r.get e
   exact⟨v,by rw[h1];rfl,h2⟩
 ·rw[List.getElem?_append_right (by simp;omega),List.getElem?_replicate] at hi
  split at hi<;>cases hi
theorem okZ{P:Program}{w:World}{K:W.Frag}{mg:Str->Option Value}{base:Heap}{x qual:Str}{st:Stmt}{f:Addr}{fd:FuncData}{N ps:List Str}{k np nn:Nat}{b:Z.MS}{z:Z.MF}(F:Fun K x qual st f fd)(S:FnScope N ps (jab st))
  (hz:z=Z.mFun np nn b) (hp:ps.length=np) (hn:N.length=nn) (hle:np<=nn)
  (hb:∀(cdv:Value) (A:Around) (outer:List Env) (s:Shared) (H:Hp) (E:XK),Room k (A.deeper (envOfC qual (jab st) s.heap.objs.size f cdv))->
   ∃t,PSs (cxOf (CXE P w) P w K mg base N qual (jab st) f cdv A outer s H E) (jdf st) t /\ SS C E t b):FnOk P w K mg base (CXE P w) (k+1) f fd ps (spZ C z):=by
 subst hz
 refine F.okE S (λvs H Q E q=> ?_) λcdv A outer s H vs Q E hr q=> ?_
 ·obtain⟨ex,bs,h,ds,hr,rv,p⟩:=q
  unfold Z.mFun at p
  split at p
  ·rename_i hd;rw[rv.len,hd,hp]
  ·exact p.elim
 ·obtain⟨ex,bs,h,ds,hr',rv,p⟩:=q
  obtain⟨t,hps,hss⟩:=hb cdv A outer s H E hr
  refine⟨t,hps,?_⟩
  unfold Z.mFun at p
  split at p
  ·rename_i hd
   refine hss ex bs h (ds.map some++List.replicate (nn - ds.length) none) (L2.start N vs) H _ hr' (by rw[<-hn];exact RE.start rv (by omega)) ?_
   cases e:b (ds.map some++List.replicate (nn - ds.length) none) h with
   | nx ρ' h'=>rw[e] at p;exact λσ' bs' H' ev re=>jnt hr' p ev (by simp only[RV])
   | rt d h'=>rw[e] at p;exact λv bs' H' ev rv=>jnt hr' p ev rv
   | exc c h'=>
    rw[e] at p
    intro bs' H' ev
    dsimp only at p
    split at p
    ·exact p bs' H' ev
    ·split at p
     ·rename_i q;exact p _ H' (ev.take hr' q)
     ·exact p bs' H' ev
   | bk _ _=>rw[e] at p;exact p.elim
   | ct _ _=>rw[e] at p;exact p.elim
   | stuck=>rw[e] at p;exact p.elim
  ·exact p.elim
theorem jio{d:Z.D}{v:V}{xs:List Z.D}(hr:HR C ex bs h H)(r:RV C bs (gh ex bs h H) v d)(e:Z.asQ h d=some xs):∃a vs,v= .ref a /\ (SqL C.K H a vs \/ SqT C.K H a vs) /\ RVs C bs (gh ex bs h H) vs xs:=by
 cases d with
 | lst ds=>
  simp only[RV] at r
  obtain⟨a,vs,rfl,ga,rs⟩:=r
  cases e
  exact⟨a,vs,rfl,.inl (SqL.of (jbn _ _ ga)),rs⟩
 | tup ds=>
  simp only[RV] at r
  obtain⟨a,vs,rfl,ga,rs⟩:=r
  cases e
  exact⟨a,vs,rfl,.inr (SqT.of (jbn _ _ ga)),rs⟩
 | arg ns=>
  simp only[RV] at r
  obtain⟨a,rfl,ga⟩:=r
  cases e
  refine⟨a,_,rfl,.inl (jbn.sql ga),?_⟩
  clear ga hr
  induction ns with
  | nil=>simp only[List.map_nil,RVs]
  | cons n ns ih=>simp only[List.map_cons,RVs,RV];exact⟨trivial,ih⟩
 | ref k=>
  simp only[RV] at r
  obtain⟨a,rfl,hk⟩:=r
  simp only[Z.asQ] at e
  split at e
  ·rename_i ys hc
   cases e
   obtain⟨vs,ha,rs⟩:=hr.cell k a _ hk hc
   exact⟨a,vs,rfl,.inl (SqL.of ha),rs⟩
  ·cases e
 | _=>cases e
theorem ItOk.list{a:Addr}{vs:List V}{ds:List Z.D}{G:Hp}(hq:SqL C.K G a vs)(r:RVs C bs G vs ds):ItOk C bs G (Itl C.K a) (none,ds):=by
 intro ex2 bs2 h2 H2 hr pre sm _ i
 have hq2:SqL C.K H2 a vs:=(sm.trans jbn).sql hq
 refine⟨λd e=> ?_,λhle=>⟨vs,hq2,by rw[r.len];exact hle⟩⟩
 obtain⟨v,hv,rv⟩:=r.get e
 refine⟨⟨vs,v,hq2,hv⟩,λx H3 y=> ?_⟩
 obtain⟨rfl,y⟩:=y
 have:=y vs hq2
 rw[hv] at this;cases this
 exact⟨Ev.refl hr,rv.mono pre sm⟩
theorem Same.sqt{K:W.Frag}{H H':Hp}{a:Addr}{xs:List V}(e:Same H H')(h:SqT K H a xs):SqT K H' a xs:=by
 rcases h with(h | ⟨o,h⟩) | h
 ·exact .inl (.inl (e _ _ h))
 ·exact .inl (.inr ⟨o,e _ _ h⟩)
 ·exact .inr h
theorem ItOk.tup{a:Addr}{vs:List V}{ds:List Z.D}{G:Hp}(hq:SqT C.K G a vs)(r:RVs C bs G vs ds):ItOk C bs G (Itt C.K a) (none,ds):=by
 intro ex2 bs2 h2 H2 hr pre sm _ i
 have hq2:SqT C.K H2 a vs:=(sm.trans jbn).sqt hq
 refine⟨λd e=> ?_,λhle=>⟨vs,hq2,by rw[r.len];exact hle⟩⟩
 obtain⟨v,hv,rv⟩:=r.get e
 refine⟨⟨vs,v,hq2,hv⟩,λx H3 y=> ?_⟩
 obtain⟨rfl,y⟩:=y
 have:=y vs hq2
 rw[hv] at this;cases this
 exact⟨Ev.refl hr,rv.mono pre sm⟩
theorem ItOk.rng{lo:Int}{n:Nat}{G:Hp}:ItOk C bs G (Itr lo n) (none,Z.rng lo n):=by
 intro ex2 bs2 h2 H2 hr pre sm _ i
 unfold Z.rng
 refine⟨λd e=> ?_,λhle=>by show n<=i;simpa using hle⟩
 rw[List.getElem?_map] at e
 cases e2:(List.range n)[i]? with
 | none=>rw[e2] at e;cases e
 | some j=>
  rw[e2] at e
  simp at e;subst e
  obtain⟨hi,hj⟩:=List.getElem?_eq_some_iff.mp e2
  simp at hi hj
  subst hj
  refine⟨hi,λx H3 y=> ?_⟩
  obtain⟨rfl,rfl⟩:=y
  exact⟨Ev.refl hr,by simp only[RV]⟩
theorem si_V{t:TE}{m:Z.ME}(ht:SE C E t m):SI C E (iV C.K t) (Z.lIt m):=by
 intro ex bs h ρ σ H Q hr re p
 refine ht ex bs h ρ σ H _ hr re (p.bind λd x h1 bs1 H1 e1 rx p1=> ?_)
 cases d with
 | lst ds=>
  simp only[RV] at rx
  obtain⟨a,vs,rfl,ga,rs⟩:=rx
  exact .inl ⟨a,rfl,.inl ⟨⟨vs,SqL.of (jbn _ _ ga)⟩,Post.now e1.hr p1 (.list (SqL.of ga) rs)⟩⟩
 | tup ds=>
  simp only[RV] at rx
  obtain⟨a,vs,rfl,ga,rs⟩:=rx
  exact .inl ⟨a,rfl,.inr ⟨⟨vs,SqT.of (jbn _ _ ga)⟩,Post.now e1.hr p1 (.tup (SqT.of ga) rs)⟩⟩
 | arg ns=>
  have:=jio e1.hr rx (xs:=ns.map .int) rfl
  simp only[RV] at rx
  obtain⟨a,rfl,ga⟩:=rx
  refine .inl ⟨a,rfl,.inl ⟨⟨_,jbn.sql ga⟩,Post.now e1.hr p1 (.list ga ?_)⟩⟩
  clear this ga p1 p
  induction ns with
  | nil=>simp only[List.map_nil,RVs]
  | cons n ns ih=>simp only[List.map_cons,RVs,RV];exact⟨trivial,ih⟩
 | str z=>
  simp only[RV] at rx
  subst rx
  refine .inr ⟨z,rfl,Post.now e1.hr p1 ?_⟩
  intro ex2 bs2 h2 H2 hr pre sm _ i
  refine⟨λd e=> ?_,λhle=>by show z.length<=i;simpa [Str.length] using hle⟩
  rw[List.getElem?_map] at e
  cases e2:z.cps.toList[i]? with
  | none=>rw[e2] at e;cases e
  | some c=>
   rw[e2] at e
   simp at e;subst e
   have hi:=(List.getElem?_eq_some_iff.mp e2).1
   refine⟨by show i<z.length;simpa [Str.length] using hi,λx H3 y=> ?_⟩
   obtain⟨rfl,c',hc,rfl⟩:=y
   have:z.cps[i]?=some c:=by simpa using e2
   rw[this] at hc;cases hc
   exact⟨Ev.refl hr,by simp only[RV]⟩
 | ref k=>
  simp only[RV] at rx
  obtain⟨a,rfl,hk⟩:=rx
  dsimp only at p1
  split at p1
  ·rename_i xs hc
   obtain⟨vs,ha,rs⟩:=e1.hr.cell k a _ hk hc
   refine .inl ⟨a,rfl,.inl ⟨⟨vs,SqL.of ha⟩,Post.now e1.hr p1 ?_⟩⟩
   intro ex2 bs2 h2 H2 hr pre sm okg i
   obtain⟨ws,ha2,rs2⟩:=hr.cell k a _ (pre k a hk) okg
   refine⟨λd e=> ?_,λhle=>⟨ws,SqL.of ha2,by rw[rs2.len];exact hle⟩⟩
   obtain⟨v,hv,rv⟩:=rs2.get e
   refine⟨⟨ws,v,SqL.of ha2,hv⟩,λx H3 y=> ?_⟩
   obtain⟨rfl,y⟩:=y
   have:=y ws (SqL.of ha2)
   rw[hv] at this;cases this
   exact⟨Ev.refl hr,rv⟩
  ·exact p1.elim
 | _=>exact p1.elim
theorem jdp{t:TA}{m:Z.ML}(ht:SA C E t m):SI C E (iRng1 t) (Z.jfm m):=by
 intro ex bs h ρ σ H Q hr re p
 refine ht ex bs h ρ σ H _ hr re (p.bind λds xs h1 bs1 H1 e1 rx p1=> ?_)
 split at p1
 ·rename_i j
  obtain⟨hj,p1⟩:=p1.chk
  cases xs with
  | nil=>simp only[RVs] at rx
  | cons v vs=>
   cases vs with
   | cons _ _=>simp only[RVs] at rx;exact rx.2.elim
   | nil=>
    simp only[RVs,RV] at rx
    rw[rx.1]
    exact⟨j,rfl,by omega,by omega,Post.now e1.hr p1 .rng⟩
 ·exact p1.elim
end
section
variable {C : Ct} {ex bs bs1 bs2 : List Addr} {h h1 h2 : Z.MH} {H H1 H2 : Hp} {E : XK}
theorem jo5{f:Int->Int->Int}:S2 C (rI0 λi j=> .int (f i j)) (Z.dInt f):=by
 intro ex bs h H E x y dx dy Q hr rx ry p
 unfold Z.dInt at p
 split at p
 ·simp only[RV] at rx ry
  exact⟨_,_,rx,ry,p.now hr (by simp only[RV])⟩
 ·exact p.elim
theorem jhs{c c':Int->Int->Prop}[∀i j,Decidable (c i j)]{f:Int->Int->Int}(hc:∀i j,c i j->c' i j):S2 C (rI c' λi j=> .int (f i j)) (Z.jjf c f):=by
 intro ex bs h H E x y dx dy Q hr rx ry p
 unfold Z.jjf at p
 split at p
 ·obtain⟨q,p⟩:=p.chk
  simp only[RV] at rx ry
  exact⟨_,_,rx,ry,hc _ _ q,p.now hr (by simp only[RV])⟩
 ·exact p.elim
theorem jsv{f:Int->Int->Bool}:S2 C (rI0 λi j=> .bl (f i j)) (Z.dCmp f):=by
 intro ex bs h H E x y dx dy Q hr rx ry p
 unfold Z.dCmp at p
 split at p
 ·simp only[RV] at rx ry
  exact⟨_,_,rx,ry,p.now hr (by simp only[RV])⟩
 ·exact p.elim
theorem jgg:S2 C (rI0 λi j=> .int (i - j)) Z.dSub:=jo5
theorem je4:S2 C (rI0 λi j=> .int (Builtin.bitAnd i j)) Z.dAnd:=jo5
theorem jh7:S2 C (rI0 λi j=> .int (Builtin.bitOr i j)) Z.dOr:=jo5
theorem jo6:S2 C (rI0 λi j=> .int (Builtin.bitXor i j)) Z.dXor:=jo5
theorem jd8:S2 C (rI CDiv λi j=> .int (i / j)) Z.dDiv:=jhs λ_ _ q=>q
theorem jc5:S2 C (rI (λ_ j=>0<j) λi j=> .int (i % j)) Z.dMod:=jhs λ_ _ q=>q
theorem jnx{i j:Int}(q:Z.ji3 i j):CPow i j:=by unfold Z.ji3 at q;unfold CPow;exact⟨q.1,q.2.1,by have:=q.2.2;omega⟩
theorem jtf{i j:Int}(q:Z.jms i j):CMul i j:=by unfold Z.jms at q;unfold CMul;omega
theorem jrx:S2 C (rI CPow λi j=> .int (i^j.toNat)) Z.dPow:=jhs λ_ _ q=>jnx q
theorem jcf:S2 C (rI CPow λi j=> .int (i*2^j.toNat)) Z.dShl:=jhs λ_ _ q=>jnx q
theorem jw5:S2 C (rI (λ_ j=>0<=j) λi j=> .int (i / 2^j.toNat)) Z.dShr:=jhs λ_ _ q=>q
theorem jmt:S2 C (rI0 λi j=> .bl (decide (i<j))) Z.dLt:=jsv
theorem s2_le:S2 C (rI0 λi j=> .bl (decide (i<=j))) Z.dLe:=jsv
theorem jz1:S2 C (rI0 λi j=> .bl (decide (j<=i))) Z.dGe:=jsv
theorem jih:S1 C (rU λi=> .int (-i)) Z.dNeg:=by
 intro ex bs h H E x dx Q hr rx p
 unfold Z.dNeg at p
 split at p
 ·simp only[RV] at rx;exact⟨_,rx,p.now hr (by simp only[RV])⟩
 ·exact p.elim
theorem jl3:S1 C (rU λi=> .int (Builtin.bitNot i)) Z.dInv:=by
 intro ex bs h H E x dx Q hr rx p
 unfold Z.dInv at p
 split at p
 ·simp only[RV] at rx;exact⟨_,rx,p.now hr (by simp only[RV])⟩
 ·exact p.elim
theorem jjz{d:Z.D}{v:V}{xs:List Z.D}(hr:HR C ex bs h H)(r:RV C bs (gh ex bs h H) v d)(e:Z.asL h d=some xs):∃a vs,v= .ref a /\ H a=some (.lst vs) /\ RVs C bs (gh ex bs h H) vs xs:=by
 cases d with
 | lst ds=>
  simp only[RV] at r
  obtain⟨a,vs,rfl,ga,rs⟩:=r
  cases e
  exact⟨a,vs,rfl,jbn _ _ ga,rs⟩
 | ref k=>
  simp only[RV] at r
  obtain⟨a,rfl,hk⟩:=r
  simp only[Z.asL] at e
  split at e
  ·rename_i ys hc
   cases e
   obtain⟨vs,ha,rs⟩:=hr.cell k a _ hk hc
   exact⟨a,vs,rfl,ha,rs⟩
  ·cases e
 | _=>cases e
theorem Post.tree{ds:List Z.D}{vs:List V}{p:Addr}{Q:VK}(hr:HR C ex bs h H)(q:Post C ex E bs h H (RV C) (.ok (.lst ds) h) Q)(hp:H p=none)(r:RVs C bs (gh ex bs h H) vs ds):Q (.ref p) (upd H p (.lst vs)):=by
 obtain⟨e2,g⟩:=Ev.alloc (o:= .lst vs) hr hp
 exact q (.ref p) bs _ e2 (by simp only[RV];exact⟨p,vs,rfl,g,r.ev e2⟩)
theorem Post.ttup{ds:List Z.D}{vs:List V}{p:Addr}{Q:VK}(hr:HR C ex bs h H)(q:Post C ex E bs h H (RV C) (.ok (.tup ds) h) Q)(hp:H p=none)(r:RVs C bs (gh ex bs h H) vs ds):Q (.ref p) (upd H p (.tup vs)):=by
 obtain⟨e2,g⟩:=Ev.alloc (o:= .tup vs) hr hp
 exact q (.ref p) bs _ e2 (by simp only[RV];exact⟨p,vs,rfl,g,r.ev e2⟩)
theorem jd0:S2 C (uAdd C.K) Z.dAdd:=by
 intro ex bs h H E x y dx dy Q hr rx ry p
 unfold Z.dAdd at p
 split at p
 ·simp only[RV] at rx ry
  subst rx ry
  exact p.now hr (by simp only[RV])
 ·obtain⟨q,p⟩:=p.chk
  simp only[RV] at rx ry
  subst rx ry
  exact⟨q,p.now hr (by simp only[RV])⟩
 ·obtain⟨q,p⟩:=p.chk
  simp only[RV] at rx ry
  obtain⟨a,vs,rfl,ga,rs⟩:=rx
  obtain⟨b,ws,rfl,gb,qs⟩:=ry
  have hl:=rs.len
  have hl':=qs.len
  refine .inr ⟨a,b,vs,ws,rfl,rfl,SqT.of (jbn _ _ ga),SqT.of (jbn _ _ gb),λz=>q.1 (List.eq_nil_of_length_eq_zero (by rw[<-hl,z];rfl)),by rw[hl,hl'];exact q.2,λz=> ?_,λ_ l hl=>Post.ttup hr p hl (rs.append qs)⟩
  subst z
  refine p.now hr ?_
  simp only[RV]
  have:=rs.append qs
  rw[List.append_nil] at this
  exact⟨a,vs,rfl,ga,this⟩
 ·obtain⟨xs,e1,p⟩:=p.oR
  obtain⟨ys,e2,p⟩:=p.oR
  obtain⟨q,p⟩:=p.chk
  obtain⟨a,vs,rfl,ha,rs⟩:=jjz hr rx e1
  obtain⟨b,ws,rfl,hb,qs⟩:=jjz hr ry e2
  exact .inl ⟨a,b,vs,ws,rfl,rfl,ha,hb,by rw[rs.len,qs.len];exact q,λl hl=>Post.tree hr p hl (rs.append qs)⟩
theorem RVs.rep{G:Hp}{vs:List V}{ds:List Z.D}(r:RVs C bs G vs ds):∀n:Nat,RVs C bs G (List.replicate n vs).flatten (List.replicate n ds).flatten
 | 0=>by simp[RVs]
 | n+1=>by
  rw[List.replicate_succ,List.replicate_succ,List.flatten_cons,List.flatten_cons]
  exact r.append (RVs.rep r n)
theorem jvk:S2 C jy8 Z.dMul:=by
 intro ex bs h H E x y dx dy Q hr rx ry p
 unfold Z.dMul at p
 split at p
 ·obtain⟨q,p⟩:=p.chk
  simp only[RV] at rx ry
  subst rx ry
  exact⟨jtf q,p.now hr (by simp only[RV])⟩
 ·obtain⟨q,p⟩:=p.chk
  simp only[RV] at rx ry
  subst rx ry
  exact⟨q.1,q.2,p.now hr (by simp only[RV])⟩
 ·obtain⟨xs,e1,p⟩:=p.oR
  obtain⟨q,p⟩:=p.chk
  obtain⟨a,vs,rfl,ha,rs⟩:=jjz hr rx e1
  simp only[RV] at ry
  subst ry
  exact⟨a,_,vs,rfl,rfl,ha,by have:=q.1;omega,by have:=q.1;omega,by rw[rs.len];exact q.2,λl hl=>Post.tree hr p hl (rs.rep _)⟩
 ·exact p.elim
theorem RVk.len{G:Hp}:∀{ds:List (Sum Int Str×Z.D)} {vs:List (Key×V)},RVk C bs G vs ds->vs.length=ds.length
  | [],[],_=>rfl
  | (_,_)::ds,(_,_)::vs,h=>by simp only[RVk] at h;simp[RVk.len h.2.2]
  | [],_::_,h=>by simp only[RVk] at h
  | _::_,[],h=>by simp only[RVk] at h
theorem jnp{d:Z.D}{v:V}{k:Bool}(hr:HR C ex bs h H)(r:RV C bs (gh ex bs h H) v d)(e:Z.jfz h d=some k):TruV C.K v H k:=by
 have sq:∀{xs:List Z.D},Z.asQ h d=some xs->k= !xs.isEmpty->TruV C.K v H k:=fun{xs} e1 e2=>by
  obtain⟨a,vs,rfl,hq,rs⟩:=jio hr r e1
  have:k= !vs.isEmpty:=by
   rw[e2]
   have:=rs.len
   cases vs<;>cases xs<;>first | rfl | (simp at this)
  rcases hq with hq | hq
  ·exact .inl ⟨vs,hq,this⟩
  ·exact .inr (.inl ⟨vs,hq,this⟩)
 cases d with
 | non=>simp only[RV] at r;subst r;cases e;rfl
 | bl b=>simp only[RV] at r;subst r;cases e;rfl
 | int i=>simp only[RV] at r;subst r;cases e;rfl
 | str y=>
  simp only[RV] at r;subst r
  simp only[Z.jfz] at e
  split at e
  ·rename_i hz;cases e;exact⟨hz,rfl⟩
  ·cases e
 | lst xs=>simp only[Z.jfz,Z.asQ,Option.some.injEq] at e;exact sq rfl e.symm
 | tup xs=>simp only[Z.jfz,Z.asQ,Option.some.injEq] at e;exact sq rfl e.symm
 | arg ns=>simp only[Z.jfz,Z.asQ,Option.some.injEq] at e;exact sq rfl e.symm
 | ref j=>
  simp only[Z.jfz] at e
  split at e
  ·rename_i xs hx
   simp only[Option.some.injEq] at e
   exact sq hx e.symm
  ·simp only[Z.asD] at e
   split at e
   ·rename_i kvs hc
    simp only[Option.map_some,Option.some.injEq] at e
    simp only[RV] at r
    obtain⟨a,rfl,hk⟩:=r
    obtain⟨kws,ha,rk⟩:=hr.cell j a _ hk hc
    refine .inr (.inr ⟨kws,ha,?_⟩)
    rw[<-e]
    have:=rk.len
    cases kws<;>cases kvs<;>first | rfl | (simp at this)
   ·cases e
 | ty n=>simp[Z.jfz,Z.asQ] at e
 | cls n=>simp[Z.jfz,Z.asQ] at e
 | exc n=>simp[Z.jfz,Z.asQ] at e
 | obj c fs=>simp[Z.jfz,Z.asQ] at e
 | dic kvs=>simp[Z.jfz,Z.asQ] at e
theorem jax{t:TE}{m:Z.ME}(ht:SE C E t m):ST C E (λσ H Q=>t σ H λx H'=>∃k,TruV C.K x H' k /\ Q k H') (Z.tTru m):=by
 intro ex bs h ρ σ H Q hr re p
 refine ht ex bs h ρ σ H _ hr re (p.bind λd x h1 bs1 H1 e1 rx p1=> ?_)
 obtain⟨k,ek,p1⟩:=p1.oR1
 exact⟨k,jnp e1.hr rx ek,Post.now e1.hr p1 rfl⟩
theorem jny{t:TE}{m:Z.ME}(ht:SE C E t m):SE C E (λσ H Q=>t σ H λx H1=>∃k,TruV C.K x H1 k /\ Q (.bl (!k)) H1) (Z.jrw m):=by
 intro ex bs h ρ σ H Q hr re p
 refine ht ex bs h ρ σ H _ hr re (p.bind λd x h1 bs1 H1 e1 rx p1=> ?_)
 obtain⟨k,ek,p1⟩:=p1.oR
 exact⟨k,jnp e1.hr rx ek,p1.now e1.hr (by simp only[RV])⟩
mutual
theorem RV.rep{G:Hp}:∀{d:Z.D} {v:V} {q:PyData},RV C bs G v d->d.py=some q->Rep G v q
 | .non,v,q,h,e=>by simp only[RV] at h;simp only[Z.D.py,Option.some.injEq] at e;subst e;simp only[Rep];exact h
 | .bl b,v,q,h,e=>by simp only[RV] at h;simp only[Z.D.py,Option.some.injEq] at e;subst e;simp only[Rep];exact h
 | .int i,v,q,h,e=>by simp only[RV] at h;simp only[Z.D.py,Option.some.injEq] at e;subst e;simp only[Rep];exact h
 | .str x,v,q,h,e=>by
  simp only[RV] at h
  simp only[Z.D.py] at e
  split at e
  ·simp only[Option.some.injEq] at e;subst e;simp only[Rep];exact h
  ·cases e
 | .tup ds,v,q,h,e=>by
  simp only[RV] at h
  simp only[Z.D.py] at e
  obtain⟨a,vs,h1,h2,h3⟩:=h
  cases e2:Z.D.pys ds with
  | none=>rw[e2] at e;cases e
  | some ps=>
   rw[e2] at e
   simp only[Option.map_some,Option.some.injEq] at e
   subst e
   simp only[Rep]
   exact⟨a,vs,h1,h2,RVs.reps h3 e2⟩
 | .lst ds,v,q,h,e=>by
  simp only[RV] at h
  simp only[Z.D.py] at e
  obtain⟨a,vs,h1,h2,h3⟩:=h
  cases e2:Z.D.pys ds with
  | none=>rw[e2] at e;cases e
  | some ps=>
   rw[e2] at e
   simp only[Option.map_some,Option.some.injEq] at e
   subst e
   simp only[Rep]
   exact⟨a,vs,h1,h2,RVs.reps h3 e2⟩
 | .arg _,_,_,_,e=>by simp only[Z.D.py] at e;cases e
 | .ref _,_,_,_,e=>by simp only[Z.D.py] at e;cases e
 | .ty _,_,_,_,e=>by simp only[Z.D.py] at e;cases e
 | .cls _,_,_,_,e=>by simp only[Z.D.py] at e;cases e
 | .exc _,_,_,_,e=>by simp only[Z.D.py] at e;cases e
 | .obj _ _,_,_,_,e=>by simp only[Z.D.py] at e;cases e
 | .dic _,_,_,_,e=>by simp only[Z.D.py] at e;cases e
theorem RVs.reps{G:Hp}:∀{ds:List Z.D} {vs:List V} {qs:List PyData},RVs C bs G vs ds->Z.D.pys ds=some qs->Reps G vs qs
 | [],[],qs,_,e=>by simp only[Z.D.pys,Option.some.injEq] at e;subst e;simp only[Reps]
 | d::ds,v::vs,qs,h,e=>by
  simp only[RVs] at h
  simp only[Z.D.pys] at e
  split at e
  ·rename_i p ps e1 e2
   simp only[Option.some.injEq] at e
   subst e
   simp only[Reps]
   exact⟨RV.rep h.1 e1,RVs.reps h.2 e2⟩
  ·cases e
 | [],_::_,_,h,_=>by simp only[RVs] at h
 | _::_,[],_,h,_=>by simp only[RVs] at h
end
mutual
theorem jxi:∀{d e:Z.D} {p q:PyData},d.py=some p->e.py=some q->PyData.eqv p q=d.eq e
  | .non,e,p,q,hd,he=>by
    simp only[Z.D.py,Option.some.injEq] at hd;subst hd
    cases e<;>simp only[Z.D.py,Option.some.injEq] at he<;>(try cases he)<;>first
      | (subst he;simp[PyData.eqv,Z.D.eq];done)
      | (split at he<;>first | (cases he;simp[PyData.eqv,Z.D.eq];done) | cases he)
      | (simp only[Option.map_eq_some_iff] at he;obtain⟨_,_,rfl⟩:=he;simp[PyData.eqv,Z.D.eq];done)
      | (simp[PyData.eqv,Z.D.eq];done)
  | .bl b,e,p,q,hd,he=>by
    simp only[Z.D.py,Option.some.injEq] at hd;subst hd
    cases e<;>simp only[Z.D.py,Option.some.injEq] at he<;>(try cases he)<;>first
      | (subst he;simp[PyData.eqv,Z.D.eq];done)
      | (split at he<;>first | (cases he;simp[PyData.eqv,Z.D.eq];done) | cases he)
      | (simp only[Option.map_eq_some_iff] at he;obtain⟨_,_,rfl⟩:=he;simp[PyData.eqv,Z.D.eq];done)
      | (simp[PyData.eqv,Z.D.eq];done)
  | .int b,e,p,q,hd,he=>by
    simp only[Z.D.py,Option.some.injEq] at hd;subst hd
    cases e<;>simp only[Z.D.py,Option.some.injEq] at he<;>(try cases he)<;>first
      | (subst he;simp[PyData.eqv,Z.D.eq];done)
      | (split at he<;>first | (cases he;simp[PyData.eqv,Z.D.eq];done) | cases he)
      | (simp only[Option.map_eq_some_iff] at he;obtain⟨_,_,rfl⟩:=he;simp[PyData.eqv,Z.D.eq];done)
      | (simp[PyData.eqv,Z.D.eq];done)
  | .str b,e,p,q,hd,he=>by
    simp only[Z.D.py] at hd
    split at hd
    · cases hd
      cases e<;>simp only[Z.D.py,Option.some.injEq] at he<;>(try cases he)<;>first
        | (subst he;simp[PyData.eqv,Z.D.eq];done)
        | (split at he<;>first | (cases he;simp[PyData.eqv,Z.D.eq];done) | cases he)
        | (simp only[Option.map_eq_some_iff] at he;obtain⟨_,_,rfl⟩:=he;simp[PyData.eqv,Z.D.eq];done)
        | (simp[PyData.eqv,Z.D.eq];done)
    · cases hd
  | .tup xs,e,p,q,hd,he=>by
    simp only[Z.D.py,Option.map_eq_some_iff] at hd
    obtain⟨ps,h1,rfl⟩:=hd
    cases e with
    | tup ys=>
      simp only[Z.D.py,Option.map_eq_some_iff] at he
      obtain⟨qs,h2,rfl⟩:=he
      simp only[PyData.eqv,Z.D.eq]
      exact jqp h1 h2
    | _=>
      simp only[Z.D.py,Option.some.injEq] at he<;>(try cases he)<;>first
        | (subst he;simp[PyData.eqv,Z.D.eq];done)
        | (split at he<;>first | (cases he;simp[PyData.eqv,Z.D.eq];done) | cases he)
        | (simp only[Option.map_eq_some_iff] at he;obtain⟨_,_,rfl⟩:=he;simp[PyData.eqv,Z.D.eq];done)
        | (simp[PyData.eqv,Z.D.eq];done)
  | .lst xs,e,p,q,hd,he=>by
    simp only[Z.D.py,Option.map_eq_some_iff] at hd
    obtain⟨ps,h1,rfl⟩:=hd
    cases e with
    | lst ys=>
      simp only[Z.D.py,Option.map_eq_some_iff] at he
      obtain⟨qs,h2,rfl⟩:=he
      simp only[PyData.eqv,Z.D.eq]
      exact jqp h1 h2
    | _=>
      simp only[Z.D.py,Option.some.injEq] at he<;>(try cases he)<;>first
        | (subst he;simp[PyData.eqv,Z.D.eq];done)
        | (split at he<;>first | (cases he;simp[PyData.eqv,Z.D.eq];done) | cases he)
        | (simp only[Option.map_eq_some_iff] at he;obtain⟨_,_,rfl⟩:=he;simp[PyData.eqv,Z.D.eq];done)
        | (simp[PyData.eqv,Z.D.eq];done)
  | .arg _,_,_,_,e,_=>by simp only[Z.D.py] at e;cases e
  | .ref _,_,_,_,e,_=>by simp only[Z.D.py] at e;cases e
  | .ty _,_,_,_,e,_=>by simp only[Z.D.py] at e;cases e
  | .cls _,_,_,_,e,_=>by simp only[Z.D.py] at e;cases e
  | .exc _,_,_,_,e,_=>by simp only[Z.D.py] at e;cases e
  | .obj _ _,_,_,_,e,_=>by simp only[Z.D.py] at e;cases e
  | .dic _,_,_,_,e,_=>by simp only[Z.D.py] at e;cases e
theorem jqp:∀{ds es:List Z.D} {ps qs:List PyData},Z.D.pys ds=some ps->Z.D.pys es=some qs->PyData.eqvAll ps qs=Z.D.eqs ds es
 | [],[],ps,qs,h1,h2=>by
  simp only[Z.D.pys,Option.some.injEq] at h1 h2;subst h1 h2;simp only[PyData.eqvAll,Z.D.eqs]
 | d::ds,e::es,ps,qs,h1,h2=>by
  simp only[Z.D.pys] at h1 h2
  split at h1
  ·split at h2
   ·rename_i p1 ps1 a1 a2 _ _ q1 qs1 b1 b2
    simp only[Option.some.injEq] at h1 h2
    subst h1 h2
    simp only[PyData.eqvAll,Z.D.eqs]
    rw[jxi a1 b1,jqp a2 b2]
   ·cases h2
  ·cases h1
 | [],e::es,ps,qs,h1,h2=>by
  simp only[Z.D.pys] at h1 h2
  split at h2
  ·simp only[Option.some.injEq] at h1 h2;subst h1 h2;simp only[PyData.eqvAll,Z.D.eqs]
  ·cases h2
 | d::ds,[],ps,qs,h1,h2=>by
  simp only[Z.D.pys] at h1 h2
  split at h1
  ·simp only[Option.some.injEq] at h1 h2;subst h1 h2;simp only[PyData.eqvAll,Z.D.eqs]
  ·cases h1
end
end
section
variable {C : Ct} {ex bs bs1 bs2 : List Addr} {h h1 h2 : Z.MH} {H H1 H2 : Hp} {E : XK}
mutual
theorem jvp:∀{d:Z.D} {q:PyData},d.py=some q->q.canLay0=true /\ q.depth=d.deep
 | .non,q,e=>by simp only[Z.D.py,Option.some.injEq] at e;subst e;exact⟨by simp only[PyData.canLay0],by simp only[PyData.depth,Z.D.deep]⟩
 | .bl b,q,e=>by simp only[Z.D.py,Option.some.injEq] at e;subst e;exact⟨by simp only[PyData.canLay0],by simp only[PyData.depth,Z.D.deep]⟩
 | .int b,q,e=>by simp only[Z.D.py,Option.some.injEq] at e;subst e;exact⟨by simp only[PyData.canLay0],by simp only[PyData.depth,Z.D.deep]⟩
 | .str b,q,e=>by
  simp only[Z.D.py] at e
  split at e
  ·rename_i hs;cases e;exact⟨by simp only[PyData.canLay0];exact hs,by simp only[PyData.depth,Z.D.deep]⟩
  ·cases e
 | .tup ds,q,e=>by
  simp only[Z.D.py,Option.map_eq_some_iff] at e
  obtain⟨ps,h1,rfl⟩:=e
  have:=jln h1
  exact⟨by simp only[PyData.canLay0];exact this.1,by simp only[PyData.depth,Z.D.deep];rw[this.2]⟩
 | .lst ds,q,e=>by
  simp only[Z.D.py,Option.map_eq_some_iff] at e
  obtain⟨ps,h1,rfl⟩:=e
  have:=jln h1
  exact⟨by simp only[PyData.canLay0];exact this.1,by simp only[PyData.depth,Z.D.deep];rw[this.2]⟩
 | .arg _,_,e=>by simp only[Z.D.py] at e;cases e
 | .ref _,_,e=>by simp only[Z.D.py] at e;cases e
 | .ty _,_,e=>by simp only[Z.D.py] at e;cases e
 | .cls _,_,e=>by simp only[Z.D.py] at e;cases e
 | .exc _,_,e=>by simp only[Z.D.py] at e;cases e
 | .obj _ _,_,e=>by simp only[Z.D.py] at e;cases e
 | .dic _,_,e=>by simp only[Z.D.py] at e;cases e
theorem jln:∀{ds:List Z.D} {qs:List PyData},Z.D.pys ds=some qs->PyData.canLayAll0 qs=true /\ PyData.depthAll qs=Z.D.deeps ds
 | [],qs,e=>by simp only[Z.D.pys,Option.some.injEq] at e;subst e;exact⟨by simp only[PyData.canLayAll0],by simp only[PyData.depthAll,Z.D.deeps]⟩
 | d::ds,qs,e=>by
  simp only[Z.D.pys] at e
  split at e
  ·rename_i p ps e1 e2
   simp only[Option.some.injEq] at e
   subst e
   have a:=jvp e1
   have b:=jln e2
   exact⟨by simp only[PyData.canLayAll0,a.1,b.1,Bool.and_self],by simp only[PyData.depthAll,Z.D.deeps,a.2,b.2]⟩
  ·cases e
end
theorem jhc{d:Z.D}(e:d.dat=true):∃q,d.py=some q /\ jgo q:=by
 unfold Z.D.dat at e
 rw[Bool.and_eq_true,decide_eq_true_eq,Option.isSome_iff_exists] at e
 obtain⟨⟨q,hq⟩,hd⟩:=e
 refine⟨q,hq,?_⟩
 have:=jvp hq
 show SeqAt.shaped q=true
 unfold SeqAt.shaped
 rw[Bool.and_eq_true,decide_eq_true_eq]
 exact⟨this.1,by rw[this.2];exact hd⟩
mutual
theorem jqi(hr:HR C ex bs h H):∀(n:Nat) {d:Z.D} {v:V} {q:PyData},RV C bs (gh ex bs h H) v d->(Z.res n h d).py=some q->Rep H v q
 | 0,d,v,q,r,e=>by unfold Z.res at e;exact(r.rep e).same jbn
 | n+1,.ref k,v,q,r,e=>by
  unfold Z.res at e
  split at e
  ·rename_i xs hc
   simp only[RV] at r
   obtain⟨a,rfl,hk⟩:=r
   obtain⟨vs,ha,rs⟩:=hr.cell k a _ hk hc
   simp only[Z.D.py,Option.map_eq_some_iff] at e
   obtain⟨ps,h1,rfl⟩:=e
   simp only[Rep]
   exact⟨a,vs,rfl,ha,jh6 hr n rs h1⟩
  ·simp only[Z.D.py] at e;cases e
 | n+1,.tup xs,v,q,r,e=>by
  unfold Z.res at e
  simp only[RV] at r
  obtain⟨a,vs,rfl,ga,rs⟩:=r
  simp only[Z.D.py,Option.map_eq_some_iff] at e
  obtain⟨ps,h1,rfl⟩:=e
  simp only[Rep]
  exact⟨a,vs,rfl,jbn _ _ ga,jh6 hr n rs h1⟩
 | n+1,.lst xs,v,q,r,e=>by
  unfold Z.res at e
  simp only[RV] at r
  obtain⟨a,vs,rfl,ga,rs⟩:=r
  simp only[Z.D.py,Option.map_eq_some_iff] at e
  obtain⟨ps,h1,rfl⟩:=e
  simp only[Rep]
  exact⟨a,vs,rfl,jbn _ _ ga,jh6 hr n rs h1⟩
 | n+1,.non,v,q,r,e=>by unfold Z.res at e;exact(r.rep e).same jbn
 | n+1,.bl _,v,q,r,e=>by unfold Z.res at e;exact(r.rep e).same jbn
 | n+1,.int _,v,q,r,e=>by unfold Z.res at e;exact(r.rep e).same jbn
 | n+1,.str _,v,q,r,e=>by unfold Z.res at e;exact(r.rep e).same jbn
 | n+1,.arg _,v,q,r,e=>by unfold Z.res at e;exact(r.rep e).same jbn
 | n+1,.ty _,v,q,r,e=>by unfold Z.res at e;exact(r.rep e).same jbn
 | n+1,.cls _,v,q,r,e=>by unfold Z.res at e;exact(r.rep e).same jbn
 | n+1,.exc _,v,q,r,e=>by unfold Z.res at e;exact(r.rep e).same jbn
 | n+1,.obj _ _,v,q,r,e=>by unfold Z.res at e;exact(r.rep e).same jbn
 | n+1,.dic _,v,q,r,e=>by unfold Z.res at e;exact(r.rep e).same jbn
theorem jh6(hr:HR C ex bs h H):∀(n:Nat) {ds:List Z.D} {vs:List V} {qs:List PyData},RVs C bs (gh ex bs h H) vs ds->Z.D.pys (ds.map (Z.res n h))=some qs->Reps H vs qs
 | n,[],[],qs,_,e=>by simp only[List.map_nil,Z.D.pys,Option.some.injEq] at e;subst e;simp only[Reps]
 | n,d::ds,v::vs,qs,r,e=>by
  simp only[RVs] at r
  simp only[List.map_cons,Z.D.pys] at e
  split at e
  ·rename_i p ps e1 e2
   simp only[Option.some.injEq] at e
   subst e
   simp only[Reps]
   exact⟨jqi hr n r.1 e1,jh6 hr n r.2 e2⟩
  ·cases e
 | n,[],_::_,_,r,_=>by simp only[RVs] at r
 | n,_::_,[],_,r,_=>by simp only[RVs] at r
end
theorem jph{d:Z.D}{v:V}(hr:HR C ex bs h H)(r:RV C bs (gh ex bs h H) v d)(e:(Z.see h d).dat=true):∃q,(Z.see h d).py=some q /\ Rep H v q /\ jgo q:=by
 obtain⟨q,h1,h2⟩:=jhc e
 exact⟨q,h1,jqi hr 8 r h1,h2⟩
theorem jkd{x y:V}{dx dy:Z.D}(hr:HR C ex bs h H)(rx:RV C bs (gh ex bs h H) x dx)(ry:RV C bs (gh ex bs h H) y dy):Z.dEq dx dy h= .stuck \/ ∃b,Z.dEq dx dy h= .ok (.bl b) h /\
  ((scal x y=true /\ decide (x=y)=b) \/ ∃d e,Rep H x d /\ Rep H y e /\ jgo d /\ jgo e /\ PyData.eqv d e=b):=by
 unfold Z.dEq
 split
 ·simp only[RV] at rx ry;subst rx ry
  exact .inr ⟨_,rfl,.inl ⟨rfl,by simp⟩⟩
 ·simp only[RV] at rx ry;subst rx ry
  exact .inr ⟨_,rfl,.inl ⟨rfl,by simp⟩⟩
 ·simp only[RV] at rx ry;subst rx ry
  exact .inr ⟨_,rfl,.inl ⟨rfl,jpu⟩⟩
 ·split
  ·rename_i q
   obtain⟨d,h1,h3⟩:=jhc q.1
   obtain⟨e,k1,k3⟩:=jhc q.2
   exact .inr ⟨_,rfl,.inr ⟨d,e,(rx.rep h1).same jbn,(ry.rep k1).same jbn,h3,k3,jxi h1 k1⟩⟩
  ·unfold Z.chk
   split
   ·rename_i q
    obtain⟨d,h1,h2,h3⟩:=jph hr rx q.1
    obtain⟨e,k1,k2,k3⟩:=jph hr ry q.2
    exact .inr ⟨_,rfl,.inr ⟨d,e,h2,k2,h3,k3,jxi h1 k1⟩⟩
   ·exact .inl rfl
theorem jbw:S2 C uEq Z.dEq:=by
 intro ex bs h H E x y dx dy Q hr rx ry p
 rcases jkd hr rx ry with e | ⟨b,e,q⟩
 ·rw[e] at p;exact p.elim
 ·rw[e] at p
  have:=p.now (b:= .bl b) hr (by simp only[RV])
  rcases q with⟨q1,q2⟩ | ⟨d,e,h1,h2,h3,h4,h5⟩
  ·exact .inl ⟨q1,by rw[q2];exact this⟩
  ·exact .inr ⟨d,e,h1,h2,h3,h4,by rw[h5];exact this⟩
theorem jgy:S2 C uNe Z.dNe:=by
 intro ex bs h H E x y dx dy Q hr rx ry p
 unfold Z.dNe at p
 rcases jkd hr rx ry with e | ⟨b,e,q⟩
 ·rw[e] at p;exact p.elim
 ·rw[e] at p
  have:=Post.now (b:= .bl (!b)) hr p (by simp only[RV])
  rcases q with⟨q1,q2⟩ | ⟨d,e,h1,h2,h3,h4,h5⟩
  ·exact .inl ⟨q1,by rw[q2];exact this⟩
  ·exact .inr ⟨d,e,h1,h2,h3,h4,by rw[h5];exact this⟩
theorem jw8{G:Hp}{d:Z.D}{v:V}(r:RV C bs G v d)(f:Z.flat d=true):fv d=some v /\ jii v=true:=by
 cases d<;>simp only[RV] at r<;>first | (subst r;exact⟨rfl,rfl⟩) | (cases f)
theorem fv_v{G:Hp}{d:Z.D}{v:V}(f:fv d=some v):RV C bs G v d:=by
 cases d<;>simp only[fv,Option.some.injEq] at f<;>first | (subst f;simp only[RV];done) | (cases f)
theorem eqF_v{d e:Z.D}{v u:V}(a:fv d=some v)(b:fv e=some u):eqV v u=Z.eqF d e:=by
 cases d<;>simp only[fv,Option.some.injEq] at a<;>(try cases a)<;>cases e<;>simp only[fv,Option.some.injEq] at b<;>(try cases b)<;>(try subst a)<;>(try subst b)<;>rfl
theorem jq7{G:Hp}{e:Z.D}{u:V}(b:fv e=some u):∀{ds:List Z.D} {vs:List V},RVs C bs G vs ds->ds.all Z.flat=true->vs.all jii=true /\ (vs.any λy=>eqV y u)=ds.any λy=>Z.eqF y e
 | [],[],_,_=>⟨rfl,rfl⟩
 | d::ds,v::vs,h,f=>by
  simp only[RVs] at h
  rw[List.all_cons,Bool.and_eq_true] at f
  obtain⟨h1,h2⟩:=jw8 h.1 f.1
  obtain⟨h3,h4⟩:=jq7 b h.2 f.2
  rw[List.all_cons,List.any_cons,List.any_cons,h2,h3,h4,eqF_v h1 b]
  exact⟨rfl,rfl⟩
 | [],_::_,h,_=>by simp only[RVs] at h
 | _::_,[],h,_=>by simp only[RVs] at h
theorem jt9{G:Hp}{d:Z.D}{v:V}{k:Sum Int Str}(r:RV C bs G v d)(e:Z.jja d=some k):v=kV k:=by
 cases d<;>simp only[Z.jja,Option.some.injEq] at e<;>(try cases e)<;>simp only[RV] at r<;>exact r
theorem RVk.val{G:Hp}{k:Sum Int Str}:∀{ds:List (Sum Int Str×Z.D)} {vs:List (Key×V)},RVk C bs G vs ds->
    (Z.valK ds k=none /\ valV vs k=none) \/ ∃d v,Z.valK ds k=some d /\ valV vs k=some v /\ RV C bs G v d
  | [],[],_=> .inl ⟨rfl,rfl⟩
  | (y,d)::ds,(x,v)::vs,h=>by
    simp only[RVk] at h
    obtain⟨rfl,h1,h2⟩:=h
    unfold Z.valK valV
    rw[List.find?_cons,List.find?_cons]
    by_cases e:x=k
    · simp only[e,decide_true]
      exact .inr ⟨d,v,rfl,rfl,h1⟩
    · simp only[e,decide_false]
      exact RVk.val h2
  | [],_::_,h=>by simp only[RVk] at h
  | _::_,[],h=>by simp only[RVk] at h
theorem RVk.of{G:Hp}:∀{ds:List (Sum Int Str×Z.D)} {vs:List (Key×V)},ds.map (λp=>(p.1,fv p.2))=vs.map (λp=>(p.1,some p.2))->RVk C bs G vs ds
  | [],[],_=>by simp only[RVk]
  | (y,d)::ds,(x,v)::vs,e=>by
    simp only[List.map_cons,List.cons.injEq,Prod.mk.injEq] at e
    simp only[RVk]
    exact⟨e.1.1.symm,fv_v e.1.2,RVk.of e.2⟩
  | [],_::_,e=>by simp at e
  | _::_,[],e=>by simp at e
theorem jww{d:Z.D}{v:V}{kvs:List (Sum Int Str×Z.D)}(hr:HR C ex bs h H)(r:RV C bs (gh ex bs h H) v d)(e:Z.asR h d=some kvs)(k:Sum Int Str):∃a,v= .ref a /\
  ((Z.valK kvs k=none /\ jv9 C.P C.w C.K H a (kV k) none) \/ ∃d' v',Z.valK kvs k=some d' /\ jv9 C.P C.w C.K H a (kV k) (some v') /\ RV C bs (gh ex bs h H) v' d'):=by
 cases d with
 | dic kvs'=>
  simp only[RV] at r
  obtain⟨a,kws,rfl,hk,em⟩:=r
  cases e
  refine⟨a,rfl,?_⟩
  rcases RVk.val (k:=k) (RVk.of (C:=C) (bs:=bs) (G:=gh ex bs h H) em) with⟨h1,h2⟩ | ⟨d',v',h1,h2,h3⟩
  ·exact .inl ⟨h1,.inr (.inl ⟨kws,k,hk,rfl,h2.symm⟩)⟩
  ·exact .inr ⟨d',v',h1,.inr (.inl ⟨kws,k,hk,rfl,h2.symm⟩),h3⟩
 | ref j=>
  simp only[RV] at r
  obtain⟨a,rfl,hj⟩:=r
  simp only[Z.asR] at e
  split at e
  ·rename_i kvs' hc
   cases e
   obtain⟨kws,ha,rk⟩:=hr.cell j a _ hj hc
   refine⟨a,rfl,?_⟩
   rcases rk.val (k:=k) with⟨h1,h2⟩ | ⟨d',v',h1,h2,h3⟩
   ·exact .inl ⟨h1,.inl (by rw[<-h2];exact DGet.k ha)⟩
   ·exact .inr ⟨d',v',h1,.inl (by rw[<-h2];exact DGet.k ha),h3⟩
  ·rename_i kvs' hc
   cases e
   obtain⟨o,kws,hg,_,rk⟩:=hr.cell j a _ hj hc
   have ha:=jbn _ _ hg
   refine⟨a,rfl,?_⟩
   rcases rk.val (k:=k) with⟨h1,h2⟩ | ⟨d',v',h1,h2,h3⟩
   ·exact .inl ⟨h1,.inr (.inr ⟨o,kws,k,ha,rfl,h2.symm⟩)⟩
   ·exact .inr ⟨d',v',h1,.inr (.inr ⟨o,kws,k,ha,rfl,h2.symm⟩),h3⟩
  ·cases e
 | _=>cases e
theorem ju3{neg:Bool}:S2 C (uIn C.P C.w C.K neg) (Z.dIn neg):=by
 intro ex bs h H E x y dx dy Q hr rx ry p
 unfold Z.dIn at p
 split at p
 ·simp only[RV] at rx ry;subst rx ry
  exact .inr (.inl ⟨_,_,rfl,rfl,p.now hr (by simp only[RV])⟩)
 ·split at p
  ·rename_i ys hy
   obtain⟨q,p⟩:=p.chk
   obtain⟨a,vs,rfl,hq,rs⟩:=jio hr ry hy
   obtain⟨fx,fx'⟩:=jw8 rx q.1
   obtain⟨h1,h2⟩:=jq7 fx rs q.2
   refine .inl ⟨a,vs,rfl,hq,fx',h1,?_⟩
   unfold inV
   rw[h2]
   exact p.now hr (by simp only[RV])
  ·split at p
   ·rename_i kvs k e1 e2
    obtain⟨a,rfl,hd⟩:=jww hr ry e1 k
    have ek:=jt9 rx e2
    subst ek
    rcases hd with⟨h1,h2⟩ | ⟨d',v',h1,h2,h3⟩
    ·refine .inr (.inr ⟨a,none,rfl,h2,?_⟩)
     rw[h1] at p
     exact p.now hr (by simp only[RV];rfl)
    ·refine .inr (.inr ⟨a,some v',rfl,h2,?_⟩)
     rw[h1] at p
     exact p.now hr (by simp only[RV];rfl)
   ·exact p.elim
theorem at_v{G:Hp}{ds:List Z.D}{vs:List V}{i:Int}{d:Z.D}(r:RVs C bs G vs ds)(e:Z.atI ds i=some d):∃v,atI vs i=some v /\ RV C bs G v d:=by
 unfold Z.atI at e
 unfold atI
 rw[r.len]
 have:ixN ds.length i=Z.ixN ds.length i:=rfl
 rw[this]
 cases e2:Z.ixN ds.length i with
 | none=>rw[e2] at e;cases e
 | some j=>
  rw[e2] at e
  exact r.get e
theorem s2_ix:S2 C (uIx C.P C.w C.K) Z.dIx:=by
 intro ex bs h H E x y dx dy Q hr rx ry p
 unfold Z.dIx at p
 split at p
 ·obtain⟨q,p⟩:=p.chk
  obtain⟨c,e1,p⟩:=p.oR
  simp only[RV] at rx ry;subst rx ry
  exact .inl (.inr (.inr ⟨_,_,c,rfl,rfl,q,e1,p.now hr (by simp only[RV])⟩))
 ·split at p
  ·rename_i xs hx
   split at p
   ·obtain⟨d,e1,p⟩:=p.oR1
    obtain⟨a,vs,rfl,hq,rs⟩:=jio hr rx hx
    obtain⟨v,hv,rv⟩:=at_v rs e1
    simp only[RV] at ry;subst ry
    rcases hq with hq | hq
    ·exact .inl (.inl ⟨a,vs,_,v,rfl,rfl,hq,hv,p.now hr rv⟩)
    ·exact .inl (.inr (.inl ⟨a,vs,_,v,rfl,rfl,hq,hv,p.now hr rv⟩))
   ·exact p.elim
  ·split at p
   ·rename_i kvs k e1 e2
    obtain⟨d,ev,p⟩:=p.oR1
    obtain⟨a,rfl,hd⟩:=jww hr rx e1 k
    have ek:=jt9 ry e2
    subst ek
    rcases hd with⟨h1,h2⟩ | ⟨d',v',h1,h2,h3⟩
    ·rw[h1] at ev;cases ev
    ·rw[h1] at ev;cases ev
     exact .inr ⟨a,v',rfl,h2,p.now hr h3⟩
   ·exact p.elim
theorem s_ix{ta tb:TE}{ma mb:Z.ME}(ha:SE C E ta ma)(hb:SE C E tb mb):SE C E (tOp (uIx C.P C.w C.K) ta tb) (Z.mBin Z.dIx ma mb):=s_op s2_ix ha hb
theorem so_no:SO C E jpr Z.oNo:=λex bs h ρ σ H Q hr re p=>Post.now hr p rfl
theorem jvg{t:TE}{m:Z.ME}(ht:SE C E t m):SO C E (tPart t) (Z.oSo m):=by
 intro ex bs h ρ σ H Q hr re p
 refine ht ex bs h ρ σ H _ hr re (p.bind λd x h1 bs1 H1 e1 rx p1=> ?_)
 cases d with
 | int i=>simp only[RV] at rx;exact⟨i,rx,Post.now e1.hr p1 rfl⟩
 | _=>exact p1.elim
theorem RVs.cut{G:Hp}{ds:List Z.D}{vs:List V}(r:RVs C bs G vs ds)(l u:Option Int):RVs C bs G (cutV vs l u) (Z.cut ds l u):=by
 unfold cutV Z.cut
 rw[r.len]
 exact(r.drop _).take _
theorem asQ_nt{d:Z.D}{v:V}{xs:List Z.D}(hr:HR C ex bs h H)(r:RV C bs (gh ex bs h H) v d)(nt:∀ds,d= .tup ds->False)(e:Z.asQ h d=some xs):∃a vs,v= .ref a /\ SqL C.K H a vs /\ RVs C bs (gh ex bs h H) vs xs:=by
 cases d with
 | lst ds=>
  simp only[RV] at r
  obtain⟨a,vs,rfl,ga,rs⟩:=r
  cases e
  exact⟨a,vs,rfl,SqL.of (jbn _ _ ga),rs⟩
 | tup ds=>exact(nt ds rfl).elim
 | arg ns=>
  simp only[RV] at r
  obtain⟨a,rfl,ga⟩:=r
  cases e
  refine⟨a,_,rfl,jbn.sql ga,?_⟩
  clear ga hr nt
  induction ns with
  | nil=>simp only[List.map_nil,RVs]
  | cons n ns ih=>simp only[List.map_cons,RVs,RV];exact⟨trivial,ih⟩
 | ref k=>
  simp only[RV] at r
  obtain⟨a,rfl,hk⟩:=r
  simp only[Z.asQ] at e
  split at e
  ·rename_i ys hc
   cases e
   obtain⟨vs,ha,rs⟩:=hr.cell k a _ hk hc
   exact⟨a,vs,rfl,SqL.of ha,rs⟩
  ·cases e
 | _=>cases e
theorem s_sl{t:TE}{tl th:TO}{m:Z.ME}{ml mh:Z.MO}(ht:SE C E t m)(hl:SO C E tl ml)(hh:SO C E th mh):SE C E (tSl (uSlS C.K) t tl th) (Z.mSl m ml mh):=by
 intro ex bs h ρ σ H Q hr re p
 refine ht ex bs h ρ σ H _ hr re (p.bind λd x h1 bs1 H1 e1 rx p1=> ?_)
 refine hl ex bs1 h1 ρ σ H1 _ e1.hr (re.ev e1) (p1.bind λl l' h2 bs2 H2 e2 rl p2=> ?_)
 refine hh ex bs2 h2 ρ σ H2 _ e2.hr ((re.ev e1).ev e2) (p2.bind λu u' h3 bs3 H3 e3 ru p3=> ?_)
 cases rl;cases ru
 have rx3:=(rx.ev e2).ev e3
 split at p3
 ·rename_i ds
  obtain⟨q,p3⟩:=p3.chk
  simp only[RV] at rx3
  obtain⟨a,vs,rfl,ga,rs⟩:=rx3
  refine .inl (.inr ⟨a,vs,rfl,SqT.of (jbn _ _ ga),by rw[rs.len];exact q,λp hp=>Post.ttup e3.hr p3 hp (rs.cut l u)⟩)
 ·rename_i z
  obtain⟨q,p3⟩:=p3.chk
  simp only[RV] at rx3
  exact .inr ⟨z,rx3,q,p3.now e3.hr (by simp only[RV])⟩
 ·rename_i hnt hns
  obtain⟨xs,e4,p3⟩:=p3.oR
  obtain⟨a,vs,ea,hq,rs⟩:=asQ_nt e3.hr rx3 hnt e4
  subst ea
  exact .inl (.inl ⟨a,vs,rfl,hq,λp hp=>Post.tree e3.hr p3 hp (rs.cut l u)⟩)
theorem jwb{G:Hp}:∀{ds:List Z.D} {vs:List V} {ns:List Int},RVs C bs G vs ds->Z.jmh ds=some ns->vs=ns.map V.int
  | [],[],ns,_,e=>by cases e;rfl
  | d::ds,v::vs,ns,h,e=>by
    simp only[RVs] at h
    cases d<;>simp only[Z.jmh,Option.map_eq_some_iff] at e<;>first
      | (obtain⟨ms,h1,rfl⟩:=e
         simp only[RV] at h
         rw[List.map_cons,<-jwb h.2 h1,h.1])
      | cases e
  | [],_::_,_,h,_=>by simp only[RVs] at h
  | _::_,[],_,h,_=>by simp only[RVs] at h
theorem jqk{G:Hp}:∀(ns:List Int),RVs C bs G (ns.map V.int) (ns.map Z.D.int)
 | []=>by simp only[List.map_nil,RVs]
 | n::ns=>by simp only[List.map_cons,RVs,RV];exact⟨trivial,jqk ns⟩
theorem jqv{d:Z.D}{v:V}{ns:List Int}(hr:HR C ex bs h H)(r:RV C bs (gh ex bs h H) v d)(e:Z.asLi h d=some ns):∃a,v= .ref a /\ SqL C.K H a (ns.map V.int):=by
 have gen:(Z.asL h d).bind Z.jmh=some ns->∃a,v= .ref a /\ SqL C.K H a (ns.map V.int):=λe=>by
  cases e2:Z.asL h d with
  | none=>rw[e2] at e;cases e
  | some ds=>
   rw[e2] at e
   obtain⟨a,vs,rfl,ha,rs⟩:=jjz hr r e2
   exact⟨a,rfl,by rw[<-jwb rs e];exact SqL.of ha⟩
 cases d with
 | arg ms=>
  cases e
  simp only[RV] at r
  obtain⟨a,rfl,ga⟩:=r
  exact⟨a,rfl,jbn.sql ga⟩
 | _=>exact gen e
theorem Ev.ext{H':Hp}(hr:HR C ex bs h H)(sm:Same H H'):Ev C ex bs h H bs h H':=by
 have eq:∀{a},H a≠none->H' a=H a:=fun{a} q=>by
  cases e:H a with
  | none=>exact absurd e q
  | some o=>exact sm a o e
 have sg:Same (gh ex bs h H) (gh ex bs h H'):=λa o e=>by
  obtain⟨h1,h2,h3⟩:=jbd.mp e
  exact jbd.mpr ⟨h1,h2,sm a o h3⟩
 exact⟨λ_ _ e=>e,⟨hr.len,hr.inj,hr.sep,λa m=>by rw[eq (hr.dom a m)];exact hr.dom a m,λa m=>by rw[eq (hr.domx a m)];exact hr.domx a m,
  λk a c e1 e2=>(hr.cell k a c e1 e2).mono (λ_ _ e=>e) sg (eq (hr.dom a (List.mem_of_getElem? e1)))⟩,sg,λa m=>eq (hr.domx a m)⟩
theorem Post.ext{ds:List Z.D}{Q:VK}{p:Addr}{vs:List V}{H':Hp}(hr:HR C ex bs h H)(q:Post C ex E bs h H (RV C) (.ok (.lst ds) h) Q)(hp:H p=none)(e:H' p=some (.lst vs))(sm:Same H H')(r:RVs C bs (gh ex bs h H) vs ds):Q (.ref p) H':=by
 have ev:=Ev.ext hr sm
 have np:p∉ex:=λm=>hr.domx p m hp
 have nb:p∉bs:=λm=>hr.dom p m hp
 exact q (.ref p) bs H' ev (by simp only[RV];exact⟨p,vs,rfl,jbd.mpr ⟨np,λ⟨k,c,e1,_⟩=>nb (List.mem_of_getElem? e1),e⟩,r.ev ev⟩)
def tSlX(K:W.Frag)(te:TE)(tl th ts:TO):TE:=λσ H Q=>te σ H λx H1=>tl σ H1 λl H2=>th σ H2 λu H3=>ts σ H3 λk H4=>∃(a:Addr) (ns:List Int) (st:Int),x= .ref a /\ k=some st /\ 0<st /\ SqL K H4 a (ns.map V.int) /\
 ∀p H',H4 p=none->H' p=some (.lst ((Z.jj3 ns l u st).map V.int))->Same H4 H'->Q (.ref p) H'
theorem jf0{its:List Value}{ns:List Int}(r:Vals (ns.map V.int) its):∀(l:List Nat),Vals ((l.filterMap (ns[·]?)).map V.int) (l.filterMap (its.toArray[·]?))
 | []=> .nil
 | i::l=>by
  have ih:=jf0 r l
  have hl:=r.length
  rw[List.length_map] at hl
  rw[List.filterMap_cons,List.filterMap_cons]
  by_cases hi:i<ns.length
  ·have e1:ns[i]?=some ns[i]:=List.getElem?_eq_getElem hi
   have e2:its.toArray[i]?=some its[i]:=by simp[show i<its.length by omega]
   obtain⟨t,e3,_⟩:=jpv r (i:=i) (v:=its[i]) (by simp[show i<its.length by omega])
   rw[e1,e2,e3]
   have e4:ns.getD i 0=ns[i]:=by simp[List.getD,e1]
   rw[e4,List.map_cons]
   exact .cons ⟨t,rfl⟩ ih
  ·have e1:ns[i]?=none:=List.getElem?_eq_none (by omega)
   have e2:its.toArray[i]?=none:=by simp;omega
   rw[e1,e2]
   exact ih
theorem jsx{X:Cx}{e:Expr}{lo hi:Option Expr}{st:Expr}{te:TE}{tl th ts:TO}{pos p2:Pos}(he:PE X e te)(hl:PO X lo tl)(hu:PO X hi th)(hs:PO X (some st) ts):
  PE X (.Subscript e (.Slice lo hi (some st) p2) pos) (tSlX X.K te tl th ts):=by
 intro pins s σ H Q I h
 refine Subscript_ (thn (he pins s σ H _ I h) λv s1 ⟨x,H1,I1,r1,q1⟩=> ?_)
 refine wpAny_Slice (thn (hl pins s1 σ H1 _ I1 q1) λvl s2 ⟨l,H2,I2,pl,q2⟩=>thn (hu pins s2 σ H2 _ I2 q2) λvu s3 ⟨u,H3,I3,pu,q3⟩=>thn (hs pins s3 σ H3 _ I3 q3) λvk s4 ⟨k,H4,I4,pk,q4⟩=> ?_)
 obtain⟨a,ns,st',ex,ek,hk,hq,q4⟩:=q4
 subst ex ek
 cases r1
 have I5:Inv X pins σ H4 {s4 with heap:=s4.heap.push {cls:= .type "slice",data:= .fields #[vl,vu,vk]}}:=I4.kept (t':=s4.toks) λb ob q=>Heap.get?_push_of_some _ q
 show wpAny (model X.prog X.w) X.A (subscriptTail e (.Slice lo hi (some st) p2) (.ref a) (.ref s4.heap.objs.size)) (EP X pins σ Q) X.xe {s4 with heap:=s4.heap.push {cls:= .type "slice",data:= .fields #[vl,vu,vk]}}
 obtain⟨its,r,pl',hz⟩:=I5.list hq
 have hlen:=r.length
 rw[List.length_map] at hlen hz
 refine tail_any (ops:=[.ref a,.ref s4.heap.objs.size]) pl'.isList.typeIs slot_list_getitem.lookup ?_ (by with_unfolding_all rfl)
 refine wpAny_getItem_list_slice (lo:=l) (hi:=u) (st:=some st') pl'.isList (Heap.IsSliceOf.new ..) pl pu pk (by simp;omega) ?_ (by rw[List.size_toArray]<;>omega)
 have hsz:=slicePick_size_le its.toArray l u (some st')
 have e:slicePick its.toArray l u (some st')=((sliceRange (sliceBounds l u (some st') its.toArray.size).1 (sliceBounds l u (some st') its.toArray.size).2.1 (sliceBounds l u (some st') its.toArray.size).2.2).filterMap (its.toArray[·]?)).toArray:=rfl
 have rm:=jf0 r (sliceRange (sliceBounds l u (some st') its.toArray.size).1 (sliceBounds l u (some st') its.toArray.size).2.1 (sliceBounds l u (some st') its.toArray.size).2.2)
 have en:its.toArray.size=ns.length:=by rw[List.size_toArray];exact hlen.symm
 rw[e]
 rw[e,List.size_toArray] at hsz
 have hr:=rm.length
 have ec:(sliceRange (sliceBounds l u (some st') its.toArray.size).1 (sliceBounds l u (some st') its.toArray.size).2.1 (sliceBounds l u (some st') its.toArray.size).2.2).filterMap (ns[·]?)=Z.jj3 ns l u st':=by rw[en];rfl
 rw[ec] at rm hr
 refine⟨.ref _,_,I5.lnew (t':=s4.toks) rm (by rw[hr];exact Nat.le_trans hsz (by rw[List.size_toArray];omega)),rfl,q4 _ _ I5.fresh jaz λb o e=>by rw[jae (jb1 e I5.fresh)];exact e⟩
theorem s_slX{t:TE}{tl th ts:TO}{m:Z.ME}{ml mh ms:Z.MO}(ht:SE C E t m)(hl:SO C E tl ml)(hh:SO C E th mh)(hs:SO C E ts ms):SE C E (tSlX C.K t tl th ts) (Z.mSlS m ml mh ms):=by
 intro ex bs h ρ σ H Q hr re p
 refine ht ex bs h ρ σ H _ hr re (p.bind λd x h1 bs1 H1 e1 rx p1=> ?_)
 refine hl ex bs1 h1 ρ σ H1 _ e1.hr (re.ev e1) (p1.bind λl l' h2 bs2 H2 e2 rl p2=> ?_)
 refine hh ex bs2 h2 ρ σ H2 _ e2.hr ((re.ev e1).ev e2) (p2.bind λu u' h3 bs3 H3 e3 ru p3=> ?_)
 refine hs ex bs3 h3 ρ σ H3 _ e3.hr (((re.ev e1).ev e2).ev e3) (p3.bind λk k' h4 bs4 H4 e4 rk p4=> ?_)
 cases rl;cases ru;cases rk
 have rx4:=((rx.ev e2).ev e3).ev e4
 cases k with
 | none=>exact p4.elim
 | some k=>
  obtain⟨q,p4⟩:=Post.chk p4
  obtain⟨ns,e5,p4⟩:=p4.oR
  obtain⟨a,rfl,hq⟩:=jqv e4.hr rx4 e5
  exact⟨a,ns,k,rfl,rfl,q,hq,λp H' hp hp' sm=>Post.ext e4.hr p4 hp hp' sm (jqk _)⟩
end
section
variable {C : Ct} {ex bs bs1 bs2 : List Addr} {h h1 h2 : Z.MH} {H H1 H2 : Hp} {E : XK}
theorem jkr{G:Hp}{d:Z.D}{vs:List V}(r:RVs C bs G vs [d]):∃v,vs=[v] /\ RV C bs G v d:=by
 match vs,r with
 | [v],r=>simp only[RVs] at r;exact⟨v,rfl,r.1⟩
 | [],r=>simp only[RVs] at r
 | _::_::_,r=>simp only[RVs] at r;exact r.2.elim
theorem jyu{G:Hp}{d e:Z.D}{vs:List V}(r:RVs C bs G vs [d,e]):∃v u,vs=[v,u] /\ RV C bs G v d /\ RV C bs G u e:=by
 match vs,r with
 | [v,u],r=>simp only[RVs] at r;exact⟨v,u,rfl,r.1,r.2.1⟩
 | [],r=>simp only[RVs] at r
 | [_],r=>simp only[RVs] at r;exact r.2.elim
 | _::_::_::_,r=>simp only[RVs] at r;exact r.2.2.elim
def jxs(P:Program)(w:World)(K:W.Frag):List V->Hp->VK->Prop:=λxs H Q=>rLenU P w K xs H Q \/ ∃a kvs,xs=[V.ref a] /\ H a=some (.dK kvs) /\ Q (.int kvs.length) H
theorem jt0{X:Cx}:jdi X (.builtin "len") (jxs X.prog X.w X.K):=jdi.or jr1 jpm
theorem jfi:SL C (jxs C.P C.w C.K) Z.fLen:=by
 intro ex bs h H E xs ds Q hr rs p
 unfold Z.fLen at p
 split at p
 ·obtain⟨q,p⟩:=p.chk
  obtain⟨v,rfl,r⟩:=jkr rs
  simp only[RV] at r;subst r
  exact .inl (.inr ⟨_,rfl,q,p.now hr (by simp only[RV])⟩)
 ·obtain⟨v,rfl,r⟩:=jkr rs
  split at p
  ·rename_i ys hy
   obtain⟨a,vs,rfl,hq,qs⟩:=jio hr r hy
   exact .inl (.inl ⟨a,vs,rfl,hq,p.now hr (by simp only[RV];rw[qs.len])⟩)
  ·split at p
   ·obtain⟨kvs,e,p⟩:=p.oR
    simp only[Z.asD] at e
    split at e
    ·rename_i kvs' hc
     cases e
     simp only[RV] at r
     obtain⟨a,rfl,hk⟩:=r
     obtain⟨kws,ha,rk⟩:=hr.cell _ a _ hk hc
     exact .inr ⟨a,kws,rfl,ha,p.now hr (by simp only[RV];rw[rk.len])⟩
    ·cases e
   ·exact p.elim
 ·exact p.elim
theorem jvz:SL C (rSum C.K) Z.fSum:=by
 intro ex bs h H E xs ds Q hr rs p
 unfold Z.fSum at p
 split at p
 ·obtain⟨v,rfl,r⟩:=jkr rs
  obtain⟨ns,e,p⟩:=p.oR
  obtain⟨a,rfl,hq⟩:=jqv hr r e
  exact⟨a,ns,rfl,hq,p.now hr (by simp only[RV])⟩
 ·exact p.elim
theorem jit:SL C rInt Z.fInt:=by
 intro ex bs h H E xs ds Q hr rs p
 unfold Z.fInt at p
 split at p
 ·obtain⟨v,rfl,r⟩:=jkr rs
  simp only[RV] at r;subst r
  exact .inl (.inl ⟨_,rfl,p.now hr (by simp only[RV])⟩)
 ·obtain⟨v,rfl,r⟩:=jkr rs
  simp only[RV] at r;subst r
  exact .inl (.inr ⟨_,rfl,p.now hr (by simp only[RV])⟩)
 ·obtain⟨q,p⟩:=p.chk
  obtain⟨n,e,p⟩:=p.oR
  obtain⟨v,rfl,r⟩:=jkr rs
  simp only[RV] at r;subst r
  exact .inr ⟨_,n,rfl,q,e,p.now hr (by simp only[RV])⟩
 ·exact p.elim
theorem jnj{tl:TA}{ml:Z.ML}(hl:SA C E tl ml):SN C E (tCB (λxs H Q=>∃p ys,xs=[.ref p] /\ (SqL C.K H p ys \/ SqT C.K H p ys) /\ ∀l,H l=none->Q (.ref l) (upd H l (.lst ys))) tl) (Z.jot ml):=by
 intro ex bs h ρ σ H Q hr re p
 refine hl ex bs h ρ σ H _ hr re (jdb.bind p λds xs h1 bs1 H1 e1 rx p1=> ?_)
 split at p1
 ·obtain⟨v,rfl,r⟩:=jkr rx
  rename_i d
  cases e:Z.asQ h1 d with
  | none=>rw[e] at p1;exact p1.elim
  | some ys=>
   rw[e] at p1
   obtain⟨a,vs,rfl,hq,qs⟩:=jio e1.hr r e
   exact⟨a,vs,rfl,hq,λl hl=>jdb.now e1.hr p1 hl qs⟩
 ·exact p1.elim
theorem jxt{K:W.Frag}{t n:String}(ht:t="NoneType" \/ t="bool" \/ t="int" \/ t="str" \/ t="tuple" \/ t="list" \/ t="dict")(hn:n="int" \/ n="bool" \/ n="str" \/ n="tuple" \/ n="list"):
  W.kitOne K (.type t) (.type n)=some (Z.isB t n):=by
 rcases ht with rfl | rfl | rfl | rfl | rfl | rfl | rfl<;>rcases hn with rfl | rfl | rfl | rfl | rfl<;>first | rfl | kernel_rfl
theorem ty_at{d:Z.D}{v:V}{t:String}(hr:HR C ex bs h H)(r:RV C bs (gh ex bs h H) v d)(e:Z.tyOf h d=some t):TyOf C.K H v (.type t) /\ (t="NoneType" \/ t="bool" \/ t="int" \/ t="str" \/ t="tuple" \/ t="list" \/ t="dict"):=by
 cases d with
 | non=>simp only[RV] at r;subst r;cases e;exact⟨.non,by simp⟩
 | bl b=>simp only[RV] at r;subst r;cases e;exact⟨.bl _,by simp⟩
 | int b=>simp only[RV] at r;subst r;cases e;exact⟨.int _,by simp⟩
 | str b=>simp only[RV] at r;subst r;cases e;exact⟨.str _,by simp⟩
 | tup ds=>
  simp only[RV] at r
  obtain⟨a,vs,rfl,ga,_⟩:=r
  cases e;exact⟨.tup (jbn _ _ ga),by simp⟩
 | lst ds=>
  simp only[RV] at r
  obtain⟨a,vs,rfl,ga,_⟩:=r
  cases e;exact⟨.lst (jbn _ _ ga),by simp⟩
 | ref k=>
  simp only[RV] at r
  obtain⟨a,rfl,hk⟩:=r
  simp only[Z.tyOf] at e
  split at e
  ·rename_i xs hc
   cases e
   obtain⟨vs,ha,_⟩:=hr.cell k a _ hk hc
   exact⟨.lst ha,by simp⟩
  ·rename_i xs hc
   cases e
   obtain⟨vs,ha,_⟩:=hr.cell k a _ hk hc
   exact⟨.dK ha,by simp⟩
  ·cases e
 | _=>cases e
theorem ju6{n:String}(h:Z.jmk n=true):n="int" \/ n="bool" \/ n="str" \/ n="tuple" \/ n="list":=by
 unfold Z.jmk at h
 simpa [or_assoc] using h
theorem jrl:SL C (rIsi C.K) Z.fIsi:=by
 intro ex bs h H E xs ds Q hr rs p
 unfold Z.fIsi at p
 split at p
 ·obtain⟨q,p⟩:=p.chk
  obtain⟨t,e,p⟩:=p.oR
  obtain⟨v,u,rfl,r1,r2⟩:=jyu rs
  simp only[RV] at r2;subst r2
  obtain⟨ty,ht⟩:=ty_at hr r1 e
  exact⟨v,_,_,_,rfl,.inl ⟨_,rfl⟩,ty,jxt ht (ju6 q),p.now hr (by simp only[RV])⟩
 ·exact p.elim
theorem jc8{a:Addr}{c:String}{t:TE}{m:Z.ME}(ea:C.cm c=a)(ht:SE C E t m):SS C E (jwg a E t) (Z.jdr c m):=by
 intro ex bs h ρ σ H D hr re p
 refine ht ex bs h ρ σ H _ hr re (p.bind λd x h1 bs1 H1 e1 rx p1=> ?_)
 exact⟨x,rfl,by rw[<-ea];exact p1 bs1 H1 (Ev.refl e1.hr)⟩
theorem jsk:SE C E jwh Z.ju0:=by
 intro ex bs h ρ σ H Q hr re p
 intro a ha
 have e2:=Ev.cell (o:= .dK []) (c:= .dct []) hr ha ⟨[],jaz,by simp only[RVk]⟩
 refine p (.ref a) (bs++[a]) _ e2 ?_
 simp only[RV]
 exact⟨a,rfl,by rw[<-hr.len];simp⟩
theorem RVk.put{G:Hp}{k:Sum Int Str}{v:V}{d:Z.D}(q:RV C bs G v d){ds:List (Sum Int Str×Z.D)}{vs:List (Key×V)}(r:RVk C bs G vs ds):RVk C bs G (putK vs k v) (Z.putK ds k d):=by
 have any:∀{ds:List (Sum Int Str×Z.D)} {vs:List (Key×V)},RVk C bs G vs ds->(vs.any λkv=>decide (kv.1=k))=ds.any λkv=>decide (kv.1=k):=by
  intro ds
  induction ds with
  | nil=>intro vs r;cases vs with
   | nil=>rfl
   | cons _ _=>simp only[RVk] at r
  | cons p ds ih=>
   intro vs r
   cases vs with
   | nil=>simp only[RVk] at r
   | cons w vs=>
    obtain⟨y,d'⟩:=p
    obtain⟨x,v'⟩:=w
    simp only[RVk] at r
    rw[List.any_cons,List.any_cons,ih r.2.2,r.1]
 have map:∀{ds:List (Sum Int Str×Z.D)} {vs:List (Key×V)},RVk C bs G vs ds->RVk C bs G (vs.map λkv=>if kv.1=k then(kv.1,v) else kv) (ds.map λkv=>if kv.1=k then(kv.1,d) else kv):=by
  intro ds
  induction ds with
  | nil=>intro vs r;cases vs with
   | nil=>simp only[List.map_nil,RVk]
   | cons _ _=>simp only[RVk] at r
  | cons p ds ih=>
   intro vs r
   cases vs with
   | nil=>simp only[RVk] at r
   | cons w vs=>
    obtain⟨y,d'⟩:=p
    obtain⟨x,v'⟩:=w
    simp only[RVk] at r
    obtain⟨rfl,r1,r2⟩:=r
    simp only[List.map_cons]
    by_cases e:x=k
    ·simp only[e,if_true,RVk];exact⟨trivial,q,by simpa [e] using ih r2⟩
    ·simp only[e,if_false,RVk];exact⟨trivial,r1,ih r2⟩
 have app:∀{ds:List (Sum Int Str×Z.D)} {vs:List (Key×V)},RVk C bs G vs ds->RVk C bs G (vs++[(k,v)]) (ds++[(k,d)]):=by
  intro ds
  induction ds with
  | nil=>intro vs r;cases vs with
   | nil=>simp only[List.nil_append,RVk];exact⟨trivial,q,trivial⟩
   | cons _ _=>simp only[RVk] at r
  | cons p ds ih=>
   intro vs r
   cases vs with
   | nil=>simp only[RVk] at r
   | cons w vs=>
    obtain⟨y,d'⟩:=p
    obtain⟨x,v'⟩:=w
    simp only[RVk] at r
    simp only[List.cons_append,RVk]
    exact⟨r.1,r.2.1,ih r.2.2⟩
 unfold putK Z.putK
 rw[any r]
 split
 ·exact map r
 ·exact app r
theorem jqq{to ti te:TE}{mo mi me:Z.ME}(ho:SE C E to mo)(hi:SE C E ti mi)(he:SE C E te me):SS C E (sDPut to ti te) (Z.jy0 mo mi me):=by
 intro ex bs h ρ σ H D hr re p
 refine he ex bs h ρ σ H _ hr re (p.bind λd v h0 bs0 H0 e0 rv p0=> ?_)
 refine ho ex bs0 h0 ρ σ H0 _ e0.hr (re.ev e0) (p0.bind λo x h1 bs1 H1 e1 rx p1=> ?_)
 refine hi ex bs1 h1 ρ σ H1 _ e1.hr ((re.ev e0).ev e1) (p1.bind λi y h2 bs2 H2 e2 ry p2=> ?_)
 have rv2:=(rv.ev e1).ev e2
 have rx2:=rx.ev e2
 cases o with
 | ref k=>
  simp only[RV] at rx2
  obtain⟨a,rfl,hk⟩:=rx2
  dsimp only at p2
  split at p2
  ·rename_i kvs hc
   split at p2
   ·rename_i j hj
    split at p2
    ·rename_i hz
     obtain⟨kws,ha,rk⟩:=e2.hr.cell k a _ hk hc
     have ek:=jt9 ry hj
     subst ek
     refine⟨a,_,rfl,DPut.k ha (by rw[rk.len];exact hz),?_⟩
     have e3:=Ev.put (o:= .dK (putK kws j v)) (c:= .dct (Z.putK kvs j d)) e2.hr hk hc ⟨_,jaz,rk.put rv2⟩
     exact p2 σ bs2 _ e3 ((((re.ev e0).ev e1).ev e2).ev e3)
    ·exact p2.elim
   ·exact p2.elim
  ·exact p2.elim
 | _=>exact p2.elim
end
def spL(K:W.Frag):Sp:=λvs H Q _=>∃(a:Addr) (ns:List Int),vs=[.ref a] /\ SqL K H a (ns.map V.int) /\ ns.length<=63 /\ ∀H',Q (.bl true) H'
theorem spL_of(K:W.Frag)(H:Hp)(a:Addr)(ns:List Int)(hl:ns.length<=63)(hO:Only H)(hS:SqL K H a (ns.map V.int)):spL K [.ref a] H (λv _=>v= .bl true) λ_ _ _=>False:=⟨a,ns,rfl,hS,hl,λ_=>rfl⟩
theorem gh_nil{H:Hp}:gh [] [] [] H=H:=by
 funext x
 unfold gh
 rw[if_neg]
 rintro(z | ⟨k,c,z,_⟩)
 ·cases z
 ·simp at z
theorem law_ok{C:Ct}{P:Program}{w:World}{mg:Str->Option Value}{base:Heap}{CX:CXT}{k:Nat}{f:Addr}{fd:FuncData}{ps:List Str}{z:Z.MF}(F:FnOk P w C.K mg base CX k f fd ps (spZ C z))
  (hz:∀ns:List Int,ns.length<=63->∃h,z [.arg ns] []= .ok (.bl true) h):FnOk P w C.K mg base CX k f fd ps (spL C.K):=by
 refine F.imp λvs H Q E q=> ?_
 obtain⟨a,ns,rfl,hS,hl,q⟩:=q
 obtain⟨h,e⟩:=hz ns hl
 refine⟨[],[],[],[.arg ns],⟨rfl,λi j a e=>by simp at e,λa m=>(by cases m),λa m=>(by cases m),λa m=>(by cases m),λk a c e=>by simp at e⟩,?_,?_⟩
 ·rw[gh_nil];simp only[RVs,RV];exact⟨⟨a,rfl,hS⟩,trivial⟩
 ·rw[e]
  intro v bs' H' _ rv
  simp only[RV] at rv
  subst rv;exact q H'
theorem walk_ofE{l:W.OpenLaw}{n k:Nat}{q:Program}{loose:List Str}{XP:(Str->Option Value)->Heap->Prop}{YP:World->Heap->Prop}{d:DefRec}{K:Params->W.Frag}{CX:World->CXT}{sp:W.Frag->Sp}{x:Str}
  (hn:l.most=some n) (hn2:n<=sizeLine) (hdf:d.params.defaults=[]) (hr:Room k callerA)
  (hY:∀(w:World) (h:Heap),YP w h->(K w.params).In h)
  (F:∀(w:World) (mg:Str->Option Value) (fa:Addr) (h:Heap),(K w.params).In h->h.Ns mainGlobals mg->mg d.name=some (.ref fa)->
   ∃fd:FuncData,(∀(s:Shared) (u:Value),BindsTo s fd ⟨[u],[]⟩ [(x,u)]) /\
    ∀base:Heap,(K w.params).In base->base.Ns mainGlobals mg->FnOk l.prog w (K w.params) mg base (CX w) k fa fd [x] (sp (K w.params)))
  (hsp:∀(K:W.Frag) (H:Hp) (a:Addr) (ns:List Int),ns.length<=n->Only H->SqL K H a (ns.map V.int)->sp K [.ref a] H (λv _=>v= .bl true) λ_ _ _=>False)
  (hCX:∀(w:World) (H:Hp) (s:Shared) (e:Value) (s':Shared),CX w [] H s (λ_ _ _=>False) e s'->False):
  W.WalkO q loose XP YP l.row.toRowW d [] (λf vs=>PySem.call f vs):=
 jwz (K:=K) (CX:=CX) (sp:=λw=>sp (K w.params)) hn hn2 hdf hr hY F (λw H a ns h1 h2 h3=>hsp (K w.params) H a ns h1 h2 h3) hCX
theorem jmb{C:Ct}{E:XK}:ST C E tYes Z.tYes:=λex bs h ρ σ H Q hr re p=>Post.now hr p rfl
section
variable {X : Cx} {P : Program} {w : World} {K : W.Frag}
theorem jc4(k:X.K=K):OpR X (binaryOp .Add) (uAdd K):=by subst k;exact jyc
theorem ix_K(p:X.prog=P)(w':X.w=w)(k:X.K=K)(hu:X.A.units+64<cLine):IxR X (uIx P w K):=by subst p w' k;exact ix_U hu
theorem jwn(p:X.prog=P)(w':X.w=w)(k:X.K=K)(hu:X.A.units+64<cLine):OpR X (compareOp .In) (uIn P w K false):=by subst p w' k;exact op_inU hu
theorem jki(p:X.prog=P)(w':X.w=w)(k:X.K=K)(hu:X.A.units+64<cLine):OpR X (compareOp .NotIn) (uIn P w K true):=by subst p w' k;exact jpp hu
theorem sl_K(k:X.K=K):SlR X (uSlS K):=by subst k;exact sl_S
theorem jq4{e:Expr}{T:String}{r:V->List V->Hp->VK->Prop}{to:TE}(k:X.K=K)(h:PE X e (tBM0 X.K T r to)):PE X e (tBM0 K T r to):=by subst k;exact h
theorem job{e:Expr}{lo hi:Option Expr}{st:Expr}{te:TE}{tl th ts:TO}{pos p2:Pos}(k:X.K=K)(he:PE X e te)(hl:PO X lo tl)(hu:PO X hi th)(hs:PO X (some st) ts):
  PE X (.Subscript e (.Slice lo hi (some st) p2) pos) (tSlX K te tl th ts):=by subst k;exact jsx he hl hu hs
theorem jcr(p:X.prog=P)(w':X.w=w)(k:X.K=K):jdi X (.builtin "len") (jxs P w K):=by subst p w' k;exact jt0
theorem jlb(k:X.K=K)(hc:X.calm=true):jdi X (.builtin "sum") (rSum K):=by subst k;exact jtx hc
theorem jhx(k:X.K=K):jdi X (.builtin "isinstance") (rIsi K):=by subst k;exact jtk
theorem jfc(k:X.K=K):jdi X (.type "list") (λxs H Q=>∃p ys,xs=[.ref p] /\ (SqL K H p ys \/ SqT K H p ys) /\ ∀l,H l=none->Q (.ref l) (upd H l (.lst ys))):=by subst k;exact jl6
theorem jaj{a:Expr}{ta:TE}(k:X.K=K)(ha:PE X a ta)(he:∀whole,isTrue a X.env whole=(do let v<-whole;standAt a.pos;holding [v] (truthy v))):
  PT X a (λσ H Q=>ta σ H λx H'=>∃k,TruV K x H' k /\ Q k H'):=by subst k;exact juj ha he
theorem jjh{a:Expr}{ta:TE}{pos:Pos}(k:X.K=K)(ha:PE X a ta):PE X (.UnaryOp .Not a pos) (λσ H Q=>ta σ H λx H1=>∃k,TruV K x H1 k /\ Q (.bl (!k)) H1):=by subst k;exact jyg ha
theorem pi_K{tg l:Expr}{tl:TE}(k:X.K=K)(hl:PE X l tl):PI X tg l (iV K tl):=by subst k;exact pi_V hl
theorem jpe{e:Expr}{T:String}{r:V->List V->Hp->VK->Prop}{to:TE}{t:TA}(k:X.K=K)(h:PE X e (tBM X.K T r to t)):PE X e (tBM K T r to t):=by subst k;exact h
end
section
variable {C : Ct} {E : XK} {ex bs bs1 : List Addr} {h : Z.MH} {H : Hp} {α β : Type} {R : List Addr -> Hp -> β -> α -> Prop}
theorem Post.noX{r:Z.Res α}{Q:β->Hp->Prop}(p:Post C ex E bs h H R r.noX Q):Post C ex E0 bs h H R r Q:=by
 cases r with
 | ok a h'=>exact p
 | exc c h'=>exact p.elim
 | stuck=>exact p
theorem s_noxA{t:TA}{m:Z.ML}(q:SA C E0 t m):SA C E t (Z.lNox m):=λex bs hh ρ σ H Q hr re p=>q ex bs hh ρ σ H Q hr re p.noX
theorem s_noxT{t:TT}{m:Z.MT}(q:ST C E0 t m):ST C E t (Z.tNox m):=λex bs hh ρ σ H Q hr re p=>q ex bs hh ρ σ H Q hr re p.noX
def SX(C:Ct)(t:FK->TS)(m:Z.MS):Prop:=
 ∀(ex bs:List Addr) (h:Z.MH) (ρ:Z.Ro) (σ:St) (H:Hp) (D:Ends) (F:FK),HR C ex bs h H->RE C bs (gh ex bs h H) ρ σ->jee C ex (FE (F σ)) bs h H (m ρ h) D->t F D σ H
def SXE(C:Ct)(t:(Addr->Hp->Prop)->TE)(m:Z.ME):Prop:=∀F,SE C (FE F) (t F) m
theorem jk3{i:Nat}{t:(Addr->Hp->Prop)->TE}{m:Z.ME}(q:SXE C t m):SX C (sxSet i t) (Z.sAsg m (Z.jad i)):=λex bs h ρ σ H D F hr re p=>jsa (q (F σ)) ex bs h ρ σ H D hr re p
theorem jtd{c:TT}{t u:FK->TS}{mc:Z.MT}{m n:Z.MS}(hc:ST C E0 c mc)(ht:SX C t m)(hu:SX C u n):SX C (sxIf c t u) (Z.sIf (Z.tNox mc) m n):=by
 intro ex bs h ρ σ H D F hr re p
 refine s_noxT (E:=FE (F σ)) hc ex bs h ρ σ H _ hr re (p.bind λc b h1 bs1 H1 e1 rx p1=> ?_)
 cases rx
 cases c with
 | true=>exact ht ex bs1 h1 ρ σ H1 D F e1.hr (re.ev e1) p1
 | false=>exact hu ex bs1 h1 ρ σ H1 D F e1.hr (re.ev e1) p1
theorem jfu{t:FK->TS}{m:Z.MS}(q:SX C t m):SX C (sxSeq t (λ_=>jtw)) m:=λex bs h ρ σ H D F hr re p=>q ex bs h ρ σ H D F hr re p
def jlq(C:Ct)(W:Addr)(tab:List (String×Bool)):Prop:=∀c b,tab.lookup c=some b->PySem.W.subIn C.K (.ref (C.cm c)) (.ref W)=some b
theorem jzb{W:Addr}:jlq C W []:=λ_ _ e=>nomatch e
theorem jvb{W:Addr}{c:String}{b:Bool}{tab:List (String×Bool)}(q:PySem.W.subIn C.K (.ref (C.cm c)) (.ref W)=some b)(r:jlq C W tab):jlq C W ((c,b)::tab):=by
 intro x y e
 by_cases z:x=c
 ·subst z
  simp at e;subst e;exact q
 ·rw[List.lookup_cons,beq_eq_false_iff_ne.mpr z] at e;exact r x y e
theorem RE.unset{G:Hp}{ρ:Z.Ro}{σ:St}{i:Nat}(r:RE C bs G ρ σ):RE C bs G (ρ.set i none) (σ.set i none):=by
 refine⟨by simp[r.1],λj e hj=> ?_⟩
 by_cases hij:i=j
 ·subst hij
  rw[List.getElem?_set_self'] at hj
  cases q:ρ[i]? with
  | none=>rw[q] at hj;simp at hj
  | some o=>rw[q] at hj;simp at hj
 ·rw[List.getElem?_set_ne hij] at hj
  obtain⟨u,h1,h2⟩:=r.2 j e hj
  exact⟨u,by rw[List.getElem?_set_ne hij];exact h1,h2⟩
theorem jee.gone{r:Z.RS}{i:Nat}{D:Ends}(p:jee C ex E bs h H (r.noX.gone i) D):jee C ex E0 bs h H r (D.gone i):=by
 cases r with
 | nx ρ1 h1=>exact λσ' bs' H' e' re'=>p _ bs' H' e' re'.unset
 | bk ρ1 h1=>exact λσ' bs' H' e' re'=>p _ bs' H' e' re'.unset
 | ct ρ1 h1=>exact λσ' bs' H' e' re'=>p _ bs' H' e' re'.unset
 | rt d h1=>exact p
 | exc c h1=>exact p.elim
 | stuck=>exact p.elim
theorem sh_nil{c:String}:SS C E (hNil (C.cm c)) (Z.cNil c):=λex bs h ρ σ H D hr re p=>p.elim
theorem sh_as{W:Addr}{i:Nat}{tab:List (String×Bool)}{th:TS}{m:Z.MS}{rest:Addr->TS}{r:String->Z.MS}(ht:jlq C W tab)(hm:SS C E0 th m)(hrest:∀c,SS C E (rest (C.cm c)) (r c))(c:String):
  SS C E (hAs C.K W i th rest (C.cm c)) (Z.cAs tab i m r c):=by
 intro ex bs h ρ σ H D hr re p
 unfold Z.cAs at p
 cases e:tab.lookup c with
 | none=>rw[e] at p;exact p.elim
 | some b=>
  rw[e] at p
  refine⟨b,ht c b e,?_⟩
  cases b with
  | false=>exact hrest c ex bs h ρ σ H D hr re p
  | true=>
   intro ea oe hn hc
   obtain⟨e2,g⟩:=Ev.alloc (o:= .frz oe (.own 0)) hr hn
   exact hm ex bs h _ _ _ (D.gone i) e2.hr ((re.ev e2).set (v:= .ref ea) (d:= .exc c) (by simp only[RV];exact⟨ea,oe,_,rfl,g,hc⟩)) ((jee.gone p).from e2)
theorem ss_try{tb:FK->TS}{th:Addr->TS}{m:Z.MS}{f:String->Z.MS}(hb:SX C tb m)(hh:∀c,SS C E (th (C.cm c)) (f c)):SS C E (tTry tb th) (Z.sTry m f):=by
 intro ex bs h ρ σ H D hr re p
 refine hb ex bs h ρ σ H D _ hr re ?_
 unfold Z.sTry at p
 cases e:m ρ h with
 | exc c h1=>rw[e] at p;exact λbs' H' e'=>⟨C.cm c,rfl,hh c ex bs' h1 ρ σ H' D e'.hr (re.ev e') (p.from e')⟩
 | nx ρ1 h1=>rw[e] at p;exact p
 | rt d h1=>rw[e] at p;exact p
 | bk ρ1 h1=>rw[e] at p;exact p
 | ct ρ1 h1=>rw[e] at p;exact p
 | stuck=>rw[e] at p;exact p
def rIsx(K:PySem.W.Frag):List V->Hp->VK->Prop:=λxs H Q=>∃a v2 cv oe u C b,xs=[.ref a,v2] /\ ((∃W,v2= .ref W /\ cv= .ref W) \/ ∃n,v2= .ty n /\ cv= .type n) /\ H a=some (.frz oe u) /\ oe.cls= .ref C /\ IsiC K C /\ PySem.W.kitOne K (.ref C) cv=some b /\ Q (.bl b) H
theorem jbj{X:Cx}{K:PySem.W.Frag}(k:X.K=K):jdi X (.builtin "isinstance") (rIsx K):=by
 subst k
 intro pins s σ H xs us Q I r h
 obtain⟨a,v2,cv,oe,u,C,b,rfl,hv,hH,hc,ic,hk,q⟩:=h
 cases r with
 | cons r1 rr=>
  cases rr with
  | cons r2 rr=>
   cases rr
   cases r1
   rcases hv with⟨W,rfl,rfl⟩ | ⟨n,rfl,rfl⟩
   ·cases r2;exact jnw I hH hc ic hk λtk=>⟨.bl b,H,I.tok tk,rfl,q⟩
   ·cases r2;exact jnw I hH hc ic hk λtk=>⟨.bl b,H,I.tok tk,rfl,q⟩
def jlc(C:Ct)(tab:List ((String×Bool×String)×Bool)):Prop:=∀c k n b,tab.lookup (c,k,n)=some b->IsiC C.K (C.cm c) /\ W.kitOne C.K (.ref (C.cm c)) (if k=true then .ref (C.cm n) else .type n)=some b
theorem jza:jlc C []:=λ_ _ _ _ e=>nomatch e
theorem jux{c n:String}{k b:Bool}{tab:List ((String×Bool×String)×Bool)}(q:IsiC C.K (C.cm c))(q2:W.kitOne C.K (.ref (C.cm c)) (if k=true then .ref (C.cm n) else .type n)=some b)(r:jlc C tab):jlc C (((c,k,n),b)::tab):=by
 intro x k' n' y e
 by_cases z:(x,k',n')=(c,k,n)
 ·cases z
  simp at e;subst e;exact⟨q,q2⟩
 ·rw[List.lookup_cons,beq_eq_false_iff_ne.mpr z] at e;exact r x k' n' y e
theorem jdk{tab:List ((String×Bool×String)×Bool)}(ht:jlc C tab):SL C (rIsx C.K) (Z.fIsx tab):=by
 intro ex bs h H E xs ds Q hr rs p
 unfold Z.fIsx at p
 split at p
 ·obtain⟨b,e,p⟩:=p.oR
  obtain⟨v,u,rfl,r1,r2⟩:=jyu rs
  simp only[RV] at r1 r2;subst r2
  obtain⟨a,oe,u,rfl,g,hc⟩:=r1
  obtain⟨i1,i2⟩:=ht _ _ _ _ e
  exact⟨a,_,_,oe,u,_,b,rfl,.inl ⟨_,rfl,rfl⟩,jbn _ _ g,hc,i1,by simpa using i2,p.now hr (by simp only[RV])⟩
 ·obtain⟨b,e,p⟩:=p.oR
  obtain⟨v,u,rfl,r1,r2⟩:=jyu rs
  simp only[RV] at r1 r2;subst r2
  obtain⟨a,oe,u,rfl,g,hc⟩:=r1
  obtain⟨i1,i2⟩:=ht _ _ _ _ e
  exact⟨a,_,_,oe,u,_,b,rfl,.inr ⟨_,rfl,rfl⟩,jbn _ _ g,hc,i1,by simpa using i2,p.now hr (by simp only[RV])⟩
 ·exact p.elim
theorem ph_asK{X:Cx}{K:PySem.W.Frag}{hs:List ExceptHandler}{W:Addr}{i:Nat}{th:TS}{tr:Addr->TS}(k:X.K=K)(q:PH X hs (hAs X.K W i th tr)):PH X hs (hAs K W i th tr):=by subst k;exact q
end
end L2
namespace L2
open PySem PySem.Spec
section
variable {C : Ct} {ex bs bs1 bs2 : List Addr} {h h1 h2 : Z.MH} {H H1 H2 : Hp} {E : XK}
theorem RVf.lookup{G:Hp}{f:Str}:∀{fs:List (Str×Z.D)} {vs:List (Str×V)},RVf C bs G vs fs->(∀d,fs.lookup f=some d->∃v,vs.lookup f=some v /\ RV C bs G v d) /\ (fs.lookup f=none->vs.lookup f=none)
  | [],[],_=>⟨λd e=>by simp at e,λ_=>rfl⟩
  | (y,d)::ds,(x,v)::vs,r=>by
    simp only[RVf] at r
    obtain⟨rfl,r1,r2⟩:=r
    have ih:=RVf.lookup (f:=f) r2
    by_cases q:(f==x)=true
    · simp only[List.lookup,q]
      exact⟨λd' e=>by cases e;exact⟨v,rfl,r1⟩,λe=>by cases e⟩
    · have q':(f==x)=false:=by simpa using q
      simp only[List.lookup,q']
      exact ih
  | [],_::_,r=>by simp only[RVf] at r
  | _::_,[],r=>by simp only[RVf] at r
theorem RVf.put{G:Hp}{f:Str}{d:Z.D}{v:V}(rv:RV C bs G v d):∀{fs:List (Str×Z.D)} {vs:List (Str×V)},RVf C bs G vs fs->RVf C bs G (putF f v vs) (Z.putF f d fs)
  | [],[],_=>by simp only[putF,Z.putF,RVf];exact⟨trivial,rv,trivial⟩
  | (y,e)::ds,(x,u)::vs,r=>by
    simp only[RVf] at r
    obtain⟨rfl,r1,r2⟩:=r
    simp only[putF,Z.putF]
    by_cases q:x=f
    · rw[if_pos q,if_pos q];simp only[RVf];exact⟨trivial,rv,r2⟩
    · rw[if_neg q,if_neg q];simp only[RVf];exact⟨trivial,r1,RVf.put rv r2⟩
  | [],_::_,r=>by simp only[RVf] at r
  | _::_,[],r=>by simp only[RVf] at r
theorem RVf.len{G:Hp}:∀{fs:List (Str×Z.D)} {vs:List (Str×V)},RVf C bs G vs fs->vs.length=fs.length
  | [],[],_=>rfl
  | (y,d)::ds,(x,v)::vs,r=>by simp only[RVf] at r;simp[RVf.len r.2.2]
  | [],_::_,r=>by simp only[RVf] at r
  | _::_,[],r=>by simp only[RVf] at r
theorem jvs{d:Z.D}{x:V}{c:String}{fs:List (Str×Z.D)}(hr:HR C ex bs h H)(rx:RV C bs (gh ex bs h H) x d)(e:Z.asO h d=some (c,fs)):
  ∃a dx fvs,x= .ref a /\ H a=some (.ins (C.cm c) dx fvs) /\ RVf C bs (gh ex bs h H) fvs fs:=by
 cases d with
 | obj c' fs'=>
  simp only[Z.asO,Option.some.injEq,Prod.mk.injEq] at e
  obtain⟨rfl,rfl⟩:=e
  simp only[RV] at rx
  obtain⟨a,dx,fvs,h1,h2,h3⟩:=rx
  exact⟨a,dx,fvs,h1,jbn _ _ h2,h3⟩
 | ref k=>
  simp only[RV] at rx
  obtain⟨a,rfl,hk⟩:=rx
  simp only[Z.asO] at e
  split at e
  ·rename_i c' fs' hc
   simp only[Option.some.injEq,Prod.mk.injEq] at e
   obtain⟨rfl,rfl⟩:=e
   obtain⟨dx,fvs,h1,h2⟩:=hr.cell k a _ hk hc
   exact⟨a,dx,fvs,rfl,h1,h2⟩
  ·cases e
 | _=>simp[Z.asO] at e
def jf6(C:Ct)(f:Str)(tab:List String):Prop:=∀c∈tab,Cls C.K (C.cm c) /\ jcg C.K (C.cm c) f
theorem jeb{f:Str}:jf6 C f []:=λc m=>by simp at m
theorem jth{f:Str}{c:String}{tab:List String}(a:Cls C.K (C.cm c))(b:jcg C.K (C.cm c) f)(r:jf6 C f tab):jf6 C f (c::tab):=λc' m=>by
 rcases List.mem_cons.mp m with rfl | m
 ·exact⟨a,b⟩
 ·exact r c' m
theorem jbr{f:Str}{tab:List String}{t:TE}{m:Z.ME}(ok:jf6 C f tab)(ht:SE C E t m):SE C E (tFld C.K t f) (Z.mFld tab f m):=by
 intro ex bs h ρ σ H Q hr re p
 refine ht ex bs h ρ σ H _ hr re (p.bind λd x h1 bs1 H1 e1 rx p1=> ?_)
 obtain⟨⟨c,fs⟩,eo,p1⟩:=p1.oR
 obtain⟨hc,p1⟩:=p1.chk
 obtain⟨v,el,p1⟩:=p1.oR1
 obtain⟨a,dx,fvs,rfl,ha,rf⟩:=jvs e1.hr rx eo
 obtain⟨u,hu,ru⟩:=rf.lookup.1 v el
 exact⟨a,_,dx,fvs,u,rfl,ha,(ok c hc).1,(ok c hc).2,hu,Post.now e1.hr p1 ru⟩
theorem jdd{f:Str}{tab:List String}{to te:TE}{mo me:Z.ME}(ok:jf6 C f tab)(ho:SE C E to mo)(he:SE C E te me):SS C E (sFld C.K to te f) (Z.jev tab f mo me):=by
 intro ex bs h ρ σ H D hr re p
 refine he ex bs h ρ σ H _ hr re (p.bind λd v h0 bs0 H0 e0 rv p0=> ?_)
 refine ho ex bs0 h0 ρ σ H0 _ e0.hr (re.ev e0) (p0.bind λo x h1 bs1 H1 e1 rx p1=> ?_)
 cases o with
 | ref k=>
  simp only[RV] at rx
  obtain⟨a,rfl,hk⟩:=rx
  dsimp only at p1
  split at p1
  ·rename_i c fs hc
   split at p1
   case isFalse=>exact p1.elim
   rename_i q
   obtain⟨dx,fvs,ha,rf⟩:=e1.hr.cell k a _ hk hc
   refine⟨a,_,dx,fvs,rfl,ha,(ok c q.1).1,(ok c q.1).2,by rw[rf.len];exact q.2,?_⟩
   have e2:=Ev.put (o:= .ins (C.cm c) dx (putF f v fvs)) (c:= .ins c (Z.putF f d fs)) e1.hr hk hc ⟨dx,_,jaz,RVf.put (rv.ev e1) rf⟩
   exact p1 σ bs1 _ e2 ((re.ev e0).ev (e1.trans e2))
  ·exact p1.elim
 | _=>exact p1.elim
def jda(C:Ct)(mg:Str->Option Value)(base:Heap)(k:Nat)(m:Str)(tab:List (String×Z.MF)):Prop:=
 ∀c z,tab.lookup c=some z->Cls C.K (C.cm c) /\ MethG C.P C.w C.K mg base (CXE C.P C.w) k (C.cm c) m (spZ C z)
theorem jcx{mg:Str->Option Value}{base:Heap}{k:Nat}{m:Str}:jda C mg base k m []:=λc z e=>by simp at e
theorem jx1{mg:Str->Option Value}{base:Heap}{k j:Nat}{m:Str}{c:String}{z:Z.MF}{tab:List (String×Z.MF)}{f:Addr}{fd:FuncData}{ps:List Str}(a:Cls C.K (C.cm c))(b:Meth C.K (C.cm c) m f)(F:FnOk C.P C.w C.K mg base (CXE C.P C.w) j f fd ps (spZ C z))(hj:j<=k)(B:jfo C.K fd ps [])(r:jda C mg base k m tab):
  jda C mg base k m ((c,z)::tab):=λc' z' e=>by
 by_cases q:(c'==c)=true
 ·simp only[List.lookup,q] at e
  cases e
  have:c'=c:=by simpa using q
  subst this
  exact⟨a,f,fd,ps,b,F.mono hj,B⟩
 ·have q':(c'==c)=false:=by simpa using q
  simp only[List.lookup,q'] at e
  exact r c' z' e
theorem jbs{mg:Str->Option Value}{base:Heap}{k:Nat}{f:Str}{tab:List (String×Z.MF)}{to:TE}{ta:TA}{m:Z.ME}{l:Z.ML}(ok:jda C mg base k f tab)(ho:SE C E to m)(hl:SA C E ta l):
  SE C E (jgl C.P C.w C.K mg base (CXE C.P C.w) k f E to ta) (Z.jan tab f m l):=by
 intro ex bs h ρ σ H Q hr re p
 refine ho ex bs h ρ σ H _ hr re (p.bind λd x h1 bs1 H1 e1 rx p1=> ?_)
 obtain⟨⟨c,fs⟩,eo,p1⟩:=p1.oR
 obtain⟨z,ez,p1⟩:=p1.oR
 obtain⟨hn,p1⟩:=p1.chk
 obtain⟨a,dx,fvs,rfl,ha,rf⟩:=jvs e1.hr rx eo
 obtain⟨k1,k2⟩:=ok c z ez
 refine⟨a,_,dx,fvs,_,rfl,ha,k1,k2,rf.lookup.2 hn,?_⟩
 refine hl ex bs1 h1 ρ σ H1 _ e1.hr (re.ev e1) (p1.bind λds xs h2 bs2 H2 e2 rxs p2=> ?_)
 exact⟨ex,bs2,h2,d::ds,e2.hr,by simp only[RVs];exact⟨rx.ev e2,rxs⟩,p2⟩
theorem Ev.freezeI{k:Nat}{a:Addr}{c:String}{fs:List (Str×Z.D)}(hr:HR C ex bs h H)(hk:bs[k]?=some a)(h0:h[k]?=some (some (.ins c fs))):
  Ev C ex bs h H bs (h.set k none) H /\ RV C bs (gh ex bs (h.set k none) H) (.ref a) (.obj c fs):=by
 have ab:a∈bs:=List.mem_of_getElem? hk
 have lvs:∀x,lv bs (h.set k none) x->lv bs h x /\ x≠a:=λx ⟨j,c',e1,e2,l2⟩=>by
  by_cases hj:k=j
  ·subst hj;rw[List.getElem?_set_self (List.getElem?_eq_some_iff.mp h0).1] at e2;cases e2
  ·rw[List.getElem?_set_ne hj] at e2
   exact⟨⟨j,c',e1,e2,l2⟩,λz=>hj (hr.inj k j a hk (by rw[<-z];exact e1))⟩
 have sm:Same (gh ex bs h H) (gh ex bs (h.set k none) H):=λx u e=>by
  obtain⟨h1,h2,h3⟩:=jbd.mp e
  exact jbd.mpr ⟨h1,λl=>h2 (lvs x l).1,h3⟩
 obtain⟨dx,vs,h1,h2⟩:=hr.cell k a _ hk h0
 refine⟨⟨λ_ _ e=>e,⟨by simp[hr.len],hr.inj,hr.sep,hr.dom,hr.domx,λj x c' e1 e2=> ?_⟩,sm,λ_ _=>rfl⟩,?_⟩
 ·by_cases hj:k=j
  ·subst hj;rw[List.getElem?_set_self (List.getElem?_eq_some_iff.mp h0).1] at e2;cases e2
  ·rw[List.getElem?_set_ne hj] at e2
   exact(hr.cell j x c' e1 e2).mono (λ_ _ e=>e) sm rfl
 ·simp only[RV]
  exact⟨a,dx,vs,rfl,jbd.mpr ⟨λm=>hr.sep a m ab,λl=>(lvs a l).2 rfl,h1⟩,h2.mono (λ_ _ e=>e) sm⟩
theorem Ev.born{x dx:Addr}{c:String}(hr:HR C ex bs h H)(hx:H x=none)(hd:H dx=none)(ne:dx≠x):
  Ev C ex bs h H (bs++[x]) (h++[some (.ins c [])]) (upd (upd H dx (.own x)) x (.ins (C.cm c) dx [])):=by
 obtain⟨e1,_⟩:=Ev.alloc (o:= .own x) hr hd
 exact e1.trans (Ev.cell e1.hr (by rw[jae (Ne.symm ne)];exact hx) ⟨dx,[],jaz,by simp only[RVf]⟩)
theorem jhg{a:Addr}{c:String}{z:Z.MF}{tl:TA}{ml:Z.ML}(ea:C.cm c=a)(hl:SA C E tl ml):SE C E (jum a (spZ C z) [] E tl) (Z.jf3 c z ml):=by
 intro ex bs h ρ σ H Q hr re p
 refine hl ex bs h ρ σ H _ hr re (p.bind λds xs h1 bs1 H1 e1 rx p1=> ?_)
 intro x dx hx hd ne
 rw[<-ea]
 have e2:=Ev.born (c:=c) e1.hr hx hd ne
 have kx:(bs1++[x])[h1.length]?=some x:=by rw[<-e1.hr.len];simp
 refine⟨ex,bs1++[x],h1++[some (.ins c [])],.ref h1.length::ds,e2.hr,?_,?_⟩
 ·simp only[RVs,RV]
  exact⟨⟨x,rfl,kx⟩,by rw[List.append_nil];exact rx.ev e2⟩
 ·refine(p1.from e2).bind (R1:=RV C) λd v h2 bs2 H2 e3 rv p3=> ?_
  cases d with
  | non=>
   simp only[RV] at rv
   refine⟨rv,?_⟩
   dsimp only at p3
   split at p3
   ·rename_i c' fs hc
    obtain⟨e4,r4⟩:=Ev.freezeI e3.hr (e3.pre _ _ kx) hc
    exact p3 (.ref x) bs2 H2 e4 r4
   ·exact p3.elim
  | _=>exact p3.elim
theorem jsf{a:Addr}{c:String}{z:Z.MF}{tl:TA}{ml:Z.ML}(ea:C.cm c=a)(hl:SA C E tl ml):SE C E (jum a (spZ C z) [] E tl) (Z.jgh c z ml):=by
 intro ex bs h ρ σ H Q hr re p
 refine hl ex bs h ρ σ H _ hr re (p.bind λds xs h1 bs1 H1 e1 rx p1=> ?_)
 intro x dx hx hd ne
 rw[<-ea]
 have e2:=Ev.born (c:=c) e1.hr hx hd ne
 have kx:(bs1++[x])[h1.length]?=some x:=by rw[<-e1.hr.len];simp
 refine⟨ex,bs1++[x],h1++[some (.ins c [])],.ref h1.length::ds,e2.hr,?_,?_⟩
 ·simp only[RVs,RV]
  exact⟨⟨x,rfl,kx⟩,by rw[List.append_nil];exact rx.ev e2⟩
 ·refine(p1.from e2).bind (R1:=RV C) λd v h2 bs2 H2 e3 rv p3=> ?_
  cases d with
  | non=>
   simp only[RV] at rv
   exact⟨rv,Post.now e3.hr p3 (by simp only[RV];exact⟨x,rfl,e3.pre _ _ kx⟩)⟩
  | _=>exact p3.elim
theorem juc(ds:List Z.D)(i:Nat):(Z.jhb ds)[i]?=(ds[i]?).map λd=>Z.D.tup [.int i,d]:=by
 unfold Z.jhb
 rw[List.getElem?_mapIdx]
theorem ItOk.enum{a:Addr}{vs:List V}{ds:List Z.D}{G:Hp}(hq:SqL C.K G a vs)(r:RVs C bs G vs ds):ItOk C bs G (Ite C.K a) (none,Z.jhb ds):=by
 intro ex2 bs2 h2 H2 hr pre sm _ i
 have hq2:SqL C.K H2 a vs:=(sm.trans jbn).sql hq
 refine⟨λd e=> ?_,λhle=>⟨vs,hq2,by rw[r.len];simpa [Z.jhb] using hle⟩⟩
 rw[juc] at e
 cases e2:ds[i]? with
 | none=>rw[e2] at e;cases e
 | some d0=>
  rw[e2] at e
  simp only[Option.map_some,Option.some.injEq] at e
  subst e
  obtain⟨v,hv,rv⟩:=r.get e2
  refine⟨⟨vs,v,hq2,hv⟩,λx H3 y=> ?_⟩
  obtain⟨p,x',hp,hx',rfl,rfl⟩:=y
  have:=hx' vs hq2
  rw[hv] at this;cases this
  obtain⟨e3,g⟩:=Ev.alloc (o:= .tup [.int i,v]) hr hp
  refine⟨e3,?_⟩
  simp only[RV,RVs]
  exact⟨p,_,rfl,g,by simp only[RVs,RV];exact⟨trivial,(rv.mono pre sm).ev e3,trivial⟩⟩
theorem RVs.only{G:Hp}{xs:List V}{d:Z.D}(r:RVs C bs G xs [d]):∃x,xs=[x] /\ RV C bs G x d:=by
 cases xs with
 | nil=>simp only[RVs] at r
 | cons x xs=>
  simp only[RVs] at r
  cases xs with
  | nil=>exact⟨x,rfl,r.1⟩
  | cons y ys=>exact absurd r.2 (by simp only[RVs];exact id)
theorem jz9{t:TA}{m:Z.ML}(ht:SA C E t m):SI C E (ju7 C.K t) (Z.lEnum m):=by
 intro ex bs h ρ σ H Q hr re p
 refine ht ex bs h ρ σ H _ hr re (p.bind λds xs h1 bs1 H1 e1 rx p1=> ?_)
 split at p1
 ·obtain⟨x,rfl,ry⟩:=rx.only
  simp only[RV] at ry
  obtain⟨a,vs,rfl,ga,rs⟩:=ry
  exact⟨a,vs,rfl,SqL.of (jbn _ _ ga),Post.now e1.hr p1 (.enum (SqL.of ga) rs)⟩
 ·rename_i ns
  obtain⟨x,rfl,ry⟩:=rx.only
  simp only[RV] at ry
  obtain⟨a,rfl,ga⟩:=ry
  refine⟨a,_,rfl,jbn.sql ga,Post.now e1.hr p1 (.enum ga ?_)⟩
  clear ga p1 p rx
  induction ns with
  | nil=>simp only[List.map_nil,RVs]
  | cons n ns ih=>simp only[List.map_cons,RVs,RV];exact⟨trivial,ih⟩
 ·exact p1.elim
end
section
variable {C : Ct} {ex bs bs1 bs2 : List Addr} {h h1 h2 : Z.MH} {H H1 H2 : Hp} {E : XK}
theorem jn7{G:Hp}:∀(ns:List Int),RVs C bs G (ns.map V.int) (ns.map Z.D.int)
 | []=>by simp only[List.map_nil,RVs]
 | n::r=>by simp only[List.map_cons,RVs];exact⟨by simp only[RV],jn7 r⟩
theorem jnv{G:Hp}:∀{kvs:List (Sum Int Str×Z.D)} {kws:List (Key×V)} {ns:List Int},RVk C bs G kws kvs->Z.jma kvs=some ns->kws.map (·.1)=ns.map Sum.inl
  | [],[],ns,_,e=>by simp only[Z.jma] at e;cases e;rfl
  | (k,d)::kvs,(x,v)::kws,ns,h,e=>by
    simp only[RVk] at h
    cases k with
    | inl i=>
      simp only[Z.jma] at e
      obtain⟨ms,e1,e2⟩:=Option.map_eq_some_iff.mp e
      subst e2
      rw[List.map_cons,List.map_cons,h.1,jnv h.2.2 e1]
    | inr x=>simp only[Z.jma] at e;cases e
  | [],_::_,_,h,_=>by simp only[RVk] at h
  | _::_,[],_,h,_=>by simp only[RVk] at h
theorem jv7{d:Z.D}{v:V}{ns:List Int}(hr:HR C ex bs h H)(r:RV C bs (gh ex bs h H) v d)(e:Z.jlx h d=some ns):∃a,v= .ref a /\ DKi H a ns:=by
 cases d with
 | ref k=>
  simp only[Z.jlx] at e
  split at e
  ·rename_i kvs hc
   simp only[RV] at r
   obtain⟨a,rfl,hk⟩:=r
   obtain⟨kws,ha,rk⟩:=hr.cell k a _ hk hc
   exact⟨a,rfl,kws,ha,jnv rk e⟩
  ·cases e
 | _=>cases e
theorem srt_of{ns ms:List Int}(h:jno ns ms):ms=Z.srt ns:=by
 have h1:(Z.srt ns).Perm ns:=List.mergeSort_perm ns _
 have h2:(Z.srt ns).Pairwise (·<=·):=by
  have:=List.pairwise_mergeSort (le:=λ(a b:Int)=>decide (a<=b)) (λa b c x y=>decide_eq_true (Int.le_trans (of_decide_eq_true x) (of_decide_eq_true y))) (λa b=>by simp;omega) ns
  exact this.imp λx=>of_decide_eq_true x
 exact List.Perm.eq_of_pairwise (le:=(·<=·)) (λa b _ _ x y=>Int.le_antisymm x y) h.2 h2 (h.1.trans h1.symm)
theorem s_bits{to:TE}{mo:Z.ME}(ho:SE C E to mo):SE C E (tBM0 C.K "int" rBits to) (Z.mBits mo):=by
 intro ex bs h ρ σ H Q hr re p
 refine ho ex bs h ρ σ H _ hr re (p.bind λd x h1 bs1 H1 e1 rx p1=> ?_)
 cases d with
 | int i=>
  simp only[RV] at rx;subst rx
  exact⟨rfl,i,rfl,rfl,Post.now e1.hr p1 (by simp only[RV])⟩
 | _=>exact p1.elim
end
end L2
namespace L2
open PySem PySem.Spec PyProof.Rows
structure FnM (K:W.Frag) (x q:Str) (st:Stmt) (f:Addr) (fd:FuncData) (ps:List Str):Prop where
 F:Fun K x q st f fd
 B:jfo K fd ps []
structure FnT (K:W.Frag) (mg:Str->Option Value) (x q:Str) (st:Stmt) (f:Addr) (fd:FuncData) (ps:List Str):Prop where
 F:Fun K x q st f fd
 B:jfo K fd ps []
 m:mg x=some (.ref f)
structure ClsT (K:W.Frag) (mg:Str->Option Value) (x:Str) (c:Addr):Prop where
 cl:Cls K c
 mc:mg x=some (.ref c)
 ms:W.makesIn K c=true
 kc:W.keepIn K (.ref c)=true
section
variable {K : W.Frag} {h : Heap} {mg : Str -> Option Value} {x q : Str} {st : Stmt} {f c : Addr} {oc : Value} {od an : Option Addr} {osl : Array (Option Value)} {kV doc pm cdv ct : Value} {ps : List Str}
theorem fnm(l:K.lookup f=some ⟨oc,od,.func (W.fnOf x q (jel st) (jdf st) (jab st) .none kV doc pm an cdv ct),osl⟩)
  (c:W.codeIn K cdv q=true) (k:W.keepIn K (.ref f)=true)
  (b:∀(kV doc pm:Value) (an:Option Addr) (cdv ct:Value) (us:List Value),us.length=ps.length->bindArgs (W.fnOf x q (jel st) (jdf st) (jab st) .none kV doc pm an cdv ct) ⟨us,[]⟩=pure (ps.zip us):=by
   first
    | exact λ_ _ _ _ _ _ us hl=>match us,hl with | [_],_=>rfl
    | exact λ_ _ _ _ _ _ us hl=>match us,hl with | [_,_],_=>rfl
    | exact λ_ _ _ _ _ _ us hl=>match us,hl with | [_,_,_],_=>rfl
    | exact λ_ _ _ _ _ _ us hl=>match us,hl with | [_,_,_,_],_=>rfl
    | exact λ_ _ _ _ _ _ us hl=>match us,hl with | [_,_,_,_,_],_=>rfl
    | exact λ_ _ _ _ _ _ us hl=>match us,hl with | [_,_,_,_,_,_],_=>rfl
    | exact λ_ _ _ _ _ _ us hl=>match us,hl with | [],_=>rfl):
  FnM K x q st f (W.fnOf x q (jel st) (jdf st) (jab st) .none kV doc pm an cdv ct) ps:=⟨jwl l c k,(jwl l c k).binds b⟩
theorem fnt(X:K.In h)(G:h.Ns mainGlobals mg)(a:W.nsIn K mainGlobals x=some (some (.ref f)))(M:FnM K x q st f (W.fnOf x q (jel st) (jdf st) (jab st) .none kV doc pm an cdv ct) ps):
  FnT K mg x q st f (W.fnOf x q (jel st) (jdf st) (jab st) .none kV doc pm an cdv ct) ps:=⟨M.F,M.B,W.mg_of X G a⟩
theorem clm(X:K.In h)(G:h.Ns mainGlobals mg)(a:W.nsIn K mainGlobals x=some (some (.ref c)))(pg:W.plainGet K c Str.empty=true)(hd:W.hasDictIn K c=true)(po:W.plainOver K c=true)
  (sa:W.findIn K (.ref c) "__setattr__"=some (some (.builtin "object.__setattr__"))) (mk:W.makesIn K c=true) (kc:W.keepIn K (.ref c)=true):ClsT K mg x c:=⟨⟨pg,hd,po,sa⟩,W.mg_of X G a,mk,kc⟩
theorem naOf{a:Str}(h:W.findIn K (.ref c) a=some none):jcg K c a:=h
theorem ClsT.k(C:ClsT K mg x c):GV mg x (.ref c):=⟨_,C.mc,rfl⟩
theorem ClsT.mkk(C:ClsT K mg x c)(M:Meth K c "__init__" f):Mk K c f:=⟨C.ms,M.at_,M.fn,C.kc⟩
end
theorem gOf{P:Program}{w:World}{K:W.Frag}{mg:Str->Option Value}{base:Heap}{CX:CXT}{k:Nat}{x q:Str}{st:Stmt}{f:Addr}{fd:FuncData}{ps:List Str}{sp:Sp}(H:FnT K mg x q st f fd ps)(o:FnOk P w K mg base CX k f fd ps sp):FnG P w K mg base CX k x sp:=⟨f,fd,ps,o,H.m,H.F.kp,H.B⟩
theorem mOf{P:Program}{w:World}{K:W.Frag}{mg:Str->Option Value}{base:Heap}{CX:CXT}{k:Nat}{x y q:Str}{st:Stmt}{c f:Addr}{fd:FuncData}{ps:List Str}{sp:Sp}(C:ClsT K mg x c)(M:Meth K c "__init__" f)(H:FnM K y q st f fd ps)(o:FnOk P w K mg base CX k f fd ps sp):MakeG P w K mg base CX k x c sp:=⟨f,fd,ps,C.mkk M,o,C.mc,H.B⟩
theorem scof{N P:List Str}{sc:Scope}(a:sc.kind= .function:=by rfl)(b:sc.isCoroutine=false:=by rfl)(c:sc.isGenerator=false:=by rfl)(d:N.Nodup:=by decide+kernel)(e:N.take P.length=P:=by rfl)
  (f:∀x∈P,sc.names.lookup x=some .local \/ sc.names.lookup x=some .cell:=by decide+kernel) (g:∀y∈sc.names,y.2≠ .free:=by decide+kernel):FnScope N P sc:=⟨a,b,c,d,e,f,g⟩
theorem okZ2{C:Ct}{P:Program}{w:World}{K:W.Frag}{mg:Str->Option Value}{base:Heap}{x qual:Str}{st:Stmt}{f:Addr}{fd:FuncData}{N ps:List Str}{k np nn:Nat}{b:Z.MS}{z:Z.MF}(F:Fun K x qual st f fd)(S:FnScope N ps (jab st))
  (hb:∀(cdv:Value) (A:Around) (outer:List Env) (s:Shared) (H:Hp) (E:XK),Room k (A.deeper (envOfC qual (jab st) s.heap.objs.size f cdv))->
   ∃t,PSs (cxOf (CXE P w) P w K mg base N qual (jab st) f cdv A outer s H E) (jdf st) t /\ SS C E t b)
  (hz:z=Z.mFun np nn b:=by rfl) (hp:ps.length=np:=by rfl) (hn:N.length=nn:=by rfl) (hle:np<=nn:=by decide):FnOk P w K mg base (CXE P w) (k+1) f fd ps (spZ C z):=
 okZ F S hz hp hn hle hb
theorem hm{j k:Nat}{A:Around}(r:Room k A)(h:j<=k:=by decide):Room j A:=r.mono h
theorem ixq(P:Program)(w:World)(K:W.Frag){X:Cx}{a b:Expr}{ta tb:TE}{pos:Pos}(hu:X.A.units+64<cLine)(ha:PE X a ta)(hb:PE X b tb)(hs:jr5 b:=by exact λ_ _=>rfl)(p:X.prog=P:=by rfl)(w':X.w=w:=by rfl)(k:X.K=K:=by rfl):PE X (.Subscript a b pos) (tOp (uIx P w K) ta tb):=pe_ix (ix_K p w' k hu) ha hb hs
theorem mdq(P:Program)(w:World)(K:W.Frag)(mg:Str->Option Value)(base:Heap)(k:Nat){X:Cx}{m:Str}{E:XK}{e:Expr}{ta:TE}{t:TA}(h:PE X e (jgl X.prog X.w X.K X.mg X.base (CXE P w) k m E ta t))(h1:X.prog=P:=by rfl)(h2:X.w=w:=by rfl)(h3:X.K=K:=by rfl)(h4:X.mg=mg:=by rfl)(h5:X.base=base:=by rfl):PE X e (jgl P w K mg base (CXE P w) k m E ta t):=pe_mdK h1 h2 h3 h4 h5 h
section
variable {C : Ct} {ex bs bs1 bs2 : List Addr} {h h1 h2 : Z.MH} {H H1 H2 : Hp} {E : XK}
theorem jg0{mg:Str->Option Value}{base:Heap}{k:Nat}{f:Str}{tab:List (String×Z.MF)}{to:TE}{ta:TA}{m:Z.ME}{l:Z.ML}(ok:jda C mg base k f tab)(ho:∀F,SE C (FE F) to m)(hl:SA C E0 ta l):
  SXE C (jni C.P C.w C.K mg base k f to ta) (Z.jan tab f m (Z.lNox l)):=λF=>jbs ok (ho F) (s_noxA hl)
def NoD(G G':Hp):Prop:=∀x u,G x=some u->(∃o kw,u= .frz o (.dK kw) /\ o.cls= .type "dict") \/ G' x=some u
def NoDa(a:Addr)(G G':Hp):Prop:=NoD G G' /\ ∀x u,x≠a->G x=some u->G' x=some u
theorem NoD.sql{K:W.Frag}{G G':Hp}{a:Addr}{xs:List V}(e:NoD G G')(h:SqL K G a xs):SqL K G' a xs:=by
 rcases h with(h | ⟨o,h⟩) | h
 ·rcases e _ _ h with⟨_,_,z,_⟩ | z
  ·cases z
  ·exact .inl (.inl z)
 ·rcases e _ _ h with⟨_,_,z,_⟩ | z
  ·cases z
  ·exact .inl (.inr ⟨o,z⟩)
 ·exact .inr h
mutual
theorem RV.noD{G G':Hp}(hs:NoD G G'):∀{d:Z.D} {v:V},RV C bs G v d->RV C bs G' v d
 | .non,v,h=>by simp only[RV] at h ⊢;exact h
 | .bl b,v,h=>by simp only[RV] at h ⊢;exact h
 | .int i,v,h=>by simp only[RV] at h ⊢;exact h
 | .str x,v,h=>by simp only[RV] at h ⊢;exact h
 | .tup ds,v,h=>by
  simp only[RV] at h ⊢
  obtain⟨a,vs,h1,h2,h3⟩:=h
  rcases hs _ _ h2 with⟨_,_,z,_⟩ | z
  ·cases z
  ·exact⟨a,vs,h1,z,RVs.noD hs h3⟩
 | .lst ds,v,h=>by
  simp only[RV] at h ⊢
  obtain⟨a,vs,h1,h2,h3⟩:=h
  rcases hs _ _ h2 with⟨_,_,z,_⟩ | z
  ·cases z
  ·exact⟨a,vs,h1,z,RVs.noD hs h3⟩
 | .arg ns,v,h=>by
  simp only[RV] at h ⊢
  obtain⟨a,h1,h2⟩:=h
  exact⟨a,h1,hs.sql h2⟩
 | .ref k,v,h=>by simp only[RV] at h ⊢;exact h
 | .ty n,v,h=>by simp only[RV] at h ⊢;exact h
 | .cls n,v,h=>by simp only[RV] at h ⊢;exact h
 | .exc c,v,h=>by
  simp only[RV] at h ⊢
  obtain⟨a,oe,u,h1,h2,h3⟩:=h
  rcases hs _ _ h2 with⟨_,_,z,zc⟩ | z
  ·cases z;rw[h3] at zc;cases zc
  ·exact⟨a,oe,u,h1,z,h3⟩
 | .obj c fs,v,h=>by
  simp only[RV] at h ⊢
  obtain⟨a,dx,fvs,h1,h2,h3⟩:=h
  rcases hs _ _ h2 with⟨_,_,z,_⟩ | z
  ·cases z
  ·exact⟨a,dx,fvs,h1,z,RVf.noD hs h3⟩
 | .dic kvs,v,h=>by simp only[RV] at h ⊢;exact h
theorem RVs.noD{G G':Hp}(hs:NoD G G'):∀{ds:List Z.D} {vs:List V},RVs C bs G vs ds->RVs C bs G' vs ds
 | [],[],_=>by simp only[RVs]
 | d::ds,v::vs,h=>by
  simp only[RVs] at h ⊢
  exact⟨RV.noD hs h.1,RVs.noD hs h.2⟩
 | [],_::_,h=>by simp only[RVs] at h
 | _::_,[],h=>by simp only[RVs] at h
theorem RVf.noD{G G':Hp}(hs:NoD G G'):∀{ds:List (Str×Z.D)} {vs:List (Str×V)},RVf C bs G vs ds->RVf C bs G' vs ds
  | [],[],_=>by simp only[RVf]
  | (y,d)::ds,(x,v)::vs,h=>by
    simp only[RVf] at h ⊢
    exact⟨h.1,RV.noD hs h.2.1,RVf.noD hs h.2.2⟩
  | [],_::_,h=>by simp only[RVf] at h
  | _::_,[],h=>by simp only[RVf] at h
theorem RVk.noD{G G':Hp}(hs:NoD G G'):∀{ds:List (Sum Int Str×Z.D)} {vs:List (Key×V)},RVk C bs G vs ds->RVk C bs G' vs ds
  | [],[],_=>by simp only[RVk]
  | (y,d)::ds,(x,v)::vs,h=>by
    simp only[RVk] at h ⊢
    exact⟨h.1,RV.noD hs h.2.1,RVk.noD hs h.2.2⟩
  | [],_::_,h=>by simp only[RVk] at h
  | _::_,[],h=>by simp only[RVk] at h
end
theorem RVk.get{G:Hp}:∀{ds:List (Sum Int Str×Z.D)} {vs:List (Key×V)},RVk C bs G vs ds->ds.length=vs.length /\ ∀(i:Nat) (d:Z.D),(ds.map (·.2))[i]?=some d->∃k v,vs[i]?=some (k,v) /\ RV C bs G v d
  | [],[],_=>⟨rfl,λi d e=>by simp at e⟩
  | (y,d)::ds,(x,v)::vs,h=>by
    simp only[RVk] at h
    obtain⟨h1,h2,h3⟩:=h
    obtain⟨i1,i2⟩:=RVk.get h3
    refine⟨by simp[i1],λi d' e=> ?_⟩
    cases i with
    | zero=>simp at e;subst e;exact⟨x,v,rfl,h2⟩
    | succ i=>exact i2 i d' (by simpa using e)
  | [],_::_,h=>by simp only[RVk] at h
  | _::_,[],h=>by simp only[RVk] at h
theorem ItOk.vals{G:Hp}{a:Addr}{o:Obj}{kws:List (Key×V)}{kvs:List (Sum Int Str×Z.D)}(hg:G a=some (.frz o (.dK kws)))(r:RVk C bs G kws kvs):ItOk C bs G (Itfz a o kws) (none,kvs.map (·.2)):=by
 intro ex2 bs2 h2 H2 hr pre sm _ i
 have ha:H2 a=some (.frz o (.dK kws)):=jbn _ _ (sm _ _ hg)
 obtain⟨hl,hget⟩:=r.get
 refine⟨λd e=> ?_,λhle=>⟨ha,by simp at hle;omega⟩⟩
 obtain⟨k,v,hv,rv⟩:=hget i d e
 refine⟨⟨ha,(List.getElem?_eq_some_iff.mp hv).1⟩,λx H3 y=> ?_⟩
 obtain⟨rfl,y⟩:=y
 rw[hv] at y
 simp at y
 subst y
 exact⟨Ev.refl hr,rv.mono pre sm⟩
theorem jet.noD{G G':Hp}{a b:Addr}{c:Z.Cell}(hn:NoDa b G G')(na:a≠b)(e:H1 a=H a)(q:jet C bs G H a c):jet C bs G' H1 a c:=by
 have hs:=hn.1
 cases c with
 | lst ds=>obtain⟨vs,h1,h2⟩:=q;exact⟨vs,by rw[e];exact h1,h2.noD hs⟩
 | dct kvs=>obtain⟨vs,h1,h2⟩:=q;exact⟨vs,by rw[e];exact h1,h2.noD hs⟩
 | ins c fs=>obtain⟨dx,vs,h1,h2⟩:=q;exact⟨dx,vs,by rw[e];exact h1,h2.noD hs⟩
 | fdc kvs=>obtain⟨o,vs,h1,hc,h2⟩:=q;exact⟨o,vs,hn.2 _ _ na h1,hc,h2.noD hs⟩
theorem Ev.froze{k:Nat}{a:Addr}{o:Obj}{kvs:List (Sum Int Str×Z.D)}{kws:List (Key×V)}(hr:HR C ex bs h H)(hk:bs[k]?=some a)(h0:h[k]?=some (some (.dct kvs)))(ha:H a=some (.dK kws)):
  Ev C ex bs h H bs (h.set k none) (upd H a (.frz o (.dK kws))) /\ gh ex bs (h.set k none) (upd H a (.frz o (.dK kws))) a=some (.frz o (.dK kws)):=by
 have ab:a∈bs:=List.mem_of_getElem? hk
 have lk:=(List.getElem?_eq_some_iff.mp h0).1
 have lvs:∀x,lv bs (h.set k none) x->lv bs h x /\ x≠a:=λx ⟨j,c',e1,e2,l2⟩=>by
  by_cases hj:k=j
  ·subst hj;rw[List.getElem?_set_self lk] at e2;cases e2
  ·rw[List.getElem?_set_ne hj] at e2
   exact⟨⟨j,c',e1,e2,l2⟩,λz=>hj (hr.inj k j a hk (by rw[<-z];exact e1))⟩
 have la:lv bs h a:=⟨k,_,hk,h0,rfl⟩
 have sm:Same (gh ex bs h H) (gh ex bs (h.set k none) (upd H a (.frz o (.dK kws)))):=λx u e=>by
  obtain⟨h1,h2,h3⟩:=jbd.mp e
  have:x≠a:=λz=>h2 (z▸la)
  exact jbd.mpr ⟨h1,λl=>h2 (lvs x l).1,by rw[jae this];exact h3⟩
 refine⟨⟨λ_ _ e=>e,⟨by simp[hr.len],hr.inj,hr.sep,λx m=> ?_,λx m=> ?_,λj x c' e1 e2=> ?_⟩,sm,λx m=> ?_⟩,jbd.mpr ⟨λm=>hr.sep a m ab,λl=>(lvs a l).2 rfl,jaz⟩⟩
 ·by_cases q:x=a
  ·subst q;rw[jaz];simp
  ·rw[jae q];exact hr.dom x m
 ·have:x≠a:=λz=>hr.sep x m (z▸ab)
  rw[jae this];exact hr.domx x m
 ·by_cases hj:k=j
  ·subst hj;rw[List.getElem?_set_self lk] at e2;cases e2
  ·rw[List.getElem?_set_ne hj] at e2
   have:x≠a:=λz=>hj (hr.inj k j a hk (by rw[<-z];exact e1))
   exact(hr.cell j x c' e1 e2).mono (λ_ _ e=>e) sm (jae this)
 ·exact jae λz=>hr.sep x m (z▸ab)
theorem Ev.thawed{k:Nat}{a:Addr}{o:Obj}{kvs:List (Sum Int Str×Z.D)}{kws:List (Key×V)}(hr:HR C ex bs h H)(hk:bs[k]?=some a)(h0:h[k]?=some (some (.dct kvs)))(rk:RVk C bs (gh ex bs h H) kws kvs)(hc:o.cls= .type "dict")
  (ev:Ev C ex bs h H bs1 h1 H1) (lk:k<h1.length) (ha:H1 a=some (.frz o (.dK kws))):NoD (gh ex bs1 h1 H1) (gh ex bs1 (h1.set k (some (.dct kvs))) (upd H1 a (.dK kws))) /\ Ev C ex bs h H bs1 (h1.set k (some (.dct kvs))) (upd H1 a (.dK kws)):=by
 have hk1:=ev.pre k a hk
 have ab:a∈bs1:=List.mem_of_getElem? hk1
 have lvs:∀x,lv bs1 (h1.set k (some (.dct kvs))) x->lv bs1 h1 x \/ x=a:=λx ⟨j,c',e1,e2,l2⟩=>by
  by_cases hj:k=j
  ·subst hj;rw[hk1] at e1;cases e1;exact .inr rfl
  ·rw[List.getElem?_set_ne hj] at e2
   exact .inl ⟨j,c',e1,e2,l2⟩
 have nd:NoD (gh ex bs1 h1 H1) (gh ex bs1 (h1.set k (some (.dct kvs))) (upd H1 a (.dK kws))):=λx u e=>by
  obtain⟨q1,q2,q3⟩:=jbd.mp e
  by_cases q:x=a
  ·subst q;rw[ha] at q3;cases q3;exact .inl ⟨o,kws,rfl,hc⟩
  ·exact .inr (jbd.mpr ⟨q1,λl=>(lvs x l).elim q2 q,by rw[jae q];exact q3⟩)
 have nda:NoDa a (gh ex bs1 h1 H1) (gh ex bs1 (h1.set k (some (.dct kvs))) (upd H1 a (.dK kws))):=⟨nd,λx u q e=>by
  obtain⟨q1,q2,q3⟩:=jbd.mp e
  exact jbd.mpr ⟨q1,λl=>(lvs x l).elim q2 q,by rw[jae q];exact q3⟩⟩
 have la:lv bs h a:=⟨k,_,hk,h0,rfl⟩
 refine⟨nd,ev.pre,⟨by simp[ev.hr.len],ev.hr.inj,ev.hr.sep,λx m=> ?_,λx m=> ?_,λj x c' e1 e2=> ?_⟩,λx u e=> ?_,λx m=> ?_⟩
 ·by_cases q:x=a
  ·subst q;rw[jaz];simp
  ·rw[jae q];exact ev.hr.dom x m
 ·have:x≠a:=λz=>ev.hr.sep x m (z▸ab)
  rw[jae this];exact ev.hr.domx x m
 ·by_cases hj:k=j
  ·subst hj
   rw[List.getElem?_set_self lk] at e2
   cases e2
   rw[hk1] at e1;cases e1
   exact⟨kws,jaz,(rk.mono ev.pre ev.same).noD nd⟩
  ·rw[List.getElem?_set_ne hj] at e2
   have:x≠a:=λz=>hj (ev.hr.inj k j a hk1 (by rw[<-z];exact e1))
   exact(ev.hr.cell j x c' e1 e2).noD nda this (jae this)
 ·rcases nd x u (ev.same x u e) with⟨o',kw,rfl,_⟩ | z
  ·obtain⟨q1,q2,q3⟩:=jbd.mp (ev.same x _ e)
   obtain⟨p1,p2,p3⟩:=jbd.mp e
   have:x≠a:=λz=>p2 (z▸la)
   exact jbd.mpr ⟨q1,λl=>(lvs x l).elim q2 this,by rw[jae this];exact q3⟩
  ·exact z
 ·have:x≠a:=λz=>ev.hr.sep x m (z▸ab)
  rw[jae this];exact ev.exs x m
theorem jx6{to:TE}{g:TG}{tb:TS}{mo:Z.ME}{mg:Z.MG}{mb:Z.MS}(ho:SE C E to mo)(hg:SG C E g mg)(hb:SS C E tb mb):SS C E (tForV to g tb) (Z.sForV mo mg mb):=by
 intro ex bs h ρ σ H D hr re p N
 refine ho ex bs h ρ σ H _ hr re (p.bind λd x h1 bs1 H1 e1 rx p1=> ?_)
 cases d with
 | ref k=>
  simp only[RV] at rx
  obtain⟨a,rfl,hk⟩:=rx
  dsimp only at p1
  split at p1
  ·rename_i kvs h0
   obtain⟨kws,ha,rk⟩:=e1.hr.cell k a _ hk h0
   refine⟨a,kws,rfl,ha,λo oc na=> ?_⟩
   obtain⟨e2,ga⟩:=Ev.froze (o:=o) e1.hr hk h0 ha
   refine jlm (gd:=none) (items:=kvs.map (·.2)) hg hb e2.hr ((re.ev e1).ev e2) (.vals ga (rk.mono e2.pre e2.same)) ?_
   rw[Z.jej]
   have hfz:∀{bs':List Addr} {h':Z.MH} {H':Hp},Ev C ex bs1 (h1.set k none) (upd H1 a (.frz o (.dK kws))) bs' h' H'->H' a=some (.frz o (.dK kws)):=λev=>jbn _ _ (ev.same _ _ ga)
   cases er:Z.jc7 mg mb (kvs.map (·.2)) ρ (h1.set k none) with
   | nx ρ' h'=>
    rw[er] at p1
    dsimp only[Z.ju9] at p1
    split at p1
    ·rename_i hn
     intro σ' bs' H' ev re'
     obtain⟨nd,e3⟩:=Ev.thawed e1.hr hk h0 rk oc (e2.trans ev) (List.getElem?_eq_some_iff.mp hn).1 (hfz ev)
     exact⟨a,o,kws,na,hfz ev,p1 σ' bs' _ e3 ⟨re'.1,λi d q=>by obtain⟨v,q1,q2⟩:=re'.2 i d q;exact⟨v,q1,q2.noD nd⟩⟩⟩
    ·exact p1.elim
   | rt d h'=>
    rw[er] at p1
    dsimp only[Z.ju9] at p1
    split at p1
    ·rename_i hn
     intro v bs' H' ev rv
     obtain⟨nd,e3⟩:=Ev.thawed e1.hr hk h0 rk oc (e2.trans ev) (List.getElem?_eq_some_iff.mp hn).1 (hfz ev)
     exact⟨a,o,kws,na,hfz ev,p1 v bs' _ e3 (rv.noD nd)⟩
    ·exact p1.elim
   | exc c h'=>
    rw[er] at p1
    exact λbs' H' ev=>p1 bs' H' (e2.trans ev)
   | bk ρ' h'=>rw[er] at p1;exact p1.elim
   | ct ρ' h'=>rw[er] at p1;exact p1.elim
   | stuck=>rw[er] at p1;exact p1.elim
  ·exact p1.elim
 | _=>exact p1.elim
theorem ItOk.items{G:Hp}{a:Addr}{o:Obj}{kws:List (Key×V)}{kvs:List (Sum Int Str×Z.D)}(hg:G a=some (.frz o (.dK kws)))(r:RVk C bs G kws kvs):ItOk C bs G (Itit a o kws) (none,kvs.map Z.jk8):=by
 intro ex2 bs2 h2 H2 hr pre sm _ i
 have ha:H2 a=some (.frz o (.dK kws)):=jbn _ _ (sm _ _ hg)
 have get:∀{ds:List (Sum Int Str×Z.D)} {vs:List (Key×V)},RVk C bs G vs ds->ds.length=vs.length /\ ∀(i:Nat) (p:Sum Int Str×Z.D),ds[i]?=some p->∃v,vs[i]?=some (p.1,v) /\ RV C bs G v p.2:=by
  intro ds
  induction ds with
  | nil=>intro vs q;cases vs with
   | nil=>exact⟨rfl,λi p e=>by simp at e⟩
   | cons _ _=>simp only[RVk] at q
  | cons p ds ih=>intro vs q;cases vs with
   | nil=>simp only[RVk] at q
   | cons u vs=>
    simp only[RVk] at q
    obtain⟨q1,q2,q3⟩:=q
    obtain⟨i1,i2⟩:=ih q3
    refine⟨by simp[i1],λi p' e=> ?_⟩
    cases i with
    | zero=>simp at e;subst e;exact⟨u.2,by simp[<-q1],q2⟩
    | succ i=>exact i2 i p' (by simpa using e)
 obtain⟨hl,hget⟩:=get r
 refine⟨λd e=> ?_,λhle=>⟨ha,by simp at hle;omega⟩⟩
 rw[List.getElem?_map] at e
 obtain⟨p,ep,rfl⟩:=Option.map_eq_some_iff.mp e
 obtain⟨v,hv,rv⟩:=hget i p ep
 refine⟨⟨ha,(List.getElem?_eq_some_iff.mp hv).1⟩,λx H3 y=> ?_⟩
 obtain⟨q,k,v',hq,hkv,rfl,rfl⟩:=y
 rw[hv] at hkv
 cases hkv
 obtain⟨e3,g⟩:=Ev.alloc (o:= .tup [kV p.1,v]) hr hq
 refine⟨e3,?_⟩
 simp only[Z.jk8,RV,RVs]
 refine⟨q,_,rfl,g,?_⟩
 simp only[RVs]
 refine⟨?_,(rv.mono pre sm).ev e3,trivial⟩
 cases p.1 with
 | inl i=>simp only[kV,Z.keyD,RV]
 | inr x=>simp only[kV,Z.keyD,RV]
theorem jwy{nt:Nat}{idx:List Nat}{to:TE}{g:TG}{tc:TT}{te:TE}{mo:Z.ME}{mg:Z.MG}{mt:Z.MT}{me:Z.ME}(ho:SE C E to mo)(hg:SG C E0 g mg)(ht:ST C E0 tc mt)(he:SE C E0 te me):
  SN C E (jw9 nt idx to g tc te) (Z.jw6 nt idx mo mg mt me):=by
 intro ex bs h ρ σ H Q hr re p N
 refine ho ex bs h ρ σ H _ hr re (jdb.bind p λd x h1 bs1 H1 e1 rx p1=> ?_)
 cases d with
 | ref k=>
  simp only[RV] at rx
  obtain⟨a,rfl,hk⟩:=rx
  dsimp only at p1
  split at p1
  ·rename_i kvs h0
   obtain⟨hz,p1⟩:=p1.chk
   obtain⟨kws,ha,rk⟩:=e1.hr.cell k a _ hk h0
   refine⟨a,kws,rfl,ha,λo oc na=> ?_⟩
   obtain⟨e2,ga⟩:=Ev.froze (o:=o) e1.hr hk h0 ha
   refine jkm (E:=E) (gd:=none) (items:=kvs.map Z.jk8) hg ht he e2.hr ((re.ev e1).ev e2) (.items ga (rk.mono e2.pre e2.same)) (by simpa using hz) ?_
   rw[Z.jec]
   have hfz:∀{bs':List Addr} {h':Z.MH} {H':Hp},Ev C ex bs1 (h1.set k none) (upd H1 a (.frz o (.dK kws))) bs' h' H'->H' a=some (.frz o (.dK kws)):=λev=>jbn _ _ (ev.same _ _ ga)
   cases er:Z.compLoop mg mt me (List.replicate nt none++Z.caps idx ρ) (kvs.map Z.jk8) (h1.set k none) with
   | ok ds h'=>
    rw[er] at p1
    dsimp only[Z.thawN] at p1
    split at p1
    ·rename_i hn
     intro q vs bs' H' ev hq rv
     obtain⟨nd,e3⟩:=Ev.thawed e1.hr hk h0 rk oc (e2.trans ev) (List.getElem?_eq_some_iff.mp hn).1 (hfz ev)
     have ne:q≠a:=λz=>by rw[z,hfz ev] at hq;cases hq
     refine⟨a,o,kws,na,by rw[jae (Ne.symm ne)];exact hfz ev,?_⟩
     have:=p1 q vs bs' _ e3 (by rw[jae ne];exact hq) (rv.noD nd)
     have ec:upd (upd H' q (.lst vs)) a (.dK kws)=upd (upd H' a (.dK kws)) q (.lst vs):=by
      funext b
      unfold upd
      by_cases h1:b=a
      ·by_cases h2:b=q
       ·exact absurd (h2.symm.trans h1) ne
       ·simp[h1,h2,Ne.symm ne]
      ·simp[h1]
     rw[ec]
     exact this
    ·exact p1.elim
   | exc c h'=>
    rw[er] at p1
    exact λbs' H' ev=>p1 bs' H' (e2.trans ev)
   | stuck=>rw[er] at p1;exact p1.elim
  ·exact p1.elim
 | _=>exact p1.elim
theorem n_rep{ta tb:TE}{ma mb:Z.ME}(ha:SE C E ta ma)(hb:SE C E tb mb):SN C E (tOp jy8 ta tb) (Z.lRep ma mb):=by
 intro ex bs h ρ σ H Q hr re p
 refine ha ex bs h ρ σ H _ hr re (jdb.bind p λdx x h1 bs1 H1 e1 rx p1=> ?_)
 refine hb ex bs1 h1 ρ σ H1 _ e1.hr (re.ev e1) (jdb.bind p1 λdy y h2 bs2 H2 e2 ry p2=> ?_)
 cases dy with
 | int k=>
  simp only[RV] at ry
  subst ry
  dsimp only at p2
  cases e3:Z.asL h2 dx with
  | none=>rw[e3] at p2;exact p2.elim
  | some xs=>
   rw[e3] at p2
   obtain⟨q,p2⟩:=p2.chk
   obtain⟨a,vs,rfl,ha,rs⟩:=jjz e2.hr (rx.ev e2) e3
   exact⟨a,_,vs,rfl,rfl,ha,by have:=q.1;omega,by have:=q.1;omega,by rw[rs.len];exact q.2,λl hl=>jdb.now e2.hr p2 hl (rs.rep _)⟩
 | _=>exact p2.elim
end
def IoL(K:W.Frag)(a:Addr):List Value->List Bool->Prop
 | v::vs,b::bs=>W.kitOne K (.ref a) v=some b /\ IoL K a vs bs
 | [],[]=>True
 | _,_=>False
section
variable {C : Ct} {ex bs bs1 bs2 : List Addr} {h h1 h2 : Z.MH} {H H1 H2 : Hp} {E : XK}
theorem RVk.gets{G:Hp}:∀{ds:List (Sum Int Str×Z.D)} {vs:List (Key×V)},RVk C bs G vs ds->ds.length=vs.length /\ ∀(i:Nat) (d:Z.D),(ds.map λp=>Z.keyD p.1)[i]?=some d->∃k v,vs[i]?=some (k,v) /\ d=Z.keyD k
  | [],[],_=>⟨rfl,λi d e=>by simp at e⟩
  | (y,d)::ds,(x,v)::vs,h=>by
    simp only[RVk] at h
    obtain⟨h1,h2,h3⟩:=h
    obtain⟨i1,i2⟩:=RVk.gets h3
    refine⟨by simp[i1],λi d' e=> ?_⟩
    cases i with
    | zero=>simp at e;subst e;exact⟨x,v,rfl,by rw[h1]⟩
    | succ i=>exact i2 i d' (by simpa using e)
  | [],_::_,h=>by simp only[RVk] at h
  | _::_,[],h=>by simp only[RVk] at h
theorem RV.key{G:Hp}(k:Key):RV C bs G (kV k) (Z.keyD k):=by
 cases k with
 | inl i=>simp only[Z.keyD,RV];rfl
 | inr x=>simp only[Z.keyD,RV];rfl
theorem ItOk.keys{G:Hp}{a:Addr}{o:Obj}{kws:List (Key×V)}{kvs:List (Sum Int Str×Z.D)}(hg:G a=some (.frz o (.dK kws)))(r:RVk C bs G kws kvs):ItOk C bs G (Itkz a o kws) (none,kvs.map λp=>Z.keyD p.1):=by
 intro ex2 bs2 h2 H2 hr pre sm _ i
 have ha:H2 a=some (.frz o (.dK kws)):=jbn _ _ (sm _ _ hg)
 obtain⟨hl,hget⟩:=r.gets
 refine⟨λd e=> ?_,λhle=>⟨ha,by simp at hle;omega⟩⟩
 obtain⟨k,v,hv,rfl⟩:=hget i d e
 refine⟨⟨ha,(List.getElem?_eq_some_iff.mp hv).1⟩,λx H3 y=> ?_⟩
 obtain⟨rfl,y⟩:=y
 rw[hv] at y
 simp at y
 subst y
 exact⟨Ev.refl hr,RV.key k⟩
theorem Ev.frozeK{k:Nat}{a:Addr}{o:Obj}{kvs:List (Sum Int Str×Z.D)}{kws:List (Key×V)}(hr:HR C ex bs h H)(hk:bs[k]?=some a)(h0:h[k]?=some (some (.dct kvs)))(ha:H a=some (.dK kws))(rk:RVk C bs (gh ex bs h H) kws kvs)(oc:o.cls= .type "dict"):
  Ev C ex bs h H bs (h.set k (some (.fdc kvs))) (upd H a (.frz o (.dK kws))) /\ gh ex bs (h.set k (some (.fdc kvs))) (upd H a (.frz o (.dK kws))) a=some (.frz o (.dK kws)):=by
 have ab:a∈bs:=List.mem_of_getElem? hk
 have lk:=(List.getElem?_eq_some_iff.mp h0).1
 have lvs:∀x,lv bs (h.set k (some (.fdc kvs))) x->lv bs h x /\ x≠a:=λx ⟨j,c',e1,e2,l2⟩=>by
  by_cases hj:k=j
  ·subst hj;rw[List.getElem?_set_self lk] at e2;cases e2;cases l2
  ·rw[List.getElem?_set_ne hj] at e2
   exact⟨⟨j,c',e1,e2,l2⟩,λz=>hj (hr.inj k j a hk (by rw[<-z];exact e1))⟩
 have la:lv bs h a:=⟨k,_,hk,h0,rfl⟩
 have sm:Same (gh ex bs h H) (gh ex bs (h.set k (some (.fdc kvs))) (upd H a (.frz o (.dK kws)))):=λx u e=>by
  obtain⟨h1,h2,h3⟩:=jbd.mp e
  have:x≠a:=λz=>h2 (z▸la)
  exact jbd.mpr ⟨h1,λl=>h2 (lvs x l).1,by rw[jae this];exact h3⟩
 have ga:gh ex bs (h.set k (some (.fdc kvs))) (upd H a (.frz o (.dK kws))) a=some (.frz o (.dK kws)):=jbd.mpr ⟨λm=>hr.sep a m ab,λl=>(lvs a l).2 rfl,jaz⟩
 refine⟨⟨λ_ _ e=>e,⟨by simp[hr.len],hr.inj,hr.sep,λx m=> ?_,λx m=> ?_,λj x c' e1 e2=> ?_⟩,sm,λx m=> ?_⟩,ga⟩
 ·by_cases q:x=a
  ·subst q;rw[jaz];simp
  ·rw[jae q];exact hr.dom x m
 ·have:x≠a:=λz=>hr.sep x m (z▸ab)
  rw[jae this];exact hr.domx x m
 ·by_cases hj:k=j
  ·subst hj
   rw[List.getElem?_set_self lk] at e2;cases e2
   rw[hk] at e1;cases e1
   exact⟨o,kws,ga,oc,rk.mono (λ_ _ e=>e) sm⟩
  ·rw[List.getElem?_set_ne hj] at e2
   have:x≠a:=λz=>hj (hr.inj k j a hk (by rw[<-z];exact e1))
   exact(hr.cell j x c' e1 e2).mono (λ_ _ e=>e) sm (jae this)
 ·exact jae λz=>hr.sep x m (z▸ab)
theorem jyw{to:TE}{g:TG}{tb:TS}{mo:Z.ME}{mg:Z.MG}{mb:Z.MS}(ho:SE C E to mo)(hg:SG C E g mg)(hb:SS C E tb mb):SS C E (tForK to g tb) (Z.sForK mo mg mb):=by
 intro ex bs h ρ σ H D hr re p N
 refine ho ex bs h ρ σ H _ hr re (p.bind λd x h1 bs1 H1 e1 rx p1=> ?_)
 cases d with
 | ref k=>
  simp only[RV] at rx
  obtain⟨a,rfl,hk⟩:=rx
  dsimp only at p1
  split at p1
  ·rename_i kvs h0
   obtain⟨kws,ha,rk⟩:=e1.hr.cell k a _ hk h0
   refine⟨a,kws,rfl,ha,λo oc na=> ?_⟩
   obtain⟨e2,ga⟩:=Ev.frozeK (o:=o) e1.hr hk h0 ha rk oc
   refine jlm (gd:=none) (items:=kvs.map λp=>Z.keyD p.1) hg hb e2.hr ((re.ev e1).ev e2) (.keys ga (rk.mono e2.pre e2.same)) ?_
   rw[Z.jej]
   have hfz:∀{bs':List Addr} {h':Z.MH} {H':Hp},Ev C ex bs1 (h1.set k (some (.fdc kvs))) (upd H1 a (.frz o (.dK kws))) bs' h' H'->H' a=some (.frz o (.dK kws)):=λev=>jbn _ _ (ev.same _ _ ga)
   cases er:Z.jc7 mg mb (kvs.map λp=>Z.keyD p.1) ρ (h1.set k (some (.fdc kvs))) with
   | nx ρ' h'=>
    rw[er] at p1
    dsimp only[Z.jx7] at p1
    split at p1
    ·rename_i _ hn
     intro σ' bs' H' ev re'
     obtain⟨nd,e3⟩:=Ev.thawed e1.hr hk h0 rk oc (e2.trans ev) (List.getElem?_eq_some_iff.mp hn).1 (hfz ev)
     exact⟨a,o,kws,na,hfz ev,p1 σ' bs' _ e3 ⟨re'.1,λi d q=>by obtain⟨v,q1,q2⟩:=re'.2 i d q;exact⟨v,q1,q2.noD nd⟩⟩⟩
    ·exact p1.elim
   | rt d h'=>
    rw[er] at p1
    dsimp only[Z.jx7] at p1
    split at p1
    ·rename_i _ hn
     intro v bs' H' ev rv
     obtain⟨nd,e3⟩:=Ev.thawed e1.hr hk h0 rk oc (e2.trans ev) (List.getElem?_eq_some_iff.mp hn).1 (hfz ev)
     exact⟨a,o,kws,na,hfz ev,p1 v bs' _ e3 (rv.noD nd)⟩
    ·exact p1.elim
   | exc c h'=>
    rw[er] at p1
    exact λbs' H' ev=>p1 bs' H' (e2.trans ev)
   | bk ρ' h'=>rw[er] at p1;exact p1.elim
   | ct ρ' h'=>rw[er] at p1;exact p1.elim
   | stuck=>rw[er] at p1;exact p1.elim
  ·exact p1.elim
 | _=>exact p1.elim
theorem RVk.drop{G:Hp}{k:Sum Int Str}:∀{ds:List (Sum Int Str×Z.D)} {vs:List (Key×V)},RVk C bs G vs ds->RVk C bs G (jj7 vs k) (Z.jm1 ds k)
  | [],[],_=>by simp only[jj7,Z.jm1,List.filter_nil,RVk]
  | (y,d)::ds,(x,v)::vs,h=>by
    simp only[RVk] at h
    obtain⟨rfl,h2,h3⟩:=h
    have ih:=RVk.drop (k:=k) h3
    unfold jj7 Z.jm1 at ih ⊢
    by_cases q:x=k
    · simp only[List.filter_cons,q,ne_eq,not_true_eq_false,decide_false,Bool.false_eq_true,if_false];exact ih
    · simp only[List.filter_cons,q,ne_eq,not_false_eq_true,decide_true,if_true,RVk];exact⟨trivial,h2,ih⟩
  | [],_::_,h=>by simp only[RVk] at h
  | _::_,[],h=>by simp only[RVk] at h
theorem jpy{to ti:TE}{mo mi:Z.ME}(ho:SE C E to mo)(hi:SE C E ti mi):SE C E (jwd to ti) (Z.jsz mo mi):=by
 intro ex bs h ρ σ H Q hr re p
 refine ho ex bs h ρ σ H _ hr re (p.bind λo x h1 bs1 H1 e1 rx p1=> ?_)
 cases o with
 | ref k=>
  simp only[RV] at rx
  obtain⟨a,rfl,hk⟩:=rx
  dsimp only at p1
  split at p1
  ·rename_i kv0 hc0
   obtain⟨vs0,ha0,_⟩:=e1.hr.cell k a _ hk hc0
   refine⟨a,rfl,.inl ⟨_,.inl ha0⟩,?_⟩
   refine hi ex bs1 h1 ρ σ H1 _ e1.hr (re.ev e1) (p1.bind λy vy h2 bs2 H2 e2 ry p2=> ?_)
   split at p2
   ·rename_i j hj
    split at p2
    ·rename_i kvs hc
     obtain⟨kws,ha,rk⟩:=e2.hr.cell k a _ (e2.pre k a hk) hc
     have ek:=jt9 ry hj
     subst ek
     rcases RVk.val (k:=j) rk with⟨q1,q2⟩ | ⟨d,v,q1,q2,q3⟩
     ·rw[q1] at p2;exact p2.elim
     ·rw[q1] at p2
      refine⟨kws,j,v,ha,rfl,q2,?_⟩
      have e3:=Ev.put (o:= .dK (jj7 kws j)) (c:= .dct (Z.jm1 kvs j)) e2.hr (e2.pre k a hk) hc ⟨_,jaz,rk.drop⟩
      exact p2 v bs2 _ e3 (q3.ev e3)
    ·exact p2.elim
   ·exact p2.elim
  ·exact p1.elim
 | _=>exact p1.elim
theorem jtg{to:TE}{mo:Z.ME}(ho:SE C E to mo):SS C E (juv (tBM C.K "list" jvr to tNil)) (Z.jwp mo):=by
 intro ex bs h ρ σ H D hr re p
 refine ho ex bs h ρ σ H _ hr re (p.bind λo x h1 bs1 H1 e1 rx p1=> ?_)
 cases o with
 | ref k=>
  simp only[RV] at rx
  obtain⟨a,rfl,hk⟩:=rx
  dsimp only at p1
  split at p1
  ·rename_i xs0 hc0
   obtain⟨vs0,ha0,_⟩:=e1.hr.cell k a _ hk hc0
   refine⟨.inl ⟨rfl,vs0,SqL.of ha0⟩,?_⟩
   refine⟨a,vs0,rfl,rfl,ha0,?_⟩
   have e3:=Ev.put (o:= .lst []) (c:= .lst []) e1.hr hk hc0 ⟨_,jaz,by simp only[RVs]⟩
   exact p1 σ bs1 _ e3 ((re.ev e1).ev e3)
  ·exact p1.elim
 | _=>exact p1.elim
theorem fldc{f:Str}{c:String}{a:Addr}{tab:List String}(hc:C.cm c=a)(cl:Cls C.K a)(na:jcg C.K a f)(r:jf6 C f tab):jf6 C f (c::tab):=by subst hc;exact jth cl na r
theorem subc{W a:Addr}{c:String}{b:Bool}{tab:List (String×Bool)}(hc:C.cm c=a)(q:PySem.W.mroIn C.K a (.ref W)=some b)(r:jlq C W tab):jlq C W ((c,b)::tab):=by subst hc;exact jvb q r
theorem mtc{mg:Str->Option Value}{base:Heap}{k j:Nat}{m:Str}{c:String}{a:Addr}{z:Z.MF}{tab:List (String×Z.MF)}{f:Addr}{fd:FuncData}{ps:List Str}(hc:C.cm c=a)(cl:Cls C.K a)(b:Meth C.K a m f)(F:FnOk C.P C.w C.K mg base (CXE C.P C.w) j f fd ps (spZ C z))(hj:j<=k)(B:jfo C.K fd ps [])(r:jda C mg base k m tab):jda C mg base k m ((c,z)::tab):=by subst hc;exact jx1 cl b F hj B r
def NmL(C:Ct):List (Bool×String)->List Value->Prop
  | (k,n)::ns,v::vs=>(if k=true then Value.ref (C.cm n) else .type n)=v /\ NmL C ns vs
  | [],[]=>True
  | _,_=>False
def XL(C:Ct)(vs:List Value):List (String×List Bool)->Prop
  | []=>True
  | (c,bs)::r=>(IsiC C.K (C.cm c) /\ IoL C.K (C.cm c) vs bs) /\ XL C vs r
theorem xlc{vs:List Value}{c:String}{bs:List Bool}{a:Addr}{r:List (String×List Bool)}(hc:C.cm c=a)(ic:IsiC C.K a)(io:IoL C.K a vs bs)(h:XL C vs r):XL C vs ((c,bs)::r):=by subst hc;exact⟨⟨ic,io⟩,h⟩
theorem jsi{c:String}{tab:List ((String×Bool×String)×Bool)}(ic:IsiC C.K (C.cm c))(r:jlc C tab):∀{ns:List (Bool×String)} {vs:List Value} {bs:List Bool},NmL C ns vs->IoL C.K (C.cm c) vs bs->jlc C (((ns.zip bs).map λq=>((c,q.1.1,q.1.2),q.2))++tab)
  | (k,n)::ns,v::vs,b::bs,h1,h2=>by
    obtain⟨rfl,h1⟩:=h1
    exact jux ic h2.1 (jsi ic r h1 h2.2)
  | [],[],[],_,_=>r
  | [],[],_::_,_,h=>h.elim
  | _::_,[],_,h,_=>h.elim
  | [],_::_,_,h,_=>h.elim
  | (_,_)::_,_::_,[],_,h=>h.elim
theorem isxF{ns:List (Bool×String)}{vs:List Value}(h:NmL C ns vs):∀{l:List (String×List Bool)},XL C vs l->jlc C (Z.xT ns l)
  | [],_=>jza
  | (c,bs)::l,q=>by
    have:=jsi (c:=c) q.1.1 (isxF h q.2) h q.1.2
    exact this
theorem jys{tl:TA}{ml:Z.ML}(hl:SA C E tl ml):SN C E (tCB jrg tl) (Z.jiq ml):=by
 intro ex bs h ρ σ H Q hr re p
 refine hl ex bs h ρ σ H _ hr re (jdb.bind p λds xs h1 bs1 H1 e1 rx p1=> ?_)
 split at p1
 ·obtain⟨v,rfl,r⟩:=jkr rx
  rename_i d
  cases e':Z.jlx h1 d with
  | none=>rw[e'] at p1;exact p1.elim
  | some ns=>
   rw[e'] at p1
   obtain⟨q,p1⟩:=jdb.chk (show jdb C ex E bs1 h1 H1 (Z.chk (ns.length<64) _) Q from p1)
   obtain⟨a,rfl,hq⟩:=jv7 e1.hr r e'
   refine⟨a,ns,rfl,hq,q,λl ms hs hl=> ?_⟩
   rw[srt_of hs]
   exact jdb.now e1.hr p1 hl (jn7 _)
 ·exact p1.elim
end
end L2
namespace Z
open PySem
theorem jbq{α:Type}{g:MG}{t:MT}{m:ME}{ρ0:Ro}{h:MH}(e:α->D)(r:α->Ro)(f:α->D):∀(as:List α),(∀a∈as,g (e a) ρ0 h= .nx (r a) h /\ t (r a) h= .ok true h /\ m (r a) h= .ok (f a) h)->compLoop g t m ρ0 (as.map e) h= .ok (as.map f) h
 | [],_=>by unfold compLoop;rfl
 | a::as,q=>by
  obtain⟨h1,h2,h3⟩:=q a (List.mem_cons_self ..)
  rw[List.map_cons]
  unfold compLoop
  simp only[h1,h2,h3,jbq e r f as λb hb=>q b (List.mem_cons_of_mem _ hb),List.map_cons]
@[simp] theorem intsD_map(ns:List Int):jmh (ns.map D.int)=some ns:=by
 induction ns with
 | nil=>rfl
 | cons n ns ih=>simp[ih]
@[simp] theorem rng_length(lo:Int)(n:Nat):(rng lo n).length=n:=by simp[rng]
@[simp] theorem atI_zero{α:Type}(a:α)(l:List α):atI (a::l) 0=some a:=by simp[atI,ixN]
@[simp] theorem atI_one{α:Type}(a b:α)(l:List α):atI (a::b::l) 1=some b:=by
 unfold atI ixN
 rw[if_pos (by decide),if_pos (by simp only[List.length_cons];omega)];rfl
@[simp] theorem atI_two{α:Type}(a b c:α)(l:List α):atI (a::b::c::l) 2=some c:=by
 unfold atI ixN
 rw[if_pos (by decide),if_pos (by simp only[List.length_cons];omega)];rfl
mutual
theorem jrt:∀{d:D} {p:PyData},d.py=some p->d.eq d=true
 | .non,_,_=>by simp[D.eq]
 | .bl b,_,_=>by simp[D.eq]
 | .int i,_,_=>by simp[D.eq]
 | .str x,_,_=>by simp[D.eq]
 | .tup ds,_,e=>by
  simp only[D.py,Option.map_eq_some_iff] at e
  obtain⟨ps,h,_⟩:=e
  simp only[D.eq];exact jjc h
 | .lst ds,_,e=>by
  simp only[D.py,Option.map_eq_some_iff] at e
  obtain⟨ps,h,_⟩:=e
  simp only[D.eq];exact jjc h
 | .arg _,_,e=>by simp only[D.py] at e;cases e
 | .ref _,_,e=>by simp only[D.py] at e;cases e
 | .ty _,_,e=>by simp only[D.py] at e;cases e
 | .cls _,_,e=>by simp only[D.py] at e;cases e
 | .exc _,_,e=>by simp only[D.py] at e;cases e
 | .obj _ _,_,e=>by simp only[D.py] at e;cases e
 | .dic _,_,e=>by simp only[D.py] at e;cases e
theorem jjc:∀{ds:List D} {ps:List PyData},D.pys ds=some ps->D.eqs ds ds=true
 | [],_,_=>by simp[D.eqs]
 | d::ds,ps,e=>by
  simp only[D.pys] at e
  split at e
  ·rename_i p qs e1 e2
   simp only[D.eqs,Bool.and_eq_true]
   exact⟨jrt e1,jjc e2⟩
  ·cases e
end
theorem jpa{d:D}(h:d.dat=true):d.eq d=true:=by
 unfold D.dat at h
 rw[Bool.and_eq_true,Option.isSome_iff_exists] at h
 obtain⟨⟨p,hp⟩,_⟩:=h
 exact jrt hp
theorem jl7{ds:List D}{n:Nat}(h:∀d∈ds,d.py.isSome=true /\ d.deep<=n):(D.pys ds).isSome=true /\ D.deeps ds<=n:=by
 induction ds with
 | nil=>exact⟨by simp[D.pys],by simp[D.deeps]⟩
 | cons d ds ih=>
  obtain⟨h1,h2⟩:=h d (List.mem_cons_self ..)
  obtain⟨h3,h4⟩:=ih λe he=>h e (List.mem_cons_of_mem _ he)
  rw[Option.isSome_iff_exists] at h1 h3
  obtain⟨p,hp⟩:=h1
  obtain⟨ps,hps⟩:=h3
  exact⟨by simp[D.pys,hp,hps],by simp only[D.deeps];omega⟩
theorem jr8{ds:List D}{n:Nat}(h:∀d∈ds,d.py.isSome=true /\ d.deep<=n):(D.tup ds).py.isSome=true /\ (D.tup ds).deep<=n+1:=by
 obtain⟨h1,h2⟩:=jl7 h
 exact⟨by simp only[D.py];simpa using h1,by simp only[D.deep];omega⟩
theorem jha{ds:List D}{n:Nat}(h:∀d∈ds,d.py.isSome=true /\ d.deep<=n):(D.lst ds).py.isSome=true /\ (D.lst ds).deep<=n+1:=by
 obtain⟨h1,h2⟩:=jl7 h
 exact⟨by simp only[D.py];simpa using h1,by simp only[D.deep];omega⟩
theorem jia(i:Int)(n:Nat):(D.int i).py.isSome=true /\ (D.int i).deep<=n:=⟨by simp[D.py],by simp[D.deep]⟩
theorem jkp{d:D}{n:Nat}(h:d.py.isSome=true /\ d.deep<=n)(hn:n<=64):d.dat=true:=by
 unfold D.dat
 rw[h.1,Bool.true_and,decide_eq_true_eq];omega
mutual
theorem res_id(h:MH):∀(n:Nat) {d:D},D.bnd 0 d=true->res n h d=d
 | 0,d,_=>by unfold res;rfl
 | n+1,.ref k,e=>by simp[D.bnd] at e
 | n+1,.tup xs,e=>by
  simp only[D.bnd] at e
  unfold res;rw[jmi h n e]
 | n+1,.lst xs,e=>by
  simp only[D.bnd] at e
  unfold res;rw[jmi h n e]
 | n+1,.non,_=>by unfold res;rfl
 | n+1,.bl _,_=>by unfold res;rfl
 | n+1,.int _,_=>by unfold res;rfl
 | n+1,.str _,_=>by unfold res;rfl
 | n+1,.arg _,_=>by unfold res;rfl
 | n+1,.ty _,_=>by unfold res;rfl
 | n+1,.cls _,_=>by unfold res;rfl
 | n+1,.exc _,_=>by unfold res;rfl
 | n+1,.obj _ _,_=>by unfold res;rfl
 | n+1,.dic _,_=>by unfold res;rfl
theorem jmi(h:MH):∀(n:Nat) {ds:List D},D.bnds 0 ds=true->ds.map (res n h)=ds
 | n,[],_=>rfl
 | n,d::ds,e=>by
  simp only[D.bnds,Bool.and_eq_true] at e
  rw[List.map_cons,res_id h n e.1,jmi h n e.2]
end
end Z
namespace Clo
def sub(a b:Nat):Prop:=∀i,a.testBit i=true->b.testBit i=true
theorem sub.refl(a:Nat):sub a a:=λ_ h=>h
theorem sub.trans{a b c:Nat}(h:sub a b)(g:sub b c):sub a c:=λi q=>g i (h i q)
theorem sub.antisymm{a b:Nat}(h:sub a b)(g:sub b a):a=b:=Nat.eq_of_testBit_eq λi=>by
 cases x:a.testBit i with
 | true=>rw[h i x]
 | false=>cases y:b.testBit i with
  | true=>rw[g i y] at x;cases x
  | false=>rfl
theorem jh5(a b:Nat):sub a (a|||b):=λi h=>by rw[Nat.testBit_or,h];rfl
theorem jjs(a b:Nat):sub b (a|||b):=λi h=>by rw[Nat.testBit_or,h,Bool.or_true]
theorem jvm{a b c:Nat}(h:sub a c)(g:sub b c):sub (a|||b) c:=λi q=>by
 rw[Nat.testBit_or,Bool.or_eq_true] at q
 rcases q with q | q
 ·exact h i q
 ·exact g i q
theorem sub.or_eq{a b:Nat}(h:sub a b):a|||b=b:=sub.antisymm (jvm h (sub.refl _)) (jjs _ _)
theorem sub.le{a b:Nat}(h:sub a b):a<=b:=by rw[<-h.or_eq];exact Nat.left_le_or
theorem and_ne{a b:Nat}:a&&&b≠0↔∃i,a.testBit i=true /\ b.testBit i=true:=by
 constructor
 ·intro h
  obtain⟨i,hi⟩:=Nat.exists_testBit_of_ne_zero h
  rw[Nat.testBit_and,Bool.and_eq_true] at hi
  exact⟨i,hi⟩
 ·rintro⟨i,h1,h2⟩ e
  have:(a&&&b).testBit i=true:=by rw[Nat.testBit_and,h1,h2];rfl
  rw[e] at this;simp at this
theorem sub.and_ne{a b c:Nat}(h:sub b c)(g:a&&&b≠0):a&&&c≠0:=by
 obtain⟨i,h1,h2⟩:=Clo.and_ne.mp g
 exact Clo.and_ne.mpr ⟨i,h1,h i h2⟩
def jfw(ps:List Nat)(t:Nat):Prop:=∀p∈ps,p&&&t≠0->sub p t
structure Is (ps:List Nat) (s r:Nat):Prop where
 ge:sub s r
 cl:jfw ps r
 le:∀t,sub s t->jfw ps t->sub r t
theorem Is.uniq{ps:List Nat}{s r q:Nat}(a:Is ps s r)(b:Is ps s q):r=q:=sub.antisymm (a.le q b.ge b.cl) (b.le r a.ge a.cl)
def all(ps:List Nat)(s:Nat):Nat:=ps.foldl (·|||·) s
theorem jqt:∀(ps:List Nat) (s:Nat),sub s (all ps s)
 | [],s=>sub.refl _
 | p::ps,s=>(jh5 s p).trans (jqt ps (s|||p))
theorem jrb:∀(ps:List Nat) (s p:Nat),p∈ps->sub p (all ps s)
 | q::ps,s,p,m=>by
  rcases List.mem_cons.mp m with rfl | m
  ·exact(jjs s p).trans (jqt ps (s|||p))
  ·exact jrb ps (s|||q) p m
theorem jp9(ps:List Nat)(s:Nat):jfw ps (all ps s):=λp m _=>jrb ps s p m
structure Step (ps:List Nat) (F:Nat->Nat):Prop where
 up:∀r,sub r (F r)
 lo:∀r t,jfw ps t->sub r t->sub (F r) t
 fx:∀r,F r=r->jfw ps r
structure Mid (ps:List Nat) (s r:Nat):Prop where
 ge:sub s r
 le:∀t,sub s t->jfw ps t->sub r t
theorem Mid.start(ps:List Nat)(s:Nat):Mid ps s s:=⟨sub.refl _,λ_ h _=>h⟩
theorem Mid.step{ps:List Nat}{s r:Nat}{F:Nat->Nat}(f:Step ps F)(m:Mid ps s r):Mid ps s (F r):=⟨m.ge.trans (f.up r),λt h c=>f.lo r t c (m.le t h c)⟩
theorem Mid.fin{ps:List Nat}{s r:Nat}{F:Nat->Nat}(f:Step ps F)(m:Mid ps s r)(e:F r=r):Is ps s r:=⟨m.ge,f.fx r e,m.le⟩
theorem Mid.bnd{ps:List Nat}{s r:Nat}(m:Mid ps s r):r<=all ps s:=(m.le _ (jqt ps s) (jp9 ps s)).le
theorem Step.lt{ps:List Nat}{F:Nat->Nat}(f:Step ps F){r:Nat}(h:F r≠r):r<F r:=Nat.lt_of_le_of_ne (f.up r).le (Ne.symm h)
theorem walk{ps:List Nat}{s:Nat}{F:Nat->Nat}(f:Step ps F){P:Nat->Prop}(h1:∀r,Mid ps s r->F r=r->P r)(h2:∀r,Mid ps s r->F r≠r->P (F r)->P r):∀(n r:Nat),Mid ps s r->all ps s - r<n->P r
 | 0,r,_,h=>absurd h (Nat.not_lt_zero _)
 | n+1,r,m,h=>by
  by_cases e:F r=r
  ·exact h1 r m e
  ·have:=f.lt e
   have:=(m.step f).bnd
   exact h2 r m e (walk f h1 h2 n (F r) (m.step f) (by omega))
def pass(ps:List Nat)(r:Nat):Nat:=ps.foldl (λr p=>if p&&&r≠0 then r|||p else r) r
theorem jjr:∀(ps:List Nat) (r:Nat),sub r (pass ps r)
 | [],r=>sub.refl _
 | p::ps,r=>by
  show sub r (pass ps (if p&&&r≠0 then r|||p else r))
  refine sub.trans ?_ (jjr ps _)
  split
  ·exact jh5 _ _
  ·exact sub.refl _
theorem jss:∀(ps:List Nat) (r t:Nat),jfw ps t->sub r t->sub (pass ps r) t
 | [],r,t,_,h=>h
 | p::ps,r,t,c,h=>by
  show sub (pass ps (if p&&&r≠0 then r|||p else r)) t
  refine jss ps _ t (λq m=>c q (List.mem_cons_of_mem _ m)) ?_
  split
  ·rename_i n
   exact jvm h (c p List.mem_cons_self (h.and_ne n))
  ·exact h
theorem jrp:∀(ps:List Nat) (r:Nat),pass ps r=r->jfw ps r
 | [],r,_=>λp m=>by cases m
 | p::ps,r,e=>by
  have e':pass ps (if p&&&r≠0 then r|||p else r)=r:=e
  have u:=jjr ps (if p&&&r≠0 then r|||p else r)
  rw[e'] at u
  have k:(if p&&&r≠0 then r|||p else r)=r:=by
   by_cases n:p&&&r≠0
   ·rw[if_pos n] at u ⊢;exact sub.antisymm u (jh5 _ _)
   ·rw[if_neg n]
  rw[k] at e'
  intro q m n
  rcases List.mem_cons.mp m with rfl | m
  ·rw[if_pos n] at u;exact(jjs _ _).trans u
  ·exact jrp ps r e' q m n
theorem je0(ps:List Nat):Step ps (pass ps):=⟨jjr ps,jss ps,jrp ps⟩
def nearG(s:Nat)(ps:List Nat)(f:Nat):Nat:=ps.foldl (λf p=>if s&&&p≠0 then f|||p else f) f
def near(ps:List Nat)(s:Nat):Nat:=nearG s ps s
theorem ex(ps:List Nat)(s:Nat):∃r,Is ps s r:=walk (P:=λr=>Mid ps s r->∃r,Is ps s r) (je0 ps) (λr _ e m=>⟨r,m.fin (je0 ps) e⟩) (λr m _ h _=>h (m.step (je0 ps))) _ s (Mid.start ps s) (Nat.lt_succ_self _) (Mid.start ps s)
def clo(ps:List Nat)(s:Nat):Nat:=(ex ps s).choose
theorem is(ps:List Nat)(s:Nat):Is ps s (clo ps s):=(ex ps s).choose_spec
theorem Is.eq{ps:List Nat}{s r:Nat}(h:Is ps s r):r=clo ps s:=h.uniq (is ps s)
theorem jtu{ps:List Nat}{s b:Nat}(h:clo ps s&&&b≠0):clo ps b&&&s≠0:=by
 intro e
 have hc:jfw ps (clo ps s^^^(clo ps s&&&clo ps b)):=λp m n=>by
  obtain⟨i,h1,h2⟩:=and_ne.mp n
  rw[Nat.testBit_xor,Nat.testBit_and] at h2
  have hi:(clo ps s).testBit i=true /\ (clo ps b).testBit i=false:=by
   cases x:(clo ps s).testBit i<;>cases y:(clo ps b).testBit i<;>rw[x,y] at h2<;>simp_all
  have h3:=(is ps s).cl p m (and_ne.mpr ⟨i,h1,hi.1⟩)
  intro j hj
  rw[Nat.testBit_xor,Nat.testBit_and,h3 j hj]
  cases y:(clo ps b).testBit j with
  | false=>rfl
  | true=>
   have:=(is ps b).cl p m (and_ne.mpr ⟨j,hj,y⟩) i h1
   rw[hi.2] at this;cases this
 have hs:sub s (clo ps s^^^(clo ps s&&&clo ps b)):=λi hi=>by
  rw[Nat.testBit_xor,Nat.testBit_and,(is ps s).ge i hi]
  cases y:(clo ps b).testBit i with
  | false=>rfl
  | true=>exact absurd e (and_ne.mpr ⟨i,y,hi⟩)
 have hl:=(is ps s).le _ hs hc
 obtain⟨i,h1,h2⟩:=and_ne.mp h
 have:=hl i h1
 rw[Nat.testBit_xor,Nat.testBit_and,h1,(is ps b).ge i h2] at this
 cases this
end Clo
namespace Z
open PySem
theorem band(a b:Nat):Builtin.bitAnd (a:Int) b=((a&&&b:Nat):Int):=by simp[Builtin.bitAnd]
theorem bor(a b:Nat):Builtin.bitOr (a:Int) b=((a|||b:Nat):Int):=by
 rw[PyProof.Rows.bitOr_and,band]
 have:=PyProof.Rows.nat_or_add_and a b
 omega
theorem jpz(a b:Nat):Builtin.bitAnd (a:Int) (Builtin.bitNot b)=((a - (a&&&b):Nat):Int):=by
 rw[PyProof.Rows.bitAnd_not,band]
 have:a&&&b<=a:=Nat.and_le_left
 omega
theorem jfn(a b:Nat):a - (a&&&b)=a^^^(a&&&b):=by
 have h:(a^^^(a&&&b))+(a&&&b)=a:=by
  have h1:=PyProof.Rows.nat_or_add_and (a^^^(a&&&b)) (a&&&b)
  have h2:(a^^^(a&&&b))&&&(a&&&b)=0:=Nat.eq_of_testBit_eq λi=>by
   simp only[Nat.testBit_and,Nat.testBit_xor,Nat.zero_testBit]
   cases a.testBit i<;>cases b.testBit i<;>rfl
  have h3:(a^^^(a&&&b))|||(a&&&b)=a:=Nat.eq_of_testBit_eq λi=>by
   simp only[Nat.testBit_or,Nat.testBit_and,Nat.testBit_xor]
   cases a.testBit i<;>cases b.testBit i<;>rfl
  omega
 omega
theorem jlr(a b i:Nat):(a - (a&&&b)).testBit i=(a.testBit i&& !b.testBit i):=by
 rw[jfn,Nat.testBit_xor,Nat.testBit_and]
 cases a.testBit i<;>cases b.testBit i<;>rfl
theorem bxor(a b:Nat):Builtin.bitXor (a:Int) b=((a^^^b:Nat):Int):=by
 unfold Builtin.bitXor
 rw[bor,band]
 have h:(a^^^b)=(a|||b) - (a&&&b):=by
  have e:a&&&b=(a|||b)&&&(a&&&b):=Nat.eq_of_testBit_eq λi=>by
   simp only[Nat.testBit_or,Nat.testBit_and]
   cases a.testBit i<;>cases b.testBit i<;>rfl
  rw[e,jfn]
  refine Nat.eq_of_testBit_eq λi=> ?_
  simp only[Nat.testBit_or,Nat.testBit_and,Nat.testBit_xor]
  cases a.testBit i<;>cases b.testBit i<;>rfl
 have:a&&&b<=a|||b:=Nat.le_trans Nat.and_le_left Nat.left_le_or
 omega
theorem bitk(a k:Nat):Builtin.bitAnd ((a:Int) / 2^((k:Int)).toNat) 1=if a.testBit k then 1 else 0:=by
 have e:((a:Int) / 2^((k:Int)).toNat)=((a / 2^k:Nat):Int):=by simp
 rw[e,show(1:Int)=((1:Nat):Int) from rfl,band,Nat.and_one_is_mod,Nat.testBit_eq_decide_div_mod_eq]
 by_cases q:a / 2^k % 2=1
 ·simp[q]
 ·have:a / 2^k % 2=0:=by omega
  simp[this]
theorem ne0(a:Nat):((a:Int)!=0)=decide (a≠0):=by
 cases a with
 | zero=>rfl
 | succ n=>simp;omega
theorem okp{b:Nat}(h:b<=100):ji3 1 (b:Int):=⟨by omega,by omega,by decide⟩
theorem jbe(a i:Nat):(2^a).testBit i=decide (a=i):=by rw[Nat.testBit_two_pow]
theorem jmm(x a:Nat):(x&&&2^a≠0)↔x.testBit a=true:=by
 rw[Clo.and_ne]
 constructor
 ·rintro⟨i,h1,h2⟩
  rw[jbe] at h2
  have:a=i:=by simpa using h2
  subst this;exact h1
 ·intro h
  exact⟨a,h,by rw[jbe];simp⟩
end Z
namespace My
open Z
def w_Xd:List (String×Bool):=[("Held",true),("Loaded",true),("Locked",true),("NoBar",true),("NoLock",true),("NoPermit",true),("NoSwitch",true),("NotDead",true),("NotEarthed",true),("NotLocked",true),("NotOpen",true),("Shorted",true)]
def x_ns:List (Bool×String):=[(true,"NoSwitch"),(true,"Locked"),(true,"Held"),(true,"Loaded"),(true,"Shorted"),(true,"NoLock"),(true,"NotOpen"),(true,"NotLocked"),(true,"NoBar"),(true,"NotEarthed"),(true,"NotDead"),(true,"NoPermit"),(true,"NoRow"),(true,"NoMeasure"),(true,"Same"),(false,"ValueError")]
def jcl:List ((String×Bool×String)×Bool):=xT x_ns [("Held",[false,false,true,false,false,false,false,false,false,false,false,false,false,false,false,true]),("Loaded",[false,false,false,true,false,false,false,false,false,false,false,false,false,false,false,true]),("Locked",[false,true,false,false,false,false,false,false,false,false,false,false,false,false,false,true]),("NoBar",[false,false,false,false,false,false,false,false,true,false,false,false,false,false,false,true]),("NoLock",[false,false,false,false,false,true,false,false,false,false,false,false,false,false,false,true]),("NoPermit",[false,false,false,false,false,false,false,false,false,false,false,true,false,false,false,true]),("NoSwitch",[true,false,false,false,false,false,false,false,false,false,false,false,false,false,false,true]),("NotDead",[false,false,false,false,false,false,false,false,false,false,true,false,false,false,false,true]),("NotEarthed",[false,false,false,false,false,false,false,false,false,true,false,false,false,false,false,true]),("NotLocked",[false,false,false,false,false,false,false,true,false,false,false,false,false,false,false,true]),("NotOpen",[false,false,false,false,false,false,true,false,false,false,false,false,false,false,false,true]),("Shorted",[false,false,false,false,true,false,false,false,false,false,false,false,false,false,false,true])]
def jgr:List String:=["Feed","Earth"]
def jgp:List String:=["Breaker","Splitter"]
def je6:List String:=["Breaker","Splitter"]
def jb3:List String:=["Net"]
def jde:List String:=["Board"]
def jgf:List String:=["Board"]
def jdx:List String:=["Board"]
def jbu:List String:=["Board"]
def je7:List String:=["Board"]
def jc1:List String:=["Board"]
def b_Ql:Z.MS:=(sSeq (sIf (tB (mBin dLt (mVar 1) (mFn fLen (ja3 (mVar 0) mNil))))
      (sRet (mBin dIx (mVar 0) (mVar 1)))
      jb2)
      (sRet (mC (.int 0))))
def z_Ql:Z.MF:=mFun 2 2 b_Ql
def b_Qw:Z.MS:=(sSeq (sAsg (mBin dMod (mBin dDiv (mVar 0) (mC (.int 4))) (mVar 2)) (jad 3))
      (sSeq (sIf (tB (mBin (dIn false) (mVar 1) (jbh (jc3 (ja3 (mC (.str "feed")) (ja3 (mC (.str "earth")) mNil))))))
      (sRet (mTup (ja3 (mVar 1) (ja3 (mVar 3) mNil))))
      jb2)
      (sRet (mTup (ja3 (mVar 1) (ja3 (mVar 3) (ja3 (mBin dMod (mBin dAdd (mBin dAdd (mVar 3) (mC (.int 1))) (mBin dMod (mBin dDiv (mVar 0) (mC (.int 40))) (mBin dSub (mVar 2) (mC (.int 1))))) (mVar 2)) mNil)))))))
def z_Qw:Z.MF:=mFun 3 4 b_Qw
def jb0:Z.MS:=(sSeq (sAsg (mBin dAdd (mFn fSum (ja3 (mSlS (mVar 0) (oSo (mBin dAdd (mC (.int 1)) (mVar 6))) oNo (oSo (mVar 3))) mNil)) (mBin dMul (mBin dMul (mC (.int 31)) (mVar 6)) (mVar 6))) (jad 7))
      (sSeq (sAsg (mBin dIx (mVar 4) (mVar 6)) (jad 8))
      (sSeq (sIf (tB (mBin dEq (mBin dMod (mBin dDiv (mVar 1) (mC (.int 2016))) (mC (.int 2))) (mC (.int 1))))
      (sAsg (mBin dIx (mVar 4) (mBin dMod (mVar 7) (mC (.int 4)))) (jad 8))
      jb2)
      (sSeq (sIf (tB (mBin dEq (mVar 2) (mC (.int 1))))
      (sAsg (mBin dIx (jbh (jc3 (ja3 (mC (.str "feed")) (ja3 (mC (.str "earth")) mNil)))) (mBin dMod (mVar 7) (mC (.int 2)))) (jad 8))
      jb2)
      (jdj (mVar 5) (jaw z_Qw (ja3 (mVar 7) (ja3 (mVar 8) (ja3 (mVar 2) mNil)))))))))
def b_Xb:Z.MS:=(sSeq (sAsg (jaw z_Ql (ja3 (mVar 0) (ja3 (mC (.int 0)) mNil))) (jad 1))
      (sSeq (sAsg (mBin dIx (jbh (jc3 (ja3 (mC (.int 3)) (ja3 (mC (.int 4)) (ja3 (mC (.int 5)) (ja3 (mC (.int 10)) (ja3 (mC (.int 2)) (ja3 (mC (.int 7)) (ja3 (mC (.int 1)) mNil))))))))) (mBin dMod (mVar 1) (mC (.int 7)))) (jad 2))
      (sSeq (sAsg (mBin dIx (jbh (jc3 (ja3 (mC (.int 8)) (ja3 (mC (.int 6)) (ja3 (mC (.int 5)) (ja3 (mC (.int 4)) (ja3 (mC (.int 7)) (ja3 (mC (.int 3)) (ja3 (mC (.int 2)) (ja3 (mC (.int 1)) (ja3 (mC (.int 0)) mNil))))))))))) (mBin dMod (mBin dDiv (mVar 1) (mC (.int 7))) (mC (.int 9)))) (jad 3))
      (sSeq (sIf (tB (mBin dEq (mBin dMod (mBin dDiv (mVar 1) (mC (.int 63))) (mC (.int 8))) (mC (.int 1))))
      (sAsg (mBin dAdd (mC (.int 9)) (mBin dMod (mBin dDiv (mVar 1) (mC (.int 504))) (mC (.int 4)))) (jad 3))
      jb2)
      (sSeq (sAsg (jbh (jc3 (ja3 (mC (.str "feed")) (ja3 (mC (.str "splitter")) (ja3 (mC (.str "earth")) (ja3 (mC (.str "breaker")) (ja3 (mC (.str "earth")) (ja3 (mC (.str "splitter")) (ja3 (mC (.str "feed")) (ja3 (mC (.str "earth")) (ja3 (mC (.str "breaker")) (ja3 (mC (.str "splitter")) mNil)))))))))))) (jad 4))
      (sSeq (sAsg (mBin dAdd (mVar 4) (jbh (jc3 (ja3 (mC (.str "earth")) (ja3 (mC (.str "feed")) mNil))))) (jad 4))
      (sSeq (sAsg (jga (jc3 mNil)) (jad 5))
      (sSeq (sFor (jfm (ja3 (mVar 3) mNil)) (jad 6)
      jb0)
      (jey 5 (sRet (mTup (ja3 (mVar 2) (ja3 (mVar 5) mNil)))))))))))))
def z_Xb:Z.MF:=mFun 1 9 b_Xb
def b_Xj:Z.MS:=(sRet (mBin dEq (mBin dAnd (mBin dShr (mVar 0) (mVar 1)) (mC (.int 1))) (mC (.int 1))))
def z_Xj:Z.MF:=mFun 2 2 b_Xj
def jdc:Z.MS:=(sSeq (sAsg (mBin dIx (mBin dIx (mVar 0) (mC (.int 1))) (mVar 5)) (jad 6))
      (sIf (tAnd (tB (mBin dEq (mBin dIx (mVar 6) (mC (.int 0))) (mC (.str "earth")))) (tAnd (tTru (jaw z_Xj (ja3 (mVar 1) (ja3 (mVar 5) mNil)))) (tTru (jaw z_Xj (ja3 (mVar 2) (ja3 (mBin dIx (mVar 6) (mC (.int 1))) mNil))))))
      (sSeq (sAsg (mBin dOr (mVar 3) (mBin dShl (mC (.int 1)) (mBin dIx (mVar 6) (mC (.int 1))))) (jad 3))
      (sAsg (mBin dAdd (mVar 4) (mBin dShl (mC (.int 1)) (mVar 5))) (jad 4)))
      jb2))
def b_Xo:Z.MS:=(sSeq (sAsg (mC (.int 0)) (jad 3))
      (sSeq (sAsg (mC (.int 0)) (jad 4))
      (sSeq (sFor (jfm (ja3 (mFn fLen (ja3 (mBin dIx (mVar 0) (mC (.int 1))) mNil)) mNil)) (jad 5)
      jdc)
      (sRet (jbh (jc3 (ja3 (mVar 3) (ja3 (mVar 4) mNil))))))))
def z_Xo:Z.MF:=mFun 3 7 b_Xo
def b_Qx:Z.MS:=(sSeq (sIf (tB (mBin dEq (mBin dMod (mVar 0) (mC (.int 16))) (mC (.int 15))))
      (sRet (mBin dIx (jbh (jc3 (ja3 (mBin dAdd (mBin dPow (mC (.int 10)) (mC (.int 29))) (mBin dMod (mBin dDiv (mVar 0) (mC (.int 16))) (mBin dPow (mC (.int 10)) (mC (.int 9))))) (ja3 (mBin dSub (mUn dNeg (mC (.int 1))) (mBin dMod (mBin dDiv (mVar 0) (mC (.int 32))) (mBin dPow (mC (.int 10)) (mC (.int 29))))) mNil)))) (mBin dMod (mBin dDiv (mVar 0) (mC (.int 16))) (mC (.int 2)))))
      jb2)
      (sRet (mBin dSub (mBin dMod (mBin dDiv (mVar 0) (mC (.int 16))) (mBin dAdd (mVar 1) (mC (.int 2)))) (mC (.int 1)))))
def z_Qx:Z.MF:=mFun 2 2 b_Qx
def b_Xc:Z.MS:=(sSeq (sAsg (mBin dDiv (mVar 2) (mC (.int 8))) (jad 3))
      (sSeq (sAsg (mBin dIx (jbh (jc3 (ja3 (mC (.str "turn")) (ja3 (mC (.str "turn")) (ja3 (mC (.str "lock")) (ja3 (mC (.str "lock")) (ja3 (mC (.str "unlock")) (ja3 (mC (.str "permit")) (ja3 (mC (.str "permit")) (ja3 (mC (.str "back")) mNil)))))))))) (mBin dMod (mVar 2) (mC (.int 8)))) (jad 4))
      (sSeq (sIf (tB (mBin dEq (mVar 4) (mC (.str "back"))))
      (sRet (mTup (ja3 (mVar 4) (ja3 (mBin dSub (mBin dMod (mVar 3) (mBin dAdd (mBin dIx (mVar 1) (mC (.int 3))) (mC (.int 3)))) (mC (.int 1))) mNil))))
      jb2)
      (sSeq (sIf (tB (mBin dNe (mVar 4) (mC (.str "permit"))))
      (sRet (mTup (ja3 (mVar 4) (ja3 (jaw z_Qx (ja3 (mVar 3) (ja3 (mFn fLen (ja3 (mBin dIx (mVar 0) (mC (.int 1))) mNil)) mNil))) mNil))))
      jb2)
      (sSeq (sAsg (mBin dIx (jaw z_Xo (ja3 (mVar 0) (ja3 (mBin dIx (mVar 1) (mC (.int 0))) (ja3 (mBin dSub (mBin dShl (mC (.int 1)) (mBin dIx (mVar 0) (mC (.int 0)))) (mC (.int 1))) mNil)))) (mC (.int 0))) (jad 5))
      (sSeq (sIf (tOr (tB (mBin dEq (mBin dMod (mVar 3) (mC (.int 4))) (mC (.int 0)))) (tB (mBin dEq (mVar 5) (mC (.int 0)))))
      (sRet (mTup (ja3 (mVar 4) (ja3 (mBin dSub (mBin dMod (mBin dDiv (mVar 3) (mC (.int 4))) (mBin dShl (mC (.int 1)) (mBin dAdd (mBin dIx (mVar 0) (mC (.int 0))) (mC (.int 1))))) (mC (.int 1))) mNil))))
      jb2)
      (sSeq (sAsg (mBin dAnd (mVar 5) (mBin dDiv (mVar 3) (mC (.int 4)))) (jad 6))
      (sRet (mTup (ja3 (mVar 4) (ja3 (mBin dIx (jbh (jc3 (ja3 (mVar 6) (ja3 (mVar 5) mNil)))) (mFn fInt (ja3 (mBin dEq (mVar 6) (mC (.int 0))) mNil))) mNil)))))))))))
def z_Xc:Z.MF:=mFun 3 7 b_Xc
def jb9:Z.MS:=(sSeq (sAsg (mBin dIx (mBin dIx (mVar 0) (mC (.int 1))) (mVar 5)) (jad 6))
      (sIf (tAnd (tB (mBin dEq (mFn fLen (ja3 (mVar 6) mNil)) (mC (.int 3)))) (tAnd (tTru (jaw z_Xj (ja3 (mVar 1) (ja3 (mVar 5) mNil)))) (tB (mBin dNe (mBin dIx (mVar 3) (mBin dIx (mVar 6) (mC (.int 1)))) (mBin dIx (mVar 3) (mBin dIx (mVar 6) (mC (.int 2))))))))
      (sSeq (sAsg (mC (.bl true)) (gSub (mVar 3) (mBin dIx (mVar 6) (mC (.int 1)))))
      (sSeq (sAsg (mC (.bl true)) (gSub (mVar 3) (mBin dIx (mVar 6) (mC (.int 2)))))
      (sAsg (mC (.bl true)) (jad 4))))
      jb2))
def ji0:Z.MS:=(sSeq (sAsg (mC (.bl false)) (jad 4))
      (sFor (jfm (ja3 (mFn fLen (ja3 (mBin dIx (mVar 0) (mC (.int 1))) mNil)) mNil)) (jad 5)
      jb9))
def b_Qy:Z.MS:=(sSeq (sAsg (jga (jot (ja3 (mVar 2) mNil))) (jad 3))
      (sSeq (sAsg (mC (.bl true)) (jad 4))
      (sSeq (jcm (tTru (mVar 4))
      ji0)
      (jey 3 (sRet (mVar 3))))))
def z_Qy:Z.MF:=mFun 3 7 b_Qy
def jbg:Z.MS:=(sIf (tAnd (tB (mBin dEq (mBin dIx (mBin dIx (mBin dIx (mVar 0) (mC (.int 1))) (mVar 4)) (mC (.int 0))) (mVar 2))) (tTru (jaw z_Xj (ja3 (mVar 1) (ja3 (mVar 4) mNil)))))
      (sAsg (mC (.bl true)) (gSub (mVar 3) (mBin dIx (mBin dIx (mBin dIx (mVar 0) (mC (.int 1))) (mVar 4)) (mC (.int 1)))))
      jb2)
def b_Xh:Z.MS:=(sSeq (sAsg (jga (lRep (jbh (jc3 (ja3 (mC (.bl false)) mNil))) (mBin dIx (mVar 0) (mC (.int 0))))) (jad 3))
      (sSeq (sFor (jfm (ja3 (mFn fLen (ja3 (mBin dIx (mVar 0) (mC (.int 1))) mNil)) mNil)) (jad 4)
      jbg)
      (jey 3 (sRet (jaw z_Qy (ja3 (mVar 0) (ja3 (mVar 1) (ja3 (mVar 3) mNil))))))))
def z_Xh:Z.MF:=mFun 3 5 b_Xh
def b_Qv:Z.MS:=(sSeq (sAsg (mBin dIx (mBin dIx (mVar 0) (mC (.int 1))) (mVar 2)) (jad 3))
      (sSeq (sIf (tB (mBin dNe (mBin dIx (mVar 3) (mC (.int 0))) (mC (.str "splitter"))))
      (sRet (mC (.bl false)))
      jb2)
      (sSeq (sIf (tTru (jaw z_Xj (ja3 (mVar 1) (ja3 (mVar 2) mNil))))
      (sAsg (mBin dSub (mVar 1) (mBin dShl (mC (.int 1)) (mVar 2))) (jad 1))
      jb2)
      (sSeq (sAsg (jaw z_Qy (ja3 (mVar 0) (ja3 (mVar 1) (ja3 (jbh (jft 1 [3] (jfm (ja3 (mBin dIx (mVar 0) (mC (.int 0))) mNil)) (jad 0) tYes (mBin dEq (mVar 0) (mBin dIx (mVar 1) (mC (.int 1)))))) mNil)))) (jad 4))
      (sSeq (sAsg (jaw z_Xh (ja3 (mVar 0) (ja3 (mVar 1) (ja3 (mC (.str "feed")) mNil)))) (jad 5))
      (sRet (mAnd (jrw (mBin dIx (mVar 4) (mBin dIx (mVar 3) (mC (.int 2))))) (mOr (mBin dIx (mVar 5) (mBin dIx (mVar 3) (mC (.int 1)))) (mBin dIx (mVar 5) (mBin dIx (mVar 3) (mC (.int 2))))))))))))
def z_Qv:Z.MF:=mFun 3 6 b_Qv
def b_Xk:Z.MS:=(sSeq (sAsg (jaw z_Xh (ja3 (mVar 0) (ja3 (mVar 1) (ja3 (mC (.str "feed")) mNil)))) (jad 2))
      (sSeq (sAsg (jaw z_Xh (ja3 (mVar 0) (ja3 (mVar 1) (ja3 (mC (.str "earth")) mNil)))) (jad 3))
      (sRet (mBin dEq (jbh (jft 1 [2,3] (jfm (ja3 (mBin dIx (mVar 0) (mC (.int 0))) mNil)) (jad 0) (tAnd (tTru (mBin dIx (mVar 1) (mVar 0))) (tTru (mBin dIx (mVar 2) (mVar 0)))) (mVar 0))) (jbh (jc3 mNil))))))
def z_Xk:Z.MF:=mFun 2 4 b_Xk
def b_Qg:Z.MS:=(sSeq (sIf (tTru (jaw z_Qv (ja3 (mVar 0) (ja3 (mVar 1) (ja3 (mVar 2) mNil)))))
      (sRet (mC (.int 3)))
      jb2)
      (sSeq (sIf (tNot (tTru (jaw z_Xk (ja3 (mVar 0) (ja3 (mBin dXor (mVar 1) (mBin dShl (mC (.int 1)) (mVar 2))) mNil)))))
      (sRet (mC (.int 4)))
      jb2)
      (sRet (mUn dNeg (mC (.int 1))))))
def z_Qg:Z.MF:=mFun 3 3 b_Qg
def jdn:Z.MS:=(sAsg (mBin dOr (mVar 1) (mBin dIx (mBin dIx (mBin dIx (mVar 0) (mC (.int 2))) (mVar 2)) (mC (.int 1)))) (jad 1))
def b_Xi:Z.MS:=(sSeq (sAsg (mC (.int 0)) (jad 1))
      (sSeq (sForK (mBin dIx (mVar 0) (mC (.int 2))) (jad 2)
      jdn)
      (sRet (mVar 1))))
def z_Xi:Z.MF:=mFun 1 3 b_Xi
def b_Q5:Z.MS:=(sSeq (sIf (tOr (tB (mBin dLt (mVar 3) (mC (.int 0)))) (tB (mBin dGe (mVar 3) (mFn fLen (ja3 (mBin dIx (mVar 0) (mC (.int 1))) mNil)))))
      (sRet (mC (.int 0)))
      jb2)
      (sSeq (sIf (tB (mBin dEq (mVar 2) (mC (.str "turn"))))
      (sSeq (sIf (tTru (jaw z_Xj (ja3 (mBin dIx (mVar 1) (mC (.int 1))) (ja3 (mVar 3) mNil))))
      (sRet (mC (.int 1)))
      jb2)
      (sSeq (sIf (tTru (jaw z_Xj (ja3 (jaw z_Xi (ja3 (mVar 1) mNil)) (ja3 (mVar 3) mNil))))
      (sRet (mC (.int 2)))
      jb2)
      (sRet (jaw z_Qg (ja3 (mVar 0) (ja3 (mBin dIx (mVar 1) (mC (.int 0))) (ja3 (mVar 3) mNil)))))))
      jb2)
      (sSeq (sIf (tAnd (tB (mBin dEq (mVar 2) (mC (.str "lock")))) (tB (mBin (dIn true) (mBin dIx (mBin dIx (mBin dIx (mVar 0) (mC (.int 1))) (mVar 3)) (mC (.int 0))) (jbh (jc3 (ja3 (mC (.str "feed")) (ja3 (mC (.str "splitter")) mNil)))))))
      (sRet (mC (.int 5)))
      jb2)
      (sSeq (sIf (tAnd (tB (mBin dEq (mVar 2) (mC (.str "lock")))) (tTru (jaw z_Xj (ja3 (mBin dIx (mVar 1) (mC (.int 0))) (ja3 (mVar 3) mNil)))))
      (sRet (mC (.int 6)))
      jb2)
      (sSeq (sIf (tB (mBin dEq (mVar 2) (mC (.str "lock"))))
      (sRet (mBin dIx (jbh (jc3 (ja3 (mUn dNeg (mC (.int 1))) (ja3 (mC (.int 1)) mNil)))) (mFn fInt (ja3 (jaw z_Xj (ja3 (mBin dIx (mVar 1) (mC (.int 1))) (ja3 (mVar 3) mNil))) mNil))))
      jb2)
      (sSeq (sIf (tNot (tTru (jaw z_Xj (ja3 (mBin dIx (mVar 1) (mC (.int 1))) (ja3 (mVar 3) mNil)))))
      (sRet (mC (.int 7)))
      jb2)
      (sRet (mBin dIx (jbh (jc3 (ja3 (mUn dNeg (mC (.int 1))) (ja3 (mC (.int 2)) mNil)))) (mFn fInt (ja3 (jaw z_Xj (ja3 (jaw z_Xi (ja3 (mVar 1) mNil)) (ja3 (mVar 3) mNil))) mNil))))))))))
def z_Q5:Z.MF:=mFun 4 4 b_Q5
def jc0:Z.MS:=(sIf (tNot (tTru (jaw z_Xj (ja3 (mVar 2) (ja3 (mVar 4) mNil)))))
      (sAsg (mBin dAdd (mVar 3) (mBin dShl (mC (.int 1)) (mVar 4))) (jad 3))
      jb2)
def b_X4:Z.MS:=(sSeq (sAsg (mC (.int 0)) (jad 3))
      (sSeq (sFor (jfm (ja3 (mFn fLen (ja3 (mBin dIx (mVar 0) (mC (.int 1))) mNil)) mNil)) (jad 4)
      jc0)
      (sSeq (sAsg (jaw z_Xh (ja3 (mVar 0) (ja3 (mVar 3) (ja3 (mC (.str "feed")) mNil)))) (jad 5))
      (sRet (mBin dEq (jbh (jft 1 [5,1] (jfm (ja3 (mBin dIx (mVar 0) (mC (.int 0))) mNil)) (jad 0) (tAnd (tTru (mBin dIx (mVar 1) (mVar 0))) (tTru (jaw z_Xj (ja3 (mVar 2) (ja3 (mVar 0) mNil))))) (mVar 0))) (jbh (jc3 mNil)))))))
def z_X4:Z.MF:=mFun 3 6 b_X4
def b_Xq:Z.MS:=(sSeq (sIf (tB (mBin dEq (mVar 2) (mC (.str "back"))))
      (sRet (mBin dIx (jbh (jc3 (ja3 (mC (.int 11)) (ja3 (mUn dNeg (mC (.int 1))) mNil)))) (mFn fInt (ja3 (mBin (dIn false) (mVar 3) (mBin dIx (mVar 1) (mC (.int 2)))) mNil))))
      jb2)
      (sSeq (sIf (tB (mBin dNe (mVar 2) (mC (.str "permit"))))
      (sRet (jaw z_Q5 (ja3 (mVar 0) (ja3 (mVar 1) (ja3 (mVar 2) (ja3 (mVar 3) mNil))))))
      jb2)
      (sSeq (sIf (tOr (tB (mBin dLt (mVar 3) (mC (.int 1)))) (tB (mBin dGe (mVar 3) (mBin dShl (mC (.int 1)) (mBin dIx (mVar 0) (mC (.int 0)))))))
      (sRet (mC (.int 8)))
      jb2)
      (sSeq (sIf (tB (mBin dNe (mBin dIx (jaw z_Xo (ja3 (mVar 0) (ja3 (mBin dIx (mVar 1) (mC (.int 0))) (ja3 (mVar 3) mNil)))) (mC (.int 0))) (mVar 3)))
      (sRet (mC (.int 9)))
      jb2)
      (sRet (mBin dIx (jbh (jc3 (ja3 (mC (.int 10)) (ja3 (mUn dNeg (mC (.int 1))) mNil)))) (mFn fInt (ja3 (jaw z_X4 (ja3 (mVar 0) (ja3 (mVar 3) (ja3 (mBin dIx (mVar 1) (mC (.int 1))) mNil)))) mNil))))))))
def z_Xq:Z.MF:=mFun 4 4 b_Xq
def b_X7:Z.MS:=(sSeq (sAsg (mC (.int 0)) (jad 1))
      (sSeq (sForV (mFld je7 "given" (mVar 0)) (jad 2)
      (sAsg (mBin dOr (mVar 1) (mBin dIx (mVar 2) (mC (.int 1)))) (jad 1)))
      (sRet (mVar 1))))
def z_X7:Z.MF:=mFun 1 3 b_X7
def jen:List (String×Z.MF):=[("Board",z_X7)]
def b_Q4:Z.MS:=(sSeq (sIf (tB (mBin (dIn true) (mVar 1) (mFld je7 "given" (mVar 0))))
      (jdr "NoPermit" (mC (.str "no permit of that number stands")))
      jb2)
      (sSeq (jm7 (jsz (mFld je7 "given" (mVar 0)) (mVar 1)))
      (sRet (jan jen "held" (mVar 0) mNil))))
def z_Q4:Z.MF:=mFun 2 2 b_Q4
def b_Qs:Z.MS:=(sIf (tNot (tB (jid dLe dLt (mC (.int 0)) (mVar 1) (mFn fLen (ja3 (mBin dIx (mVar 0) (mC (.int 1))) mNil)))))
      (jdr "NoSwitch" (mC (.str "there is no such switch")))
      jb2)
def z_Qs:Z.MF:=mFun 2 2 b_Qs
def jxk:Z.MS:=(sRet (mBin dEq (mBin dAnd (mBin dShr (mVar 0) (mVar 1)) (mC (.int 1))) (mC (.int 1))))
def jg2:Z.MF:=mFun 2 2 jxk
def b_Qp:Z.MS:=(sRet (mC (.int 0)))
def z_Qp:Z.MF:=mFun 1 1 b_Qp
def b_X2:Z.MS:=(sRet (mBin dShl (mC (.int 1)) (mFld jgr "bar" (mVar 0))))
def z_X2:Z.MF:=mFun 1 1 b_X2
def b_Qc:Z.MS:=(sRet (mC (.bl false)))
def z_Qc:Z.MF:=mFun 1 1 b_Qc
def b_Q3:Z.MS:=(sRet (mC (.bl true)))
def z_Q3:Z.MF:=mFun 1 1 b_Q3
def jd5:List (String×Z.MF):=[("Switch",z_Qp),("Feed",z_X2),("Earth",z_Qp),("Breaker",z_Qp),("Splitter",z_Qp)]
def jcu:List (String×Z.MF):=[("Switch",z_Qc),("Feed",z_Qc),("Earth",z_Qc),("Breaker",z_Qc),("Splitter",z_Q3)]
def b_Xp:Z.MS:=(sRet (mOr (mBin dNe (jan jd5 "feeds" (mVar 0) mNil) (mC (.int 0))) (jan jcu "gentle" (mVar 0) mNil)))
def z_Xp:Z.MF:=mFun 1 1 b_Xp
def b_X1:Z.MS:=(sSeq (jm7 (jaw z_Qs (ja3 (mFld jde "yard" (mVar 0)) (ja3 (mVar 1) mNil))))
      (sSeq (sIf (tNot (tTru (jaw z_Xp (ja3 (mBin dIx (mFld jb3 "switches" (mFld jgf "net" (mVar 0))) (mVar 1)) mNil))))
      (jdr "NoLock" (mC (.str "no lock can be put to a switch of this kind")))
      jb2)
      (sSeq (sIf (tTru (jaw jg2 (ja3 (mFld jdx "shut" (mVar 0)) (ja3 (mVar 1) mNil))))
      (jdr "NotOpen" (mC (.str "the switch is shut")))
      jb2)
      (sSeq (sIf (tTru (jaw jg2 (ja3 (mFld jbu "locks" (mVar 0)) (ja3 (mVar 1) mNil))))
      (jdr "Locked" (mC (.str "the switch is locked already")))
      jb2)
      (sSeq (jev jbu "locks" (mVar 0) (mBin dOr (mFld jbu "locks" (mVar 0)) (mBin dShl (mC (.int 1)) (mVar 1))))
      (sRet (mFld jbu "locks" (mVar 0))))))))
def z_X1:Z.MF:=mFun 2 2 b_X1
def b_Qj:Z.MS:=(sRet (mBin dSub (mBin dShl (mC (.int 1)) (mFn fLen (ja3 (mBin dIx (mVar 0) (mC (.int 1))) mNil))) (mC (.int 1))))
def z_Qj:Z.MF:=mFun 1 1 b_Qj
def b_Q1:Z.MS:=(sSeq (jev jgp "one" (mVar 0) (mVar 1))
      (jev je6 "other" (mVar 0) (mVar 2)))
def z_Q1:Z.MF:=mFun 3 3 b_Q1
def b_Q9:Z.MS:=(jev jgr "bar" (mVar 0) (mVar 1))
def z_Q9:Z.MF:=mFun 2 2 b_Q9
def b_Qd:Z.MS:=(jev jgr "bar" (mVar 0) (mVar 1))
def z_Qd:Z.MF:=mFun 2 2 b_Qd
def b_Q0:Z.MS:=(sSeq (jev jgp "one" (mVar 0) (mVar 1))
      (jev je6 "other" (mVar 0) (mVar 2)))
def z_Q0:Z.MF:=mFun 3 3 b_Q0
def b_Xe:Z.MS:=(sSeq (sAsg (mBin dIx (mVar 0) (mC (.int 0))) (jad 1))
      (sSeq (sIf (tB (mBin dEq (mVar 1) (mC (.str "feed"))))
      (sRet (jf3 "Feed" z_Qd (ja3 (mBin dIx (mVar 0) (mC (.int 1))) mNil)))
      jb2)
      (sSeq (sIf (tB (mBin dEq (mVar 1) (mC (.str "earth"))))
      (sRet (jf3 "Earth" z_Q9 (ja3 (mBin dIx (mVar 0) (mC (.int 1))) mNil)))
      jb2)
      (sSeq (sIf (tB (mBin dEq (mVar 1) (mC (.str "breaker"))))
      (sRet (jf3 "Breaker" z_Q1 (ja3 (mBin dIx (mVar 0) (mC (.int 1))) (ja3 (mBin dIx (mVar 0) (mC (.int 2))) mNil))))
      jb2)
      (sRet (jf3 "Splitter" z_Q0 (ja3 (mBin dIx (mVar 0) (mC (.int 1))) (ja3 (mBin dIx (mVar 0) (mC (.int 2))) mNil))))))))
def z_Xe:Z.MF:=mFun 1 2 b_Xe
def b_Qr:Z.MS:=(jev jb3 "switches" (mVar 0) (jbh (jft 1 [] (lIt (mBin dIx (mVar 1) (mC (.int 1)))) (jad 0) tYes (jaw z_Xe (ja3 (mVar 0) mNil)))))
def z_Qr:Z.MF:=mFun 2 2 b_Qr
def b_Qn:Z.MS:=(sRet (mC (.int 0)))
def z_Qn:Z.MF:=mFun 1 1 b_Qn
def b_Qf:Z.MS:=(sRet (mBin dOr (mBin dShl (mC (.int 1)) (mFld jgp "one" (mVar 0))) (mBin dShl (mC (.int 1)) (mFld je6 "other" (mVar 0)))))
def z_Qf:Z.MF:=mFun 1 1 b_Qf
def b_Q7:Z.MS:=(sRet (mBin dOr (mBin dShl (mC (.int 1)) (mFld jgp "one" (mVar 0))) (mBin dShl (mC (.int 1)) (mFld je6 "other" (mVar 0)))))
def z_Q7:Z.MF:=mFun 1 1 b_Q7
def b_Qh:Z.MS:=(sRet (jbh (jft 2 [1] (lEnum (ja3 (mFld jb3 "switches" (mVar 0)) mNil)) (gTup [0,1]) (tTru (jaw jg2 (ja3 (mVar 2) (ja3 (mVar 0) mNil)))) (mVar 1))))
def z_Qh:Z.MF:=mFun 2 2 b_Qh
def jcj:List (String×Z.MF):=[("Switch",z_Qn),("Feed",z_Qn),("Earth",z_Qn),("Breaker",z_Qf),("Splitter",z_Q7)]
def jbt:List (String×Z.MF):=[("Net",z_Qh)]
def b_Q6:Z.MS:=(sSeq (sAsg (jbh (jft 1 [] (lIt (jan jbt "shut_ones" (mVar 0) (ja3 (mVar 1) mNil))) (jad 0) tYes (jan jcj "joins" (mVar 0) mNil))) (jad 3))
      (sSeq (sAsg (mVar 2) (jad 4))
      (sSeq (sAsg (mC .non) (jad 5))
      (sSeq (jcm (tB (mBin dNe (mVar 4) (mVar 5)))
      (sSeq (sAsg (mVar 4) (jad 5))
      (sFor (lIt (mVar 3)) (jad 6)
      (sIf (tTru (mBin dAnd (mVar 6) (mVar 4)))
      (sAsg (mBin dOr (mVar 4) (mVar 6)) (jad 4))
      jb2))))
      (sRet (mVar 4))))))
def z_Q6:Z.MF:=mFun 3 7 b_Q6
def jby:List (String×Z.MF):=[("Net",z_Q6)]
def b_Qb:Z.MS:=(sSeq (sAsg (mC (.int 0)) (jad 2))
      (sSeq (sFor (lIt (jan jbt "shut_ones" (mVar 0) (ja3 (mVar 1) mNil))) (jad 3)
      (sAsg (mBin dOr (mVar 2) (jan jd5 "feeds" (mVar 3) mNil)) (jad 2)))
      (sRet (jan jby "joined_bars" (mVar 0) (ja3 (mVar 1) (ja3 (mVar 2) mNil))))))
def z_Qb:Z.MF:=mFun 2 4 b_Qb
def jcb:List (String×Z.MF):=[("Net",z_Qb)]
def b_X5:Z.MS:=(sRet (mBin dEq (mBin dAnd (jan jcb "live_bars" (jf3 "Net" z_Qr (ja3 (mVar 0) mNil)) (ja3 (mBin dAnd (jaw z_Qj (ja3 (mVar 0) mNil)) (mUn dInv (mVar 2))) mNil)) (mVar 1)) (mC (.int 0))))
def z_X5:Z.MF:=mFun 3 3 b_X5
def b_X6:Z.MS:=(sRet (jbh (jft 1 [0] (jfm (ja3 (mBits (mVar 0)) mNil)) (jad 0) (tTru (jaw jg2 (ja3 (mVar 1) (ja3 (mVar 0) mNil)))) (mVar 0))))
def z_X6:Z.MF:=mFun 1 1 b_X6
def b_Qi:Z.MS:=(sRet (mC (.int 0)))
def z_Qi:Z.MF:=mFun 1 1 b_Qi
def b_Qo:Z.MS:=(sRet (mBin dShl (mC (.int 1)) (mFld jgr "bar" (mVar 0))))
def z_Qo:Z.MF:=mFun 1 1 b_Qo
def jcs:List (String×Z.MF):=[("Switch",z_Qi),("Feed",z_Qi),("Earth",z_Qo),("Breaker",z_Qi),("Splitter",z_Qi)]
def b_X0:Z.MS:=(sSeq (sAsg (jbh (jft 1 [2,0] (lIt (jaw z_X6 (ja3 (mVar 1) mNil))) (jad 0) (tTru (mBin dAnd (jan jcs "earths" (mBin dIx (mFld jb3 "switches" (mVar 2)) (mVar 0)) mNil) (mVar 1))) (mVar 0))) (jad 3))
      (sRet (mFn fSum (ja3 (jbh (jft 1 [] (lIt (mVar 3)) (jad 0) tYes (mBin dShl (mC (.int 1)) (mVar 0)))) mNil))))
def z_X0:Z.MF:=mFun 3 4 b_X0
def b_Qt:Z.MS:=(sSeq (sAsg (mC (.int 0)) (jad 2))
      (sSeq (sFor (lIt (jan jbt "shut_ones" (mVar 0) (ja3 (mVar 1) mNil))) (jad 3)
      (sAsg (mBin dOr (mVar 2) (jan jcs "earths" (mVar 3) mNil)) (jad 2)))
      (sRet (mVar 2))))
def z_Qt:Z.MF:=mFun 2 4 b_Qt
def jd3:List (String×Z.MF):=[("Net",z_Qt)]
def b_Qm:Z.MS:=(sSeq (sIf (tNot (tB (jid dLt dLt (mC (.int 0)) (mVar 1) (mBin dShl (mC (.int 1)) (mBin dIx (mFld jde "yard" (mVar 0)) (mC (.int 0)))))))
      (jdr "NoBar" (mC (.str "no bars, or one that there is not")))
      jb2)
      (sSeq (sIf (tTru (mBin dAnd (mVar 1) (mUn dInv (jan jd3 "led_bars" (mFld jgf "net" (mVar 0)) (ja3 (mFld jdx "shut" (mVar 0)) mNil)))))
      (jdr "NotEarthed" (mC (.str "a bar has no shut earth of its own")))
      jb2)
      (sSeq (sIf (tNot (tTru (jaw z_X5 (ja3 (mFld jde "yard" (mVar 0)) (ja3 (mVar 1) (ja3 (mFld jbu "locks" (mVar 0)) mNil))))))
      (jdr "NotDead" (mC (.str "the locks don't keep the place dead")))
      jb2)
      (sSeq (jev jc1 "last_number" (mVar 0) (mBin dAdd (mFld jc1 "last_number" (mVar 0)) (mC (.int 1))))
      (sSeq (jy0 (mFld je7 "given" (mVar 0)) (mFld jc1 "last_number" (mVar 0)) (mTup (ja3 (mVar 1) (ja3 (mBin dOr (jaw z_X0 (ja3 (mFld jgf "net" (mVar 0)) (ja3 (mFld jdx "shut" (mVar 0)) (ja3 (mVar 1) mNil)))) (mFld jbu "locks" (mVar 0))) mNil))))
      (sRet (mFld jc1 "last_number" (mVar 0))))))))
def z_Qm:Z.MF:=mFun 2 2 b_Qm
def b_Xx:Z.MS:=(sRet (mBin dAnd (mVar 0) (mUn dNeg (mVar 0))))
def z_Xx:Z.MF:=mFun 1 1 b_Xx
def b_Y7:Z.MS:=(sSeq (sAsg (mBin dIx (mFld jb3 "switches" (mVar 0)) (mVar 2)) (jad 3))
      (sSeq (sIf (tNot (tTru (jan jcu "gentle" (mVar 3) mNil)))
      (sRet (mC (.bl false)))
      jb2)
      (sSeq (sAsg (mBin dAnd (mVar 1) (mUn dInv (mBin dShl (mC (.int 1)) (mVar 2)))) (jad 4))
      (sSeq (sAsg (jan jcj "joins" (mVar 3) mNil) (jad 5))
      (sSeq (sIf (tNot (tTru (mBin dAnd (mVar 5) (jan jcb "live_bars" (mVar 0) (ja3 (mVar 4) mNil)))))
      (sRet (mC (.bl false)))
      jb2)
      (sRet (mBin dNe (mBin dAnd (mVar 5) (mUn dInv (jan jby "joined_bars" (mVar 0) (ja3 (mVar 4) (ja3 (jaw z_Xx (ja3 (mVar 5) mNil)) mNil))))) (mC (.int 0)))))))))
def z_Y7:Z.MF:=mFun 3 6 b_Y7
def b_X3:Z.MS:=(sRet (mBin dXor (mVar 0) (mBin dShl (mC (.int 1)) (mVar 1))))
def z_X3:Z.MF:=mFun 2 2 b_X3
def b_Q2:Z.MS:=(sRet (jan jby "joined_bars" (mVar 0) (ja3 (mVar 1) (ja3 (jan jd3 "led_bars" (mVar 0) (ja3 (mVar 1) mNil)) mNil))))
def z_Q2:Z.MF:=mFun 2 2 b_Q2
def jcy:List (String×Z.MF):=[("Net",z_Q2)]
def b_Qu:Z.MS:=(sRet (mBin dEq (mBin dAnd (jan jcb "live_bars" (mVar 0) (ja3 (mVar 1) mNil)) (jan jcy "earthed_bars" (mVar 0) (ja3 (mVar 1) mNil))) (mC (.int 0))))
def z_Qu:Z.MF:=mFun 2 2 b_Qu
def jgc:List (String×Z.MF):=[("Net",z_Qu)]
def b_Y3:Z.MS:=(sRet (jrw (jan jgc "is_safe" (mVar 0) (ja3 (jaw z_X3 (ja3 (mVar 1) (ja3 (mVar 2) mNil))) mNil))))
def z_Y3:Z.MF:=mFun 3 3 b_Y3
def b_Y1:Z.MS:=(sSeq (jm7 (jaw z_Qs (ja3 (mVar 0) (ja3 (mVar 2) mNil))))
      (sSeq (sAsg (jf3 "Net" z_Qr (ja3 (mVar 0) mNil)) (jad 3))
      (sSeq (sIf (tTru (jaw z_Y7 (ja3 (mVar 3) (ja3 (mVar 1) (ja3 (mVar 2) mNil)))))
      (jdr "Loaded" (mC (.str "a splitter would part or join a load")))
      jb2)
      (sSeq (sIf (tTru (jaw z_Y3 (ja3 (mVar 3) (ja3 (mVar 1) (ja3 (mVar 2) mNil)))))
      (jdr "Shorted" (mC (.str "a bar would be live and earthed")))
      jb2)
      (sRet (jaw z_X3 (ja3 (mVar 1) (ja3 (mVar 2) mNil))))))))
def z_Y1:Z.MF:=mFun 3 4 b_Y1
def b_X8:Z.MS:=(sSeq (jm7 (jaw z_Qs (ja3 (mFld jde "yard" (mVar 0)) (ja3 (mVar 1) mNil))))
      (sSeq (sIf (tTru (jaw jg2 (ja3 (mFld jbu "locks" (mVar 0)) (ja3 (mVar 1) mNil))))
      (jdr "Locked" (mC (.str "the switch is locked")))
      jb2)
      (sSeq (sIf (tTru (jaw jg2 (ja3 (jan jen "held" (mVar 0) mNil) (ja3 (mVar 1) mNil))))
      (jdr "Held" (mC (.str "a permit holds the switch")))
      jb2)
      (sSeq (jev jdx "shut" (mVar 0) (jaw z_Y1 (ja3 (mFld jde "yard" (mVar 0)) (ja3 (mFld jdx "shut" (mVar 0)) (ja3 (mVar 1) mNil)))))
      (sRet (mFld jdx "shut" (mVar 0)))))))
def z_X8:Z.MF:=mFun 2 2 b_X8
def b_Qq:Z.MS:=(sSeq (jm7 (jaw z_Qs (ja3 (mFld jde "yard" (mVar 0)) (ja3 (mVar 1) mNil))))
      (sSeq (sIf (tNot (tTru (jaw jg2 (ja3 (mFld jbu "locks" (mVar 0)) (ja3 (mVar 1) mNil)))))
      (jdr "NotLocked" (mC (.str "the switch isn't locked")))
      jb2)
      (sSeq (sIf (tTru (jaw jg2 (ja3 (jan jen "held" (mVar 0) mNil) (ja3 (mVar 1) mNil))))
      (jdr "Held" (mC (.str "a permit holds the switch")))
      jb2)
      (sSeq (jev jbu "locks" (mVar 0) (mBin dAnd (mFld jbu "locks" (mVar 0)) (mUn dInv (mBin dShl (mC (.int 1)) (mVar 1)))))
      (sRet (mFld jbu "locks" (mVar 0)))))))
def z_Qq:Z.MF:=mFun 2 2 b_Qq
def jf7:List (String×Z.MF):=[("Board",z_Q4)]
def jmp:List (String×Z.MF):=[("Board",z_X1)]
def jh9:List (String×Z.MF):=[("Board",z_Qm)]
def jlu:List (String×Z.MF):=[("Board",z_X8)]
def jhd:List (String×Z.MF):=[("Board",z_Qq)]
def b_X9:Z.MS:=(sSeq (sAsg (jbh (jc3 mNil)) (jad 3))
      (sSeq (sAsg (mC .non) (jad 4))
      (sSeq (sTry (sIf (tNox (tB (mBin dEq (mVar 1) (mC (.str "turn"))))) (sAsg (jan jlu "turn" (mVar 0) (lNox (ja3 (mVar 2) mNil))) (jad 4)) (sIf (tNox (tB (mBin dEq (mVar 1) (mC (.str "lock"))))) (sAsg (jan jmp "lock" (mVar 0) (lNox (ja3 (mVar 2) mNil))) (jad 4)) (sIf (tNox (tB (mBin dEq (mVar 1) (mC (.str "unlock"))))) (sAsg (jan jhd "unlock" (mVar 0) (lNox (ja3 (mVar 2) mNil))) (jad 4)) (sIf (tNox (tB (mBin dEq (mVar 1) (mC (.str "permit"))))) (sAsg (jan jh9 "permit" (mVar 0) (lNox (ja3 (mVar 2) mNil))) (jad 4)) (sAsg (jan jf7 "give_back" (mVar 0) (lNox (ja3 (mVar 2) mNil))) (jad 4)))))) (cAs w_Xd 5
      (sSeq (sAsg (jbh (jc3 (ja3 (mFn (fIsx jcl) (ja3 (mVar 5) (ja3 (mC (.cls "NoSwitch")) mNil))) (ja3 (mFn (fIsx jcl) (ja3 (mVar 5) (ja3 (mC (.cls "Locked")) mNil))) (ja3 (mFn (fIsx jcl) (ja3 (mVar 5) (ja3 (mC (.cls "Held")) mNil))) (ja3 (mFn (fIsx jcl) (ja3 (mVar 5) (ja3 (mC (.cls "Loaded")) mNil))) mNil)))))) (jad 3))
      (sSeq (sAsg (mBin dAdd (mVar 3) (jbh (jc3 (ja3 (mFn (fIsx jcl) (ja3 (mVar 5) (ja3 (mC (.cls "Shorted")) mNil))) (ja3 (mFn (fIsx jcl) (ja3 (mVar 5) (ja3 (mC (.cls "NoLock")) mNil))) (ja3 (mFn (fIsx jcl) (ja3 (mVar 5) (ja3 (mC (.cls "NotOpen")) mNil))) mNil)))))) (jad 3))
      (sSeq (sAsg (mBin dAdd (mVar 3) (jbh (jc3 (ja3 (mFn (fIsx jcl) (ja3 (mVar 5) (ja3 (mC (.cls "NotLocked")) mNil))) (ja3 (mFn (fIsx jcl) (ja3 (mVar 5) (ja3 (mC (.cls "NoBar")) mNil))) (ja3 (mFn (fIsx jcl) (ja3 (mVar 5) (ja3 (mC (.cls "NotEarthed")) mNil))) mNil)))))) (jad 3))
      (sSeq (sAsg (mBin dAdd (mVar 3) (jbh (jc3 (ja3 (mFn (fIsx jcl) (ja3 (mVar 5) (ja3 (mC (.cls "NotDead")) mNil))) (ja3 (mFn (fIsx jcl) (ja3 (mVar 5) (ja3 (mC (.cls "NoPermit")) mNil))) (ja3 (mFn (fIsx jcl) (ja3 (mVar 5) (ja3 (mC (.cls "NoRow")) mNil))) mNil)))))) (jad 3))
      (sAsg (mBin dAdd (mVar 3) (jbh (jc3 (ja3 (mFn (fIsx jcl) (ja3 (mVar 5) (ja3 (mC (.cls "NoMeasure")) mNil))) (ja3 (mFn (fIsx jcl) (ja3 (mVar 5) (ja3 (mC (.cls "Same")) mNil))) (ja3 (jrw (mFn (fIsx jcl) (ja3 (mVar 5) (ja3 (mC (.ty "ValueError")) mNil)))) mNil)))))) (jad 3))))))
      cNil))
      (sRet (mTup (ja3 (mVar 4) (ja3 (mVar 3) mNil)))))))
def z_X9:Z.MF:=mFun 3 6 b_X9
def b_Xs:Z.MS:=(sRet (mAnd (mFn fIsi (ja3 (mVar 0) (ja3 (mC (.ty "int")) mNil))) (mAnd (jrw (mFn fIsi (ja3 (mVar 0) (ja3 (mC (.ty "bool")) mNil)))) (mBin dEq (mVar 0) (mVar 1)))))
def z_Xs:Z.MF:=mFun 2 2 b_Xs
def b_Qk:Z.MS:=(sRet (mFld jbu "locks" (mVar 0)))
def z_Qk:Z.MF:=mFun 1 1 b_Qk
def b_Qe:Z.MS:=(sRet (jga (jw6 2 [] (mFld je7 "given" (mVar 0)) (gTup [0,1]) tYes (mTup (ja3 (mVar 0) (ja3 (mBin dIx (mVar 1) (mC (.int 0))) mNil))))))
def z_Qe:Z.MF:=mFun 1 1 b_Qe
def b_Qa:Z.MS:=(sRet (mFld jdx "shut" (mVar 0)))
def z_Qa:Z.MF:=mFun 1 1 b_Qa
def jic:List (String×Z.MF):=[("Board",z_Qk)]
def jg7:List (String×Z.MF):=[("Board",z_Qe)]
def jfl:List (String×Z.MF):=[("Board",z_Qa)]
def jbl:Z.MS:=(sSeq (sAsg (mBin dMod (mBin dAdd (mVar 4) (mVar 2)) (mC (.int 4))) (jad 5))
      (sSeq (sIf (tAnd (tB (mBin dEq (mVar 5) (mC (.int 0)))) (tNot (tTru (jaw z_Xs (ja3 (jan jfl "standing" (mVar 0) mNil) (ja3 (mBin dIx (mVar 1) (mC (.int 0))) mNil))))))
      (sRet (mC (.bl false)))
      jb2)
      (sSeq (sIf (tAnd (tB (mBin dEq (mVar 5) (mC (.int 1)))) (tNot (tTru (jaw z_Xs (ja3 (jan jic "locked" (mVar 0) mNil) (ja3 (mBin dIx (mVar 1) (mC (.int 1))) mNil))))))
      (sRet (mC (.bl false)))
      jb2)
      (sSeq (sIf (tAnd (tB (mBin dEq (mVar 5) (mC (.int 2)))) (tNot (tTru (jaw z_Xs (ja3 (jan jen "held" (mVar 0) mNil) (ja3 (jaw z_Xi (ja3 (mVar 1) mNil)) mNil))))))
      (sRet (mC (.bl false)))
      jb2)
      (sIf (tB (mBin dEq (mVar 5) (mC (.int 3))))
      (sSeq (sAsg (jan jg7 "permits" (mVar 0) mNil) (jad 6))
      (sSeq (sIf (tOr (tNot (tTru (mFn fIsi (ja3 (mVar 6) (ja3 (mC (.ty "list")) mNil))))) (tB (mBin dNe (mVar 6) (jbh (jft 1 [1] (lIt (jbh (jiq (ja3 (mBin dIx (mVar 1) (mC (.int 2))) mNil)))) (jad 0) tYes (mTup (ja3 (mVar 0) (ja3 (mBin dIx (mBin dIx (mBin dIx (mVar 1) (mC (.int 2))) (mVar 0)) (mC (.int 0))) mNil))))))))
      (sRet (mC (.bl false)))
      jb2)
      (sSeq (sIf (tB (mBin dEq (mBin dMod (mBin dDiv (mVar 2) (mC (.int 4))) (mC (.int 2))) (mC (.int 1))))
      (jdj (mVar 6) (mVar 2))
      jb2)
      (jdj (mVar 3) (mTup (ja3 (mVar 6) (ja3 (jbh (jot (ja3 (mVar 6) mNil))) mNil)))))))
      jb2)))))
def b_Xa:Z.MS:=(sSeq (sFor (jfm (ja3 (mC (.int 4)) mNil)) (jad 4)
      jbl)
      (sRet (mC (.bl true))))
def z_Xa:Z.MF:=mFun 4 7 b_Xa
def b_Xn:Z.MS:=(sSeq (sIf (tB (mBin dEq (mVar 2) (mC (.str "turn"))))
      (sSeq (sAsg (mBin dXor (mBin dIx (mVar 1) (mC (.int 0))) (mBin dShl (mC (.int 1)) (mVar 3))) (gSub (mVar 1) (mC (.int 0))))
      (sRet (mBin dIx (mVar 1) (mC (.int 0)))))
      jb2)
      (sSeq (sIf (tB (mBin dEq (mVar 2) (mC (.str "permit"))))
      (sSeq (sAsg (mBin dAdd (mBin dIx (mVar 1) (mC (.int 3))) (mC (.int 1))) (gSub (mVar 1) (mC (.int 3))))
      (sSeq (jy0 (mBin dIx (mVar 1) (mC (.int 2))) (mBin dIx (mVar 1) (mC (.int 3))) (mTup (ja3 (mVar 3) (ja3 (mBin dOr (mBin dIx (jaw z_Xo (ja3 (mVar 0) (ja3 (mBin dIx (mVar 1) (mC (.int 0))) (ja3 (mVar 3) mNil)))) (mC (.int 1))) (mBin dIx (mVar 1) (mC (.int 1)))) mNil))))
      (sRet (mBin dIx (mVar 1) (mC (.int 3))))))
      jb2)
      (sSeq (sIf (tB (mBin dEq (mVar 2) (mC (.str "back"))))
      (sSeq (jm7 (jsz (mBin dIx (mVar 1) (mC (.int 2))) (mVar 3)))
      (sRet (jaw z_Xi (ja3 (mVar 1) mNil))))
      jb2)
      (sSeq (sAsg (mBin dXor (mBin dIx (mVar 1) (mC (.int 1))) (mBin dShl (mC (.int 1)) (mVar 3))) (gSub (mVar 1) (mC (.int 1))))
      (sRet (mBin dIx (mVar 1) (mC (.int 1))))))))
def z_Xn:Z.MF:=mFun 4 4 b_Xn
def b_Q8:Z.MS:=(sSeq (jev jde "yard" (mVar 0) (mTup (ja3 (mBin dIx (mVar 1) (mC (.int 0))) (ja3 (jbh (jot (ja3 (mBin dIx (mVar 1) (mC (.int 1))) mNil))) mNil))))
      (sSeq (jev jgf "net" (mVar 0) (jf3 "Net" z_Qr (ja3 (mFld jde "yard" (mVar 0)) mNil)))
      (sSeq (jev jdx "shut" (mVar 0) (mC (.int 0)))
      (sSeq (jev jbu "locks" (mVar 0) (mC (.int 0)))
      (sSeq (jev je7 "given" (mVar 0) ju0)
      (jev jc1 "last_number" (mVar 0) (mC (.int 0))))))))
def z_Q8:Z.MF:=mFun 2 2 b_Q8
def jfq:Z.MS:=(sSeq (sAsg (mFn fInt (ja3 (mBin dEq (mBin dMod (mBin dDiv (mVar 6) (mC (.int 3))) (mC (.int 4))) (mC (.int 0))) mNil)) (jad 7))
      (sSeq (sAsg (jaw z_Xc (ja3 (mVar 1) (ja3 (mBin dIx (mVar 4) (mVar 7)) (ja3 (mVar 6) mNil)))) (gTup [8,9]))
      (sSeq (sAsg (jaw z_Xq (ja3 (mVar 1) (ja3 (mBin dIx (mVar 4) (mVar 7)) (ja3 (mVar 8) (ja3 (mVar 9) mNil))))) (jad 10))
      (sSeq (sAsg (jaw z_X9 (ja3 (mBin dIx (mVar 3) (mVar 7)) (ja3 (mVar 8) (ja3 (mVar 9) mNil)))) (gTup [11,12]))
      (sSeq (sIf (tAnd (tB (mBin dGe (mVar 10) (mC (.int 0)))) (tB (mBin dNe (mVar 12) (jbh (jft 1 [10] (jfm (ja3 (mC (.int 16)) mNil)) (jad 0) tYes (mBin dEq (mVar 0) (mVar 1)))))))
      (sRet (mC (.bl false)))
      jb2)
      (sSeq (sIf (tB (mBin dLt (mVar 10) (mC (.int 0))))
      (sSeq (sAsg (jaw z_Xn (ja3 (mVar 1) (ja3 (mBin dIx (mVar 4) (mVar 7)) (ja3 (mVar 8) (ja3 (mVar 9) mNil))))) (jad 13))
      (sIf (tNot (tTru (jaw z_Xs (ja3 (mVar 11) (ja3 (mVar 13) mNil)))))
      (sRet (mC (.bl false)))
      jb2))
      jb2)
      (sIf (tNot (tTru (jaw z_Xa (ja3 (mBin dIx (mVar 3) (mVar 7)) (ja3 (mBin dIx (mVar 4) (mVar 7)) (ja3 (mBin dMod (mVar 6) (mC (.int 7))) (ja3 (mVar 5) mNil)))))))
      (sRet (mC (.bl false)))
      jb2)))))))
def jos:Z.MS:=(sSeq (sAsg (jaw z_Xb (ja3 (mVar 0) mNil)) (jad 1))
      (sSeq (sAsg (mTup (ja3 (mBin dIx (mVar 1) (mC (.int 0))) (ja3 (jga (jot (ja3 (mBin dIx (mVar 1) (mC (.int 1))) mNil))) mNil))) (jad 2))
      (sSeq (sAsg (jbh (jc3 (ja3 (jgh "Board" z_Q8 (ja3 (mVar 2) mNil)) (ja3 (jgh "Board" z_Q8 (ja3 (mVar 2) mNil)) mNil)))) (jad 3))
      (sSeq (sIf (tB (mBin dEq (mBin dMod (mBin dDiv (jaw z_Ql (ja3 (mVar 0) (ja3 (mC (.int 0)) mNil))) (mC (.int 4032))) (mC (.int 2))) (mC (.int 1))))
      (jwp (mBin dIx (mVar 2) (mC (.int 1))))
      jb2)
      (sSeq (sAsg (jbh (jc3 (ja3 (jga (jc3 (ja3 (mC (.int 0)) (ja3 (mC (.int 0)) (ja3 ju0 (ja3 (mC (.int 0)) mNil)))))) (ja3 (jga (jc3 (ja3 (mC (.int 0)) (ja3 (mC (.int 0)) (ja3 ju0 (ja3 (mC (.int 0)) mNil)))))) mNil)))) (jad 4))
      (sSeq (sAsg (jga (jc3 mNil)) (jad 5))
      (sSeq (sFor (lIt (mSl (mVar 0) (oSo (mC (.int 1))) (oSo (mC (.int 41))))) (jad 6)
      jfq)
      (sSeq (sIf (tNot (tTru (jaw z_Xa (ja3 (mBin dIx (mVar 3) (mC (.int 0))) (ja3 (mBin dIx (mVar 4) (mC (.int 0))) (ja3 (mC (.int 3)) (ja3 (mVar 5) mNil)))))))
      (sRet (mC (.bl false)))
      jb2)
      (sSeq (sIf (tNot (tTru (jaw z_Xa (ja3 (mBin dIx (mVar 3) (mC (.int 1))) (ja3 (mBin dIx (mVar 4) (mC (.int 1))) (ja3 (mC (.int 4)) (ja3 (mVar 5) mNil)))))))
      (sRet (mC (.bl false)))
      jb2)
      (sSeq (sAsg (mBin dEq (mBin dMod (mBin dDiv (jaw z_Ql (ja3 (mVar 0) (ja3 (mC (.int 0)) mNil))) (mC (.int 4032))) (mC (.int 2))) (mC (.int 1))) (jad 14))
      (sSeq (sIf (tAnd (tNot (tTru (mVar 14))) (tB (mBin dNe (mVar 2) (mVar 1))))
      (sRet (mC (.bl false)))
      jb2)
      (sRet (mBin dEq (jbh (jft 2 [] (lIt (mVar 5)) (gTup [0,1]) (tB (mBin dNe (mVar 0) (mVar 1))) (mVar 0))) (jbh (jc3 mNil)))))))))))))))
def z_law:Z.MF:=mFun 1 15 jos
end My
namespace My
open Z PySem
inductive Sw where
 | feed (b:Nat) | earth (b:Nat) | breaker (a b:Nat) | splitter (a b:Nat)
def Sw.d:Sw->D
 | .feed b=> .tup [.str "feed",.int b]
 | .earth b=> .tup [.str "earth",.int b]
 | .breaker a b=> .tup [.str "breaker",.int a,.int b]
 | .splitter a b=> .tup [.str "splitter",.int a,.int b]
def Sw.o:Sw->D
 | .feed b=> .obj "Feed" [("bar",.int b)]
 | .earth b=> .obj "Earth" [("bar",.int b)]
 | .breaker a b=> .obj "Breaker" [("one",.int a),("other",.int b)]
 | .splitter a b=> .obj "Splitter" [("one",.int a),("other",.int b)]
def Sw.pair:Sw->Nat
 | .breaker a b=>2^a|||2^b
 | .splitter a b=>2^a|||2^b
 | _=>0
def Sw.fed:Sw->Nat
 | .feed b=>2^b
 | _=>0
def Sw.led:Sw->Nat
 | .earth b=>2^b
 | _=>0
def Sw.ok(n:Nat):Sw->Prop
 | .feed b=>b<n
 | .earth b=>b<n
 | .breaker a b=>a<n /\ b<n /\ a≠b
 | .splitter a b=>a<n /\ b<n /\ a≠b
theorem k_fe:¬(Str.ofString "earth"=Str.ofString "feed"):=by decide+kernel
theorem k_bf:¬(Str.ofString "breaker"=Str.ofString "feed"):=by decide+kernel
theorem k_be:¬(Str.ofString "breaker"=Str.ofString "earth"):=by decide+kernel
theorem k_sf:¬(Str.ofString "splitter"=Str.ofString "feed"):=by decide+kernel
theorem k_se:¬(Str.ofString "splitter"=Str.ofString "earth"):=by decide+kernel
theorem k_sb:¬(Str.ofString "splitter"=Str.ofString "breaker"):=by decide+kernel
theorem k_oo:¬(Str.ofString "one"=Str.ofString "other"):=by decide+kernel
theorem k_oo':(Str.ofString "other"==Str.ofString "one")=false:=by decide+kernel
theorem sn_get{α:Type}(h:List α)(a:α):(h++[a])[h.length]?=some a:=by simp
theorem jsy(s:Sw)(h:MH)(hb:h.all (Cell.bnd h.length)=true):z_Xe [s.d] h= .ok s.o h:=by
 have hb':∀x∈h,Cell.bnd h.length x=true:=by simpa using hb
 cases s<;>simp[z_Xe,b_Xe,Sw.d,Sw.o,z_Qd,b_Qd,z_Q9,b_Q9,z_Q1,b_Q1,z_Q0,b_Q0,k_fe,k_bf,k_be,k_sf,k_se,k_sb,k_oo,jgr,jgp,je6,putF,D.bnd,D.bndf]<;>rw[if_neg (by omega),if_pos hb']
theorem jcv{α:Type}{g:MG}{t:MT}{m:ME}{ρ0:Ro}{h:MH}(e:α->D)(r:α->Ro)(tt:α->Bool)(f:α->D):∀(as:List α),(∀a∈as,g (e a) ρ0 h= .nx (r a) h /\ t (r a) h= .ok (tt a) h /\ m (r a) h= .ok (f a) h)->compLoop g t m ρ0 (as.map e) h= .ok ((as.filter tt).map f) h
 | [],_=>rfl
 | a::as,q=>by
  obtain⟨h1,h2,h3⟩:=q a (List.mem_cons_self ..)
  have ih:=jcv e r tt f as λb hb=>q b (List.mem_cons_of_mem _ hb)
  rw[List.map_cons]
  unfold compLoop
  rw[h1]
  cases y:tt a with
  | true=>simp only[h2,y,h3,ih,List.filter_cons,if_true,List.map_cons]
  | false=>simp only[h2,y,ih,List.filter_cons,if_false,Bool.false_eq_true]
def yd(n:Nat)(sws:List Sw):D:= .tup [.int n,.lst (sws.map Sw.d)]
def netO(sws:List Sw):D:= .obj "Net" [("switches",.lst (sws.map Sw.o))]
def Hb(h:MH):Prop:=∀n,h.length<=n->h.all (Cell.bnd n)=true
theorem Hb.nil:Hb []:=λ_ _=>rfl
theorem Hb.snoc{h:MH}{c:Option Cell}(a:Hb h)(b:∀n,h.length<n->Cell.bnd n c=true):Hb (h++[c]):=λn hn=>by
 simp only[List.length_append,List.length_cons,List.length_nil,List.all_append,List.all_cons,List.all_nil,Bool.and_true,Bool.and_eq_true] at hn ⊢
 exact⟨a n (by omega),b n (by omega)⟩
theorem jtm(n:Nat)(sws:List Sw)(h:MH)(hl:sws.length<=12)(hb:Hb h):z_Qr [.ref h.length,yd n sws] (h++[some (.ins "Net" [])])= .ok .non (h++[some (.ins "Net" [("switches",.lst (sws.map Sw.o))])]):=by
 have hb2:Hb (h++[some (.ins "Net" [])]):=hb.snoc λn _=>by simp[Cell.bnd,D.bnds]
 have comp:compLoop (jad 0) tYes (jaw z_Xe (ja3 (mVar 0) mNil)) [none] (sws.map Sw.d) (h++[some (.ins "Net" [])])= .ok (sws.map Sw.o) (h++[some (.ins "Net" [])]):=
  jbq (g:=jad 0) (t:=tYes) (m:=jaw z_Xe (ja3 (mVar 0) mNil)) (ρ0:=[none]) Sw.d (λs=>[some s.d]) Sw.o sws (λs _=>by
   refine⟨by simp,by simp,?_⟩
   have:=jsy s _ (hb2 _ (Nat.le_refl _))
   simp[this])
 simp[-List.map_map,z_Qr,b_Qr,yd,comp,jb3,putF,show sws.length<16777216 by omega]
theorem jj2{m:ME}{ρ:Ro}{h:MH}(n:Nat)(sws:List Sw)(hl:sws.length<=12)(hb:Hb h)(e:m ρ h= .ok (yd n sws) h):jf3 "Net" z_Qr (ja3 m mNil) ρ h= .ok (netO sws) (h++[none]):=by
 have:=jtm n sws h hl hb
 simp[e,this,netO]
def jdt(st:Nat)(sws:List Sw):List (Sw×Nat):=sws.zipIdx.filter λp=>st.testBit p.2
theorem jv6(sws:List Sw)(f:Sw->D):jhb (sws.map f)=sws.zipIdx.map λp=> .tup [.int (p.2:Int),f p.1]:=by
 unfold jhb
 rw[List.mapIdx_eq_zipIdx_map,List.zipIdx_map,List.map_map]
 rfl
theorem jgn(st k:Nat)(h:MH):jg2 [.int st,.int k] h= .ok (.bl (st.testBit k)) h:=by
 have:=bitk st k
 cases q:st.testBit k<;>simp[q] at this<;>simp[jg2,jxk,this]
theorem jjx(sws:List Sw)(st:Nat)(h:MH)(hl:sws.length<=12):z_Qh [netO sws,.int st] h= .ok (.lst ((jdt st sws).map λp=>p.1.o)) h:=by
 have comp:compLoop (gTup [0,1]) (tTru (jaw jg2 (ja3 (mVar 2) (ja3 (mVar 0) mNil)))) (mVar 1) [none,none,some (.int st)] (jhb (sws.map Sw.o)) h= .ok ((jdt st sws).map λp=>p.1.o) h:=by
  rw[jv6]
  refine jcv (λp:Sw×Nat=> .tup [.int (p.2:Int),p.1.o]) (λp=>[some (.int p.2),some p.1.o,some (.int st)]) (λp=>st.testBit p.2) (λp=>p.1.o) sws.zipIdx λp _=> ?_
  have:=jgn st p.2 h
  refine⟨by simp,?_,by simp⟩
  simp[this]
 have h2:(jhb (sws.map Sw.o)).length=sws.length:=by simp[jhb]
 simp[-List.map_map,z_Qh,b_Qh,netO,comp,jb3,h2,show sws.length<16777216 by omega]
theorem k_j1:(Str.ofString "joins"==Str.ofString "bar")=false:=by decide+kernel
theorem k_j2:(Str.ofString "joins"==Str.ofString "one")=false:=by decide+kernel
theorem k_j3:(Str.ofString "joins"==Str.ofString "other")=false:=by decide+kernel
theorem joins(s:Sw){n:Nat}(hn:n<=10)(ok:s.ok n)(h:MH):jan jcj "joins" (mVar 0) mNil [some s.o] h= .ok (.int s.pair) h:=by
 cases s with
 | feed b=>simp[Sw.o,jcj,k_j1,z_Qn,b_Qn,Sw.pair,List.lookup]
 | earth b=>simp[Sw.o,jcj,k_j1,z_Qn,b_Qn,Sw.pair,List.lookup]
 | breaker a b=>
  obtain⟨h1,h2,_⟩:=ok
  have:=bor (2^a) (2^b)
  simp[Sw.o,jcj,k_j2,k_j3,k_oo',z_Qf,b_Qf,Sw.pair,List.lookup,jgp,je6,okp (show a<=100 by omega),okp (show b<=100 by omega)] at this ⊢
  exact this
 | splitter a b=>
  obtain⟨h1,h2,_⟩:=ok
  have:=bor (2^a) (2^b)
  simp[Sw.o,jcj,k_j2,k_j3,k_oo',z_Q7,b_Q7,Sw.pair,List.lookup,jgp,je6,okp (show a<=100 by omega),okp (show b<=100 by omega)] at this ⊢
  exact this
def jca(st:Nat)(sws:List Sw):List Nat:=(jdt st sws).map λp=>p.1.pair
def cB:MT:=(tB (mBin dNe (mVar 4) (mVar 5)))
def fB:MS:=(sIf (tTru (mBin dAnd (mVar 6) (mVar 4))) (sAsg (mBin dOr (mVar 4) (mVar 6)) (jad 4)) jb2)
theorem jko(a b c d e:Option D)(h:MH):∀(ps:List Nat) (r:Nat) (x:Option D),∃x',jc7 (jad 6) fB (ps.map λp:Nat=>D.int p) [a,b,c,d,some (.int r),e,x] h= .nx [a,b,c,d,some (.int (Clo.pass ps r:Nat)),e,x'] h
 | [],r,x=>⟨x,rfl⟩
 | p::ps,r,x=>by
  obtain⟨x',ih⟩:=jko a b c d e h ps (if p&&&r≠0 then r|||p else r) (some (.int p))
  refine⟨x',?_⟩
  rw[List.map_cons]
  unfold jc7
  have e1:=band p r
  have e2:=bor r p
  have e3:=ne0 (p&&&r)
  by_cases q:p&&&r≠0
  ·rw[if_pos q] at ih
   have:Clo.pass (p::ps) r=Clo.pass ps (r|||p):=by show Clo.pass ps (if p&&&r≠0 then r|||p else r)=_;rw[if_pos q]
   rw[this]
   have fb:fB [a,b,c,d,some (.int r),e,some (.int p)] h= .nx [a,b,c,d,some (.int (r|||p:Nat)),e,some (.int p)] h:=by
    simp[fB,e1,e2,e3,q]
   simp[fb]
   exact ih
  ·rw[if_neg q] at ih
   have:Clo.pass (p::ps) r=Clo.pass ps r:=by show Clo.pass ps (if p&&&r≠0 then r|||p else r)=_;rw[if_neg q]
   rw[this]
   have q':p&&&r=0:=by simpa using q
   have fb:fB [a,b,c,d,some (.int r),e,some (.int p)] h= .nx [a,b,c,d,some (.int r),e,some (.int p)] h:=by
    simp[fB,e1,e3,q']
   simp[fb]
   exact ih
def wB:MS:=(sSeq (sAsg (mVar 4) (jad 5)) (sFor (lIt (mVar 3)) (jad 6) fB))
theorem wB_ok(a b c:Option D)(ps:List Nat)(h:MH)(r:Nat)(y x:Option D):∃x',wB [a,b,c,some (.lst (ps.map λp:Nat=>D.int p)),some (.int r),y,x] h= .nx [a,b,c,some (.lst (ps.map λp:Nat=>D.int p)),some (.int (Clo.pass ps r:Nat)),some (.int r),x'] h:=by
 obtain⟨x',e⟩:=jko a b c (some (.lst (ps.map λp:Nat=>D.int p))) (some (.int r)) h ps r x
 exact⟨x',by simp[wB,e]⟩
theorem ju2(a b c:Option D)(ps:List Nat)(s:Nat)(h:MH)(y:Option D)(hy:y=some .non)(x:Option D):∃x',jcm cB wB [a,b,c,some (.lst (ps.map λp:Nat=>D.int p)),some (.int s),y,x] h= .nx [a,b,c,some (.lst (ps.map λp:Nat=>D.int p)),some (.int (Clo.clo ps s:Nat)),some (.int (Clo.clo ps s:Nat)),x'] h:=by
 have W:∀x,∃x',jcm cB wB [a,b,c,some (.lst (ps.map λp:Nat=>D.int p)),some (.int (Clo.pass ps s:Nat)),some (.int s),x] h= .nx [a,b,c,some (.lst (ps.map λp:Nat=>D.int p)),some (.int (Clo.clo ps s:Nat)),some (.int (Clo.clo ps s:Nat)),x'] h:=by
  refine Clo.walk (P:=λr=>∀x,∃x',jcm cB wB [a,b,c,some (.lst (ps.map λp:Nat=>D.int p)),some (.int (Clo.pass ps r:Nat)),some (.int r),x] h= .nx [a,b,c,some (.lst (ps.map λp:Nat=>D.int p)),some (.int (Clo.clo ps s:Nat)),some (.int (Clo.clo ps s:Nat)),x'] h) (Clo.je0 ps) ?_ ?_ _ s (Clo.Mid.start ps s) (Nat.lt_succ_self _)
  ·intro r m e x
   have er:=(m.fin (Clo.je0 ps) e).eq
   refine⟨x,?_⟩
   rw[e,<-er]
   exact jnn (by simp[cB])
  ·intro r m ne ih x
   obtain⟨x1,e1⟩:=wB_ok a b c ps h (Clo.pass ps r) (some (.int r)) x
   obtain⟨x2,e2⟩:=ih x1
   exact⟨x2,by rw[jh1 (h1:=h) (by simp[cB];omega) e1,e2]⟩
 obtain⟨x1,e1⟩:=wB_ok a b c ps h s y x
 obtain⟨x2,e2⟩:=W x1
 exact⟨x2,by rw[jh1 (h1:=h) (by subst hy;simp[cB,D.dat,D.py,D.deep,D.eq]) e1,e2]⟩
def jbx(n:Nat)(sws:List Sw):Prop:=1<=n /\ n<=10 /\ sws.length<=12 /\ ∀s∈sws,s.ok n
theorem jjd{st:Nat}{sws:List Sw}{p:Sw×Nat}(h:p∈jdt st sws):p.1∈sws:=by
 unfold jdt at h
 have:=(List.mem_filter.mp h).1
 exact(List.mem_zipIdx this).2.2▸List.getElem_mem _
theorem k_jb:(Str.ofString "joined_bars"==Str.ofString "switches")=false:=by decide+kernel
theorem k_so:(Str.ofString "shut_ones"==Str.ofString "switches")=false:=by decide+kernel
theorem juz(st:Nat)(sws:List Sw):(jdt st sws).length<=sws.length:=by
 unfold jdt
 exact Nat.le_trans (List.length_filter_le _ _) (by simp)
theorem jlj(ok:jbx n sws)(st s:Nat)(h:MH):z_Q6 [netO sws,.int st,.int s] h= .ok (.int (Clo.clo (jca st sws) s:Nat)) h:=by
 obtain⟨h1,h2,h3,h4⟩:=ok
 have e1:=jjx sws st h h3
 have comp:compLoop (jad 0) tYes (jan jcj "joins" (mVar 0) mNil) [none] ((jdt st sws).map λp=>p.1.o) h= .ok ((jca st sws).map λp:Nat=>D.int p) h:=by
  unfold jca
  rw[List.map_map]
  exact jbq (g:=jad 0) (t:=tYes) (m:=jan jcj "joins" (mVar 0) mNil) (ρ0:=[none]) (λp:Sw×Nat=>p.1.o) (λp=>[some p.1.o]) (λp=> .int (p.1.pair:Nat)) (jdt st sws) λp hp=>⟨by simp,by simp,joins p.1 h2 (h4 _ (jjd hp)) h⟩
 obtain⟨x',ew⟩:=ju2 (some (netO sws)) (some (.int st)) (some (.int s)) (jca st sws) s h (some .non) rfl none
 have hl:=juz st sws
 have a1:jan jbt "shut_ones" (mVar 0) (ja3 (mVar 1) mNil) [some (netO sws),some (.int st),some (.int s),none,none,none,none] h= .ok (.lst ((jdt st sws).map λp=>p.1.o)) h:=by
  simp only[netO] at e1
  simp[-List.map_map,netO,jbt,List.lookup,k_so,e1]
 have eb:b_Q6=sSeq (sAsg (jbh (jft 1 [] (lIt (jan jbt "shut_ones" (mVar 0) (ja3 (mVar 1) mNil))) (jad 0) tYes (jan jcj "joins" (mVar 0) mNil))) (jad 3)) (sSeq (sAsg (mVar 2) (jad 4)) (sSeq (sAsg (mC .non) (jad 5)) (sSeq (jcm cB wB) (sRet (mVar 4))))):=rfl
 simp[-List.map_map, -jan,z_Q6,eb,a1,comp,ew,show(jdt st sws).length<16777216 by omega]
theorem k_f1:(Str.ofString "feeds"==Str.ofString "bar")=false:=by decide+kernel
theorem k_f2:(Str.ofString "feeds"==Str.ofString "one")=false:=by decide+kernel
theorem k_f3:(Str.ofString "feeds"==Str.ofString "other")=false:=by decide+kernel
theorem feeds(s:Sw){n:Nat}(hn:n<=10)(ok:s.ok n){m:ME}{ρ:Ro}{h:MH}(e:m ρ h= .ok s.o h):jan jd5 "feeds" m mNil ρ h= .ok (.int s.fed) h:=by
 cases s with
 | feed b=>
  have:b<n:=ok
  simp[e,Sw.o,jd5,k_f1,z_X2,b_X2,Sw.fed,List.lookup,jgr,okp (show b<=100 by omega)]
 | earth b=>simp[e,Sw.o,jd5,k_f1,z_Qp,b_Qp,Sw.fed,List.lookup]
 | breaker a b=>simp[e,Sw.o,jd5,k_f2,k_f3,z_Qp,b_Qp,Sw.fed,List.lookup]
 | splitter a b=>simp[e,Sw.o,jd5,k_f2,k_f3,z_Qp,b_Qp,Sw.fed,List.lookup]
def jnz(st:Nat)(sws:List Sw):Nat:=Clo.all ((jdt st sws).map λp=>p.1.fed) 0
def jbi(st:Nat)(sws:List Sw):Nat:=Clo.clo (jca st sws) (jnz st sws)
theorem jmr{J:ME}(val:Sw->Nat){n:Nat}(a b:Option D)(h:MH)(hJ:∀s:Sw,s.ok n->∀f:Nat,J [a,b,some (.int f),some s.o] h= .ok (.int (val s)) h):∀(ps:List (Sw×Nat)) (f:Nat) (x:Option D),(∀p∈ps,p.1.ok n)->
  ∃x',jc7 (jad 3) (sAsg (mBin dOr (mVar 2) J) (jad 2)) (ps.map λp=>p.1.o) [a,b,some (.int f),x] h= .nx [a,b,some (.int (Clo.all (ps.map λp=>val p.1) f:Nat)),x'] h
 | [],f,x,_=>⟨x,rfl⟩
 | p::ps,f,x,hp=>by
  obtain⟨x',ih⟩:=jmr val a b h hJ ps (f|||val p.1) (some p.1.o) λq m=>hp q (List.mem_cons_of_mem _ m)
  refine⟨x',?_⟩
  have e1:=hJ p.1 (hp p (List.mem_cons_self ..)) f
  have e2:=bor f (val p.1)
  rw[List.map_cons,List.map_cons]
  unfold jc7
  simp[-List.map_map,e1,e2]
  exact ih
theorem jqz(sws:List Sw)(st:Nat)(h:MH)(hl:sws.length<=12){m l:ME}{ρ:Ro}(e1:m ρ h= .ok (netO sws) h)(e2:l ρ h= .ok (.int st) h):jan jbt "shut_ones" m (ja3 l mNil) ρ h= .ok (.lst ((jdt st sws).map λp=>p.1.o)) h:=by
 have:=jjx sws st h hl
 unfold netO at e1 this
 simp[-List.map_map,e1,e2,jbt,List.lookup,k_so,this]
theorem jhp(ok:jbx n sws)(st s:Nat)(h:MH){m l k:ME}{ρ:Ro}(e1:m ρ h= .ok (netO sws) h)(e2:l ρ h= .ok (.int st) h)(e3:k ρ h= .ok (.int s) h):jan jby "joined_bars" m (ja3 l (ja3 k mNil)) ρ h= .ok (.int (Clo.clo (jca st sws) s:Nat)) h:=by
 have:=jlj ok st s h
 unfold netO at e1 this
 simp[-List.map_map,e1,e2,e3,jby,List.lookup,k_jb,this]
theorem jpi(ok:jbx n sws)(st:Nat)(h:MH):z_Qb [netO sws,.int st] h= .ok (.int (jbi st sws:Nat)) h:=by
 obtain⟨x',e⟩:=jmr (J:=jan jd5 "feeds" (mVar 3) mNil) Sw.fed (n:=n) (some (netO sws)) (some (.int st)) h (λs hs f=>feeds s ok.2.1 hs (by simp)) (jdt st sws) 0 none λp hp=>ok.2.2.2 _ (jjd hp)
 have e1:=jqz sws st h ok.2.2.1 (m:=mVar 0) (l:=mVar 1) (ρ:=[some (netO sws),some (.int st),some (.int 0),none]) (by simp) (by simp)
 have e2:=jhp ok st (jnz st sws) h (m:=mVar 0) (l:=mVar 1) (k:=mVar 2) (ρ:=[some (netO sws),some (.int st),some (.int (jnz st sws:Nat)),x']) (by simp) (by simp) (by simp)
 have f0:Clo.all ((jdt st sws).map λp=>p.1.fed) 0=jnz st sws:=rfl
 rw[f0] at e
 simp at e
 simp[-List.map_map, -jan,z_Qb,b_Qb,e1,e,e2,jbi]
theorem k_lb:(Str.ofString "live_bars"==Str.ofString "switches")=false:=by decide+kernel
theorem jmj(ok:jbx n sws)(st:Nat)(h:MH){m l:ME}{ρ:Ro}{h0:MH}(e1:m ρ h0= .ok (netO sws) h)(e2:l ρ h= .ok (.int st) h):jan jcb "live_bars" m (ja3 l mNil) ρ h0= .ok (.int (jbi st sws:Nat)) h:=by
 have:=jpi ok st h
 unfold netO at e1 this
 simp[-List.map_map,e1,e2,jcb,List.lookup,k_lb,this]
theorem k_e1:(Str.ofString "earths"==Str.ofString "bar")=false:=by decide+kernel
theorem k_e2:(Str.ofString "earths"==Str.ofString "one")=false:=by decide+kernel
theorem k_e3:(Str.ofString "earths"==Str.ofString "other")=false:=by decide+kernel
theorem jwq(s:Sw){n:Nat}(hn:n<=10)(ok:s.ok n){m:ME}{ρ:Ro}{h:MH}(e:m ρ h= .ok s.o h):jan jcs "earths" m mNil ρ h= .ok (.int s.led) h:=by
 cases s with
 | earth b=>
  have:b<n:=ok
  simp[e,Sw.o,jcs,k_e1,z_Qo,b_Qo,Sw.led,List.lookup,jgr,okp (show b<=100 by omega)]
 | feed b=>simp[e,Sw.o,jcs,k_e1,z_Qi,b_Qi,Sw.led,List.lookup]
 | breaker a b=>simp[e,Sw.o,jcs,k_e2,k_e3,z_Qi,b_Qi,Sw.led,List.lookup]
 | splitter a b=>simp[e,Sw.o,jcs,k_e2,k_e3,z_Qi,b_Qi,Sw.led,List.lookup]
def jce(st:Nat)(sws:List Sw):Nat:=Clo.all ((jdt st sws).map λp=>p.1.led) 0
def jcw(st:Nat)(sws:List Sw):Nat:=Clo.clo (jca st sws) (jce st sws)
theorem jti(ok:jbx n sws)(st:Nat)(h:MH):z_Qt [netO sws,.int st] h= .ok (.int (jce st sws:Nat)) h:=by
 obtain⟨x',e⟩:=jmr (J:=jan jcs "earths" (mVar 3) mNil) Sw.led (n:=n) (some (netO sws)) (some (.int st)) h (λs hs f=>jwq s ok.2.1 hs (by simp)) (jdt st sws) 0 none λp hp=>ok.2.2.2 _ (jjd hp)
 have e1:=jqz sws st h ok.2.2.1 (m:=mVar 0) (l:=mVar 1) (ρ:=[some (netO sws),some (.int st),some (.int 0),none]) (by simp) (by simp)
 have f0:Clo.all ((jdt st sws).map λp=>p.1.led) 0=jce st sws:=rfl
 rw[f0] at e
 simp at e
 simp[-List.map_map, -jan,z_Qt,b_Qt,e1,e]
theorem k_ld:(Str.ofString "led_bars"==Str.ofString "switches")=false:=by decide+kernel
theorem jwf(ok:jbx n sws)(st:Nat)(h:MH){m l:ME}{ρ:Ro}{h0:MH}(e1:m ρ h0= .ok (netO sws) h)(e2:l ρ h= .ok (.int st) h):jan jd3 "led_bars" m (ja3 l mNil) ρ h0= .ok (.int (jce st sws:Nat)) h:=by
 have:=jti ok st h
 unfold netO at e1 this
 simp[-List.map_map,e1,e2,jd3,List.lookup,k_ld,this]
theorem jks(ok:jbx n sws)(st:Nat)(h:MH):z_Q2 [netO sws,.int st] h= .ok (.int (jcw st sws:Nat)) h:=by
 have e1:=jwf ok st h (m:=mVar 0) (l:=mVar 1) (ρ:=[some (netO sws),some (.int st)]) (h0:=h) (by simp) (by simp)
 have e2:=jhp ok st (jce st sws) h (m:=mVar 0) (l:=mVar 1) (k:=jan jd3 "led_bars" (mVar 0) (ja3 (mVar 1) mNil)) (ρ:=[some (netO sws),some (.int st)]) (by simp) (by simp) e1
 simp[-List.map_map, -jan,z_Q2,b_Q2,e2,jcw]
theorem k_eb:(Str.ofString "earthed_bars"==Str.ofString "switches")=false:=by decide+kernel
theorem jp2(ok:jbx n sws)(st:Nat)(h:MH){m l:ME}{ρ:Ro}{h0:MH}(e1:m ρ h0= .ok (netO sws) h)(e2:l ρ h= .ok (.int st) h):jan jcy "earthed_bars" m (ja3 l mNil) ρ h0= .ok (.int (jcw st sws:Nat)) h:=by
 have:=jks ok st h
 unfold netO at e1 this
 simp[-List.map_map,e1,e2,jcy,List.lookup,k_eb,this]
def jgx(st:Nat)(sws:List Sw):Bool:=decide (jbi st sws&&&jcw st sws=0)
theorem jz5(ok:jbx n sws)(st:Nat)(h:MH):z_Qu [netO sws,.int st] h= .ok (.bl (jgx st sws)) h:=by
 have e1:=jmj ok st h (h0:=h) (m:=mVar 0) (l:=mVar 1) (ρ:=[some (netO sws),some (.int st)]) (by simp) (by simp)
 have e2:=jp2 ok st h (h0:=h) (m:=mVar 0) (l:=mVar 1) (ρ:=[some (netO sws),some (.int st)]) (by simp) (by simp)
 have e3:=band (jbi st sws) (jcw st sws)
 have e4:((jbi st sws&&&jcw st sws:Nat):Int)=0↔jbi st sws&&&jcw st sws=0:=by omega
 simp[-jan,z_Qu,b_Qu,e1,e2,e3,jgx]
theorem jem{α:Type}{xs:List α}{k:Nat}{x:α}(e:xs[k]?=some x):atI xs (k:Int)=some x:=by
 obtain⟨hk,e'⟩:=List.getElem?_eq_some_iff.mp e
 simp[atI,ixN,hk,e']
theorem jqr(sws:List Sw):rng 0 sws.length=sws.zipIdx.map λp=>D.int (p.2:Int):=by
 unfold rng
 rw[show(λp:Sw×Nat=>D.int (p.2:Int))=(λk:Nat=>D.int (k:Int))∘Prod.snd from rfl,<-List.map_map,List.zipIdx_map_snd]
 simp[List.range_eq_range']
theorem jj1{sws:List Sw}{p:Sw×Nat}(h:p∈sws.zipIdx):sws[p.2]?=some p.1:=by
 have:=List.mem_zipIdx h
 obtain⟨_,h2,h3⟩:=this
 rw[List.getElem?_eq_getElem (by omega),h3]
 simp
theorem js8{sws:List Sw}{p:Sw×Nat}(h:p∈sws.zipIdx):p.1∈sws:=List.mem_of_getElem? (jj1 h)
theorem dat_sw(s:Sw):s.d.py.isSome=true /\ s.d.deep<=1:=by
 have k1:jpn (Str.ofString "feed")=true:=by decide+kernel
 have k2:jpn (Str.ofString "earth")=true:=by decide+kernel
 have k3:jpn (Str.ofString "breaker")=true:=by decide+kernel
 have k4:jpn (Str.ofString "splitter")=true:=by decide+kernel
 cases s<;>simp[Sw.d,D.py,D.pys,D.deep,D.deeps,k1,k2,k3,k4]
theorem jxm(sws:List Sw):(D.lst (sws.map Sw.d)).py.isSome=true /\ (D.lst (sws.map Sw.d)).deep<=2:=jha λd hd=>by
 obtain⟨s,_,rfl⟩:=List.mem_map.mp hd
 exact dat_sw s
theorem dat_yd(n:Nat)(sws:List Sw):(yd n sws).dat=true:=by
 refine jkp (n:=3) (jr8 λd hd=> ?_) (by omega)
 simp at hd
 rcases hd with rfl | rfl
 ·exact jia _ _
 ·exact jxm sws
def Sw.gen:Sw->Bool
 | .splitter _ _=>true
 | _=>false
theorem k_g1:(Str.ofString "gentle"==Str.ofString "bar")=false:=by decide+kernel
theorem k_g2:(Str.ofString "gentle"==Str.ofString "one")=false:=by decide+kernel
theorem k_g3:(Str.ofString "gentle"==Str.ofString "other")=false:=by decide+kernel
theorem jvo(s:Sw){m:ME}{ρ:Ro}{h:MH}(e:m ρ h= .ok s.o h):jan jcu "gentle" m mNil ρ h= .ok (.bl s.gen) h:=by
 cases s with
 | splitter a b=>simp[e,Sw.o,jcu,k_g2,k_g3,z_Q3,b_Q3,Sw.gen,List.lookup]
 | feed b=>simp[e,Sw.o,jcu,k_g1,z_Qc,b_Qc,Sw.gen,List.lookup]
 | earth b=>simp[e,Sw.o,jcu,k_g1,z_Qc,b_Qc,Sw.gen,List.lookup]
 | breaker a b=>simp[e,Sw.o,jcu,k_g2,k_g3,z_Qc,b_Qc,Sw.gen,List.lookup]
theorem joinsG(s:Sw){n:Nat}(hn:n<=10)(ok:s.ok n){m:ME}{ρ:Ro}{h:MH}(e:m ρ h= .ok s.o h):jan jcj "joins" m mNil ρ h= .ok (.int s.pair) h:=by
 have:=joins s hn ok h
 unfold jan at this ⊢
 rw[e]
 simpa using this
def low(a b:Nat):Nat:=2^min a b
theorem jy5:∀a b:Fin 10,a≠b->Builtin.bitAnd ((2^a.val|||2^b.val:Nat):Int) (-((2^a.val|||2^b.val:Nat):Int))=((2^min a.val b.val:Nat):Int):=by decide+kernel
theorem js9{a b n:Nat}(hn:n<=10)(ha:a<n)(hb:b<n)(ab:a≠b)(h:MH):z_Xx [.int (2^a|||2^b:Nat)] h= .ok (.int (low a b:Nat)) h:=by
 have e:=jy5 ⟨a,by omega⟩ ⟨b,by omega⟩ (λz=>ab (by simpa using z))
 simp only at e
 have:z_Xx [.int (2^a|||2^b:Nat)] h= .ok (.int (Builtin.bitAnd ((2^a|||2^b:Nat):Int) (-((2^a|||2^b:Nat):Int)))) h:=by simp[z_Xx,b_Xx]
 rw[this,e];rfl
def apart(st k:Nat):Nat:=st - (st&&&2^k)
def jf1(st k:Nat)(w:Sw)(sws:List Sw):Bool:=match w with
 | .splitter a b=>decide ((2^a|||2^b)&&&jbi (apart st k) sws≠0)&&decide ((2^a|||2^b) - ((2^a|||2^b)&&&Clo.clo (jca (apart st k) sws) (low a b))≠0)
 | _=>false
theorem juf(ok:jbx n sws)(st k:Nat)(w:Sw)(hw:sws[k]?=some w)(h:MH):z_Y7 [netO sws,.int st,.int k] h= .ok (.bl (jf1 st k w sws)) h:=by
 have wok:w.ok n:=ok.2.2.2 w (List.mem_of_getElem? hw)
 have hk:k<sws.length:=(List.getElem?_eq_some_iff.mp hw).1
 have hl:=ok.2.2.1
 have hx:atI (sws.map Sw.o) (k:Int)=some w.o:=jem (by rw[List.getElem?_map,hw];rfl)
 have f1:mBin dIx (mFld jb3 "switches" (mVar 0)) (mVar 2) [some (netO sws),some (.int st),some (.int k),none,none,none] h= .ok w.o h:=by simp[-List.map_map,netO,jb3,hx]
 have g1:=jvo w (m:=mVar 3) (ρ:=[some (netO sws),some (.int st),some (.int k),some w.o,none,none]) (h:=h) (by simp)
 have eb:b_Y7=(sSeq (sAsg (mBin dIx (mFld jb3 "switches" (mVar 0)) (mVar 2)) (jad 3))
   (sSeq (sIf (tNot (tTru (jan jcu "gentle" (mVar 3) mNil)))
   (sRet (mC (.bl false)))
   jb2)
   (sSeq (sAsg (mBin dAnd (mVar 1) (mUn dInv (mBin dShl (mC (.int 1)) (mVar 2)))) (jad 4))
   (sSeq (sAsg (jan jcj "joins" (mVar 3) mNil) (jad 5))
   (sSeq (sIf (tNot (tTru (mBin dAnd (mVar 5) (jan jcb "live_bars" (mVar 0) (ja3 (mVar 4) mNil)))))
   (sRet (mC (.bl false)))
   jb2)
   (sRet (mBin dNe (mBin dAnd (mVar 5) (mUn dInv (jan jby "joined_bars" (mVar 0) (ja3 (mVar 4) (ja3 (jaw z_Xx (ja3 (mVar 5) mNil)) mNil))))) (mC (.int 0))))))))):=rfl
 by_cases q:w.gen=false
 ·have:jf1 st k w sws=false:=by cases w<;>first | rfl | (simp[Sw.gen] at q)
  rw[this]
  rw[q] at g1
  simp[-List.map_map, -jan, -mFld, -dIx,z_Y7,eb]
  simp[-List.map_map, -jan, -mFld, -dIx] at f1
  simp[-jan, -mFld, -dIx,f1,g1]
 ·cases w with
  | splitter a b=>
   obtain⟨h1,h2,h3⟩:=wok
   let pr:=2^a|||2^b
   have epr:(Sw.splitter a b).pair=pr:=rfl
   have j1:=joinsG (.splitter a b) ok.2.1 ⟨h1,h2,h3⟩ (m:=mVar 3) (ρ:=[some (netO sws),some (.int st),some (.int k),some (Sw.splitter a b).o,some (.int (apart st k:Nat)),none]) (h:=h) (by simp)
   rw[epr] at j1
   have l1:=jmj ok (apart st k) h (h0:=h) (m:=mVar 0) (l:=mVar 4) (ρ:=[some (netO sws),some (.int st),some (.int k),some (Sw.splitter a b).o,some (.int (apart st k:Nat)),some (.int (pr:Nat))]) (by simp) (by simp)
   have lo:=js9 ok.2.1 h1 h2 h3 h
   have c1:=jhp ok (apart st k) (low a b) h (m:=mVar 0) (l:=mVar 4) (k:=jaw z_Xx (ja3 (mVar 5) mNil)) (ρ:=[some (netO sws),some (.int st),some (.int k),some (Sw.splitter a b).o,some (.int (apart st k:Nat)),some (.int (pr:Nat))]) (by simp) (by simp) (by simpa using lo)
   have d1:=jpz st (2^k)
   have d2:=band pr (jbi (apart st k) sws)
   have d3:=jpz pr (Clo.clo (jca (apart st k) sws) (low a b))
   have d4:=ne0 (pr&&&jbi (apart st k) sws)
   have o1:=okp (show k<=100 by omega)
   have el:jf1 st k (.splitter a b) sws=(decide (pr&&&jbi (apart st k) sws≠0)&&decide (pr - (pr&&&Clo.clo (jca (apart st k) sws) (low a b))≠0)):=rfl
   rw[el]
   have ap:st - (st&&&2^k)=apart st k:=rfl
   rw[ap] at d1
   simp at d1
   clear_value pr
   have d5:((pr - (pr&&&Clo.clo (jca (apart st k) sws) (low a b)):Nat):Int)=0↔pr - (pr&&&Clo.clo (jca (apart st k) sws) (low a b))=0:=by omega
   generalize pr - (pr&&&Clo.clo (jca (apart st k) sws) (low a b))=u at d3 d5 ⊢
   simp[-List.map_map, -jan, -mFld, -dIx,z_Y7,eb]
   simp[-List.map_map, -jan, -mFld, -dIx] at f1
   rw[show(Sw.splitter a b).gen=true from rfl] at g1
   simp[-jan, -mFld, -dIx,f1,g1,o1,d1,j1,l1,d2,d4]
   by_cases q2:pr&&&jbi (apart st k) sws=0
   ·simp[-jan,q2]
   ·simp[-jan,q2,c1,d3]
  | _=>simp[Sw.gen] at q
theorem jng(st k:Nat)(hk:k<=100)(h:MH):z_X3 [.int st,.int k] h= .ok (.int (st^^^2^k:Nat)) h:=by
 have:=bxor st (2^k)
 simp at this
 simp[z_X3,b_X3,okp hk,this]
theorem k_is':(Str.ofString "is_safe"==Str.ofString "switches")=false:=by decide+kernel
theorem js0(ok:jbx n sws)(st k:Nat)(hk:k<=100)(h:MH):z_Y3 [netO sws,.int st,.int k] h= .ok (.bl (!jgx (st^^^2^k) sws)) h:=by
 have e1:=jng st k hk h
 have e2:=jz5 ok (st^^^2^k) h
 unfold netO at e2
 simp[-List.map_map,z_Y3,b_Y3,e1,netO,jgc,List.lookup,k_is',e2]
def jyt(st k:Nat)(w:Sw)(sws:List Sw)(h:MH):Res D:=
 if jf1 st k w sws=true then .exc "Loaded" h else if jgx (st^^^2^k) sws=true then .ok (.int (st^^^2^k:Nat)) h else .exc "Shorted" h
theorem jh3{n:Nat}{sws:List Sw}(k:Nat)(hk:k<sws.length)(h:MH):z_Qs [yd n sws,.int k] h= .ok .non h:=by
 simp[-List.map_map,z_Qs,b_Qs,yd,hk]
theorem jjp{n:Nat}{sws:List Sw}(k:Int)(hk:k<0 \/ (sws.length:Int)<=k)(h:MH):z_Qs [yd n sws,.int k] h= .exc "NoSwitch" h:=by
 by_cases h0:k<0
 ·have:¬0<=k:=by omega
  simp[-List.map_map,z_Qs,b_Qs,yd,this]
 ·have h1:0<=k:=by omega
  have:¬k<(sws.length:Int):=by omega
  simp[-List.map_map,z_Qs,b_Qs,yd,h1,this]
theorem jrq(ok:jbx n sws)(st k:Nat)(w:Sw)(hw:sws[k]?=some w)(h:MH)(hb:Hb h):z_Y1 [yd n sws,.int st,.int k] h=jyt st k w sws h:=by
 have hk:k<sws.length:=(List.getElem?_eq_some_iff.mp hw).1
 have hl:=ok.2.2.1
 have e0:=jh3 (n:=n) k hk h
 have e1:=jj2 (m:=mVar 0) (ρ:=[some (yd n sws),some (.int st),some (.int k),none]) (h:=h) n sws ok.2.2.1 hb (by simp)
 have e2:=juf ok st k w hw (h++[none])
 have e3:=js0 ok st k (by omega) (h++[none])
 have e4:=jng st k (by omega) (h++[none])
 have hb2:∀x∈h,Cell.bnd h.length x=true:=by simpa using hb h.length (Nat.le_refl _)
 unfold jyt
 unfold yd at e0 e1
 cases q1:jf1 st k w sws with
 | true=>
  rw[q1] at e2
  simp[-List.map_map, -jf3,z_Y1,b_Y1,yd,e0,e1,e2,hk]
  rw[if_neg (by omega),if_pos hb2]
 | false=>
  rw[q1] at e2
  cases q2:jgx (st^^^2^k) sws with
  | true=>
   rw[q2] at e3
   simp[-List.map_map, -jf3,z_Y1,b_Y1,yd,e0,e1,e2,e3,e4,hk,D.bnd]
   rw[if_neg (by omega),if_pos hb2]
  | false=>
   rw[q2] at e3
   simp[-List.map_map, -jf3,z_Y1,b_Y1,yd,e0,e1,e2,e3,e4,hk]
   rw[if_neg (by omega),if_pos hb2]
theorem joj(ps:List Nat){a b:Nat}(ab:a≠b):((2^a|||2^b) - ((2^a|||2^b)&&&Clo.clo ps (low a b))≠0)↔(Clo.clo ps (2^a)).testBit b=false:=by
 have hsub:∀(x u:Nat),(x - (x&&&u)≠0)↔¬Clo.sub x u:=λx u=>by
  constructor
  ·intro h z
   refine h ?_
   have:x&&&u=x:=Nat.eq_of_testBit_eq λi=>by
    rw[Nat.testBit_and]
    cases q:x.testBit i with
    | false=>rfl
    | true=>rw[z i q];rfl
   omega
  ·intro h z
   refine h λi hi=> ?_
   have t:=jlr x u i
   rw[z,hi] at t
   simp at t
   exact t
 rw[hsub]
 have two:∀u:Nat,Clo.sub (2^a|||2^b) u↔(u.testBit a=true /\ u.testBit b=true):=λu=>by
  constructor
  ·intro z
   exact⟨z a (by rw[Nat.testBit_or,jbe];simp),z b (by rw[Nat.testBit_or,jbe,jbe];simp)⟩
  ·rintro⟨h1,h2⟩ i hi
   rw[Nat.testBit_or,jbe,jbe] at hi
   simp at hi
   rcases hi with rfl | rfl
   ·exact h1
   ·exact h2
 rw[two]
 have self:∀c,(Clo.clo ps (2^c)).testBit c=true:=λc=>(Clo.is ps (2^c)).ge c (by rw[jbe];simp)
 have sym:∀c d,(Clo.clo ps (2^c)).testBit d=true->(Clo.clo ps (2^d)).testBit c=true:=λc d hd=>(jmm _ _).mp (Clo.jtu ((jmm _ _).mpr hd))
 unfold low
 by_cases q:a<=b
 ·rw[Nat.min_eq_left q]
  cases x:(Clo.clo ps (2^a)).testBit b with
  | false=>simp
  | true=>simp[self a]
 ·rw[Nat.min_eq_right (by omega)]
  cases x:(Clo.clo ps (2^a)).testBit b with
  | false=>
   cases y:(Clo.clo ps (2^b)).testBit a with
   | false=>simp
   | true=>rw[sym b a y] at x;cases x
  | true=>simp[self b,sym a b x]
theorem jfd{n:Nat}:∀{ds:List D},(∀d∈ds,D.bnd n d=true)->D.bnds n ds=true
 | [],_=>by simp[D.bnds]
 | d::ds,h=>by
  simp only[D.bnds,Bool.and_eq_true]
  exact⟨h d (List.mem_cons_self ..),jfd λx m=>h x (List.mem_cons_of_mem _ m)⟩
theorem jek{α:Type}{h:List α}{c:Nat}{x:α}(hc:h[c]?=some x):h.set c x=h:=List.ext_getElem? λi=>by
 by_cases q:c=i
 ·subst q;rw[List.getElem?_set_self (List.getElem?_eq_some_iff.mp hc).1,hc]
 ·rw[List.getElem?_set_ne q]
theorem jgz{np nn:Nat}{b:MS}{ds:List D}{h J:MH}{d:D}(hl:ds.length=np)(e:b (ds.map some++List.replicate (nn - ds.length) none) h= .rt d (h++J))(hb:Hb h)(hd:d.bnd h.length=true):mFun np nn b ds h= .ok d h:=by
 unfold mFun
 rw[if_pos hl,e]
 show fin h.length d (h++J)=_
 unfold fin
 by_cases q:(h++J).length<=h.length
 ·rw[if_pos q]
  have:J=[]:=by
   cases J with
   | nil=>rfl
   | cons _ _=>simp at q;omega
  rw[this,List.append_nil]
 ·rw[if_neg q,if_pos]
  ·rw[List.take_left']
   rfl
  ·rw[hd,Bool.true_and,List.take_left' rfl]
   exact hb _ (Nat.le_refl _)
theorem jmw{a b:Nat}(h:a.testBit b=false):a+2^b=a|||2^b:=by
 have e1:(a|||2^b)&&&2^b=2^b:=Nat.eq_of_testBit_eq λi=>by
  rw[Nat.testBit_and,Nat.testBit_or]
  cases (2^b).testBit i<;>simp
 have e2:=jfn (a|||2^b) (2^b)
 rw[e1] at e2
 have e3:(a|||2^b)^^^2^b=a:=Nat.eq_of_testBit_eq λi=>by
  rw[Nat.testBit_xor,Nat.testBit_or,jbe]
  by_cases q:b=i
  ·subst q;simp[h]
  ·simp[q]
 rw[e3] at e2
 have e4:2^b<=a|||2^b:=Nat.right_le_or
 omega
@[simp] theorem jyz:(Str.ofString "net"==Str.ofString "yard")=false:=by decide+kernel
@[simp] theorem jyb:¬(Str.ofString "yard"=Str.ofString "net"):=by decide+kernel
@[simp] theorem jwc:(Str.ofString "shut"==Str.ofString "yard")=false:=by decide+kernel
@[simp] theorem jwa:¬(Str.ofString "yard"=Str.ofString "shut"):=by decide+kernel
@[simp] theorem jyo:(Str.ofString "shut"==Str.ofString "net")=false:=by decide+kernel
@[simp] theorem jyd:¬(Str.ofString "net"=Str.ofString "shut"):=by decide+kernel
@[simp] theorem jtp:(Str.ofString "locks"==Str.ofString "yard")=false:=by decide+kernel
@[simp] theorem jte:¬(Str.ofString "yard"=Str.ofString "locks"):=by decide+kernel
@[simp] theorem jw4:(Str.ofString "locks"==Str.ofString "net")=false:=by decide+kernel
@[simp] theorem jwe:¬(Str.ofString "net"=Str.ofString "locks"):=by decide+kernel
@[simp] theorem jtb:(Str.ofString "locks"==Str.ofString "shut")=false:=by decide+kernel
@[simp] theorem jt5:¬(Str.ofString "shut"=Str.ofString "locks"):=by decide+kernel
@[simp] theorem jtq:(Str.ofString "given"==Str.ofString "yard")=false:=by decide+kernel
@[simp] theorem jv1:¬(Str.ofString "yard"=Str.ofString "given"):=by decide+kernel
@[simp] theorem jvl:(Str.ofString "given"==Str.ofString "net")=false:=by decide+kernel
@[simp] theorem jwt:¬(Str.ofString "net"=Str.ofString "given"):=by decide+kernel
@[simp] theorem jt8:(Str.ofString "given"==Str.ofString "shut")=false:=by decide+kernel
@[simp] theorem jua:¬(Str.ofString "shut"=Str.ofString "given"):=by decide+kernel
@[simp] theorem jt4:(Str.ofString "given"==Str.ofString "locks")=false:=by decide+kernel
@[simp] theorem jt3:¬(Str.ofString "locks"=Str.ofString "given"):=by decide+kernel
@[simp] theorem jmn:(Str.ofString "last_number"==Str.ofString "yard")=false:=by decide+kernel
@[simp] theorem jmc:¬(Str.ofString "yard"=Str.ofString "last_number"):=by decide+kernel
@[simp] theorem jo1:(Str.ofString "last_number"==Str.ofString "net")=false:=by decide+kernel
@[simp] theorem jn2:¬(Str.ofString "net"=Str.ofString "last_number"):=by decide+kernel
@[simp] theorem jm8:(Str.ofString "last_number"==Str.ofString "shut")=false:=by decide+kernel
@[simp] theorem jmu:¬(Str.ofString "shut"=Str.ofString "last_number"):=by decide+kernel
@[simp] theorem jlg:(Str.ofString "last_number"==Str.ofString "locks")=false:=by decide+kernel
@[simp] theorem jlf:¬(Str.ofString "locks"=Str.ofString "last_number"):=by decide+kernel
@[simp] theorem jle:(Str.ofString "last_number"==Str.ofString "given")=false:=by decide+kernel
@[simp] theorem jld:¬(Str.ofString "given"=Str.ofString "last_number"):=by decide+kernel
structure Bd where
 n:Nat
 sws:List Sw
 st:Nat
 lk:Nat
 gv:List (Nat×Nat×Nat)
 la:Nat
def gvD(gv:List (Nat×Nat×Nat)):List (Sum Int Str×D):=gv.map λg=>(.inl (g.1:Int),.tup [.int (g.2.1:Nat),.int (g.2.2:Nat)])
def Bd.f(b:Bd)(r:Nat):List (Str×D):=[(Str.ofString "yard",yd b.n b.sws),(Str.ofString "net",netO b.sws),(Str.ofString "shut",.int b.st),(Str.ofString "locks",.int b.lk),(Str.ofString "given",.ref r),(Str.ofString "last_number",.int b.la)]
def Bd.cell(b:Bd)(r:Nat):Option Cell:=some (.ins "Board" (b.f r))
theorem jyx(n:Nat)(sws:List Sw)(m:Nat):(yd n sws).bnd m=true:=by
 simp only[yd,D.bnd,D.bnds,Bool.true_and,Bool.and_true]
 exact jfd λd hd=>by
  obtain⟨s,_,rfl⟩:=List.mem_map.mp hd
  cases s<;>simp[Sw.d,D.bnd,D.bnds]
theorem jw3(sws:List Sw)(m:Nat):(netO sws).bnd m=true:=by
 have:D.bnds m (sws.map Sw.o)=true:=jfd λd hd=>by
  obtain⟨s,_,rfl⟩:=List.mem_map.mp hd
  cases s<;>simp[Sw.o,D.bnd,D.bnds,D.bndf]
 simp[netO,D.bnd,D.bnds,D.bndf,this]
@[simp] theorem in_yard:"Board"∈jde:=by decide
@[simp] theorem in_net:"Board"∈jgf:=by decide
@[simp] theorem in_shut:"Board"∈jdx:=by decide
@[simp] theorem in_locks:"Board"∈jbu:=by decide
@[simp] theorem in_given:"Board"∈je7:=by decide
@[simp] theorem in_last:"Board"∈jc1:=by decide
@[simp] theorem bf_yard(b:Bd)(r:Nat):(b.f r).lookup (Str.ofString "yard")=some (yd b.n b.sws):=by simp[Bd.f,List.lookup]
@[simp] theorem bf_net(b:Bd)(r:Nat):(b.f r).lookup (Str.ofString "net")=some (netO b.sws):=by simp[Bd.f,List.lookup]
@[simp] theorem bf_shut(b:Bd)(r:Nat):(b.f r).lookup (Str.ofString "shut")=some (.int b.st):=by simp[Bd.f,List.lookup]
@[simp] theorem bf_locks(b:Bd)(r:Nat):(b.f r).lookup (Str.ofString "locks")=some (.int b.lk):=by simp[Bd.f,List.lookup]
@[simp] theorem bf_given(b:Bd)(r:Nat):(b.f r).lookup (Str.ofString "given")=some (.ref r):=by simp[Bd.f,List.lookup]
@[simp] theorem bf_last(b:Bd)(r:Nat):(b.f r).lookup (Str.ofString "last_number")=some (.int b.la):=by simp[Bd.f,List.lookup]
@[simp] theorem bp_shut(b:Bd)(r s:Nat):putF (Str.ofString "shut") (.int s) (b.f r)=({b with st:=s}).f r:=by simp[Bd.f,putF]
@[simp] theorem bp_locks(b:Bd)(r s:Nat):putF (Str.ofString "locks") (.int s) (b.f r)=({b with lk:=s}).f r:=by simp[Bd.f,putF]
@[simp] theorem jy1(b:Bd)(r s:Nat):putF (Str.ofString "last_number") (.int s) (b.f r)=({b with la:=s}).f r:=by simp[Bd.f,putF]
@[simp] theorem bf_len(b:Bd)(r:Nat):(b.f r).length=6:=rfl
theorem bf_no(b:Bd)(r:Nat){m:Str}(h:([Str.ofString "yard",Str.ofString "net",Str.ofString "shut",Str.ofString "locks",Str.ofString "given",Str.ofString "last_number"]).contains m=false):(b.f r).lookup m=none:=by
 simp only[List.contains,List.elem_eq_mem,List.mem_cons,List.not_mem_nil,or_false,decide_eq_false_iff_not,not_or] at h
 obtain⟨h1,h2,h3,h4,h5,h6⟩:=h
 simp[Bd.f,List.lookup,beq_eq_false_iff_ne.mpr h1,beq_eq_false_iff_ne.mpr h2,beq_eq_false_iff_ne.mpr h3,beq_eq_false_iff_ne.mpr h4,beq_eq_false_iff_ne.mpr h5,beq_eq_false_iff_ne.mpr h6]
structure At (h:MH) (p r:Nat) (b:Bd):Prop where
 o:h[p]?=some (b.cell r)
 g:h[r]?=some (some (.dct (gvD b.gv)))
 hb:Hb h
 ok:jbx b.n b.sws
theorem jol(gv:List (Nat×Nat×Nat))(m:Nat):Cell.bnd m (some (.dct (gvD gv)))=true:=by
 simp only[Cell.bnd]
 exact jfd λd hd=>by
  simp only[gvD,List.map_map,List.mem_map] at hd
  obtain⟨g,_,rfl⟩:=hd
  simp[D.bnd,D.bnds]
theorem js3(b:Bd){r m:Nat}(h:r<m):Cell.bnd m (b.cell r)=true:=by
 have h1:=jyx b.n b.sws m
 have h2:=jw3 b.sws m
 simp[Bd.cell,Bd.f,Cell.bnd,D.bnd,D.bnds,h1,h2,h]
theorem Hb.set{h:MH}{p:Nat}{c:Option Cell}(a:Hb h)(q:∀n,h.length<=n->Cell.bnd n c=true):Hb (h.set p c):=λn hn=>by
 rw[List.length_set] at hn
 have:=a n hn
 rw[List.all_eq_true] at this ⊢
 intro x hx
 rcases List.mem_or_eq_of_mem_set hx with hx | rfl
 ·exact this x hx
 ·exact q n hn
theorem At.ne(A:At h p r b):p≠r:=λe=>by
 have h1:=A.o
 rw[e,A.g] at h1
 simp[Bd.cell] at h1
theorem At.lt(A:At h p r b):r<h.length:=(List.getElem?_eq_some_iff.mp A.g).1
theorem At.lt'(A:At h p r b):p<h.length:=(List.getElem?_eq_some_iff.mp A.o).1
theorem At.put{b b':Bd}(A:At h p r b)(hg:b'.gv=b.gv)(ok:jbx b'.n b'.sws):At (h.set p (b'.cell r)) p r b':=
 ⟨by rw[List.getElem?_set_self A.lt'],by rw[List.getElem?_set_ne A.ne,hg];exact A.g,A.hb.set λn hn=>js3 b' (Nat.lt_of_lt_of_le A.lt hn),ok⟩
def jed(gv:List (Nat×Nat×Nat)):Nat:=Clo.all (gv.map λg=>g.2.2) 0
theorem jkf(a:Option D)(h:MH):∀(gv:List (Nat×Nat×Nat)) (f:Nat) (x:Option D),∃x',jc7 (jad 2) (sAsg (mBin dOr (mVar 1) (mBin dIx (mVar 2) (mC (.int 1)))) (jad 1)) ((gvD gv).map (·.2)) [a,some (.int f),x] h= .nx [a,some (.int (Clo.all (gv.map λg=>g.2.2) f:Nat)),x'] h
 | [],f,x=>⟨x,rfl⟩
 | g::gv,f,x=>by
  obtain⟨x',ih⟩:=jkf a h gv (f|||g.2.2) (some (.tup [.int (g.2.1:Nat),.int (g.2.2:Nat)]))
  refine⟨x',?_⟩
  have e2:=bor f g.2.2
  simp only[gvD,List.map_cons]
  unfold jc7
  simp only[gvD] at ih
  simp[-List.map_map,e2]
  exact ih
theorem jj5(A:At h p r b):z_X7 [.ref p] h= .ok (.int (jed b.gv:Nat)) h:=by
 obtain⟨x',e⟩:=jkf (some (.ref p)) (h.set r none) b.gv 0 none
 have o:h[p]?=some (some (.ins "Board" (b.f r))):=A.o
 have g:=A.g
 have l:∀c:Option Cell,(h.set r c)[r]?=some c:=λc=>List.getElem?_set_self A.lt
 have hs:(h.set r none).set r (some (.dct (gvD b.gv)))=h:=by rw[List.set_set];exact jek g
 have f0:Clo.all (b.gv.map λg=>g.2.2) 0=jed b.gv:=rfl
 rw[f0] at e
 simp at e
 simp[-List.map_map,z_X7,b_X7,o,g,e,l,hs]
theorem jdg(A:At h p r b){tab:List (String×MF)}{f:Str}{z:MF}{m:ME}{l:ML}{ρ:Ro}{ds:List D}(et:tab.lookup "Board"=some z)(hf:([Str.ofString "yard",Str.ofString "net",Str.ofString "shut",Str.ofString "locks",Str.ofString "given",Str.ofString "last_number"]).contains f=false)(e:m ρ h= .ok (.ref p) h)(el:l ρ h= .ok ds h):jan tab f m l ρ h=z (.ref p::ds) h:=by
 have o:h[p]?=some (some (.ins "Board" (b.f r))):=A.o
 have ea:asO h (.ref p)=some ("Board",b.f r):=by simp[o]
 have ef:=bf_no b r hf
 simp only[jan,e,jdo,ea,jlt,et,chk,ef,if_true,el]
theorem jmy(A:At h p r b):z_Qa [.ref p] h= .ok (.int b.st) h:=by
 have o:h[p]?=some (some (.ins "Board" (b.f r))):=A.o
 simp[z_Qa,b_Qa,o]
theorem jxv(A:At h p r b)(v:Int)(hv:v<0 \/ (b.sws.length:Int)<=v):z_X8 [.ref p,.int v] h= .exc "NoSwitch" h:=by
 have e:=jjp (n:=b.n) v hv h
 have o:h[p]?=some (some (.ins "Board" (b.f r))):=A.o
 simp[z_X8,b_X8,o,e]
def jls(b:Bd)(k:Nat)(w:Sw):Option String:=
 if b.lk.testBit k=true then some "Locked" else if(jed b.gv).testBit k=true then some "Held" else if jf1 b.st k w b.sws=true then some "Loaded" else if jgx (b.st^^^2^k) b.sws=true then none else some "Shorted"
theorem jya(A:At h p r b)(k:Nat)(w:Sw)(hw:b.sws[k]?=some w):z_X8 [.ref p,.int k] h=match jls b k w with | some c=> .exc c h | none=> .ok (.int (b.st^^^2^k:Nat)) (h.set p (({b with st:=b.st^^^2^k}:Bd).cell r)):=by
 have hk:k<b.sws.length:=(List.getElem?_eq_some_iff.mp hw).1
 have e0:=jh3 (n:=b.n) k hk h
 have e1:=jrq A.ok b.st k w hw h A.hb
 have hs:=jgn b.lk k h
 have hh:=jgn (jed b.gv) k h
 have o:h[p]?=some (some (.ins "Board" (b.f r))):=A.o
 have l:∀c:Option Cell,(h.set p c)[p]?=some c:=λc=>List.getElem?_set_self A.lt'
 have f4:jan jen "held" (mVar 0) mNil [some (.ref p),some (.int k)] h= .ok (.int (jed b.gv:Nat)) h:=by
  rw[jdg A (z:=z_X7) (ds:=[]) rfl (by decide+kernel) (by simp) (by simp)]
  exact jj5 A
 unfold jls jyt at*
 by_cases q0:b.lk.testBit k=true
 ·rw[q0] at hs
  simp[z_X8,b_X8,o,e0,hs,q0]
 ·have q0:b.lk.testBit k=false:=by simpa using q0
  rw[q0] at hs
  by_cases q1:(jed b.gv).testBit k=true
  ·rw[q1] at hh
   simp[-jan,z_X8,b_X8,o,e0,hs,q0,f4,hh,q1]
  ·have q1:(jed b.gv).testBit k=false:=by simpa using q1
   rw[q1] at hh
   cases q2:jf1 b.st k w b.sws with
   | true=>
    rw[q2] at e1
    simp at e1
    simp[-jan,z_X8,b_X8,o,e0,hs,q0,f4,hh,q1,e1]
   | false=>
    rw[q2] at e1
    cases q3:jgx (b.st^^^2^k) b.sws with
    | false=>
     rw[q3] at e1
     simp at e1
     simp[-jan,z_X8,b_X8,o,e0,hs,q0,f4,hh,q1,e1]
    | true=>
     rw[q3] at e1
     simp at e1
     generalize b.st^^^2^k=s2 at*
     simp[-jan,z_X8,b_X8,o,e0,hs,q0,f4,hh,q1,e1,l,Bd.cell]
theorem jra(A:At h p r b):z_Qk [.ref p] h= .ok (.int b.lk) h:=by
 have o:h[p]?=some (some (.ins "Board" (b.f r))):=A.o
 simp[z_Qk,b_Qk,o]
def Bd.new(n:Nat)(sws:List Sw):Bd:=⟨n,sws,0,0,[],0⟩
theorem at_new(ok:jbx n sws){h:MH}(hb:Hb h):At (h++[(Bd.new n sws).cell (h.length+2),none,some (.dct [])]) h.length (h.length+2) (Bd.new n sws):=
 ⟨by simp,by simp[Bd.new,gvD],λk hk=>by
  simp only[List.length_append,List.length_cons,List.length_nil] at hk
  rw[List.all_append,hb k (by omega)]
  have:=js3 (Bd.new n sws) (show h.length+2<k by omega)
  simp only[List.all_cons,List.all_nil,Bool.and_true,this]
  simp[Cell.bnd,D.bnds],ok⟩
def Sw.lockable:Sw->Bool
 | .feed _=>true
 | .splitter _ _=>true
 | _=>false
theorem jub(s:Sw){n:Nat}(hn:n<=10)(ok:s.ok n)(h:MH):z_Xp [s.o] h= .ok (.bl s.lockable) h:=by
 have e1:=feeds s hn ok (m:=mVar 0) (ρ:=[some s.o]) (h:=h) (by simp)
 have e2:=jvo s (m:=mVar 0) (ρ:=[some s.o]) (h:=h) (by simp)
 have key:∀(i:Int) (g:Bool),jan jd5 "feeds" (mVar 0) mNil [some s.o] h= .ok (.int i) h->jan jcu "gentle" (mVar 0) mNil [some s.o] h= .ok (.bl g) h->z_Xp [s.o] h= .ok (.bl (!decide (i=0)||g)) h:=λi g e1 e2=>by
  by_cases q:i=0
  ·simp[-jan,z_Xp,b_Xp,e1,e2,q]
  ·simp[-jan,z_Xp,b_Xp,e1,e2,q]
 rw[key _ _ e1 e2]
 have pos:∀b:Nat,¬(((2^b:Nat):Int)=0):=λb=>by
  have:=Nat.pow_pos (n:=b) (show 0<2 by decide)
  omega
 cases s with
 | feed b=>simp only[Sw.fed,Sw.gen,Sw.lockable,pos b,decide_false,Bool.not_false,Bool.true_or]
 | earth b=>rfl
 | breaker a b=>rfl
 | splitter a b=>rfl
theorem jxu(A:At h p r b)(v:Int)(hv:v<0 \/ (b.sws.length:Int)<=v):z_X1 [.ref p,.int v] h= .exc "NoSwitch" h:=by
 have e:=jjp (n:=b.n) v hv h
 have o:h[p]?=some (some (.ins "Board" (b.f r))):=A.o
 simp[z_X1,b_X1,o,e]
def jj9(b:Bd)(k:Nat)(w:Sw):Option String:=
 if w.lockable=false then some "NoLock" else if b.st.testBit k=true then some "NotOpen" else if b.lk.testBit k=true then some "Locked" else none
theorem jy9(A:At h p r b)(k:Nat)(w:Sw)(hw:b.sws[k]?=some w):z_X1 [.ref p,.int k] h=match jj9 b k w with | some c=> .exc c h | none=> .ok (.int (b.lk|||2^k:Nat)) (h.set p (({b with lk:=b.lk|||2^k}:Bd).cell r)):=by
 have hk:k<b.sws.length:=(List.getElem?_eq_some_iff.mp hw).1
 have hl:=A.ok.2.2.1
 have e0:=jh3 (n:=b.n) k hk h
 have hs:=jgn b.lk k h
 have hh:=jgn b.st k h
 have o:h[p]?=some (some (.ins "Board" (b.f r))):=A.o
 have l:∀c:Option Cell,(h.set p c)[p]?=some c:=λc=>List.getElem?_set_self A.lt'
 have ec:=jub w A.ok.2.1 (A.ok.2.2.2 w (List.mem_of_getElem? hw)) h
 have hx:atI (b.sws.map Sw.o) (k:Int)=some w.o:=jem (by rw[List.getElem?_map,hw];rfl)
 have ix:(mBin dIx (mFld jb3 "switches" (mFld jgf "net" (mVar 0))) (mVar 1)) [some (.ref p),some (.int k)] h= .ok w.o h:=by
  simp[-List.map_map,o,netO,jb3,hx]
 have o1:=okp (show k<=100 by omega)
 have b1:=bor b.lk (2^k)
 simp at b1
 unfold jj9
 cases q0:w.lockable with
 | false=>
  rw[q0] at ec
  simp[-dIx, -mBin,z_X1,b_X1,o,e0,ix,ec]
 | true=>
  rw[q0] at ec
  cases q1:b.st.testBit k with
  | true=>
   rw[q1] at hh
   simp[-dIx, -mBin,z_X1,b_X1,o,e0,ix,ec,hh]
  | false=>
   rw[q1] at hh
   cases q2:b.lk.testBit k with
   | true=>
    rw[q2] at hs
    simp[-dIx, -mBin,z_X1,b_X1,o,e0,ix,ec,hh,hs]
   | false=>
    rw[q2] at hs
    have lv:(mBin dOr (mFld jbu "locks" (mVar 0)) (mBin dShl (mC (.int 1)) (mVar 1))) [some (.ref p),some (.int k)] h= .ok (.int (b.lk|||2^k:Nat)) h:=by
     simp[o,o1,b1]
    simp[-dIx, -dOr, -dShl, -mBin,z_X1,b_X1,o,e0,ix,ec,hh,hs,lv,l,Bd.cell]
theorem jr6(A:At h p r b)(v:Int)(hv:v<0 \/ (b.sws.length:Int)<=v):z_Qq [.ref p,.int v] h= .exc "NoSwitch" h:=by
 have e:=jjp (n:=b.n) v hv h
 have o:h[p]?=some (some (.ins "Board" (b.f r))):=A.o
 simp[z_Qq,b_Qq,o,e]
def jdu(b:Bd)(k:Nat):Option String:=
 if b.lk.testBit k=false then some "NotLocked" else if(jed b.gv).testBit k=true then some "Held" else none
theorem jri(A:At h p r b)(k:Nat)(hk:k<b.sws.length):z_Qq [.ref p,.int k] h=match jdu b k with | some c=> .exc c h | none=> .ok (.int (apart b.lk k:Nat)) (h.set p (({b with lk:=apart b.lk k}:Bd).cell r)):=by
 have hl:=A.ok.2.2.1
 have e0:=jh3 (n:=b.n) k hk h
 have hs:=jgn b.lk k h
 have hh:=jgn (jed b.gv) k h
 have o:h[p]?=some (some (.ins "Board" (b.f r))):=A.o
 have l:∀c:Option Cell,(h.set p c)[p]?=some c:=λc=>List.getElem?_set_self A.lt'
 have f4:jan jen "held" (mVar 0) mNil [some (.ref p),some (.int k)] h= .ok (.int (jed b.gv:Nat)) h:=by
  rw[jdg A (z:=z_X7) (ds:=[]) rfl (by decide+kernel) (by simp) (by simp)]
  exact jj5 A
 have o1:=okp (show k<=100 by omega)
 have b1:=jpz b.lk (2^k)
 simp at b1
 unfold jdu
 cases q0:b.lk.testBit k with
 | false=>
  rw[q0] at hs
  simp[-jan,z_Qq,b_Qq,o,e0,hs]
 | true=>
  rw[q0] at hs
  cases q1:(jed b.gv).testBit k with
  | true=>
   rw[q1] at hh
   simp[-jan,z_Qq,b_Qq,o,e0,hs,f4,hh]
  | false=>
   rw[q1] at hh
   have lv:(mBin dAnd (mFld jbu "locks" (mVar 0)) (mUn dInv (mBin dShl (mC (.int 1)) (mVar 1)))) [some (.ref p),some (.int k)] h= .ok (.int (apart b.lk k:Nat)) h:=by
    simp[o,o1,b1,apart]
   simp[-mBin, -dAnd, -dInv, -dShl, -mUn, -jan,z_Qq,b_Qq,o,e0,hs,f4,hh,lv,l,Bd.cell]
def jep(x:Nat):List Nat:=(List.range (Builtin.Int.intBits (x:Int))).filter λk=>x.testBit k
theorem jn3{x k:Nat}:k∈jep x↔x.testBit k=true:=by
 unfold jep
 rw[List.mem_filter,List.mem_range]
 refine⟨λh=>h.2,λh=>⟨?_,h⟩⟩
 have h0:x≠0:=λz=>by subst z;simp at h
 have h1:2^k<=x:=Nat.ge_two_pow_of_testBit h
 have h2:=(Nat.le_log2 h0).mpr h1
 simp[Builtin.Int.intBits,h0]
 omega
theorem jnr{x m:Nat}(hx:x<2^m):Builtin.Int.intBits (x:Int)<=m:=by
 by_cases h0:x=0
 ·subst h0;simp[Builtin.Int.intBits]
 ·have h2:=(Nat.log2_lt h0).mpr hx
  simp[Builtin.Int.intBits,h0]
  omega
theorem jxc(m:Nat):rng 0 m=(List.range m).map λk:Nat=>D.int k:=by
 unfold rng
 simp
theorem jp8(x:Nat)(hx:x<2^12)(h:MH):z_X6 [.int x] h= .ok (.lst ((jep x).map λk:Nat=>D.int k)) h:=by
 have hl:=jnr hx
 have comp:compLoop (jad 0) (tTru (jaw jg2 (ja3 (mVar 1) (ja3 (mVar 0) mNil)))) (mVar 0) [none,some (.int x)] (rng 0 (Builtin.Int.intBits (x:Int))) h= .ok ((jep x).map λk:Nat=>D.int k) h:=by
  rw[jxc]
  exact jcv (g:=jad 0) (t:=tTru (jaw jg2 (ja3 (mVar 1) (ja3 (mVar 0) mNil)))) (m:=mVar 0) (ρ0:=[none,some (.int x)]) (h:=h) (λk:Nat=>D.int k) (λk=>[some (.int k),some (.int x)]) (λk=>x.testBit k) (λk:Nat=>D.int k) (List.range (Builtin.Int.intBits (x:Int))) λk _=>by
   have:=jgn x k h
   refine⟨by simp,?_,by simp⟩
   simp[this]
 simp[-List.map_map,z_X6,b_X6,comp,show Builtin.Int.intBits (x:Int)<4611686018427387904 by omega,show Builtin.Int.intBits (x:Int)<16777216 by omega]
theorem sw_at{sws:List Sw}{k:Nat}{w:Sw}(hw:sws[k]?=some w){m l:ME}{ρ:Ro}{h:MH}(em:m ρ h= .ok (netO sws) h)(el:l ρ h= .ok (.int k) h):(mBin dIx (mFld jb3 "switches" m) l) ρ h= .ok w.o h:=by
 have hx:atI (sws.map Sw.o) (k:Int)=some w.o:=jem (by rw[List.getElem?_map,hw];rfl)
 simp[-List.map_map,em,el,netO,jb3,List.lookup,hx]
def swv(v:Sw->Nat)(sws:List Sw)(k:Nat):Nat:=match sws[k]? with
 | some w=>v w
 | none=>0
theorem all_sw(ok:jbx n sws)(h:MH):z_Qj [yd n sws] h= .ok (.int ((2^sws.length - 1:Nat):Int)) h:=by
 have o1:=okp (show sws.length<=100 by have:=ok.2.2.1;omega)
 have p:0<2^sws.length:=Nat.pow_pos (by decide)
 have e:((2^sws.length - 1:Nat):Int)=2^sws.length - 1:=by rw[Int.ofNat_sub (by omega)];simp
 rw[e]
 simp[-List.map_map,z_Qj,b_Qj,yd,o1]
theorem jue(ok:jbx n sws)(pl lk:Nat)(h:MH)(hb:Hb h):z_X5 [yd n sws,.int pl,.int lk] h= .ok (.bl (decide (jbi ((2^sws.length - 1) - ((2^sws.length - 1)&&&lk)) sws&&&pl=0))) h:=by
 have e1:=jj2 (m:=mVar 0) (ρ:=[some (yd n sws),some (.int pl),some (.int lk)]) (h:=h) n sws ok.2.2.1 hb (by simp)
 have e2:=all_sw ok (h++[none])
 have d1:=jpz (2^sws.length - 1) lk
 generalize (2^sws.length - 1) - ((2^sws.length - 1)&&&lk)=st at d1 ⊢
 have e3:=jmj ok st (h++[none]) (h0:=h) (m:=jf3 "Net" z_Qr (ja3 (mVar 0) mNil)) (l:=mBin dAnd (jaw z_Qj (ja3 (mVar 0) mNil)) (mUn dInv (mVar 2))) (ρ:=[some (yd n sws),some (.int pl),some (.int lk)]) e1 (by simp[e2,d1])
 have d2:=band (jbi st sws) pl
 have hb2:∀x∈h,Cell.bnd h.length x=true:=by simpa using hb h.length (Nat.le_refl _)
 generalize jbi st sws&&&pl=u at d2 ⊢
 simp[-jf3, -jan] at e3
 by_cases q:u=0
 ·simp[-jf3, -jan,z_X5,b_X5,e3,d2,q,D.bnd]
  first | (rw[if_neg (by omega),if_pos hb2]) | (rw[if_pos hb2]) | skip
 ·simp[-jf3, -jan,z_X5,b_X5,e3,d2,q,D.bnd]
  first | (rw[if_neg (by omega),if_pos hb2]) | (rw[if_pos hb2]) | skip
def jm2(sws:List Sw)(lk:Nat):Nat:=(2^sws.length - 1) - ((2^sws.length - 1)&&&lk)
theorem jxe(sws:List Sw)(lk i:Nat):(jm2 sws lk).testBit i=(decide (i<sws.length)&& !lk.testBit i):=by
 unfold jm2
 rw[jlr,Nat.testBit_two_pow_sub_one]
def jis(sws:List Sw)(pl lk:Nat):Bool:=decide (jbi (jm2 sws lk) sws&&&pl=0)
def je1:List Nat->Nat
 | []=>0
 | k::ks=>2^k+je1 ks
theorem jn5:∀{ks:List Nat},ks.Nodup->∀i,(je1 ks).testBit i=decide (i∈ks)
 | [],_,i=>by simp[je1]
 | k::ks,nd,i=>by
  obtain⟨h1,h2⟩:=List.nodup_cons.mp nd
  have ih:=jn5 h2
  have hk:(je1 ks).testBit k=false:=by rw[ih];simpa using h1
  show(2^k+je1 ks).testBit i=_
  rw[Nat.add_comm,jmw hk,Nat.testBit_or,ih,jbe]
  by_cases q:k=i
  ·subst q;simp
  ·have:¬i=k:=λz=>q z.symm
   simp[q,this]
theorem jq0(ks:List Nat):((ks.map λk:Nat=>(2:Int)^k)).sum=(je1 ks:Nat):=by
 induction ks with
 | nil=>rfl
 | cons k ks ih=>
  rw[List.map_cons,List.sum_cons,ih]
  simp[je1]
theorem jp5(x:Nat):(jep x).Nodup:=List.Pairwise.filter _ List.nodup_range
theorem jq2{x m k:Nat}(hx:x<2^m)(h:k∈jep x):k<m:=by
 have h1:=jn3.mp h
 refine Nat.lt_of_not_le λq=> ?_
 have:x<2^k:=Nat.lt_of_lt_of_le hx (Nat.pow_le_pow_right (by decide) q)
 rw[Nat.testBit_lt_two_pow this] at h1
 cases h1
def ownL(st pl:Nat)(sws:List Sw):List Nat:=(jep st).filter λk=>decide (swv Sw.led sws k&&&pl≠0)
theorem own_at(ok:jbx n sws)(st pl:Nat)(hst:st<2^sws.length)(h:MH):z_X0 [netO sws,.int st,.int pl] h= .ok (.int (je1 (ownL st pl sws):Nat)) h:=by
 have hl:=ok.2.2.1
 have h12:st<2^12:=Nat.lt_of_lt_of_le hst (Nat.pow_le_pow_right (by decide) hl)
 have e1:=jp8 st h12 h
 have bl:(jep st).length<=12:=by
  unfold jep
  exact Nat.le_trans (List.length_filter_le _ _) (by rw[List.length_range];exact jnr h12)
 have comp:compLoop (jad 0) (tTru (mBin dAnd (jan jcs "earths" (mBin dIx (mFld jb3 "switches" (mVar 2)) (mVar 0)) mNil) (mVar 1))) (mVar 0) [none,some (.int pl),some (netO sws)] ((jep st).map λk:Nat=>D.int k) h= .ok ((ownL st pl sws).map λk:Nat=>D.int k) h:=by
  unfold ownL
  refine jcv (g:=jad 0) (ρ0:=[none,some (.int pl),some (netO sws)]) (λk:Nat=>D.int k) (λk=>[some (.int k),some (.int pl),some (netO sws)]) (λk=>decide (swv Sw.led sws k&&&pl≠0)) (λk=>D.int k) (jep st) λk hk=> ?_
  have hk':k<sws.length:=jq2 hst hk
  have hw:sws[k]?=some sws[k]:=List.getElem?_eq_getElem hk'
  have e2:=sw_at hw (m:=mVar 2) (l:=mVar 0) (ρ:=[some (.int k),some (.int pl),some (netO sws)]) (h:=h) (by simp) (by simp)
  have e3:=jwq sws[k] ok.2.1 (ok.2.2.2 _ (List.getElem_mem hk')) e2
  have ev:swv Sw.led sws k=sws[k].led:=by unfold swv;rw[hw]
  have b1:=band sws[k].led pl
  have b2:=ne0 (sws[k].led&&&pl)
  refine⟨by simp,?_,by simp⟩
  rw[ev]
  simp only[tTru,mBin,e3,jdo,mVar,List.getElem?_cons_succ,List.getElem?_cons_zero,dAnd,dInt,b1,jfz,jlt,b2]
 have sub:∀k∈ownL st pl sws,k<sws.length:=λk hk=>jq2 hst (List.mem_filter.mp hk).1
 have comp2:compLoop (jad 0) tYes (mBin dShl (mC (.int 1)) (mVar 0)) [none] ((ownL st pl sws).map λk:Nat=>D.int k) h= .ok (((ownL st pl sws).map λk:Nat=>(2:Int)^k).map D.int) h:=by
  rw[List.map_map]
  refine jbq (g:=jad 0) (t:=tYes) (m:=mBin dShl (mC (.int 1)) (mVar 0)) (ρ0:=[none]) (λk:Nat=>D.int k) (λk=>[some (.int k)]) (λk=>D.int ((2:Int)^k)) (ownL st pl sws) λk hk=>⟨by simp,by simp,?_⟩
  have o1:=okp (show k<=100 by have:=sub k hk;omega)
  simp[o1]
 have ol:(ownL st pl sws).length<=12:=Nat.le_trans (List.length_filter_le _ _) bl
 have sm:=jq0 (ownL st pl sws)
 simp[-List.map_map, -jan, -dAnd, -dShl,z_X0,b_X0,e1,comp,comp2,sm,show(jep st).length<16777216 by omega,show(ownL st pl sws).length<16777216 by omega]
theorem jsr(A:At h p r b)(v:Int)(hv:v<=0 \/ (2:Int)^b.n<=v):z_Qm [.ref p,.int v] h= .exc "NoBar" h:=by
 have o:h[p]?=some (some (.ins "Board" (b.f r))):=A.o
 have o1:=okp (show b.n<=100 by have:=A.ok.2.1;omega)
 have ix0:dIx (yd b.n b.sws) (.int 0) h= .ok (.int b.n) h:=by simp[yd]
 by_cases q:0<v
 ·have:¬v<(2:Int)^b.n:=by omega
  simp[-dIx,z_Qm,b_Qm,o,ix0,o1,q,this]
 ·simp[-dIx,z_Qm,b_Qm,o,q]
def jg9(b:Bd)(pl:Nat):Option String:=
 if pl - (pl&&&jce b.st b.sws)≠0 then some "NotEarthed" else if jis b.sws pl b.lk=false then some "NotDead" else none
def jke(b:Bd)(pl:Nat):Bd:={b with la:=b.la+1,gv:=b.gv++[(b.la+1,pl,je1 (ownL b.st pl b.sws)|||b.lk)]}
theorem js1{gv:List (Nat×Nat×Nat)}{m a c:Nat}(h:∀g∈gv,g.1<m):putK (gvD gv) (.inl (m:Int)) (.tup [.int a,.int c])=gvD (gv++[(m,a,c)]):=by
 have:((gvD gv).any λkv=>decide (kv.1= .inl (m:Int)))=false:=by
  rw[List.any_eq_false]
  intro kv hkv
  obtain⟨g,hg,rfl⟩:=List.mem_map.mp hkv
  have:=h g hg
  simp
  omega
 unfold putK
 rw[if_neg (by rw[this];simp)]
 simp[gvD]
theorem jse(A:At h p r b)(hst:b.st<2^b.sws.length)(hn:∀g∈b.gv,g.1<=b.la)(hlen:b.gv.length<16777216)(pl:Nat)(h1:0<pl)(h2:pl<2^b.n):
  z_Qm [.ref p,.int pl] h=match jg9 b pl with | some c=> .exc c h | none=> .ok (.int (b.la+1:Nat)) ((h.set p ((jke b pl).cell r)).set r (some (.dct (gvD (jke b pl).gv)))):=by
 have o:h[p]?=some (some (.ins "Board" (b.f r))):=A.o
 have o1:=okp (show b.n<=100 by have:=A.ok.2.1;omega)
 have ix0:∀h:MH,dIx (yd b.n b.sws) (.int 0) h= .ok (.int b.n) h:=λh=>by simp[yd]
 have l:∀c:Option Cell,(h.set p c)[p]?=some c:=λc=>List.getElem?_set_self A.lt'
 have lr:∀c:Option Cell,(h.set p c)[r]?=some (some (.dct (gvD b.gv))):=λc=>by rw[List.getElem?_set_ne A.ne];exact A.g
 have lr2:∀c d:Option Cell,((h.set p c).set r d)[p]?=some c:=λc d=>by rw[List.getElem?_set_ne (Ne.symm A.ne)];exact l c
 have c1:(jid dLt dLt (mC (.int 0)) (mVar 1) (mBin dShl (mC (.int 1)) (mBin dIx (mFld jde "yard" (mVar 0)) (mC (.int 0))))) [some (.ref p),some (.int pl)] h= .ok (.bl true) h:=by
  have q2:(pl:Int)<2^b.n:=by
   have:((pl:Nat):Int)<((2^b.n:Nat):Int):=by omega
   simpa using this
  simp[-dIx,o,ix0,o1,h1,q2]
 have ld:=jwf A.ok b.st h (m:=mFld jgf "net" (mVar 0)) (l:=mFld jdx "shut" (mVar 0)) (ρ:=[some (.ref p),some (.int pl)]) (h0:=h) (by simp[o]) (by simp[o])
 have d1:=jpz pl (jce b.st b.sws)
 have d2:=ne0 (pl - (pl&&&jce b.st b.sws))
 have ek:=jue A.ok pl b.lk h A.hb
 have ek:z_X5 [yd b.n b.sws,.int pl,.int b.lk] h= .ok (.bl (jis b.sws pl b.lk)) h:=ek
 unfold jg9
 by_cases q1:pl - (pl&&&jce b.st b.sws)≠0
 ·rw[decide_eq_true q1] at d2
  simp[-dIx, -dLt, -dShl, -jan, -jid,z_Qm,b_Qm,c1,ld,d1,d2]
  rw[if_neg q1]
 ·have q1':pl - (pl&&&jce b.st b.sws)=0:=by simpa using q1
  simp only[q1',ne_eq,not_true_eq_false,decide_false] at d1 d2
  cases q2:jis b.sws pl b.lk with
  | false=>
   rw[q2] at ek
   simp[-dIx, -dLt, -dShl, -jan, -jid,z_Qm,b_Qm,c1,ld,d1,o,ek,q1']
  | true=>
   rw[q2] at ek
   have eo:∀h,z_X0 [netO b.sws,.int b.st,.int pl] h= .ok (.int (je1 (ownL b.st pl b.sws):Nat)) h:=λh=>own_at A.ok b.st pl hst h
   have bo:=bor (je1 (ownL b.st pl b.sws)) b.lk
   have pn:=js1 (gv:=b.gv) (m:=b.la+1) (a:=pl) (c:=je1 (ownL b.st pl b.sws)|||b.lk) (λg hg=>Nat.lt_succ_of_le (hn g hg))
   unfold jke
   generalize je1 (ownL b.st pl b.sws)=ow at*
   have gl:(gvD b.gv).length<16777216:=by unfold gvD;rw[List.length_map];exact hlen
   have pl1:=jy1 b r (b.la+1)
   simp at pl1 pn
   simp[-dIx, -dLt, -dShl, -jan, -jid,z_Qm,b_Qm,c1,ld,d1,o,ek,q1',l,lr,pl1,eo,bo,gl,pn,lr2,Bd.cell]
   rfl
theorem At.perm(A:At h p r b)(pl:Nat):At ((h.set p ((jke b pl).cell r)).set r (some (.dct (gvD (jke b pl).gv)))) p r (jke b pl):=by
 refine⟨?_,?_,?_,A.ok⟩
 ·rw[List.getElem?_set_ne (Ne.symm A.ne),List.getElem?_set_self A.lt']
 ·rw[List.getElem?_set_self (by rw[List.length_set];exact A.lt)]
 ·exact(A.hb.set λn hn=>js3 _ (Nat.lt_of_lt_of_le A.lt hn)).set λn _=>jol _ n
def gone(gv:List (Nat×Nat×Nat))(v:Nat):List (Nat×Nat×Nat):=gv.filter λg=>decide (g.1≠v)
def hasG(gv:List (Nat×Nat×Nat))(v:Int):Bool:=gv.any λg=>decide ((g.1:Int)=v)
theorem jqo(gv:List (Nat×Nat×Nat))(v:Int):(valK (gvD gv) (.inl v)).isSome=hasG gv v:=by
 induction gv with
 | nil=>rfl
 | cons g gv ih=>
  unfold hasG valK gvD at*
  simp only[List.map_cons,List.find?_cons,List.any_cons]
  by_cases q:(g.1:Int)=v
  ·simp[q]
  ·have:¬((Sum.inl (g.1:Int):Sum Int Str)= .inl v):=λz=>q (Sum.inl.inj z)
   simp only[this,q,decide_false,Bool.false_or]
   exact ih
theorem jh0{gv:List (Nat×Nat×Nat)}(nd:(gv.map λg=>g.1).Nodup){g:Nat×Nat×Nat}(hg:g∈gv):valK (gvD gv) (.inl (g.1:Int))=some (.tup [.int (g.2.1:Nat),.int (g.2.2:Nat)]):=by
 induction gv with
 | nil=>cases hg
 | cons a gv ih=>
  rw[List.map_cons] at nd
  obtain⟨n1,n2⟩:=List.nodup_cons.mp nd
  unfold valK gvD
  simp only[List.map_cons,List.find?_cons]
  rcases List.mem_cons.mp hg with rfl | hg
  ·simp
  ·have ne:¬((a.1:Nat)=g.1):=λz=>n1 (z▸List.mem_map.mpr ⟨g,hg,rfl⟩)
   have:¬((Sum.inl (a.1:Int):Sum Int Str)= .inl (g.1:Int)):=λz=>ne (by have:=Sum.inl.inj z;omega)
   simp only[this,decide_false]
   exact ih n2 hg
theorem jso(gv:List (Nat×Nat×Nat))(v:Nat):jm1 (gvD gv) (.inl (v:Int))=gvD (gone gv v):=by
 unfold jm1 gvD gone
 rw[List.filter_map]
 congr 1
 refine List.filter_congr λg _=> ?_
 simp only[Function.comp]
 by_cases q:g.1=v
 ·subst q;simp
 ·have:¬((Sum.inl (g.1:Int):Sum Int Str)= .inl (v:Int)):=λz=>q (by have:=Sum.inl.inj z;omega)
  simp[q,this]
theorem At.putG{b b':Bd}(A:At h p r b)(hf:b'.cell r=b.cell r)(ok:jbx b'.n b'.sws):At (h.set r (some (.dct (gvD b'.gv)))) p r b':=
 ⟨by rw[List.getElem?_set_ne (Ne.symm A.ne),hf];exact A.o,by rw[List.getElem?_set_self A.lt],A.hb.set λn _=>jol _ n,ok⟩
theorem jyi(A:At h p r b)(v:Int)(hv:hasG b.gv v=false):z_Q4 [.ref p,.int v] h= .exc "NoPermit" h:=by
 have o:h[p]?=some (some (.ins "Board" (b.f r))):=A.o
 have g:=A.g
 have e:valK (gvD b.gv) (.inl v)=none:=Option.not_isSome_iff_eq_none.mp (by rw[jqo,hv];simp)
 simp[z_Q4,b_Q4,o,g,e]
theorem jxf(A:At h p r b)(nd:(b.gv.map λg=>g.1).Nodup)(g:Nat×Nat×Nat)(hg:g∈b.gv):z_Q4 [.ref p,.int g.1] h= .ok (.int (jed (gone b.gv g.1):Nat)) (h.set r (some (.dct (gvD (gone b.gv g.1))))):=by
 have o:h[p]?=some (some (.ins "Board" (b.f r))):=A.o
 have gg:=A.g
 have A2:=A.putG (b':={b with gv:=gone b.gv g.1}) rfl A.ok
 have hh:=jj5 A2
 have ms:jan jen "held" (mVar 0) mNil [some (.ref p),some (.int g.1)] (h.set r (some (.dct (gvD (gone b.gv g.1)))))= .ok (.int (jed (gone b.gv g.1):Nat)) (h.set r (some (.dct (gvD (gone b.gv g.1))))):=by
  rw[jdg A2 (z:=z_X7) (ds:=[]) rfl (by decide+kernel) (by simp) (by simp)]
  exact hh
 have e1:=jh0 nd hg
 have e2:(valK (gvD b.gv) (.inl (g.1:Int))).isSome=true:=by rw[e1];rfl
 have e3:=jso b.gv g.1
 simp[-jan,z_Q4,b_Q4,o,gg,e1,e3,ms]
def blL(n S:Nat):List D:=(List.range n).map λi=>D.bl (S.testBit i)
theorem jj8(n S:Nat):(blL n S).length=n:=by simp[blL]
theorem jgm{n S i:Nat}(h:i<n):atI (blL n S) (i:Int)=some (.bl (S.testBit i)):=jem (by unfold blL;rw[List.getElem?_map,List.getElem?_range h];rfl)
theorem jlp{n S i:Nat}(h:i<n):(blL n S).set i (.bl true)=blL n (S|||2^i):=by
 refine List.ext_getElem? λj=> ?_
 unfold blL
 rw[List.getElem?_map]
 by_cases q:i=j
 ·subst q
  rw[List.getElem?_set_self (by simpa using h),List.getElem?_range h]
  simp[Nat.testBit_or,jbe]
 ·rw[List.getElem?_set_ne q,List.getElem?_map]
  by_cases hj:j<n
  ·rw[List.getElem?_range hj]
   simp[Nat.testBit_or,jbe,q]
  ·rw[List.getElem?_eq_none (by simpa using hj)];rfl
theorem jm4{m i:Nat}(h:i<m):ixN m (i:Int)=some i:=by
 unfold ixN
 rw[if_pos (by omega),if_pos (by omega)]
 simp
theorem jea(st k:Nat)(h:MH):z_Xj [.int st,.int k] h= .ok (.bl (st.testBit k)) h:=by
 have hb:=bitk st k
 cases q:st.testBit k with
 | true=>simp[q] at hb;simp[z_Xj,b_Xj,hb]
 | false=>simp[q] at hb;simp[z_Xj,b_Xj,hb]
def grow(r p:Nat):Nat:=if p&&&r≠0 then r|||p else r
theorem jsu(p:Nat)(ps:List Nat)(r:Nat):Clo.pass (p::ps) r=Clo.pass ps (grow r p):=rfl
theorem jus(r p:Nat):Clo.sub r (grow r p):=by
 unfold grow
 split
 ·exact Clo.jh5 _ _
 ·exact Clo.sub.refl _
theorem jv0(r a b:Nat):grow r (2^a|||2^b)=if r.testBit a=r.testBit b then r else r|||2^a|||2^b:=by
 have ne:(2^a|||2^b)&&&r≠0↔(r.testBit a=true \/ r.testBit b=true):=by
  rw[Clo.and_ne]
  constructor
  ·rintro⟨i,h1,h2⟩
   rw[Nat.testBit_or,jbe,jbe] at h1
   simp at h1
   rcases h1 with rfl | rfl
   ·exact .inl h2
   ·exact .inr h2
  ·rintro(h | h)
   ·exact⟨a,by rw[Nat.testBit_or,jbe];simp,h⟩
   ·exact⟨b,by rw[Nat.testBit_or,jbe,jbe];simp,h⟩
 unfold grow
 cases x:r.testBit a<;>cases y:r.testBit b
 ·rw[if_neg (λz=>by rcases ne.mp z with z | z<;>simp_all)];simp
 ·rw[if_pos (ne.mpr (.inr y))];simp[Nat.or_assoc]
 ·rw[if_pos (ne.mpr (.inl x))];simp[Nat.or_assoc]
 ·rw[if_pos (ne.mpr (.inl x))]
  simp only[if_true]
  refine Nat.eq_of_testBit_eq λi=> ?_
  rw[Nat.testBit_or,Nat.testBit_or,jbe,jbe]
  by_cases q1:a=i
  ·subst q1;simp[x]
  ·by_cases q2:b=i
   ·subst q2;simp[y]
   ·simp[q1,q2]
theorem spB_ok(ok:jbx n sws)(st r k:Nat)(w:Sw)(hw:sws[k]?=some w)(g:Bool)(x2 x6:Option D)(h:MH):
  ∃x6',jb9 [some (yd n sws),some (.int st),x2,some (.ref h.length),some (.bl g),some (.int k),x6] (h++[some (.lst (blL n r))])= .nx [some (yd n sws),some (.int st),x2,some (.ref h.length),some (.bl (g||decide ((if st.testBit k then grow r w.pair else r)≠r))),some (.int k),x6'] (h++[some (.lst (blL n (if st.testBit k then grow r w.pair else r)))]):=by
 have wok:=ok.2.2.2 w (List.mem_of_getElem? hw)
 have hx:atI (sws.map Sw.d) (k:Int)=some w.d:=jem (by rw[List.getElem?_map,hw];rfl)
 have ix:∀h:MH,dIx (yd n sws) (.int 1) h= .ok (.lst (sws.map Sw.d)) h:=λh=>by simp[-List.map_map,yd]
 have ix2:∀h:MH,dIx (.lst (sws.map Sw.d)) (.int k) h= .ok w.d h:=λh=>by simp[-List.map_map,hx]
 have es:=jea st k (h++[some (.lst (blL n r))])
 have gl:(h++[some (Cell.lst (blL n r))])[h.length]?=some (some (.lst (blL n r))):=sn_get _ _
 refine⟨some w.d,?_⟩
 have key:∀a b:Nat,a<n->b<n->a≠b->(w.d= .tup [.str "breaker",.int a,.int b] \/ w.d= .tup [.str "splitter",.int a,.int b])->w.pair=2^a|||2^b->jb9 [some (yd n sws),some (.int st),x2,some (.ref h.length),some (.bl g),some (.int k),x6] (h++[some (.lst (blL n r))])= .nx [some (yd n sws),some (.int st),x2,some (.ref h.length),some (.bl (g||decide ((if st.testBit k then grow r w.pair else r)≠r))),some (.int k),some w.d] (h++[some (.lst (blL n (if st.testBit k then grow r w.pair else r)))]):=by
  intro a b ha hb ab hd hp
  rw[hp,jv0]
  have i1:∀h:MH,dIx w.d (.int 1) h= .ok (.int a) h:=λh=>by rcases hd with hd | hd<;>rw[hd]<;>simp
  have i2:∀h:MH,dIx w.d (.int 2) h= .ok (.int b) h:=λh=>by rcases hd with hd | hd<;>rw[hd]<;>simp
  have l3:∀h:MH,fLen [w.d] h= .ok (.int 3) h:=λh=>by rcases hd with hd | hd<;>rw[hd]<;>simp
  have d1:∀h':MH,h'[h.length]?=some (some (.lst (blL n r)))->dIx (.ref h.length) (.int a) h'= .ok (.bl (r.testBit a)) h':=λh' e=>by simp[e,jgm ha]
  have d2:∀h':MH,h'[h.length]?=some (some (.lst (blL n r)))->dIx (.ref h.length) (.int b) h'= .ok (.bl (r.testBit b)) h':=λh' e=>by simp[e,jgm hb]
  have d1:=d1 _ gl
  have d2:=d2 _ gl
  cases q:st.testBit k with
  | false=>
   rw[q] at es
   simp[-dIx, -fLen,jb9,ix,ix2,l3,es]
  | true=>
   rw[q] at es
   by_cases q2:r.testBit a=r.testBit b
   ·rw[q2] at d1
    simp[-dIx, -fLen,jb9,ix,ix2,l3,es,i1,i2,d1,d2,q2]
   ·have hne:r|||2^a|||2^b≠r:=λz=>q2 (by
     have z1:=congrArg (λu=>Nat.testBit u a) z
     have z2:=congrArg (λu=>Nat.testBit u b) z
     simp[Nat.testBit_or,jbe] at z1 z2
     rw[z1,z2])
    have dn:dNe (.bl (r.testBit a)) (.bl (r.testBit b)) (h++[some (.lst (blL n r))])= .ok (.bl true) (h++[some (.lst (blL n r))]):=by
     cases x:r.testBit a<;>cases y:r.testBit b<;>simp_all
    have s1:(blL n r).set a (.bl true)=blL n (r|||2^a):=jlp ha
    have s2:(blL n (r|||2^a)).set b (.bl true)=blL n (r|||2^a|||2^b):=jlp hb
    have n1:ixN (blL n r).length (a:Int)=some a:=by rw[jj8];exact jm4 ha
    have n2:ixN (blL n (r|||2^a)).length (b:Int)=some b:=by rw[jj8];exact jm4 hb
    simp[-dIx, -fLen, -dNe,jb9,ix,ix2,l3,es,i1,i2,d1,d2,dn,q2,n1,s1,n2,s2,hne]
 have none_:w.pair=0->(∀h:MH,∃m:Int,fLen [w.d] h= .ok (.int m) h /\ m=2)->jb9 [some (yd n sws),some (.int st),x2,some (.ref h.length),some (.bl g),some (.int k),x6] (h++[some (.lst (blL n r))])= .nx [some (yd n sws),some (.int st),x2,some (.ref h.length),some (.bl (g||decide ((if st.testBit k then grow r w.pair else r)≠r))),some (.int k),some w.d] (h++[some (.lst (blL n (if st.testBit k then grow r w.pair else r)))]):=by
  intro hp hl
  have g0:grow r 0=r:=by simp[grow]
  rw[hp,g0]
  have l2:∀h:MH,fLen [w.d] h= .ok (.int 2) h:=λh=>by obtain⟨m,e,rfl⟩:=hl h;exact e
  simp[-dIx, -fLen,jb9,ix,ix2,l2]
 cases w with
 | feed b=>exact none_ rfl λh=>⟨2,by simp[Sw.d],rfl⟩
 | earth b=>exact none_ rfl λh=>⟨2,by simp[Sw.d],rfl⟩
 | breaker a b=>exact key a b wok.1 wok.2.1 wok.2.2 (.inl rfl) rfl
 | splitter a b=>exact key a b wok.1 wok.2.1 wok.2.2 (.inr rfl) rfl
theorem jq9(ok:jbx n sws)(st:Nat)(x2:Option D)(h:MH):∀(ps:List (Sw×Nat)) (r:Nat) (g:Bool) (x y:Option D),(∀p∈ps,sws[p.2]?=some p.1)->
  ∃x' y',jc7 (jad 5) jb9 (ps.map λp=>D.int (p.2:Int)) [some (yd n sws),some (.int st),x2,some (.ref h.length),some (.bl g),x,y] (h++[some (.lst (blL n r))])= .nx [some (yd n sws),some (.int st),x2,some (.ref h.length),some (.bl (g||decide (Clo.pass ((ps.filter λp=>st.testBit p.2).map λp=>p.1.pair) r≠r))),x',y'] (h++[some (.lst (blL n (Clo.pass ((ps.filter λp=>st.testBit p.2).map λp=>p.1.pair) r)))])
 | [],r,g,x,y,_=>⟨x,y,by simp[jc7,Clo.pass]⟩
 | p::ps,r,g,x,y,hp=>by
  obtain⟨y1,e1⟩:=spB_ok ok st r p.2 p.1 (hp p (List.mem_cons_self ..)) g x2 y h
  obtain⟨x',y',ih⟩:=jq9 ok st x2 h ps (if st.testBit p.2 then grow r p.1.pair else r) (g||decide ((if st.testBit p.2 then grow r p.1.pair else r)≠r)) (some (.int p.2)) y1 λq m=>hp q (List.mem_cons_of_mem _ m)
  refine⟨x',y',?_⟩
  rw[List.map_cons]
  unfold jc7
  simp only[jad,List.set_cons_succ,List.set_cons_zero,e1,ih]
  cases q:st.testBit p.2 with
  | false=>simp[q,List.filter_cons]
  | true=>
   simp only[q,List.filter_cons,if_true,List.map_cons,jsu]
   have m1:=jus r p.1.pair
   have m2:=Clo.jjr ((ps.filter λp=>st.testBit p.2).map λp=>p.1.pair) (grow r p.1.pair)
   generalize Clo.pass ((ps.filter λp=>st.testBit p.2).map λp=>p.1.pair) (grow r p.1.pair)=u at m2 ⊢
   generalize grow r p.1.pair=v at m1 m2 ⊢
   have:(g||decide (v≠r)||decide (u≠v))=(g||decide (u≠r)):=by
    rw[Bool.or_assoc]
    congr 1
    by_cases e:v=r
    ·subst e;simp
    ·have:u≠r:=λz=>e (Clo.sub.antisymm (by rw[<-z];exact m2) m1)
     simp[e,this]
   rw[this]
def sgW:MS:=(sSeq (sAsg (mC (.bl false)) (jad 4))
      (sFor (jfm (ja3 (mFn fLen (ja3 (mBin dIx (mVar 0) (mC (.int 1))) mNil)) mNil)) (jad 5) jb9))
theorem jvv(ok:jbx n sws)(st r:Nat)(g x2 x y:Option D)(h:MH):∃x' y',sgW [some (yd n sws),some (.int st),x2,some (.ref h.length),g,x,y] (h++[some (.lst (blL n r))])= .nx [some (yd n sws),some (.int st),x2,some (.ref h.length),some (.bl (decide (Clo.pass (jca st sws) r≠r))),x',y'] (h++[some (.lst (blL n (Clo.pass (jca st sws) r)))]):=by
 obtain⟨x',y',e⟩:=jq9 ok st x2 h sws.zipIdx r false x y λp hp=>jj1 hp
 rw[<-jqr] at e
 have hl:=ok.2.2.1
 refine⟨x',y',?_⟩
 simp only[Bool.false_or] at e
 have:(sws.zipIdx.filter λp=>st.testBit p.2).map (λp=>p.1.pair)=jca st sws:=rfl
 rw[this] at e
 have ix:∀h:MH,dIx (yd n sws) (.int 1) h= .ok (.lst (sws.map Sw.d)) h:=λh=>by simp[-List.map_map,yd]
 simp[-List.map_map, -dIx,sgW,ix,e,show sws.length<4611686018427387904 by omega]
theorem jl0(ok:jbx n sws)(st s:Nat)(h:MH)(hb:Hb h):z_Qy [yd n sws,.int st,.lst (blL n s)] h= .ok (.lst (blL n (Clo.clo (jca st sws) s))) h:=by
 have W:∀x y,∃x' y',jcm (tTru (mVar 4)) sgW [some (yd n sws),some (.int st),some (.lst (blL n s)),some (.ref h.length),some (.bl true),x,y] (h++[some (.lst (blL n s))])= .nx [some (yd n sws),some (.int st),some (.lst (blL n s)),some (.ref h.length),some (.bl false),x',y'] (h++[some (.lst (blL n (Clo.clo (jca st sws) s)))]):=by
  refine Clo.walk (P:=λr=>∀x y,∃x' y',jcm (tTru (mVar 4)) sgW [some (yd n sws),some (.int st),some (.lst (blL n s)),some (.ref h.length),some (.bl true),x,y] (h++[some (.lst (blL n r))])= .nx [some (yd n sws),some (.int st),some (.lst (blL n s)),some (.ref h.length),some (.bl false),x',y'] (h++[some (.lst (blL n (Clo.clo (jca st sws) s)))])) (Clo.je0 (jca st sws)) ?_ ?_ _ s (Clo.Mid.start _ s) (Nat.lt_succ_self _)
  ·intro r m e x y
   have er:=(m.fin (Clo.je0 _) e).eq
   obtain⟨x',y',e1⟩:=jvv ok st r (some (.bl true)) (some (.lst (blL n s))) x y h
   rw[e] at e1
   simp only[ne_eq,not_true_eq_false,decide_false] at e1
   refine⟨x',y',?_⟩
   rw[jh1 (h1:=h++[some (.lst (blL n r))]) (by simp) e1,jnn (h1:=h++[some (.lst (blL n r))]) (by simp),er]
  ·intro r m ne ih x y
   obtain⟨x',y',e1⟩:=jvv ok st r (some (.bl true)) (some (.lst (blL n s))) x y h
   simp only[ne,ne_eq,not_false_eq_true,decide_true] at e1
   obtain⟨x2,y2,e2⟩:=ih x' y'
   exact⟨x2,y2,by rw[jh1 (h1:=h++[some (.lst (blL n r))]) (by simp) e1,e2]⟩
 obtain⟨x',y',e⟩:=W none none
 have eb:b_Qy=(sSeq (sAsg (jga (jot (ja3 (mVar 2) mNil))) (jad 3))
   (sSeq (sAsg (mC (.bl true)) (jad 4))
   (sSeq (jcm (tTru (mVar 4)) sgW)
   (jey 3 (sRet (mVar 3)))))):=rfl
 refine jgz (b:=b_Qy) (np:=3) (nn:=7) (ds:=[yd n sws,.int st,.lst (blL n s)]) (J:=[none]) rfl ?_ hb (by
  show D.bnds _ _=true
  exact jfd λd hd=>by
   obtain⟨i,_,rfl⟩:=List.mem_map.mp hd
   simp[D.bnd])
 show b_Qy [some (yd n sws),some (.int st),some (.lst (blL n s)),none,none,none,none] h=_
 rw[eb]
 generalize blL n (Clo.clo (jca st sws) s)=U at*
 generalize blL n s=V at*
 simp[-tTru,e]
def lwv(W:Str)(s:Sw):Nat:=if W=Str.ofString "feed" then s.fed else s.led
theorem k_ef:¬(Str.ofString "feed"=Str.ofString "earth"):=by decide+kernel
theorem baB_ok(ok:jbx n sws)(W:Str)(hW:W=Str.ofString "feed" \/ W=Str.ofString "earth")(st r k:Nat)(w:Sw)(hw:sws[k]?=some w)(h:MH):
  jbg [some (yd n sws),some (.int st),some (.str W),some (.ref h.length),some (.int k)] (h++[some (.lst (blL n r))])= .nx [some (yd n sws),some (.int st),some (.str W),some (.ref h.length),some (.int k)] (h++[some (.lst (blL n (if st.testBit k then r|||lwv W w else r)))]):=by
 have wok:=ok.2.2.2 w (List.mem_of_getElem? hw)
 have hx:atI (sws.map Sw.d) (k:Int)=some w.d:=jem (by rw[List.getElem?_map,hw];rfl)
 have ix:∀h:MH,dIx (yd n sws) (.int 1) h= .ok (.lst (sws.map Sw.d)) h:=λh=>by simp[-List.map_map,yd]
 have ix2:∀h:MH,dIx (.lst (sws.map Sw.d)) (.int k) h= .ok w.d h:=λh=>by simp[-List.map_map,hx]
 have es:=jea st k (h++[some (.lst (blL n r))])
 have one:∀(V:Str) (b:Nat),b<n->w.d= .tup [.str V,.int b]->lwv W w=(if V=W then 2^b else 0)->jbg [some (yd n sws),some (.int st),some (.str W),some (.ref h.length),some (.int k)] (h++[some (.lst (blL n r))])= .nx [some (yd n sws),some (.int st),some (.str W),some (.ref h.length),some (.int k)] (h++[some (.lst (blL n (if st.testBit k then r|||lwv W w else r)))]):=by
  intro V b hb hd hv
  have i0:∀h:MH,dIx w.d (.int 0) h= .ok (.str V) h:=λh=>by rw[hd];simp
  have i1:∀h:MH,dIx w.d (.int 1) h= .ok (.int b) h:=λh=>by rw[hd];simp
  have n1:ixN (blL n r).length (b:Int)=some b:=by rw[jj8];exact jm4 hb
  have s1:(blL n r).set b (.bl true)=blL n (r|||2^b):=jlp hb
  rw[hv]
  by_cases q:V=W
  ·subst q
   cases q2:st.testBit k with
   | false=>rw[q2] at es;simp[-dIx,jbg,ix,ix2,i0,es]
   | true=>rw[q2] at es;simp[-dIx,jbg,ix,ix2,i0,i1,es,n1,s1]
  ·simp[-dIx,jbg,ix,ix2,i0,q]
 have two:∀(V:Str) (a b:Nat),w.d= .tup [.str V,.int a,.int b]->lwv W w=0->¬(V=W)->jbg [some (yd n sws),some (.int st),some (.str W),some (.ref h.length),some (.int k)] (h++[some (.lst (blL n r))])= .nx [some (yd n sws),some (.int st),some (.str W),some (.ref h.length),some (.int k)] (h++[some (.lst (blL n (if st.testBit k then r|||lwv W w else r)))]):=by
  intro V a b hd hv q
  have i0:∀h:MH,dIx w.d (.int 0) h= .ok (.str V) h:=λh=>by rw[hd];simp
  rw[hv]
  simp[-dIx,jbg,ix,ix2,i0,q]
 cases w with
 | feed b=>exact one _ b wok rfl (by rcases hW with rfl | rfl<;>simp[lwv,Sw.fed,Sw.led,k_ef,k_fe])
 | earth b=>exact one _ b wok rfl (by rcases hW with rfl | rfl<;>simp[lwv,Sw.fed,Sw.led,k_ef,k_fe])
 | breaker a b=>exact two _ a b rfl (by rcases hW with rfl | rfl<;>simp[lwv,Sw.fed,Sw.led]) (by rcases hW with rfl | rfl<;>simp[k_bf,k_be])
 | splitter a b=>exact two _ a b rfl (by rcases hW with rfl | rfl<;>simp[lwv,Sw.fed,Sw.led]) (by rcases hW with rfl | rfl<;>simp[k_sf,k_se])
theorem jpc(ok:jbx n sws)(W:Str)(hW:W=Str.ofString "feed" \/ W=Str.ofString "earth")(st:Nat)(h:MH):∀(ps:List (Sw×Nat)) (r:Nat) (x:Option D),(∀p∈ps,sws[p.2]?=some p.1)->
  ∃x',jc7 (jad 4) jbg (ps.map λp=>D.int (p.2:Int)) [some (yd n sws),some (.int st),some (.str W),some (.ref h.length),x] (h++[some (.lst (blL n r))])= .nx [some (yd n sws),some (.int st),some (.str W),some (.ref h.length),x'] (h++[some (.lst (blL n (Clo.all ((ps.filter λp=>st.testBit p.2).map λp=>lwv W p.1) r)))])
 | [],r,x,_=>⟨x,rfl⟩
 | p::ps,r,x,hp=>by
  have e1:=baB_ok ok W hW st r p.2 p.1 (hp p (List.mem_cons_self ..)) h
  obtain⟨x',ih⟩:=jpc ok W hW st h ps (if st.testBit p.2 then r|||lwv W p.1 else r) (some (.int p.2)) λq m=>hp q (List.mem_cons_of_mem _ m)
  refine⟨x',?_⟩
  rw[List.map_cons]
  unfold jc7
  simp only[jad,List.set_cons_succ,List.set_cons_zero,e1,ih]
  cases q:st.testBit p.2 with
  | false=>simp[q,List.filter_cons]
  | true=>simp[q,List.filter_cons,Clo.all]
theorem jst(ok:jbx n sws)(W:Str)(hW:W=Str.ofString "feed" \/ W=Str.ofString "earth")(st:Nat)(h:MH)(hb:Hb h):z_Xh [yd n sws,.int st,.str W] h= .ok (.lst (blL n (Clo.clo (jca st sws) (Clo.all ((jdt st sws).map λp=>lwv W p.1) 0)))) h:=by
 obtain⟨x',e⟩:=jpc ok W hW st h sws.zipIdx 0 none λp hp=>jj1 hp
 rw[<-jqr] at e
 have es:(sws.zipIdx.filter λp=>st.testBit p.2)=jdt st sws:=rfl
 rw[es] at e
 generalize Clo.all ((jdt st sws).map λp=>lwv W p.1) 0=s at e ⊢
 have e1:=jl0 ok st s (h++[none]) (by
  intro k hk
  rw[List.all_append]
  by_cases q:h.length<=k
  ·rw[hb k q];rfl
  ·simp at hk;omega)
 have hl:=ok.2.2.1
 have hn:=ok.2.1
 have z0:(List.replicate n [D.bl false]).flatten=blL n 0:=by
  unfold blL
  refine List.ext_getElem? λi=> ?_
  simp[List.flatten_replicate_singleton,List.getElem?_replicate]
  by_cases q:i<n
  ·simp[q,List.getElem?_range q]
  ·simp[q,List.getElem?_eq_none (show(List.range n).length<=i by simpa using q)]
 have eb:b_Xh=(sSeq (sAsg (jga (lRep (jbh (jc3 (ja3 (mC (.bl false)) mNil))) (mBin dIx (mVar 0) (mC (.int 0))))) (jad 3))
   (sSeq (sFor (jfm (ja3 (mFn fLen (ja3 (mBin dIx (mVar 0) (mC (.int 1))) mNil)) mNil)) (jad 4) jbg)
   (jey 3 (sRet (jaw z_Qy (ja3 (mVar 0) (ja3 (mVar 1) (ja3 (mVar 3) mNil)))))))):=rfl
 have ix:∀h:MH,dIx (yd n sws) (.int 1) h= .ok (.lst (sws.map Sw.d)) h:=λh=>by simp[-List.map_map,yd]
 have ix0:∀h:MH,dIx (yd n sws) (.int 0) h= .ok (.int n) h:=λh=>by simp[yd]
 refine jgz (b:=b_Xh) (np:=3) (nn:=5) (ds:=[yd n sws,.int st,.str W]) (J:=[none]) rfl ?_ hb (by
  show D.bnds _ _=true
  exact jfd λd hd=>by
   obtain⟨i,_,rfl⟩:=List.mem_map.mp hd
   simp[D.bnd])
 show b_Xh [some (yd n sws),some (.int st),some (.str W),none,none] h=_
 rw[eb]
 generalize blL n (Clo.clo (jca st sws) s)=U at*
 generalize blL n s=V at*
 simp[-List.map_map, -dIx, -List.flatten_replicate_singleton,ix,ix0,z0,e,e1,show sws.length<4611686018427387904 by omega,show n<=16777216 by omega,show n<9223372036854775808 by omega]
theorem jrc(ok:jbx n sws)(st:Nat)(h:MH)(hb:Hb h):z_Xh [yd n sws,.int st,.str (Str.ofString "feed")] h= .ok (.lst (blL n (jbi st sws))) h:=by
 have:=jst ok (Str.ofString "feed") (.inl rfl) st h hb
 simp only[lwv,if_true] at this
 exact this
theorem bars_e(ok:jbx n sws)(st:Nat)(h:MH)(hb:Hb h):z_Xh [yd n sws,.int st,.str (Str.ofString "earth")] h= .ok (.lst (blL n (jcw st sws))) h:=by
 have:=jst ok (Str.ofString "earth") (.inr rfl) st h hb
 simp only[lwv,k_fe,if_false] at this
 exact this
theorem jn9{n x:Nat}(h:∀i,x.testBit i=true->i<n):Clo.sub x (2^n - 1):=λi hi=>by
 rw[Nat.testBit_two_pow_sub_one];exact decide_eq_true (h i hi)
theorem clo_lt(ok:jbx n sws)(st s:Nat)(hs:∀i,s.testBit i=true->i<n):∀i,(Clo.clo (jca st sws) s).testBit i=true->i<n:=by
 have key:Clo.sub (Clo.clo (jca st sws) s) (2^n - 1):=(Clo.is (jca st sws) s).le _ (jn9 hs) λp m _=>jn9 λi hi=>by
  obtain⟨q,mq,rfl⟩:=List.mem_map.mp m
  have wok:=ok.2.2.2 q.1 (js8 (List.mem_filter.mp mq).1)
  cases e:q.1 with
  | feed b=>rw[e] at hi;simp[Sw.pair] at hi
  | earth b=>rw[e] at hi;simp[Sw.pair] at hi
  | breaker a b=>
   rw[e] at hi wok
   simp only[Sw.pair,Nat.testBit_or,jbe,Bool.or_eq_true,decide_eq_true_eq] at hi
   have:=wok.1;have:=wok.2.1
   omega
  | splitter a b=>
   rw[e] at hi wok
   simp only[Sw.pair,Nat.testBit_or,jbe,Bool.or_eq_true,decide_eq_true_eq] at hi
   have:=wok.1;have:=wok.2.1
   omega
 intro i hi
 have:=key i hi
 rw[Nat.testBit_two_pow_sub_one] at this
 exact of_decide_eq_true this
theorem jw0{n:Nat}:∀(ps:List Nat) (s:Nat),(∀p∈ps,∀i,p.testBit i=true->i<n)->(∀i,s.testBit i=true->i<n)->∀i,(Clo.all ps s).testBit i=true->i<n
 | [],s,_,hs=>hs
 | p::ps,s,hp,hs=>jw0 ps (s|||p) (λq m=>hp q (List.mem_cons_of_mem _ m)) λi hi=>by
  rw[Nat.testBit_or,Bool.or_eq_true] at hi
  rcases hi with hi | hi
  ·exact hs i hi
  ·exact hp p (List.mem_cons_self ..) i hi
theorem jrm(ok:jbx n sws)(st:Nat):∀i,(jbi st sws).testBit i=true->i<n:=clo_lt ok st _ (jw0 _ _ (λp m i hi=>by
 obtain⟨q,mq,rfl⟩:=List.mem_map.mp m
 have wok:=ok.2.2.2 q.1 (js8 (List.mem_filter.mp mq).1)
 cases e:q.1 with
 | feed b=>
  rw[e] at hi wok
  simp only[Sw.fed,jbe,decide_eq_true_eq] at hi
  subst hi;exact wok
 | _=>rw[e] at hi;simp[Sw.fed] at hi) λi hi=>by simp at hi)
theorem safe30(ok:jbx n sws)(st:Nat)(h:MH)(hb:Hb h):z_Xk [yd n sws,.int st] h= .ok (.bl (jgx st sws)) h:=by
 have e1:=jrc ok st h hb
 have e2:=bars_e ok st h hb
 have hn:=ok.2.1
 have ll:=jrm ok st
 have comp:compLoop (jad 0) (tAnd (tTru (mBin dIx (mVar 1) (mVar 0))) (tTru (mBin dIx (mVar 2) (mVar 0)))) (mVar 0) [none,some (.lst (blL n (jbi st sws))),some (.lst (blL n (jcw st sws)))] (rng 0 n) h= .ok (((List.range n).filter λi=>(jbi st sws).testBit i&&(jcw st sws).testBit i).map λk:Nat=>D.int k) h:=by
  have er:rng 0 n=(List.range n).map λk:Nat=>D.int k:=by unfold rng;simp
  rw[er]
  refine jcv (λk:Nat=>D.int k) (λk=>[some (.int k),some (.lst (blL n (jbi st sws))),some (.lst (blL n (jcw st sws)))]) (λi=>(jbi st sws).testBit i&&(jcw st sws).testBit i) (λk:Nat=>D.int k) (List.range n) λk hk=> ?_
  have a1:=jgm (S:=jbi st sws) (List.mem_range.mp hk)
  have a2:=jgm (S:=jcw st sws) (List.mem_range.mp hk)
  generalize blL n (jbi st sws)=U at*
  generalize blL n (jcw st sws)=V at*
  refine⟨by simp,?_,by simp⟩
  cases x:(jbi st sws).testBit k with
  | false=>rw[x] at a1;simp[a1]
  | true=>rw[x] at a1;simp[a1,a2]
 have emp:((List.range n).filter λi=>(jbi st sws).testBit i&&(jcw st sws).testBit i)=[]↔jbi st sws&&&jcw st sws=0:=by
  rw[List.filter_eq_nil_iff]
  constructor
  ·intro q
   refine Nat.eq_of_testBit_eq λi=> ?_
   rw[Nat.testBit_and,Nat.zero_testBit]
   cases x:(jbi st sws).testBit i with
   | false=>rfl
   | true=>
    have:=q i (List.mem_range.mpr (ll i x))
    rw[x] at this
    simpa using this
  ·intro q i _
   have:=congrArg (λz=>Nat.testBit z i) q
   simp only[Nat.testBit_and,Nat.zero_testBit] at this
   rw[this];decide
 have lf:((List.range n).filter λi=>(jbi st sws).testBit i&&(jcw st sws).testBit i).length<=n:=by
  refine Nat.le_trans (List.length_filter_le _ _) ?_
  simp
 have ix0:∀h:MH,dIx (yd n sws) (.int 0) h= .ok (.int n) h:=λh=>by simp[yd]
 unfold jgx
 generalize hF:((List.range n).filter λi=>(jbi st sws).testBit i&&(jcw st sws).testBit i)=F at*
 have eq:dEq (.lst (F.map λk:Nat=>D.int k)) (.lst []) h= .ok (.bl (decide (jbi st sws&&&jcw st sws=0))) h:=by
  have h2:(D.lst []).dat=true:=by simp[D.dat,D.py,D.pys,D.deep,D.deeps]
  cases F with
  | nil=>
   rw[decide_eq_true (emp.mp rfl)]
   simp[h2,D.eq,D.eqs]
  | cons a r=>
   rw[decide_eq_false (λz=>by have:=emp.mpr z;cases this)]
   have h1:(D.lst ((a::r).map λk:Nat=>D.int k)).dat=true:=jkp (n:=1) (jha λd hd=>by
    obtain⟨k,_,rfl⟩:=List.mem_map.mp hd
    exact jia _ _) (by omega)
   rw[List.map_cons] at h1 ⊢
   simp[h1,h2,D.eq,D.eqs]
 generalize blL n (jbi st sws)=U at*
 generalize blL n (jcw st sws)=V at*
 simp[-dEq, -dIx,z_Xk,b_Xk,e1,e2,ix0,comp,eq,show n<4611686018427387904 by omega,show n<16777216 by omega]
theorem jx8(st k:Nat):(if st.testBit k=true then st - 2^k else st)=apart st k:=by
 unfold apart
 split
 ·rename_i q
  have:st&&&2^k=2^k:=Nat.eq_of_testBit_eq λi=>by
   rw[Nat.testBit_and,jbe]
   by_cases e:k=i
   ·subst e;simp[q]
   ·simp[e]
  rw[this]
 ·rename_i q
  have:st&&&2^k=0:=Nat.eq_of_testBit_eq λi=>by
   rw[Nat.testBit_and,jbe,Nat.zero_testBit]
   by_cases e:k=i
   ·subst e;simp at q;simp[q]
   ·simp[e]
  rw[this];rfl
def juy(st k:Nat)(w:Sw)(sws:List Sw):Bool:=match w with
 | .splitter a b=> !(Clo.clo (jca (apart st k) sws) (2^a)).testBit b&&decide (jbi (apart st k) sws&&&(2^a|||2^b)≠0)
 | _=>false
theorem ju4{n:Nat}{sws:List Sw}(st k:Nat)(w:Sw)(wok:w.ok n):jf1 st k w sws=juy st k w sws:=by
 cases w with
 | splitter a b=>
  show(decide ((2^a|||2^b)&&&jbi (apart st k) sws≠0)&&decide ((2^a|||2^b) - ((2^a|||2^b)&&&Clo.clo (jca (apart st k) sws) (low a b))≠0))=(!(Clo.clo (jca (apart st k) sws) (2^a)).testBit b&&decide (jbi (apart st k) sws&&&(2^a|||2^b)≠0))
  have e:=joj (jca (apart st k) sws) wok.2.2
  rw[Nat.and_comm (jbi (apart st k) sws)]
  cases q:(Clo.clo (jca (apart st k) sws) (2^a)).testBit b with
  | true=>
   have:¬((2^a|||2^b) - ((2^a|||2^b)&&&Clo.clo (jca (apart st k) sws) (low a b))≠0):=λz=>by rw[e.mp z] at q;cases q
   rw[decide_eq_false this,Bool.and_false];rfl
  | false=>
   rw[decide_eq_true (e.mpr q),Bool.and_true];rfl
 | _=>rfl
theorem jug(ok:jbx n sws)(st k:Nat)(w:Sw)(hw:sws[k]?=some w)(h:MH)(hb:Hb h):z_Qv [yd n sws,.int st,.int k] h= .ok (.bl (juy st k w sws)) h:=by
 have wok:=ok.2.2.2 w (List.mem_of_getElem? hw)
 have hk:k<sws.length:=(List.getElem?_eq_some_iff.mp hw).1
 have hl:=ok.2.2.1
 have hn:=ok.2.1
 have hx:atI (sws.map Sw.d) (k:Int)=some w.d:=jem (by rw[List.getElem?_map,hw];rfl)
 have ix:∀h:MH,dIx (yd n sws) (.int 1) h= .ok (.lst (sws.map Sw.d)) h:=λh=>by simp[-List.map_map,yd]
 have ix0:∀h:MH,dIx (yd n sws) (.int 0) h= .ok (.int n) h:=λh=>by simp[yd]
 have ix2:∀h:MH,dIx (.lst (sws.map Sw.d)) (.int k) h= .ok w.d h:=λh=>by simp[-List.map_map,hx]
 have no:∀(V:Str),¬(V=Str.ofString "splitter")->(∀h:MH,dIx w.d (.int 0) h= .ok (.str V) h)->juy st k w sws=false->z_Qv [yd n sws,.int st,.int k] h= .ok (.bl (juy st k w sws)) h:=by
  intro V hV i0 e
  rw[e]
  simp[-dIx,z_Qv,b_Qv,ix,ix2,i0,hV]
 cases w with
 | feed b=>exact no _ (λz=>k_sf z.symm) (λh=>by simp[Sw.d]) rfl
 | earth b=>exact no _ (λz=>k_se z.symm) (λh=>by simp[Sw.d]) rfl
 | breaker a b=>exact no _ (λz=>k_sb z.symm) (λh=>by simp[Sw.d]) rfl
 | splitter a b=>
  obtain⟨h1,h2,h3⟩:=wok
  have es:=jea st k h
  have o1:=okp (show k<=100 by omega)
  have i0:∀h:MH,dIx (Sw.splitter a b).d (.int 0) h= .ok (.str (Str.ofString "splitter")) h:=λh=>by simp[Sw.d]
  have i1:∀h:MH,dIx (Sw.splitter a b).d (.int 1) h= .ok (.int a) h:=λh=>by simp[Sw.d]
  have i2:∀h:MH,dIx (Sw.splitter a b).d (.int 2) h= .ok (.int b) h:=λh=>by simp[Sw.d]
  have comp:compLoop (jad 0) tYes (mBin dEq (mVar 0) (mBin dIx (mVar 1) (mC (.int 1)))) [none,some (Sw.splitter a b).d] (rng 0 n) h= .ok (blL n (2^a)) h:=by
   have er:rng 0 n=(List.range n).map λk:Nat=>D.int k:=by unfold rng;simp
   rw[er]
   unfold blL
   refine jbq (g:=jad 0) (t:=tYes) (h:=h) (m:=mBin dEq (mVar 0) (mBin dIx (mVar 1) (mC (.int 1)))) (ρ0:=[none,some (Sw.splitter a b).d]) (λk:Nat=>D.int k) (λk=>[some (.int k),some (Sw.splitter a b).d]) (λi=>D.bl ((2^a).testBit i)) (List.range n) (λi hi=>⟨rfl,rfl,?_⟩)
   show mBin dEq (mVar 0) (mBin dIx (mVar 1) (mC (.int 1))) [some (.int i),some (Sw.splitter a b).d] h= .ok (.bl ((2^a).testBit i)) h
   rw[jbe]
   have e3:decide ((i:Int)=(a:Int))=decide (a=i):=by
    by_cases q:a=i
    ·subst q;simp
    ·have:¬((i:Int)=(a:Int)):=by omega
     simp[q,this]
   simp[-dIx,i1,e3]
  have ap:=jx8 st k
  have e1:=jl0 ok (apart st k) (2^a) h hb
  have e2:=jrc ok (apart st k) h hb
  have a1:=jgm (S:=Clo.clo (jca (apart st k) sws) (2^a)) h2
  have a2:=jgm (S:=jbi (apart st k) sws) h1
  have a3:=jgm (S:=jbi (apart st k) sws) h2
  have lv:decide (jbi (apart st k) sws&&&(2^a|||2^b)≠0)=((jbi (apart st k) sws).testBit a||(jbi (apart st k) sws).testBit b):=by
   have:jbi (apart st k) sws&&&(2^a|||2^b)≠0↔((jbi (apart st k) sws).testBit a=true \/ (jbi (apart st k) sws).testBit b=true):=by
    rw[Clo.and_ne]
    constructor
    ·rintro⟨i,q1,q2⟩
     rw[Nat.testBit_or,jbe,jbe] at q2
     simp at q2
     rcases q2 with rfl | rfl
     ·exact .inl q1
     ·exact .inr q1
    ·rintro(q | q)
     ·exact⟨a,q,by rw[Nat.testBit_or,jbe];simp⟩
     ·exact⟨b,q,by rw[Nat.testBit_or,jbe,jbe];simp⟩
   cases x:(jbi (apart st k) sws).testBit a<;>cases y:(jbi (apart st k) sws).testBit b<;>simp_all
  show z_Qv [yd n sws,.int st,.int k] h= .ok (.bl (!(Clo.clo (jca (apart st k) sws) (2^a)).testBit b&&decide (jbi (apart st k) sws&&&(2^a|||2^b)≠0))) h
  rw[lv]
  have ln:(blL n (2^a)).length=n:=jj8 _ _
  generalize blL n (Clo.clo (jca (apart st k) sws) (2^a))=U at*
  generalize blL n (jbi (apart st k) sws)=V at*
  generalize (Clo.clo (jca (apart st k) sws) (2^a)).testBit b=u at*
  generalize (jbi (apart st k) sws).testBit a=v1 at*
  generalize (jbi (apart st k) sws).testBit b=v2 at*
  have j1:dIx (.lst U) (.int b) h= .ok (.bl u) h:=by simp[a1]
  have j2:dIx (.lst V) (.int a) h= .ok (.bl v1) h:=by simp[a2]
  have j3:dIx (.lst V) (.int b) h= .ok (.bl v2) h:=by simp[a3]
  have two:(2:Int)^k=((2^k:Nat):Int):=by simp
  cases q:st.testBit k with
  | false=>
   rw[q] at es ap
   simp at ap
   rw[<-ap] at e1 e2
   cases u<;>cases v1<;>cases v2<;>simp[-dIx,z_Qv,b_Qv,ix,ix0,ix2,i0,i1,i2,es,comp,e1,e2,j1,j2,j3,ln,show n<4611686018427387904 by omega,show n<16777216 by omega]
  | true=>
   rw[q] at es ap
   simp only[if_true] at ap
   have le:2^k<=st:=by
    exact Nat.ge_two_pow_of_testBit q
   have sb:(st:Int) - 2^k=((apart st k:Nat):Int):=by rw[<-ap,two];omega
   cases u<;>cases v1<;>cases v2<;>simp[-dIx,z_Qv,b_Qv,ix,ix0,ix2,i0,i1,i2,es,comp,o1,sb,e1,e2,j1,j2,j3,ln,show n<4611686018427387904 by omega,show n<16777216 by omega]
def jtt(st k:Nat)(w:Sw)(sws:List Sw):Int:=if jf1 st k w sws=true then 3 else if jgx (st^^^2^k) sws=true then -1 else 4
theorem due_ok(ok:jbx n sws)(st k:Nat)(w:Sw)(hw:sws[k]?=some w)(h:MH)(hb:Hb h):z_Qg [yd n sws,.int st,.int k] h= .ok (.int (jtt st k w sws)) h:=by
 have wok:=ok.2.2.2 w (List.mem_of_getElem? hw)
 have hk:k<sws.length:=(List.getElem?_eq_some_iff.mp hw).1
 have hl:=ok.2.2.1
 have e1:=jug ok st k w hw h hb
 rw[<-ju4 st k w wok] at e1
 have e2:=safe30 ok (st^^^2^k) h hb
 have o1:=okp (show k<=100 by omega)
 have x1:=bxor st (2^k)
 simp at x1
 unfold jtt
 cases q:jf1 st k w sws with
 | true=>rw[q] at e1;simp[z_Qg,b_Qg,e1]
 | false=>
  rw[q] at e1
  cases q2:jgx (st^^^2^k) sws with
  | true=>rw[q2] at e2;simp[z_Qg,b_Qg,e1,o1,x1,e2]
  | false=>rw[q2] at e2;simp[z_Qg,b_Qg,e1,o1,x1,e2]
theorem js7(ns:List Int)(k:Nat)(h:MH):z_Ql [.arg ns,.int k] h= .ok (.int (ns.getD k 0)) h:=by
 by_cases hk:k<ns.length
 ·simp[z_Ql,b_Ql,hk,atI,ixN]
 ·simp[z_Ql,b_Ql,hk]
theorem jm3{x:Int}(h:0<=x):∃a:Nat,x=a:=⟨x.toNat,(Int.toNat_of_nonneg h).symm⟩
theorem jto{x y n:Int}(hx:0<=x)(hx2:x<n)(hy:0<=y)(hy2:y<n - 1):(x+1+y) % n≠x:=by
 intro e
 by_cases z:x+1+y<n
 ·rw[Int.emod_eq_of_lt (by omega) z] at e;omega
 ·have:(x+1+y) % n=x+1+y - n:=by rw[<-Int.sub_emod_right,Int.emod_eq_of_lt (by omega) (by omega)]
  omega
def four:List Str:=[Str.ofString "feed",Str.ofString "earth",Str.ofString "breaker",Str.ofString "splitter"]
theorem sw30(v:Int)(K:Str)(n:Nat)(h1:1<=n)(hn:n<=10)(hK:K∈four)(h2:n=1->K=Str.ofString "feed" \/ K=Str.ofString "earth")(h:MH):∃s:Sw,s.ok n /\ z_Qw [.int v,.str K,.int n] h= .ok s.d h:=by
 obtain⟨b,eb⟩:=jm3 (x:=v / 4 % (n:Int)) (Int.emod_nonneg _ (by omega))
 have lb:b<n:=by have:=Int.emod_lt_of_pos (v / 4) (b:=(n:Int)) (by omega);omega
 have hn0:0<n:=by omega
 have two:K=Str.ofString "breaker" \/ K=Str.ofString "splitter"->2<=n:=λq=>by
  rcases Nat.lt_or_ge 1 n with z | z
  ·exact z
  ·have:n=1:=by omega
   rcases h2 this with rfl | rfl
   ·rcases q with q | q
    ·exact absurd q.symm k_bf
    ·exact absurd q.symm k_sf
   ·rcases q with q | q
    ·exact absurd q.symm k_be
    ·exact absurd q.symm k_se
 have f1:¬(Str.ofString "feed"=Str.ofString "earth"):=k_ef
 simp only[four,List.mem_cons,List.not_mem_nil,or_false] at hK
 rcases hK with rfl | rfl | hK
 ·exact⟨.feed b,lb,by simp[z_Qw,b_Qw,hn0,eb,flat,eqF,Sw.d]⟩
 ·exact⟨.earth b,lb,by simp[z_Qw,b_Qw,hn0,eb,flat,eqF,Sw.d]⟩
 ·have n2:=two hK
  obtain⟨d,ed⟩:=jm3 (x:=v / 40 % ((n:Int) - 1)) (Int.emod_nonneg _ (by omega))
  have ld:(d:Int)<(n:Int) - 1:=by have:=Int.emod_lt_of_pos (v / 40) (b:=(n:Int) - 1) (by omega);omega
  obtain⟨c,ec⟩:=jm3 (x:=((b:Int)+1+d) % (n:Int)) (Int.emod_nonneg _ (by omega))
  have lc:c<n:=by have:=Int.emod_lt_of_pos ((b:Int)+1+d) (b:=(n:Int)) (by omega);omega
  have ne:b≠c:=λz=>jto (x:=b) (y:=d) (n:=n) (by omega) (by omega) (by omega) ld (by rw[ec,z])
  have p1:(1:Int)<(n:Int):=by omega
  rcases hK with rfl | rfl
  ·have q1:¬(Str.ofString "feed"=Str.ofString "breaker"):=λz=>k_bf z.symm
   have q2:¬(Str.ofString "earth"=Str.ofString "breaker"):=λz=>k_be z.symm
   exact⟨.breaker b c,⟨lb,lc,ne⟩,by simp[z_Qw,b_Qw,hn0,eb,flat,eqF,q1,q2,p1,ed,ec,Sw.d]⟩
  ·have q1:¬(Str.ofString "feed"=Str.ofString "splitter"):=λz=>k_sf z.symm
   have q2:¬(Str.ofString "earth"=Str.ofString "splitter"):=λz=>k_se z.symm
   exact⟨.splitter b c,⟨lb,lc,ne⟩,by simp[z_Qw,b_Qw,hn0,eb,flat,eqF,q1,q2,p1,ed,ec,Sw.d]⟩
def kl:List Str:=[Str.ofString "feed",Str.ofString "splitter",Str.ofString "earth",Str.ofString "breaker",Str.ofString "earth",Str.ofString "splitter",Str.ofString "feed",Str.ofString "earth",Str.ofString "breaker",Str.ofString "splitter",Str.ofString "earth",Str.ofString "feed"]
theorem jru:∀K∈kl,K∈four:=by
 intro K h
 simp only[kl,four,List.mem_cons,List.not_mem_nil,or_false] at h ⊢
 rcases h with h | h | h | h | h | h | h | h | h | h | h | h<;>simp[h]
theorem kl_at{j:Nat}(hj:j<12):∃K∈kl,atI (kl.map D.str) (j:Int)=some (.str K):=by
 have hl:j<kl.length:=hj
 refine⟨kl[j],List.getElem_mem _,jem ?_⟩
 rw[List.getElem?_map,List.getElem?_eq_getElem hl];rfl
theorem jxx(ns:List Int)(c:Int)(n m j:Nat)(h1:1<=n)(hn:n<=10)(hj:j<m)(hm:m<=12)(acc:List Sw)(ha:acc.length<=12)(x7 x8:Option D)(h:MH):
  ∃s x7' x8',Sw.ok n s /\ jb0 [some (.arg ns),some (.int c),some (.int n),some (.int m),some (.lst (kl.map D.str)),some (.ref h.length),some (.int j),x7,x8] (h++[some (.lst (acc.map Sw.d))])= .nx [some (.arg ns),some (.int c),some (.int n),some (.int m),some (.lst (kl.map D.str)),some (.ref h.length),some (.int j),x7',x8'] (h++[some (.lst ((acc++[s]).map Sw.d))]):=by
 have o1:jms 31 (j:Int):= .inl (by decide)
 have o2:jms (31*(j:Int)) (j:Int):= .inr (by omega)
 have hm0:0<m:=by omega
 obtain⟨v,ev⟩:∃v,(jj3 ns (some (1+(j:Int))) none (m:Int)).sum+31*(j:Int)*(j:Int)=v:=⟨_,rfl⟩
 obtain⟨K0,k0,a0⟩:=kl_at (show j<12 by omega)
 obtain⟨i4,e4⟩:=jm3 (x:=v % 4) (Int.emod_nonneg _ (by decide))
 have l4:i4<4:=by have:=Int.emod_lt_of_pos v (b:=4) (by decide);omega
 obtain⟨K4,k4,a4⟩:=kl_at (show i4<12 by omega)
 have v2:v % 2=0 \/ v % 2=1:=by omega
 have lx:(acc.map Sw.d).length<16777216:=by rw[List.length_map];omega
 have gl:∀s:Sw,acc.map Sw.d++[s.d]=(acc++[s]).map Sw.d:=λs=>by simp
 have fin_:∀K:Str,K∈four->(n=1->K=Str.ofString "feed" \/ K=Str.ofString "earth")->jb0 [some (.arg ns),some (.int c),some (.int n),some (.int m),some (.lst (kl.map D.str)),some (.ref h.length),some (.int j),x7,x8] (h++[some (.lst (acc.map Sw.d))])=(jdj (mVar 5) (jaw z_Qw (ja3 (mVar 7) (ja3 (mVar 8) (ja3 (mVar 2) mNil))))) [some (.arg ns),some (.int c),some (.int n),some (.int m),some (.lst (kl.map D.str)),some (.ref h.length),some (.int j),some (.int v),some (.str K)] (h++[some (.lst (acc.map Sw.d))])->∃s x7' x8',Sw.ok n s /\ jb0 [some (.arg ns),some (.int c),some (.int n),some (.int m),some (.lst (kl.map D.str)),some (.ref h.length),some (.int j),x7,x8] (h++[some (.lst (acc.map Sw.d))])= .nx [some (.arg ns),some (.int c),some (.int n),some (.int m),some (.lst (kl.map D.str)),some (.ref h.length),some (.int j),x7',x8'] (h++[some (.lst ((acc++[s]).map Sw.d))]):=by
  intro K hK h2 e
  obtain⟨s,so,es⟩:=sw30 v K n h1 hn hK h2 (h++[some (.lst (acc.map Sw.d))])
  refine⟨s,some (.int v),some (.str K),so,?_⟩
  rw[e]
  have g:=gl s
  generalize acc.map Sw.d=A at*
  simp[es,lx,g]
 have last:∀K1:Str,K1∈four->(∀(K:Str),(n=1->K=Str.ofString "feed" \/ K=Str.ofString "earth")->(n≠1->K=K1)->(n=1->(K=Str.ofString "feed" /\ v % 2=0) \/ (K=Str.ofString "earth" /\ v % 2=1))->jb0 [some (.arg ns),some (.int c),some (.int n),some (.int m),some (.lst (kl.map D.str)),some (.ref h.length),some (.int j),x7,x8] (h++[some (.lst (acc.map Sw.d))])=(jdj (mVar 5) (jaw z_Qw (ja3 (mVar 7) (ja3 (mVar 8) (ja3 (mVar 2) mNil))))) [some (.arg ns),some (.int c),some (.int n),some (.int m),some (.lst (kl.map D.str)),some (.ref h.length),some (.int j),some (.int v),some (.str K)] (h++[some (.lst (acc.map Sw.d))]))->∃s x7' x8',Sw.ok n s /\ jb0 [some (.arg ns),some (.int c),some (.int n),some (.int m),some (.lst (kl.map D.str)),some (.ref h.length),some (.int j),x7,x8] (h++[some (.lst (acc.map Sw.d))])= .nx [some (.arg ns),some (.int c),some (.int n),some (.int m),some (.lst (kl.map D.str)),some (.ref h.length),some (.int j),x7',x8'] (h++[some (.lst ((acc++[s]).map Sw.d))]):=by
  intro K1 hK1 q
  by_cases n1:n=1
  ·rcases v2 with v2 | v2
   ·exact fin_ (Str.ofString "feed") (by simp[four]) (λ_=> .inl rfl) (q _ (λ_=> .inl rfl) (λz=>absurd n1 z) (λ_=> .inl ⟨rfl,v2⟩))
   ·exact fin_ (Str.ofString "earth") (by simp[four]) (λ_=> .inr rfl) (q _ (λ_=> .inr rfl) (λz=>absurd n1 z) (λ_=> .inr ⟨rfl,v2⟩))
  ·exact fin_ K1 hK1 (λz=>absurd z n1) (q _ (λz=>absurd z n1) (λ_=>rfl) (λz=>absurd z n1))
 have f0:atI [D.str (Str.ofString "feed"),D.str (Str.ofString "earth")] 0=some (.str (Str.ofString "feed")):=by simp[atI,ixN]
 have f1:atI [D.str (Str.ofString "feed"),D.str (Str.ofString "earth")] 1=some (.str (Str.ofString "earth")):=by simp[atI,ixN]
 generalize hkl:kl.map D.str=KL at*
 by_cases q1:c / 2016 % 2=1
 ·refine last K4 (jru K4 k4) λK _ z1 z2=> ?_
  by_cases n1:n=1
  ·rcases z2 n1 with⟨rfl,v2⟩ | ⟨rfl,v2⟩
   ·simp[-jdj,jb0,hm0,o1,o2,ev,a0,q1,e4,a4,v2,n1,f0,f1]
   ·simp[-jdj,jb0,hm0,o1,o2,ev,a0,q1,e4,a4,v2,n1,f0,f1]
  ·have:=z1 n1
   subst this
   have n1':¬((n:Int)=1):=by omega
   simp[-jdj,jb0,hm0,o1,o2,ev,a0,q1,e4,a4,n1,n1']
 ·refine last K0 (jru K0 k0) λK _ z1 z2=> ?_
  by_cases n1:n=1
  ·rcases z2 n1 with⟨rfl,v2⟩ | ⟨rfl,v2⟩
   ·simp[-jdj,jb0,hm0,o1,o2,ev,a0,q1,v2,n1,f0,f1]
   ·simp[-jdj,jb0,hm0,o1,o2,ev,a0,q1,v2,n1,f0,f1]
  ·have:=z1 n1
   subst this
   have n1':¬((n:Int)=1):=by omega
   simp[-jdj,jb0,hm0,o1,o2,ev,a0,q1,n1,n1']
theorem jn0(ns:List Int)(c:Int)(n m:Nat)(h1:1<=n)(hn:n<=10)(hm:m<=12)(h:MH):∀(ks:List Nat) (acc:List Sw) (x6 x7 x8:Option D),(∀j∈ks,j<m)->acc.length+ks.length<=12->(∀s∈acc,s.ok n)->
  ∃(sws:List Sw) (x6' x7' x8':Option D),sws.length=acc.length+ks.length /\ (∀s∈sws,Sw.ok n s) /\ jc7 (jad 6) jb0 (ks.map λk:Nat=>D.int k) [some (.arg ns),some (.int c),some (.int n),some (.int m),some (.lst (kl.map D.str)),some (.ref h.length),x6,x7,x8] (h++[some (.lst (acc.map Sw.d))])= .nx [some (.arg ns),some (.int c),some (.int n),some (.int m),some (.lst (kl.map D.str)),some (.ref h.length),x6',x7',x8'] (h++[some (.lst (sws.map Sw.d))])
 | [],acc,x6,x7,x8,_,_,ha=>⟨acc,x6,x7,x8,by simp,ha,rfl⟩
 | j::ks,acc,x6,x7,x8,hk,hl,ha=>by
  simp only[List.length_cons] at hl
  obtain⟨s,y7,y8,so,e1⟩:=jxx ns c n m j h1 hn (hk j (List.mem_cons_self ..)) hm acc (by omega) x7 x8 h
  obtain⟨sws,z6,z7,z8,p1,p2,e2⟩:=jn0 ns c n m h1 hn hm h ks (acc++[s]) (some (.int j)) y7 y8 (λi m=>hk i (List.mem_cons_of_mem _ m)) (by rw[List.length_append,List.length_singleton];omega) (λw mw=>by
   rcases List.mem_append.mp mw with mw | mw
   ·exact ha w mw
   ·rw[List.mem_singleton.mp mw];exact so)
  refine⟨sws,z6,z7,z8,by rw[p1,List.length_append,List.length_singleton,List.length_cons];omega,p2,?_⟩
  rw[List.map_cons]
  unfold jc7
  simp only[jad,List.set_cons_succ,List.set_cons_zero,e1]
  exact e2
theorem yard30(ns:List Int)(h:MH)(hb:Hb h):∃n sws,jbx n sws /\ z_Xb [.arg ns] h= .ok (yd n sws) h:=by
 have e0:=js7 ns 0 h
 generalize ns.getD 0 0=c at e0
 have e0:z_Ql [.arg ns,.int 0] h= .ok (.int c) h:=e0
 obtain⟨i,ei⟩:=jm3 (x:=c % 7) (Int.emod_nonneg _ (by decide))
 have li:i<7:=by have:=Int.emod_lt_of_pos c (b:=7) (by decide);omega
 obtain⟨n,h1,hn,an⟩:∃n:Nat,1<=n /\ n<=10 /\ atI [D.int 3,D.int 4,D.int 5,D.int 10,D.int 2,D.int 7,D.int 1] (i:Int)=some (.int n):=by
  match i,li with
  | 0,_=>exact⟨3,by omega,by omega,rfl⟩
  | 1,_=>exact⟨4,by omega,by omega,rfl⟩
  | 2,_=>exact⟨5,by omega,by omega,rfl⟩
  | 3,_=>exact⟨10,by omega,by omega,rfl⟩
  | 4,_=>exact⟨2,by omega,by omega,rfl⟩
  | 5,_=>exact⟨7,by omega,by omega,rfl⟩
  | 6,_=>exact⟨1,by omega,by omega,rfl⟩
 obtain⟨k,ek⟩:=jm3 (x:=c / 7 % 9) (Int.emod_nonneg _ (by decide))
 have lk:k<9:=by have:=Int.emod_lt_of_pos (c / 7) (b:=9) (by decide);omega
 obtain⟨m0,hm0,am⟩:∃m:Nat,m<=12 /\ atI [D.int 8,D.int 6,D.int 5,D.int 4,D.int 7,D.int 3,D.int 2,D.int 1,D.int 0] (k:Int)=some (.int m):=by
  match k,lk with
  | 0,_=>exact⟨8,by omega,rfl⟩
  | 1,_=>exact⟨6,by omega,rfl⟩
  | 2,_=>exact⟨5,by omega,rfl⟩
  | 3,_=>exact⟨4,by omega,rfl⟩
  | 4,_=>exact⟨7,by omega,rfl⟩
  | 5,_=>exact⟨3,by omega,rfl⟩
  | 6,_=>exact⟨2,by omega,rfl⟩
  | 7,_=>exact⟨1,by omega,rfl⟩
  | 8,_=>exact⟨0,by omega,rfl⟩
 obtain⟨q9,e9⟩:=jm3 (x:=c / 504 % 4) (Int.emod_nonneg _ (by decide))
 have l9:q9<4:=by have:=Int.emod_lt_of_pos (c / 504) (b:=4) (by decide);omega
 obtain⟨m,hm,em⟩:∃m:Nat,m<=12 /\ (m:Int)=if c / 63 % 8=1 then 9+(q9:Int) else(m0:Int):=by
  by_cases q:c / 63 % 8=1
  ·exact⟨9+q9,by omega,by rw[if_pos q];omega⟩
  ·exact⟨m0,hm0,by rw[if_neg q]⟩
 obtain⟨sws,x6,x7,x8,p1,p2,e1⟩:=jn0 ns c n m h1 hn hm h (List.range m) [] none none none (λj hj=>List.mem_range.mp hj) (by simp;exact hm) (λs ms=>by cases ms)
 have er:rng 0 m=(List.range m).map λk:Nat=>D.int k:=by unfold rng;simp
 rw[<-er] at e1
 refine⟨n,sws,⟨h1,hn,by rw[p1];simp;exact hm,p2⟩,?_⟩
 have kk:[D.str (Str.ofString "feed"),D.str (Str.ofString "splitter"),D.str (Str.ofString "earth"),D.str (Str.ofString "breaker"),D.str (Str.ofString "earth"),D.str (Str.ofString "splitter"),D.str (Str.ofString "feed"),D.str (Str.ofString "earth"),D.str (Str.ofString "breaker"),D.str (Str.ofString "splitter")]++[D.str (Str.ofString "earth"),D.str (Str.ofString "feed")]=kl.map D.str:=rfl
 have eb:b_Xb=(sSeq (sAsg (jaw z_Ql (ja3 (mVar 0) (ja3 (mC (.int 0)) mNil))) (jad 1))
   (sSeq (sAsg (mBin dIx (jbh (jc3 (ja3 (mC (.int 3)) (ja3 (mC (.int 4)) (ja3 (mC (.int 5)) (ja3 (mC (.int 10)) (ja3 (mC (.int 2)) (ja3 (mC (.int 7)) (ja3 (mC (.int 1)) mNil))))))))) (mBin dMod (mVar 1) (mC (.int 7)))) (jad 2))
   (sSeq (sAsg (mBin dIx (jbh (jc3 (ja3 (mC (.int 8)) (ja3 (mC (.int 6)) (ja3 (mC (.int 5)) (ja3 (mC (.int 4)) (ja3 (mC (.int 7)) (ja3 (mC (.int 3)) (ja3 (mC (.int 2)) (ja3 (mC (.int 1)) (ja3 (mC (.int 0)) mNil))))))))))) (mBin dMod (mBin dDiv (mVar 1) (mC (.int 7))) (mC (.int 9)))) (jad 3))
   (sSeq (sIf (tB (mBin dEq (mBin dMod (mBin dDiv (mVar 1) (mC (.int 63))) (mC (.int 8))) (mC (.int 1))))
   (sAsg (mBin dAdd (mC (.int 9)) (mBin dMod (mBin dDiv (mVar 1) (mC (.int 504))) (mC (.int 4)))) (jad 3))
   jb2)
   (sSeq (sAsg (jbh (jc3 (ja3 (mC (.str "feed")) (ja3 (mC (.str "splitter")) (ja3 (mC (.str "earth")) (ja3 (mC (.str "breaker")) (ja3 (mC (.str "earth")) (ja3 (mC (.str "splitter")) (ja3 (mC (.str "feed")) (ja3 (mC (.str "earth")) (ja3 (mC (.str "breaker")) (ja3 (mC (.str "splitter")) mNil)))))))))))) (jad 4))
   (sSeq (sAsg (mBin dAdd (mVar 4) (jbh (jc3 (ja3 (mC (.str "earth")) (ja3 (mC (.str "feed")) mNil))))) (jad 4))
   (sSeq (sAsg (jga (jc3 mNil)) (jad 5))
   (sSeq (sFor (jfm (ja3 (mVar 3) mNil)) (jad 6) jb0)
   (jey 5 (sRet (mTup (ja3 (mVar 2) (ja3 (mVar 5) mNil))))))))))))):=rfl
 have e1:jc7 (jad 6) jb0 (rng 0 m) [some (.arg ns),some (.int c),some (.int n),some (.int m),some (.lst (kl.map D.str)),some (.ref h.length),none,none,none] (h++[some (.lst [])])=_:=e1
 refine jgz (b:=b_Xb) (np:=1) (nn:=9) (ds:=[.arg ns]) (J:=[none]) rfl ?_ hb (by
  simp only[yd,D.bnd,D.bnds,Bool.true_and,Bool.and_true]
  exact jfd λd hd=>by
   obtain⟨s,_,rfl⟩:=List.mem_map.mp hd
   cases s<;>simp[Sw.d,D.bnd,D.bnds])
 show b_Xb [some (.arg ns),none,none,none,none,none,none,none,none] h=_
 rw[eb]
 generalize hkl:kl.map D.str=KL at*
 simp only[List.cons_append,List.nil_append] at kk
 by_cases q:c / 63 % 8=1
 ·rw[if_pos q] at em
  simp[e0,ei,an,ek,am,q,e9,<-em,kk,e1,yd,show m<4611686018427387904 by omega]
 ·rw[if_neg q] at em
  have em:m=m0:=by omega
  subst em
  simp[e0,ei,an,ek,am,q,kk,e1,yd,show m<4611686018427387904 by omega]
theorem jlv{n:Nat}{sws:List Sw}(hl:sws.length<=12)(a b lk5:Option D)(lk:Nat)(x5:Option D)(h:MH):∀(ks:List Nat) (f:Nat) (x:Option D),ks.Nodup->(∀k∈ks,k<sws.length)->(∀k∈ks,f.testBit k=false)->
  ∃(x':Option D) (f':Nat),(∀i,f'.testBit i=(f.testBit i||(decide (i∈ks)&& !lk.testBit i))) /\ jc7 (jad 4) jc0 (ks.map λk:Nat=>D.int k) [a,b,some (.int lk),some (.int f),x,x5] h= .nx [a,b,some (.int lk),some (.int f'),x',x5] h
 | [],f,x,_,_,_=>⟨x,f,λi=>by simp,rfl⟩
 | k::ks,f,x,nd,hk,hf=>by
  obtain⟨n1,n2⟩:=List.nodup_cons.mp nd
  have hk1:=hk k (List.mem_cons_self ..)
  have o1:=okp (show k<=100 by omega)
  have s1:=jea lk k h
  have f1:=hf k (List.mem_cons_self ..)
  rw[List.map_cons]
  unfold jc7
  cases q:lk.testBit k with
  | true=>
   rw[q] at s1
   obtain⟨x',f',p1,p2⟩:=jlv (n:=n) hl a b lk5 lk x5 h ks f (some (.int k)) n2 (λj m=>hk j (List.mem_cons_of_mem _ m)) (λj m=>hf j (List.mem_cons_of_mem _ m))
   refine⟨x',f',λi=> ?_,?_⟩
   ·rw[p1]
    by_cases e:i=k
    ·subst e;simp[q]
    ·simp[e]
   ·simp[-List.map_map,jc0,s1]
    rw[jc0] at p2
    exact p2
  | false=>
   rw[q] at s1
   have ad:=jmw f1
   obtain⟨x',f',p1,p2⟩:=jlv (n:=n) hl a b lk5 lk x5 h ks (f|||2^k) (some (.int k)) n2 (λj m=>hk j (List.mem_cons_of_mem _ m)) (λj m=>by
    rw[Nat.testBit_or,hf j (List.mem_cons_of_mem _ m),jbe]
    have:¬k=j:=λz=>n1 (z▸m)
    simp[this])
   refine⟨x',f',λi=> ?_,?_⟩
   ·rw[p1,Nat.testBit_or,jbe]
    by_cases e:i=k
    ·subst e;simp[q]
    ·have:¬k=i:=λz=>e z.symm
     simp[e,this]
   ·have e1:(f:Int)+2^k=((f|||2^k:Nat):Int):=by rw[<-ad];simp
    simp[-List.map_map,jc0,s1,o1,e1]
    simp[jc0] at p2
    exact p2
theorem rng0(m:Nat):rng 0 m=(List.range m).map λk:Nat=>D.int k:=by unfold rng;simp
theorem jqf(ok:jbx n sws)(pl lk:Nat)(h:MH)(hb:Hb h):z_X4 [yd n sws,.int pl,.int lk] h= .ok (.bl (jis sws pl lk)) h:=by
 have hl:=ok.2.2.1
 have hn:=ok.2.1
 obtain⟨x',f',p1,p2⟩:=jlv (n:=n) hl (some (yd n sws)) (some (.int pl)) none lk none h (List.range sws.length) 0 none List.nodup_range (λk m=>List.mem_range.mp m) (λk _=>by simp)
 have ef:f'=jm2 sws lk:=Nat.eq_of_testBit_eq λi=>by
  rw[p1,jxe]
  simp
 subst ef
 rw[<-rng0] at p2
 have ix:∀h:MH,dIx (yd n sws) (.int 1) h= .ok (.lst (sws.map Sw.d)) h:=λh=>by simp[-List.map_map,yd]
 have ix0:∀h:MH,dIx (yd n sws) (.int 0) h= .ok (.int n) h:=λh=>by simp[yd]
 have e1:=jrc ok (jm2 sws lk) h hb
 have L:=jrm ok (jm2 sws lk)
 unfold jis
 generalize jbi (jm2 sws lk) sws=S at*
 have comp:compLoop (jad 0) (tAnd (tTru (mBin dIx (mVar 1) (mVar 0))) (tTru (jaw z_Xj (ja3 (mVar 2) (ja3 (mVar 0) mNil))))) (mVar 0) [none,some (.lst (blL n S)),some (.int pl)] (rng 0 n) h= .ok (((List.range n).filter λi=>S.testBit i&&pl.testBit i).map λk:Nat=>D.int k) h:=by
  rw[rng0]
  refine jcv (λk:Nat=>D.int k) (λk=>[some (.int k),some (.lst (blL n S)),some (.int pl)]) (λi=>S.testBit i&&pl.testBit i) (λk=>D.int k) (List.range n) λk hk=>⟨by simp,?_,by simp⟩
  have hk:=List.mem_range.mp hk
  have a1:=jgm (n:=n) (S:=S) hk
  have s1:=jea pl k h
  cases q:S.testBit k<;>rw[q] at a1<;>simp[a1,s1]
 have len:∀l:List Nat,dEq (.lst (l.map λk:Nat=>D.int k)) (.lst []) h= .ok (.bl l.isEmpty) h:=λl=>by
  have h1:(D.lst (l.map λk:Nat=>D.int k)).dat=true:=jkp (n:=1) (jha λd hd=>by
   obtain⟨k,_,rfl⟩:=List.mem_map.mp hd
   exact jia _ _) (by omega)
  have h2:(D.lst []).dat=true:=by simp[D.dat,D.py,D.pys,D.deep,D.deeps]
  unfold dEq
  simp only[h1,h2,and_self,if_true]
  cases l<;>simp[D.eq,D.eqs]
 have fin:(((List.range n).filter λi=>S.testBit i&&pl.testBit i).isEmpty)=decide (S&&&pl=0):=by
  by_cases q:S&&&pl=0
  ·rw[decide_eq_true q,List.isEmpty_iff,List.filter_eq_nil_iff]
   intro i hi
   have:(S&&&pl).testBit i=false:=by rw[q];simp
   rw[Nat.testBit_and] at this
   simpa using this
  ·rw[decide_eq_false q]
   obtain⟨i,h1,h2⟩:=Clo.and_ne.mp q
   have:i∈(List.range n).filter λi=>S.testBit i&&pl.testBit i:=List.mem_filter.mpr ⟨List.mem_range.mpr (L i h1),by simp[h1,h2]⟩
   cases hh:(List.range n).filter λi=>S.testBit i&&pl.testBit i with
   | nil=>rw[hh] at this;cases this
   | cons a l=>rfl
 have e2:=len ((List.range n).filter λi=>S.testBit i&&pl.testBit i)
 rw[fin] at e2
 have p3:jc7 (jad 4) jc0 (rng 0 sws.length) [some (yd n sws),some (.int pl),some (.int lk),some (.int 0),none,none] h=_:=p2
 simp[-List.map_map, -dIx, -dEq,z_X4,b_X4,ix,ix0,p3,e1,comp,e2,show sws.length<4611686018427387904 by omega,show n<4611686018427387904 by omega,show n<16777216 by omega]
theorem jur(c:Int)(m:Nat)(h:MH):∃v:Int,z_Qx [.int c,.int m] h= .ok (.int v) h:=by
 have o1:ji3 10 29:=by decide
 have o2:ji3 10 9:=by decide
 have p0:(0:Int)<(m:Int)+2:=by omega
 by_cases q:c % 16=15
 ·have q2:c / 16 % 2=0 \/ c / 16 % 2=1:=by omega
  have f0:∀a b:D,atI [a,b] 0=some a:=λa b=>by simp[atI,ixN]
  have f1:∀a b:D,atI [a,b] 1=some b:=λa b=>by simp[atI,ixN]
  rcases q2 with q2 | q2
  ·exact⟨_,by simp[z_Qx,b_Qx,q,o1,o2,q2,f0];rfl⟩
  ·exact⟨_,by simp[z_Qx,b_Qx,q,o1,o2,q2,f1];rfl⟩
 ·exact⟨c / 16 % ((m:Int)+2) - 1,by simp[z_Qx,b_Qx,q,p0]⟩
theorem is_ok(a b:Nat)(h:MH):z_Xs [.int a,.int b] h= .ok (.bl (decide (a=b))) h:=by
 by_cases q:a=b
 ·simp[z_Xs,b_Xs,q]
 ·have:¬((a:Int)=(b:Int)):=by omega
  simp[z_Xs,b_Xs,q,this]
theorem jji(a:Nat)(h:MH):z_Xs [.int a,.int a] h= .ok (.bl true) h:=by
 have:=is_ok a a h
 simpa using this
theorem nil_eq(h:MH):dEq (.lst []) (.lst []) h= .ok (.bl true) h:=by
 have h2:(D.lst []).dat=true:=by simp[D.dat,D.py,D.pys,D.deep,D.deeps]
 simp[h2,D.eq,D.eqs]
def jg8:List String:=["NoSwitch","Locked","Held","Loaded","Shorted","NoLock","NotOpen","NotLocked","NoBar","NotEarthed","NotDead","NoPermit","NoRow","NoMeasure","Same"]
def rais:List String:=w_Xd.map (·.1)
theorem jdy:∀c∈rais,∀n∈jg8,jcl.lookup (c,true,n)=some (decide (c=n)):=by decide+kernel
theorem xl_v:∀c∈rais,jcl.lookup (c,false,"ValueError")=some true:=by decide+kernel
theorem wl_all:∀c∈rais,w_Xd.lookup c=some true:=by decide+kernel
def jg3(d:Int):List D:=(List.range 16).map λk:Nat=>D.bl (decide ((k:Int)=d))
theorem comp16(d:Int)(h:MH):compLoop (jad 0) tYes (mBin dEq (mVar 0) (mVar 1)) [none,some (.int d)] (rng 0 16) h= .ok (jg3 d) h:=by
 have er:rng 0 16=(List.range 16).map λk:Nat=>D.int k:=by unfold rng;simp
 rw[er]
 exact jbq (g:=jad 0) (t:=tYes) (h:=h) (m:=mBin dEq (mVar 0) (mVar 1)) (ρ0:=[none,some (.int d)]) (λk:Nat=>D.int k) (λk=>[some (.int k),some (.int d)]) (λi=>D.bl (decide ((i:Int)=d))) (List.range 16) (λi hi=>⟨by simp,by simp,by simp⟩)
theorem bl_dat{l:List D}(hl:∀d∈l,∃b,d= .bl b):(D.lst l).dat=true:=jkp (n:=1) (jha λd md=>by
  obtain⟨b,rfl⟩:=hl d md
  simp[D.py,D.deep]) (by omega)
theorem eq16(l:List D)(hl:∀d∈l,∃b,d= .bl b)(h:MH):dEq (.lst l) (.lst l) h= .ok (.bl true) h:=by
 have hd:=bl_dat hl
 have he:=jpa hd
 unfold dEq
 simp only[hd,he,and_self,if_true]
theorem jyp(d:Int):∀x∈jg3 d,∃b,x= .bl b:=λx mx=>by
 obtain⟨k,_,rfl⟩:=List.mem_map.mp mx
 exact⟨_,rfl⟩
def jwr(c:String):List Bool:=jg8.map (λn=>decide (c=n))++[false]
def jne(c:String):List D:=(jwr c).map D.bl
theorem js2:∀d:Fin 15,jwr (jg8.getD d.val "")=(List.range 16).map (λk=>decide (k=d.val)):=by decide+kernel
theorem jql{c:String}{d:Nat}(h:jg8[d]?=some c):jne c=jg3 (d:Int):=by
 obtain⟨hd,e⟩:=List.getElem?_eq_some_iff.mp h
 have:=js2 ⟨d,hd⟩
 rw[show jg8.getD d ""=c by rw[List.getD_eq_getElem?_getD,h];rfl] at this
 unfold jne jg3
 rw[this,List.map_map]
 refine List.map_congr_left λk _=> ?_
 simp only[Function.comp]
 congr 1
 by_cases q:k=d
 ·subst q;simp
 ·have:¬((k:Int)=(d:Int)):=by omega
  simp[q,this]
def jdl:Option String->Int
 | none=> -1
 | some c=>(jg8.idxOf c:Nat)
theorem ju8{c:String}(h:c∈jg8):jg8[jg8.idxOf c]?=some c:=by
 rw[List.getElem?_eq_getElem (List.idxOf_lt_length_of_mem h)]
 simp
theorem x0{c:String}(h:c∈rais):jcl.lookup (c,true,"NoSwitch")=some (decide (c="NoSwitch")):=jdy c h _ (by decide)
theorem x1{c:String}(h:c∈rais):jcl.lookup (c,true,"Locked")=some (decide (c="Locked")):=jdy c h _ (by decide)
theorem x2{c:String}(h:c∈rais):jcl.lookup (c,true,"Held")=some (decide (c="Held")):=jdy c h _ (by decide)
theorem x3{c:String}(h:c∈rais):jcl.lookup (c,true,"Loaded")=some (decide (c="Loaded")):=jdy c h _ (by decide)
theorem x4{c:String}(h:c∈rais):jcl.lookup (c,true,"Shorted")=some (decide (c="Shorted")):=jdy c h _ (by decide)
theorem x5{c:String}(h:c∈rais):jcl.lookup (c,true,"NoLock")=some (decide (c="NoLock")):=jdy c h _ (by decide)
theorem x6{c:String}(h:c∈rais):jcl.lookup (c,true,"NotOpen")=some (decide (c="NotOpen")):=jdy c h _ (by decide)
theorem x7{c:String}(h:c∈rais):jcl.lookup (c,true,"NotLocked")=some (decide (c="NotLocked")):=jdy c h _ (by decide)
theorem x8{c:String}(h:c∈rais):jcl.lookup (c,true,"NoBar")=some (decide (c="NoBar")):=jdy c h _ (by decide)
theorem x9{c:String}(h:c∈rais):jcl.lookup (c,true,"NotEarthed")=some (decide (c="NotEarthed")):=jdy c h _ (by decide)
theorem x10{c:String}(h:c∈rais):jcl.lookup (c,true,"NotDead")=some (decide (c="NotDead")):=jdy c h _ (by decide)
theorem x11{c:String}(h:c∈rais):jcl.lookup (c,true,"NoPermit")=some (decide (c="NoPermit")):=jdy c h _ (by decide)
theorem x12{c:String}(h:c∈rais):jcl.lookup (c,true,"NoRow")=some (decide (c="NoRow")):=jdy c h _ (by decide)
theorem x13{c:String}(h:c∈rais):jcl.lookup (c,true,"NoMeasure")=some (decide (c="NoMeasure")):=jdy c h _ (by decide)
theorem x14{c:String}(h:c∈rais):jcl.lookup (c,true,"Same")=some (decide (c="Same")):=jdy c h _ (by decide)
theorem jwm:∀(ps:List Nat) (s i:Nat),(Clo.all ps s).testBit i=true↔(s.testBit i=true \/ ∃p∈ps,p.testBit i=true)
 | [],s,i=>by simp[Clo.all]
 | p::ps,s,i=>by
  have:=jwm ps (s|||p) i
  show(Clo.all ps (s|||p)).testBit i=true↔_
  rw[this,Nat.testBit_or,Bool.or_eq_true]
  simp only[List.mem_cons,exists_eq_or_imp]
  rw[or_assoc]
theorem led_tb(st:Nat)(sws:List Sw)(b:Nat):(jce st sws).testBit b=true↔∃k,st.testBit k=true /\ sws[k]?=some (.earth b):=by
 unfold jce
 rw[jwm]
 constructor
 ·rintro(h | ⟨p,hp,hb⟩)
  ·simp at h
  ·obtain⟨⟨w,k⟩,hq,rfl⟩:=List.mem_map.mp hp
   unfold jdt at hq
   obtain⟨h1,h2⟩:=List.mem_filter.mp hq
   have h3:=jj1 h1
   cases w with
   | earth a=>
    have hb:(2^a).testBit b=true:=hb
    rw[jbe] at hb
    have:a=b:=by simpa using hb
    subst this
    exact⟨k,h2,h3⟩
   | feed a=>simp[Sw.led] at hb
   | breaker a c=>simp[Sw.led] at hb
   | splitter a c=>simp[Sw.led] at hb
 ·rintro⟨k,h1,h2⟩
  refine .inr ⟨2^b,List.mem_map.mpr ⟨(.earth b,k),?_,rfl⟩,by rw[jbe];simp⟩
  unfold jdt
  refine List.mem_filter.mpr ⟨?_,h1⟩
  rw[List.mem_zipIdx_iff_getElem?]
  exact h2
theorem jqu{st pl i:Nat}{sws:List Sw}:i∈ownL st pl sws↔st.testBit i=true /\ swv Sw.led sws i&&&pl≠0:=by
 unfold ownL
 rw[List.mem_filter,jn3]
 simp
theorem jod(st pl:Nat)(sws:List Sw):(ownL st pl sws).Nodup:=List.Pairwise.filter _ (jp5 st)
theorem jht{sws:List Sw}{k a:Nat}(hw:sws[k]?=some (.earth a))(pl:Nat):(decide (swv Sw.led sws k&&&pl≠0))=pl.testBit a:=by
 unfold swv
 rw[hw]
 show decide (2^a&&&pl≠0)=_
 rw[Nat.and_comm]
 have:=jmm pl a
 cases q:pl.testBit a with
 | true=>exact decide_eq_true (this.mpr q)
 | false=>exact decide_eq_false (λz=>by rw[this.mp z] at q;cases q)
def Sw.kd:Sw->Str
 | .feed _=>Str.ofString "feed" | .earth _=>Str.ofString "earth" | .breaker _ _=>Str.ofString "breaker" | .splitter _ _=>Str.ofString "splitter"
theorem d0{w:Sw}(h:MH):dIx w.d (.int 0) h= .ok (.str w.kd) h:=by cases w<;>simp[Sw.d,Sw.kd]
def Sw.isE:Sw->Bool
 | .earth _=>true | _=>false
@[simp] theorem sFE:¬(Str.ofString "feed"=Str.ofString "earth"):=by decide+kernel
@[simp] theorem sBE:¬(Str.ofString "breaker"=Str.ofString "earth"):=by decide+kernel
@[simp] theorem sSE:¬(Str.ofString "splitter"=Str.ofString "earth"):=by decide+kernel
@[simp] theorem bFE:(Str.ofString "feed"==Str.ofString "earth")=false:=by decide+kernel
@[simp] theorem bSE:(Str.ofString "splitter"==Str.ofString "earth")=false:=by decide+kernel
@[simp] theorem bFB:(Str.ofString "feed"==Str.ofString "breaker")=false:=by decide+kernel
@[simp] theorem bSB:(Str.ofString "splitter"==Str.ofString "breaker")=false:=by decide+kernel
@[simp] theorem bFS:(Str.ofString "feed"==Str.ofString "splitter")=false:=by decide+kernel
theorem ixs(n:Nat)(sws:List Sw)(h:MH):dIx (yd n sws) (.int 1) h= .ok (.lst (sws.map Sw.d)) h:=by simp[-List.map_map,yd]
theorem ixk{sws:List Sw}{k:Nat}{w:Sw}(hw:sws[k]?=some w)(h:MH):dIx (.lst (sws.map Sw.d)) (.int k) h= .ok w.d h:=by
 have hx:atI (sws.map Sw.d) (k:Int)=some w.d:=jem (by rw[List.getElem?_map,hw];rfl)
 simp[-List.map_map,hx]
inductive Op where
 | turn | lock | unlock | permit | back
def Op.s:Op->Str
 | .turn=>Str.ofString "turn" | .lock=>Str.ofString "lock" | .unlock=>Str.ofString "unlock" | .permit=>Str.ofString "permit" | .back=>Str.ofString "back"
def Op.z:Op->MF
 | .turn=>z_X8 | .lock=>z_X1 | .unlock=>z_Qq | .permit=>z_Qm | .back=>z_Q4
theorem w_lt:¬(Str.ofString "lock"=Str.ofString "turn"):=by decide+kernel
theorem w_ut:¬(Str.ofString "unlock"=Str.ofString "turn"):=by decide+kernel
theorem w_ul:¬(Str.ofString "unlock"=Str.ofString "lock"):=by decide+kernel
theorem w_pt:¬(Str.ofString "permit"=Str.ofString "turn"):=by decide+kernel
theorem w_pl:¬(Str.ofString "permit"=Str.ofString "lock"):=by decide+kernel
theorem w_pu:¬(Str.ofString "permit"=Str.ofString "unlock"):=by decide+kernel
theorem w_pb:¬(Str.ofString "permit"=Str.ofString "back"):=by decide+kernel
theorem w_bt:¬(Str.ofString "back"=Str.ofString "turn"):=by decide+kernel
theorem w_bl:¬(Str.ofString "back"=Str.ofString "lock"):=by decide+kernel
theorem w_bu:¬(Str.ofString "back"=Str.ofString "unlock"):=by decide+kernel
theorem w_bp:¬(Str.ofString "back"=Str.ofString "permit"):=by decide+kernel
theorem w_tb:¬(Str.ofString "turn"=Str.ofString "back"):=by decide+kernel
theorem w_tp:¬(Str.ofString "turn"=Str.ofString "permit"):=by decide+kernel
theorem w_lb:¬(Str.ofString "lock"=Str.ofString "back"):=by decide+kernel
theorem w_lp:¬(Str.ofString "lock"=Str.ofString "permit"):=by decide+kernel
theorem w_ub:¬(Str.ofString "unlock"=Str.ofString "back"):=by decide+kernel
theorem w_up:¬(Str.ofString "unlock"=Str.ofString "permit"):=by decide+kernel
theorem kd_eq(c:String):jne c=[D.bl (decide (c="NoSwitch")),.bl (decide (c="Locked")),.bl (decide (c="Held")),.bl (decide (c="Loaded")),.bl (decide (c="Shorted")),.bl (decide (c="NoLock")),.bl (decide (c="NotOpen")),.bl (decide (c="NotLocked")),.bl (decide (c="NoBar")),.bl (decide (c="NotEarthed")),.bl (decide (c="NotDead")),.bl (decide (c="NoPermit")),.bl (decide (c="NoRow")),.bl (decide (c="NoMeasure")),.bl (decide (c="Same")),.bl false]:=rfl
theorem mth34(A:At h p r b)(v:D){ρ:Ro}(h0:ρ[0]?=some (some (.ref p)))(h2:ρ[2]?=some (some v)):
  jan jlu "turn" (mVar 0) (lNox (ja3 (mVar 2) mNil)) ρ h=z_X8 [.ref p,v] h /\ jan jmp "lock" (mVar 0) (lNox (ja3 (mVar 2) mNil)) ρ h=z_X1 [.ref p,v] h /\ jan jhd "unlock" (mVar 0) (lNox (ja3 (mVar 2) mNil)) ρ h=z_Qq [.ref p,v] h /\ jan jh9 "permit" (mVar 0) (lNox (ja3 (mVar 2) mNil)) ρ h=z_Qm [.ref p,v] h /\ jan jf7 "give_back" (mVar 0) (lNox (ja3 (mVar 2) mNil)) ρ h=z_Q4 [.ref p,v] h:=by
 have e0:mVar 0 ρ h= .ok (.ref p) h:=by simp[h0]
 have el:lNox (ja3 (mVar 2) mNil) ρ h= .ok [v] h:=by simp[h2]
 exact⟨jdg A rfl (by decide+kernel) e0 el,jdg A rfl (by decide+kernel) e0 el,jdg A rfl (by decide+kernel) e0 el,jdg A rfl (by decide+kernel) e0 el,jdg A rfl (by decide+kernel) e0 el⟩
theorem jq5(A:At h p r b)(op:Op)(v:Int){c:String}(hc:c∈rais)(e:op.z [.ref p,.int v] h= .exc c h):
  z_X9 [.ref p,.str op.s,.int v] h= .ok (.tup [.non,.lst (jne c)]) h:=by
 have y0:=x0 hc
 have y1:=x1 hc
 have y2:=x2 hc
 have y3:=x3 hc
 have y4:=x4 hc
 have y5:=x5 hc
 have y6:=x6 hc
 have y7:=x7 hc
 have y8:=x8 hc
 have y9:=x9 hc
 have y10:=x10 hc
 have y11:=x11 hc
 have y12:=x12 hc
 have y13:=x13 hc
 have y14:=x14 hc
 have y15:=xl_v c hc
 have y16:=wl_all c hc
 rw[kd_eq]
 obtain⟨m1,m2,m3,m4,m5⟩:=mth34 A (.int v) (ρ:=[some (.ref p),some (.str op.s),some (.int v),some (.lst []),some .non,none]) rfl rfl
 cases op<;>simp only[Op.z,Op.s] at e m1 m2 m3 m4 m5 ⊢ <;>(try rw[e] at m1)<;>(try rw[e] at m2)<;>(try rw[e] at m3)<;>(try rw[e] at m4)<;>(try rw[e] at m5)<;>simp[-jan, -lNox,z_X9,b_X9,w_lt,w_ut,w_ul,w_pt,w_pl,w_pu,w_bt,w_bl,w_bu,w_bp,m1,m2,m3,m4,m5,y0,y1,y2,y3,y4,y5,y6,y7,y8,y9,y10,y11,y12,y13,y14,y15,y16]
theorem done34{h h':MH}(A:At h p r b)(op:Op)(v:Int)(t:Nat)(hl:h'.length=h.length)(e:op.z [.ref p,.int v] h= .ok (.int t) h'):
  z_X9 [.ref p,.str op.s,.int v] h= .ok (.tup [.int t,.lst []]) h':=by
 obtain⟨m1,m2,m3,m4,m5⟩:=mth34 A (.int v) (ρ:=[some (.ref p),some (.str op.s),some (.int v),some (.lst []),some .non,none]) rfl rfl
 cases op<;>simp only[Op.z,Op.s] at e m1 m2 m3 m4 m5 ⊢ <;>(try rw[e] at m1)<;>(try rw[e] at m2)<;>(try rw[e] at m3)<;>(try rw[e] at m4)<;>(try rw[e] at m5)<;>simp[-jan, -lNox,z_X9,b_X9,w_lt,w_ut,w_ul,w_pt,w_pl,w_pu,w_bt,w_bl,w_bu,w_bp,m1,m2,m3,m4,m5,hl]
theorem add_tb{s k:Nat}{c:Bool}(h:c=true->s.testBit k=false)(i:Nat):(if c=true then s+2^k else s).testBit i=(s.testBit i||(decide (i=k)&&c)):=by
 cases c with
 | false=>simp
 | true=>
  rw[if_pos rfl,jmw (h rfl),Nat.testBit_or,jbe]
  by_cases e:k=i
  ·subst e;simp
  ·have:¬i=k:=λz=>e z.symm
   simp[e,this]
def ownC(st pl:Nat)(sws:List Sw)(k:Nat):Bool:=st.testBit k&&decide (swv Sw.led sws k&&&pl≠0)
theorem jtz(ok:jbx n sws)(st pl:Nat)(g f k:Nat)(hk:k<sws.length)(y6:Option D)(h:MH):
  ∃y,jdc [some (yd n sws),some (.int st),some (.int pl),some (.int g),some (.int f),some (.int k),y6] h= .nx [some (yd n sws),some (.int st),some (.int pl),some (.int (if ownC st pl sws k then g|||swv Sw.led sws k else g:Nat)),some (.int (if ownC st pl sws k then f+2^k else f:Nat)),some (.int k),y] h:=by
 have hl:=ok.2.2.1
 have hn:=ok.2.1
 have s1:=jea st k h
 have o1:=okp (show k<=100 by omega)
 have hw:sws[k]?=some sws[k]:=List.getElem?_eq_getElem hk
 have wok:=ok.2.2.2 _ (List.getElem_mem hk)
 have ix:=ixs n sws h
 have ik:=ixk hw h
 have i0:=d0 (w:=sws[k]) h
 refine⟨some sws[k].d,?_⟩
 unfold ownC
 generalize hsw:sws[k]=w at*
 cases w with
 | earth a=>
  rw[jht hw]
  have ev:swv Sw.led sws k=2^a:=by unfold swv;rw[hw];rfl
  rw[ev]
  have i1:dIx (Sw.earth a).d (.int 1) h= .ok (.int a) h:=by simp[Sw.d]
  have s2:=jea pl a h
  have oa:=okp (show a<=100 by have:a<n:=wok;omega)
  have b1:=bor g (2^a)
  simp at b1
  cases q1:st.testBit k<;>cases q2:pl.testBit a<;>rw[q1] at s1<;>rw[q2] at s2<;>simp[-dIx,jdc,ix,ik,i0,Sw.kd,s1,i1,s2,oa,b1,o1]
 | _=>
  have ev:swv Sw.led sws k=0:=by unfold swv;rw[hw];rfl
  simp[-dIx,jdc,ix,ik,i0,Sw.kd,ev]
theorem jnb(ok:jbx n sws)(st pl:Nat)(h:MH):∀(ks:List Nat) (g f:Nat) (x y:Option D),ks.Nodup->(∀k∈ks,k<sws.length)->(∀k∈ks,f.testBit k=false)->
  ∃(g' f':Nat) (x' y':Option D),(∀i,f'.testBit i=(f.testBit i||(decide (i∈ks)&&ownC st pl sws i))) /\ (∀i,g'.testBit i=true↔(g.testBit i=true \/ ∃k∈ks,ownC st pl sws k=true /\ (swv Sw.led sws k).testBit i=true)) /\ jc7 (jad 5) jdc (ks.map λk:Nat=>D.int k) [some (yd n sws),some (.int st),some (.int pl),some (.int g),some (.int f),x,y] h= .nx [some (yd n sws),some (.int st),some (.int pl),some (.int g'),some (.int f'),x',y'] h
 | [],g,f,x,y,_,_,_=>⟨g,f,x,y,λi=>by simp,λi=>by simp,rfl⟩
 | k::ks,g,f,x,y,nd,hk,hf=>by
  obtain⟨n1,n2⟩:=List.nodup_cons.mp nd
  obtain⟨y1,s⟩:=jtz ok st pl g f k (hk k (List.mem_cons_self ..)) y h
  have t1:=add_tb (c:=ownC st pl sws k) (λ_=>hf k (List.mem_cons_self ..))
  have t2:∀i,(if ownC st pl sws k=true then g|||swv Sw.led sws k else g).testBit i=true↔(g.testBit i=true \/ (ownC st pl sws k=true /\ (swv Sw.led sws k).testBit i=true)):=λi=>by
   by_cases q:ownC st pl sws k=true
   ·rw[if_pos q,Nat.testBit_or,Bool.or_eq_true];simp[q]
   ·rw[if_neg q];simp[q]
  generalize (if ownC st pl sws k=true then f+2^k else f)=f1 at s t1
  generalize (if ownC st pl sws k=true then g|||swv Sw.led sws k else g)=g1 at s t2
  obtain⟨g',f',x',y',p1,p2,p3⟩:=jnb ok st pl h ks g1 f1 (some (.int k)) y1 n2 (λj m=>hk j (List.mem_cons_of_mem _ m)) (λj m=>by
   have ne:¬j=k:=λz=>n1 (z▸m)
   rw[t1,hf j (List.mem_cons_of_mem _ m)]
   simp[ne])
  refine⟨g',f',x',y',λi=> ?_,λi=> ?_,?_⟩
  ·rw[p1,t1]
   by_cases e:i=k
   ·subst e;simp[n1]
   ·simp[e]
  ·rw[p2,t2]
   simp only[List.mem_cons,exists_eq_or_imp]
   rw[or_assoc]
  ·rw[List.map_cons]
   unfold jc7
   simp only[jad,List.set_cons_succ,List.set_cons_zero,s]
   exact p3
theorem jyh{sws:List Sw}{i:Nat}(f:Sw->Nat)(h:swv f sws i≠0):i<sws.length:=by
 refine Nat.lt_of_not_le λq=>h ?_
 unfold swv
 rw[List.getElem?_eq_none q]
theorem jxl(ok:jbx n sws)(st pl:Nat)(h:MH):z_Xo [yd n sws,.int st,.int pl] h= .ok (.lst [.int (pl&&&jce st sws:Nat),.int (je1 (ownL st pl sws):Nat)]) h:=by
 have hl:=ok.2.2.1
 obtain⟨g',f',x',y',p1,p2,p3⟩:=jnb ok st pl h (List.range sws.length) 0 0 none none List.nodup_range (λk m=>List.mem_range.mp m) (λk _=>by simp)
 have ef:f'=je1 (ownL st pl sws):=Nat.eq_of_testBit_eq λi=>by
  rw[p1,jn5 (jod st pl sws)]
  unfold ownC
  by_cases q:swv Sw.led sws i&&&pl≠0
  ·have hi:i<sws.length:=jyh Sw.led λz=>q (by rw[z];simp)
   cases q2:st.testBit i<;>simp[jqu,q,q2,hi]
  ·simp[jqu,q]
 have eg:g'=pl&&&jce st sws:=Nat.eq_of_testBit_eq λi=>by
  rw[Bool.eq_iff_iff,p2,Nat.testBit_and,Bool.and_eq_true,led_tb]
  constructor
  ·rintro(q | ⟨k,hk,q1,q2⟩)
   ·simp at q
   ·have hk:=List.mem_range.mp hk
    have hw:sws[k]?=some sws[k]:=List.getElem?_eq_getElem hk
    unfold ownC at q1
    obtain⟨q3,q4⟩:=Bool.and_eq_true_iff.mp q1
    have ev:swv Sw.led sws k=sws[k].led:=by unfold swv;rw[hw]
    generalize hsw:sws[k]=w at*
    cases w with
    | earth a=>
     rw[jht hw] at q4
     rw[ev] at q2
     have q2:(2^a).testBit i=true:=q2
     rw[jbe] at q2
     have:a=i:=by simpa using q2
     subst this
     exact⟨q4,k,q3,hw⟩
    | _=>rw[ev] at q2;simp[Sw.led] at q2
  ·rintro⟨q1,k,q2,hw⟩
   refine .inr ⟨k,List.mem_range.mpr (List.getElem?_eq_some_iff.mp hw).1,?_,?_⟩
   ·unfold ownC
    rw[jht hw,q1,q2];rfl
   ·have ev:swv Sw.led sws k=2^i:=by unfold swv;rw[hw];rfl
    rw[ev,jbe];simp
 subst ef eg
 rw[<-rng0,show(((0:Nat):Int))=0 from rfl] at p3
 have ix:=ixs n sws h
 generalize (pl&&&jce st sws)=g at*
 simp[-List.map_map, -dIx,z_Xo,b_Xo,ix,p3,show sws.length<4611686018427387904 by omega]
structure Rw (h:MH) (q d:Nat) (b:Bd):Prop where
 c:h[q]?=some (some (.lst [.int b.st,.int b.lk,.ref d,.int b.la]))
 g:h[d]?=some (some (.dct (gvD b.gv)))
theorem Rw.ne(R:Rw h q d b):q≠d:=λe=>by
 have h1:=R.c
 rw[e,R.g] at h1
 simp at h1
theorem Rw.lt(R:Rw h q d b):d<h.length:=(List.getElem?_eq_some_iff.mp R.g).1
theorem Rw.lt'(R:Rw h q d b):q<h.length:=(List.getElem?_eq_some_iff.mp R.c).1
theorem ix4{h:MH}{q:Nat}{a b c d:D}(e:h[q]?=some (some (.lst [a,b,c,d]))):dIx (.ref q) (.int 0) h= .ok a h /\ dIx (.ref q) (.int 1) h= .ok b h /\ dIx (.ref q) (.int 2) h= .ok c h /\ dIx (.ref q) (.int 3) h= .ok d h:=by
 refine⟨?_,?_,?_,?_⟩<;>simp[e,atI,ixN]
theorem ix2t(a b:D)(h:MH):dIx (.tup [a,b]) (.int 0) h= .ok a h /\ dIx (.tup [a,b]) (.int 1) h= .ok b h:=by
 refine⟨?_,?_⟩<;>simp[atI,ixN]
theorem ix2l(a b:D)(h:MH):dIx (.lst [a,b]) (.int 0) h= .ok a h /\ dIx (.lst [a,b]) (.int 1) h= .ok b h:=by
 refine⟨?_,?_⟩<;>simp[atI,ixN]
theorem jf8{gv:List (Nat×Nat×Nat)}(so:gv.Pairwise λg g'=>g.1<g'.1):(gv.map λg=>g.1).Nodup:=by
 unfold List.Nodup
 rw[List.pairwise_map]
 exact so.imp λh=>Nat.ne_of_lt h
theorem jsl{gv:List (Nat×Nat×Nat)}(nd:(gv.map λg=>g.1).Nodup)(q d:Nat)(h:MH)(hq:dIx (.ref q) (.int 2) h= .ok (.ref d) h)(hd:h[d]?=some (some (.fdc (gvD gv)))):∀(l:List (Nat×Nat×Nat)) (f:Nat) (x:Option D),(∀g∈l,g∈gv)->
  ∃x',jc7 (jad 2) jdn (l.map λg=>D.int (g.1:Int)) [some (.ref q),some (.int f),x] h= .nx [some (.ref q),some (.int (Clo.all (l.map λg=>g.2.2) f:Nat)),x'] h
 | [],f,x,_=>⟨x,rfl⟩
 | g::l,f,x,hl=>by
  obtain⟨x',ih⟩:=jsl nd q d h hq hd l (f|||g.2.2) (some (.int g.1)) λa m=>hl a (List.mem_cons_of_mem _ m)
  refine⟨x',?_⟩
  have e1:=jh0 nd (hl g (List.mem_cons_self ..))
  have e2:=bor f g.2.2
  have e3:dIx (.ref d) (.int g.1) h= .ok (.tup [.int (g.2.1:Nat),.int (g.2.2:Nat)]) h:=by simp[hd,e1]
  have e4:=(ix2t (.int (g.2.1:Nat)) (.int (g.2.2:Nat)) h).2
  have st:jdn [some (.ref q),some (.int f),some (.int g.1)] h= .nx [some (.ref q),some (.int (f|||g.2.2:Nat)),some (.int g.1)] h:=by
   simp[-dIx,jdn,hq,e3,e4,e2]
  rw[List.map_cons,List.map_cons]
  unfold jc7
  simp only[jad,List.set_cons_succ,List.set_cons_zero,st]
  exact ih
theorem jjt(R:Rw h q d b)(nd:(b.gv.map λg=>g.1).Nodup):z_Xi [.ref q] h= .ok (.int (jed b.gv:Nat)) h:=by
 have hg:=R.g
 have l:∀c:Option Cell,(h.set d c)[d]?=some c:=λc=>List.getElem?_set_self R.lt
 have lq:(h.set d (some (.fdc (gvD b.gv))))[q]?=_:=(List.getElem?_set_ne (Ne.symm R.ne)).trans R.c
 obtain⟨x',e⟩:=jsl nd q d (h.set d (some (.fdc (gvD b.gv)))) (ix4 lq).2.2.1 (l _) b.gv 0 none λg m=>m
 have hs:(h.set d (some (.fdc (gvD b.gv)))).set d (some (.dct (gvD b.gv)))=h:=by rw[List.set_set];exact jek hg
 have f0:Clo.all (b.gv.map λg=>g.2.2) 0=jed b.gv:=rfl
 rw[f0] at e
 have ek:(gvD b.gv).map (λp=>keyD p.1)=b.gv.map λg=>D.int (g.1:Int):=by
  unfold gvD
  rw[List.map_map]
  rfl
 rw[<-ek] at e
 have i2:=(ix4 R.c).2.2.1
 simp at e
 simp[-dIx, -List.map_map,z_Xi,b_Xi,i2,hg,e,l,hs]
theorem jfr{a b:MS}{ρ ρ':Ro}{h h':MH}(e:a ρ h= .nx ρ' h'):sSeq a b ρ h=b ρ' h':=by simp only[sSeq,e]
theorem jxw{a b:MS}{ρ:Ro}{d:D}{h h':MH}(e:a ρ h= .rt d h'):sSeq a b ρ h= .rt d h':=by simp only[sSeq,e]
theorem jwk{np nn:Nat}{b:MS}{ds:List D}{h h':MH}{d:D}(hl:ds.length=np)(e:b (ds.map some++List.replicate (nn - ds.length) none) h= .rt d h')(hn:h'.length<=h.length):mFun np nn b ds h= .ok d h':=by
 unfold mFun
 rw[if_pos hl,e]
 show fin h.length d h'=_
 unfold fin
 rw[if_pos hn]
theorem jxj(c:Int)(h:MH):∃op:Op,dIx (.lst [.str (Str.ofString "turn"),.str (Str.ofString "turn"),.str (Str.ofString "lock"),.str (Str.ofString "lock"),.str (Str.ofString "unlock"),.str (Str.ofString "permit"),.str (Str.ofString "permit"),.str (Str.ofString "back")]) (.int (c % 8)) h= .ok (.str op.s) h:=by
 have:c % 8=0 \/ c % 8=1 \/ c % 8=2 \/ c % 8=3 \/ c % 8=4 \/ c % 8=5 \/ c % 8=6 \/ c % 8=7:=by omega
 rcases this with q | q | q | q | q | q | q | q<;>rw[q]
 ·exact⟨.turn,by simp[atI,ixN,Op.s]⟩
 ·exact⟨.turn,by simp[atI,ixN,Op.s]⟩
 ·exact⟨.lock,by simp[atI,ixN,Op.s]⟩
 ·exact⟨.lock,by simp[atI,ixN,Op.s]⟩
 ·exact⟨.unlock,by simp[atI,ixN,Op.s]⟩
 ·exact⟨.permit,by simp[atI,ixN,Op.s]⟩
 ·exact⟨.permit,by simp[atI,ixN,Op.s]⟩
 ·exact⟨.back,by simp[atI,ixN,Op.s]⟩
theorem jm9{h:MH}{q d:Nat}{b:Bd}(c:Int)(op:Op)(ow:dIx (.lst [.str (Str.ofString "turn"),.str (Str.ofString "turn"),.str (Str.ofString "lock"),.str (Str.ofString "lock"),.str (Str.ofString "unlock"),.str (Str.ofString "permit"),.str (Str.ofString "permit"),.str (Str.ofString "back")]) (.int (c % 8)) h= .ok (.str op.s) h)(hq:op= .turn \/ op= .lock \/ op= .unlock):∃(op:Op) (v:Int),z_Xc [yd b.n b.sws,.ref q,.int c] h= .ok (.tup [.str op.s,.int v]) h:=by
 have ix:=ixs b.n b.sws h
 obtain⟨v,ev⟩:=jur (c / 8) b.sws.length h
 refine⟨op,v,?_⟩
 rcases hq with rfl | rfl | rfl<;>simp only[Op.s] at ow ⊢ <;>simp[-dIx,z_Xc,b_Xc,ow,w_tb,w_tp,w_lb,w_lp,w_ub,w_up,ix,ev]
theorem jpx(R:Rw h q d b)(c:Int)(ow:dIx (.lst [.str (Str.ofString "turn"),.str (Str.ofString "turn"),.str (Str.ofString "lock"),.str (Str.ofString "lock"),.str (Str.ofString "unlock"),.str (Str.ofString "permit"),.str (Str.ofString "permit"),.str (Str.ofString "back")]) (.int (c % 8)) h= .ok (.str (Str.ofString "back")) h):z_Xc [yd b.n b.sws,.ref q,.int c] h= .ok (.tup [.str (Str.ofString "back"),.int (c / 8 % ((b.la:Int)+3) - 1)]) h:=by
 obtain⟨i0,i1,i2,i3⟩:=ix4 R.c
 have p0:(0:Int)<(b.la:Int)+3:=by omega
 simp[-dIx,z_Xc,b_Xc,ow,i3,p0]
theorem jxz{z:MF}{f g k k':B2}{u v w x y r:D}{ρ:Ro}{h:MH}{q:D}(h0:ρ[0]?=some (some u))(h1:ρ[1]?=some (some q))(e0:k' q (.int 0) h= .ok v h)(e1:k u (.int 0) h= .ok w h)(e2:f (.int 1) w h= .ok x h)(e3:g x (.int 1) h= .ok y h)(e4:z [u,v,y] h= .ok r h):
  (jaw z (ja3 (mVar 0) (ja3 (mBin k' (mVar 1) (mC (.int 0))) (ja3 (mBin g (mBin f (mC (.int 1)) (mBin k (mVar 0) (mC (.int 0)))) (mC (.int 1))) mNil)))) ρ h= .ok r h:=by
 simp only[jaw,ja3,mNil,mBin,mC,jdo,mVar,h0,h1,e0,e1,e2,e3,e4]
theorem jxo{f g k:B2}{u v w x y z r:D}{ρ:Ro}{h:MH}(e0:ρ[0]?=some (some u))(e1:k u v h= .ok w h)(e2:g w x h= .ok y h)(e3:f z y h= .ok r h):(mBin f (mC z) (mBin g (mBin k (mVar 0) (mC v)) (mC x))) ρ h= .ok r h:=by
 simp only[mBin,mC,jdo,mVar,e0,e1,e2,e3]
theorem num34(b:Bd)(hn:b.n<=10)(h:MH)(x:Int):∃u:Int,∀ρ:Ro,ρ[0]?=some (some (yd b.n b.sws))->ρ[3]?=some (some (.int x))->(mBin dSub (mBin dMod (mBin dDiv (mVar 3) (mC (.int 4))) (mBin dShl (mC (.int 1)) (mBin dAdd (mBin dIx (mVar 0) (mC (.int 0))) (mC (.int 1))))) (mC (.int 1))) ρ h= .ok (.int u) h:=by
 have iy:dIx (yd b.n b.sws) (.int 0) h= .ok (.int b.n) h:=by simp[yd]
 have ok1:ji3 1 ((b.n:Int)+1):=by unfold ji3;refine⟨by omega,by omega,by decide⟩
 obtain⟨P,eP⟩:∃P:Int,1*2^((b.n:Int)+1).toNat=P:=⟨_,rfl⟩
 have po:0<P:=by
  rw[<-eP,Int.one_mul]
  exact Int.pow_pos (by decide)
 have ea:dAdd (D.int (b.n:Int)) (D.int 1) h= .ok (D.int ((b.n:Int)+1)) h:=rfl
 have es:dShl (D.int 1) (D.int ((b.n:Int)+1)) h= .ok (D.int P) h:=by
  unfold dShl jjf
  simp only[chk,if_pos ok1,eP]
 refine⟨x / 4 % P - 1,λρ e0 e3=> ?_⟩
 have eB:(mBin dShl (mC (.int 1)) (mBin dAdd (mBin dIx (mVar 0) (mC (.int 0))) (mC (.int 1)))) ρ h= .ok (D.int P) h:=jxo e0 iy ea es
 have eA:(mBin dDiv (mVar 3) (mC (.int 4))) ρ h= .ok (.int (x / 4)) h:=by simp[e3]
 generalize (mBin dShl (mC (.int 1)) (mBin dAdd (mBin dIx (mVar 0) (mC (.int 0))) (mC (.int 1))))=B at eB
 generalize (mBin dDiv (mVar 3) (mC (.int 4)))=A at eA
 simp[eA,eB,po]
theorem jmq(R:Rw h q d b)(ok:jbx b.n b.sws)(c:Int)(ow:dIx (.lst [.str (Str.ofString "turn"),.str (Str.ofString "turn"),.str (Str.ofString "lock"),.str (Str.ofString "lock"),.str (Str.ofString "unlock"),.str (Str.ofString "permit"),.str (Str.ofString "permit"),.str (Str.ofString "back")]) (.int (c % 8)) h= .ok (.str (Str.ofString "permit")) h):∃v:Int,z_Xc [yd b.n b.sws,.ref q,.int c] h= .ok (.tup [.str (Str.ofString "permit"),.int v]) h:=by
 obtain⟨i0,i1,i2,i3⟩:=ix4 R.c
 have iy:dIx (yd b.n b.sws) (.int 0) h= .ok (.int b.n) h:=by simp[yd]
 have hn:=ok.2.1
 have eo:=jxl ok b.st (2^b.n - 1) h
 generalize (2^b.n - 1&&&jce b.st b.sws)=g at eo
 generalize je1 (ownL b.st (2^b.n - 1) b.sws)=f at eo
 have j0:=(ix2l (.int (g:Nat)) (.int (f:Nat)) h).1
 obtain⟨x,ex⟩:∃x,c / 8=x:=⟨_,rfl⟩
 have o1:=okp (show b.n<=100 by omega)
 have es:dShl (D.int 1) (D.int (b.n:Int)) h= .ok (D.int (2^b.n)) h:=by
  unfold dShl jjf
  simp only[chk,if_pos o1,Int.toNat_natCast,Int.one_mul]
 have e2:(2:Int)^b.n - 1=((2^b.n - 1:Nat):Int):=by
  have:=Nat.pow_pos (n:=b.n) (show 0<2 by decide)
  rw[Int.ofNat_sub (by omega)];simp
 have em:dSub (D.int (2^b.n)) (D.int 1) h= .ok (D.int ((2^b.n - 1:Nat):Int)) h:=by
  rw[<-e2];rfl
 obtain⟨v,key⟩:∃v:Int,b_Xc [some (yd b.n b.sws),some (.ref q),some (.int c),none,none,none,none] h= .rt (.tup [.str (Str.ofString "permit"),.int v]) h:=by
  obtain⟨NUM,eM⟩:∃m:ME,m=mBin dSub (mBin dMod (mBin dDiv (mVar 3) (mC (.int 4))) (mBin dShl (mC (.int 1)) (mBin dAdd (mBin dIx (mVar 0) (mC (.int 0))) (mC (.int 1))))) (mC (.int 1)):=⟨_,rfl⟩
  obtain⟨u,eN⟩:∃u:Int,∀ρ:Ro,ρ[0]?=some (some (yd b.n b.sws))->ρ[3]?=some (some (.int x))->NUM ρ h= .ok (.int u) h:=by rw[eM];exact num34 b hn h x
  unfold b_Xc
  rw[<-eM]
  clear eM
  refine Exists.imp (λv e=>(jfr (ρ':=[some (yd b.n b.sws),some (.ref q),some (.int c),some (.int x),none,none,none]) (h':=h) (by simp[ex])).trans e) ?_
  refine Exists.imp (λv e=>(jfr (ρ':=[some (yd b.n b.sws),some (.ref q),some (.int c),some (.int x),some (.str (Str.ofString "permit")),none,none]) (h':=h) (by simp[-dIx,ow])).trans e) ?_
  refine Exists.imp (λv e=>(jfr (ρ':=[some (yd b.n b.sws),some (.ref q),some (.int c),some (.int x),some (.str (Str.ofString "permit")),none,none]) (h':=h) (by simp[w_pb])).trans e) ?_
  refine Exists.imp (λv e=>(jfr (ρ':=[some (yd b.n b.sws),some (.ref q),some (.int c),some (.int x),some (.str (Str.ofString "permit")),none,none]) (h':=h) (by simp)).trans e) ?_
  refine Exists.imp (λv e=>(jfr (ρ':=[some (yd b.n b.sws),some (.ref q),some (.int c),some (.int x),some (.str (Str.ofString "permit")),some (.int g),none]) (h':=h) (by rw[sAsg,mBin,jxz rfl rfl i0 iy es em eo];simp only[mC,jdo,j0,jvt];rfl)).trans e) ?_
  by_cases q1:x % 4=0 \/ g=0
  ·have eN:=eN [some (yd b.n b.sws),some (.ref q),some (.int c),some (.int x),some (.str (Str.ofString "permit")),some (.int g),none] rfl rfl
   refine⟨u,jxw ?_⟩
   have ct:(tOr (tB (mBin dEq (mBin dMod (mVar 3) (mC (.int 4))) (mC (.int 0)))) (tB (mBin dEq (mVar 5) (mC (.int 0))))) [some (yd b.n b.sws),some (.ref q),some (.int c),some (.int x),some (.str (Str.ofString "permit")),some (.int g),none] h= .ok true h:=by
    by_cases q2:x % 4=0
    ·simp[q2]
    ·have q3:g=0:=by omega
     subst q3
     simp[q2]
   unfold sIf
   rw[ct]
   simp only[jvt,if_true,sRet,mTup,ja3,mVar,List.getElem?_cons_succ,List.getElem?_cons_zero,jdo,eN,mNil,chk]
   rfl
  ·have q2:¬x % 4=0:=λz=>q1 (.inl z)
   have q3:¬g=0:=λz=>q1 (.inr z)
   have q4:¬((g:Int)=0):=by omega
   obtain⟨w,ew⟩:∃w:Int,Builtin.bitAnd (g:Int) (x / 4)=w:=⟨_,rfl⟩
   refine Exists.imp (λv e=>(jfr (ρ':=[some (yd b.n b.sws),some (.ref q),some (.int c),some (.int x),some (.str (Str.ofString "permit")),some (.int g),none]) (h':=h) (by simp[q2,q3,q4])).trans e) ?_
   refine Exists.imp (λv e=>(jfr (ρ':=[some (yd b.n b.sws),some (.ref q),some (.int c),some (.int x),some (.str (Str.ofString "permit")),some (.int g),some (.int w)]) (h':=h) (by simp[ew])).trans e) ?_
   by_cases q5:w=0
   ·have k1:=(ix2l (.int 0) (.int (g:Nat)) h).2
    subst q5
    exact⟨g,by simp[-dIx,k1]⟩
   ·have k1:=(ix2l (.int w) (.int (g:Nat)) h).1
    exact⟨w,by simp[-dIx,q5,k1]⟩
 exact⟨v,jwk (b:=b_Xc) rfl key (Nat.le_refl _)⟩
theorem deed34(R:Rw h q d b)(ok:jbx b.n b.sws)(c:Int):∃(op:Op) (v:Int),z_Xc [yd b.n b.sws,.ref q,.int c] h= .ok (.tup [.str op.s,.int v]) h:=by
 obtain⟨op,ow⟩:=jxj c h
 cases op with
 | turn=>exact jm9 (d:=d) c .turn ow (.inl rfl)
 | lock=>exact jm9 (d:=d) c .lock ow (.inr (.inl rfl))
 | unlock=>exact jm9 (d:=d) c .unlock ow (.inr (.inr rfl))
 | back=>exact⟨.back,_,jpx R c ow⟩
 | permit=>
  obtain⟨v,e⟩:=jmq R ok c ow
  exact⟨.permit,v,e⟩
def swE(b:Bd)(v:Int)(f:Nat->Sw->Option String):Option String:=
 if v<0 then some "NoSwitch" else match b.sws[v.toNat]? with | none=>some "NoSwitch" | some w=>f v.toNat w
def opE(op:Op)(b:Bd)(v:Int):Option String:=match op with
 | .turn=>swE b v (jls b)
 | .lock=>swE b v (jj9 b)
 | .unlock=>swE b v λk _=>jdu b k
 | .permit=>if v<1 \/ (2:Int)^b.n<=v then some "NoBar" else jg9 b v.toNat
 | .back=>if hasG b.gv v=true then none else some "NoPermit"
def opB(op:Op)(b:Bd)(v:Int):Bd:=match op with
 | .turn=>{b with st:=b.st^^^2^v.toNat}
 | .permit=>jke b v.toNat
 | .back=>{b with gv:=gone b.gv v.toNat}
 | _=>{b with lk:=b.lk^^^2^v.toNat}
def opT(op:Op)(b:Bd):Nat:=match op with
 | .turn=>b.st
 | .permit=>b.la
 | .back=>jed b.gv
 | _=>b.lk
structure I34 (b:Bd) (m:Nat):Prop where
 ok:jbx b.n b.sws
 st:b.st<2^b.sws.length
 so:b.gv.Pairwise λg g'=>g.1<g'.1
 le:∀g∈b.gv,g.1<=b.la
 ln:b.gv.length<=m
theorem jnl{b:Bd}{v:Int}{f:Nat->Sw->Option String}(e:swE b v f=none):∃(k:Nat) (w:Sw),v=k /\ b.sws[k]?=some w /\ f k w=none:=by
 unfold swE at e
 split at e
 ·cases e
 ·rename_i h
  cases hw:b.sws[v.toNat]? with
  | none=>rw[hw] at e;cases e
  | some w=>rw[hw] at e;exact⟨v.toNat,w,by omega,hw,e⟩
theorem jfj{b:Bd}{k:Nat}{w:Sw}{f:Nat->Sw->Option String}(hw:b.sws[k]?=some w):swE b k f=f k w:=by
 unfold swE
 rw[if_neg (by omega),Int.toNat_natCast,hw]
theorem jhy{b:Bd}{v:Int}{f:Nat->Sw->Option String}(hv:v<0 \/ (b.sws.length:Int)<=v):swE b v f=some "NoSwitch":=by
 unfold swE
 split
 ·rfl
 ·rw[List.getElem?_eq_none (by omega)]
theorem jfk(b:Bd)(v:Int):(v<0 \/ (b.sws.length:Int)<=v) \/ ∃(k:Nat) (w:Sw),v=k /\ b.sws[k]?=some w:=by
 by_cases h:v<0 \/ (b.sws.length:Int)<=v
 ·exact .inl h
 ·have hk:v.toNat<b.sws.length:=by omega
  exact .inr ⟨v.toNat,b.sws[v.toNat],by omega,List.getElem?_eq_getElem hk⟩
theorem or_xor{a k:Nat}(h:a.testBit k=false):a|||2^k=a^^^2^k:=Nat.eq_of_testBit_eq λi=>by
 rw[Nat.testBit_or,Nat.testBit_xor,jbe]
 by_cases q:k=i
 ·subst q;simp[h]
 ·simp[q]
theorem jt1{a k:Nat}(h:a.testBit k=true):apart a k=a^^^2^k:=Nat.eq_of_testBit_eq λi=>by
 unfold apart
 rw[jlr,Nat.testBit_xor,jbe]
 by_cases q:k=i
 ·subst q;simp[h]
 ·simp[q]
theorem jom{b:Bd}{k:Nat}{w:Sw}(e:jj9 b k w=none):b.lk.testBit k=false:=by
 unfold jj9 at e
 cases q1:w.lockable<;>cases q2:b.st.testBit k<;>cases q3:b.lk.testBit k<;>rw[q1,q2,q3] at e<;>simp_all
theorem jkz{b:Bd}{k:Nat}(e:jdu b k=none):b.lk.testBit k=true:=by
 unfold jdu at e
 cases q1:b.lk.testBit k<;>cases q2:(jed b.gv).testBit k<;>rw[q1,q2] at e<;>simp_all
theorem At.same(A:At h p r b)(c:Option Cell):(h.set p c).set r (some (.dct (gvD b.gv)))=h.set p c:=jek (by rw[List.getElem?_set_ne A.ne];exact A.g)
theorem jj6(b:Bd)(v:Int):(v<1 \/ (2:Int)^b.n<=v) \/ ∃pl:Nat,v=pl /\ 0<pl /\ pl<2^b.n:=by
 by_cases h:v<1 \/ (2:Int)^b.n<=v
 ·exact .inl h
 ·refine .inr ⟨v.toNat,by omega,by omega,?_⟩
  have:((2^b.n:Nat):Int)=(2:Int)^b.n:=by simp
  omega
theorem jli{b:Bd}{pl:Nat}(h1:0<pl)(h2:pl<2^b.n):¬((pl:Int)<1 \/ (2:Int)^b.n<=(pl:Int)):=by
 have:((2^b.n:Nat):Int)=(2:Int)^b.n:=by simp
 omega
theorem op_at{p r m:Nat}(A:At h p r b)(I:I34 b m)(hm:m<=1000)(op:Op)(v:Int):op.z [.ref p,.int v] h=match opE op b v with | some c=> .exc c h | none=> .ok (.int (opT op (opB op b v):Nat)) ((h.set p ((opB op b v).cell r)).set r (some (.dct (gvD (opB op b v).gv)))):=by
 cases op with
 | turn=>
  simp only[Op.z,opE]
  rcases jfk b v with hv | ⟨k,w,rfl,hw⟩
  ·rw[jhy hv];exact jxv A v hv
  ·rw[jfj hw,jya A k w hw]
   cases jls b k w with
   | some c=>rfl
   | none=>simp only[opB,opT,Int.toNat_natCast];rw[A.same]
 | lock=>
  simp only[Op.z,opE]
  rcases jfk b v with hv | ⟨k,w,rfl,hw⟩
  ·rw[jhy hv];exact jxu A v hv
  ·rw[jfj hw,jy9 A k w hw]
   cases e:jj9 b k w with
   | some c=>rfl
   | none=>simp only[opB,opT,Int.toNat_natCast,or_xor (jom e)];rw[A.same]
 | unlock=>
  simp only[Op.z,opE]
  rcases jfk b v with hv | ⟨k,w,rfl,hw⟩
  ·rw[jhy hv];exact jr6 A v hv
  ·rw[jfj hw,jri A k (List.getElem?_eq_some_iff.mp hw).1]
   cases e:jdu b k with
   | some c=>rfl
   | none=>simp only[opB,opT,Int.toNat_natCast,jt1 (jkz e)];rw[A.same]
 | permit=>
  simp only[Op.z,opE]
  rcases jj6 b v with hv | ⟨pl,rfl,h1,h2⟩
  ·rw[if_pos hv];exact jsr A v (by omega)
  ·rw[if_neg (jli h1 h2),jse A I.st I.le (by have:=I.ln;omega) pl h1 h2,Int.toNat_natCast]
   cases jg9 b pl with
   | some c=>rfl
   | none=>simp only[opB,opT,Int.toNat_natCast];rfl
 | back=>
  simp only[Op.z,opE]
  cases hv:hasG b.gv v with
  | false=>rw[if_neg (by simp)];exact jyi A v hv
  | true=>
   obtain⟨g,hg,eg⟩:=List.any_eq_true.mp hv
   have eg:v=(g.1:Int):=by simp at eg;omega
   subst eg
   rw[if_pos rfl,jxf A (jf8 I.so) g hg]
   simp only[opB,opT,Int.toNat_natCast]
   have:h.set p (({b with gv:=gone b.gv g.1}:Bd).cell r)=h:=jek A.o
   rw[this]
theorem opE_in{op:Op}{b:Bd}{v:Int}{c:String}(e:opE op b v=some c):c∈jg8 /\ c∈rais:=by
 have key:∀c:String,c∈["NoSwitch","Locked","Held","Loaded","Shorted","NoLock","NotOpen","NotLocked","NoBar","NotEarthed","NotDead","NoPermit"]->c∈jg8 /\ c∈rais:=by decide+kernel
 refine key c ?_
 have sw:∀f:Nat->Sw->Option String,(∀k w,f k w=some c->c∈["NoSwitch","Locked","Held","Loaded","Shorted","NoLock","NotOpen","NotLocked","NoBar","NotEarthed","NotDead","NoPermit"])->swE b v f=some c->c∈["NoSwitch","Locked","Held","Loaded","Shorted","NoLock","NotOpen","NotLocked","NoBar","NotEarthed","NotDead","NoPermit"]:=λf hf e=>by
  rcases jfk b v with hv | ⟨k,w,rfl,hw⟩
  ·rw[jhy hv] at e;cases e;simp
  ·rw[jfj hw] at e;exact hf k w e
 cases op with
 | turn=>
  refine sw _ (λk w e=> ?_) e
  simp only[jls] at e
  split at e
  ·cases e;simp
  ·split at e
   ·cases e;simp
   ·split at e
    ·cases e;simp
    ·split at e
     ·cases e
     ·cases e;simp
 | lock=>
  refine sw _ (λk w e=> ?_) e
  simp only[jj9] at e
  split at e
  ·cases e;simp
  ·split at e
   ·cases e;simp
   ·split at e
    ·cases e;simp
    ·cases e
 | unlock=>
  refine sw (λk _=>jdu b k) (λk w e=> ?_) e
  simp only[jdu] at e
  split at e
  ·cases e;simp
  ·split at e
   ·cases e;simp
   ·cases e
 | permit=>
  simp only[opE,jg9] at e
  split at e
  ·cases e;simp
  ·split at e
   ·cases e;simp
   ·split at e
    ·cases e;simp
    ·cases e
 | back=>
  simp only[opE] at e
  split at e
  ·cases e
  ·cases e;simp
theorem jiy{h:MH}{q d:Nat}{b:Bd}(op:Op)(v:Int)(hv:v<0 \/ (b.sws.length:Int)<=v):z_Q5 [yd b.n b.sws,.ref q,.str op.s,.int v] h= .ok (.int 0) h:=by
 have ix:=ixs b.n b.sws h
 by_cases q:v<0
 ·simp[-dIx,z_Q5,b_Q5,q]
 ·have q2:(b.sws.length:Int)<=v:=by omega
  simp[-dIx,z_Q5,b_Q5,q,ix,q2]
theorem js6(R:Rw h q d b)(I:I34 b m)(hb:Hb h)(k:Nat)(w:Sw)(hw:b.sws[k]?=some w):
  z_Q5 [yd b.n b.sws,.ref q,.str (Str.ofString "turn"),.int k] h= .ok (.int (jdl (jls b k w))) h /\
  z_Q5 [yd b.n b.sws,.ref q,.str (Str.ofString "lock"),.int k] h= .ok (.int (jdl (jj9 b k w))) h /\
  z_Q5 [yd b.n b.sws,.ref q,.str (Str.ofString "unlock"),.int k] h= .ok (.int (jdl (jdu b k))) h:=by
 have hk:k<b.sws.length:=(List.getElem?_eq_some_iff.mp hw).1
 obtain⟨i0,i1,_,_⟩:=ix4 R.c
 have ix:=ixs b.n b.sws h
 have ik:=ixk hw h
 have j0:=d0 (w:=w) h
 have s1:=jea b.lk k h
 have s2:=jea b.st k h
 have s3:=jea (jed b.gv) k h
 have lh:=jjt R (jf8 I.so)
 have e1:=due_ok I.ok b.st k w hw h hb
 have q1:¬((b.sws.length:Int)<=(k:Int)):=by omega
 have q0:¬((k:Int)<0):=by omega
 have dN:jdl none= -1:=rfl
 have d1:jdl (some "Locked")=1:=by decide+kernel
 have d2:jdl (some "Held")=2:=by decide+kernel
 have d3:jdl (some "Loaded")=3:=by decide+kernel
 have d4:jdl (some "Shorted")=4:=by decide+kernel
 have d5:jdl (some "NoLock")=5:=by decide+kernel
 have d6:jdl (some "NotOpen")=6:=by decide+kernel
 have d7:jdl (some "NotLocked")=7:=by decide+kernel
 refine⟨?_,?_,?_⟩
 ·unfold jls
  cases q2:b.lk.testBit k with
  | true=>
   rw[q2] at s1
   simp only[if_true,d1]
   simp[-dIx,z_Q5,b_Q5,ix,q0,q1,i1,s1]
  | false=>
   rw[q2] at s1
   cases q3:(jed b.gv).testBit k with
   | true=>
    rw[q3] at s3
    simp only[if_true,Bool.false_eq_true,if_false,d2]
    simp[-dIx,z_Q5,b_Q5,ix,q0,q1,i1,s1,lh,s3]
   | false=>
    rw[q3] at s3
    have:jdl (if jf1 b.st k w b.sws=true then some "Loaded" else if jgx (b.st^^^2^k) b.sws=true then none else some "Shorted")=jtt b.st k w b.sws:=by
     unfold jtt
     split
     ·exact d3
     ·split
      ·rfl
      ·exact d4
    simp only[Bool.false_eq_true,if_false,this]
    simp[-dIx,z_Q5,b_Q5,ix,q0,q1,i0,i1,s1,lh,s3,e1]
 ·have wk:∀ρ:Ro,ρ[0]?=some (some (yd b.n b.sws))->ρ[3]?=some (some (.int k))->(mBin (dIn true) (mBin dIx (mBin dIx (mBin dIx (mVar 0) (mC (.int 1))) (mVar 3)) (mC (.int 0))) (jbh (jc3 (ja3 (mC (.str "feed")) (ja3 (mC (.str "splitter")) mNil))))) ρ h= .ok (.bl (!w.lockable)) h:=λρ e0 e3=>by
   simp only[mBin,mVar,mC,jdo,e0,e3,ix,ik,j0]
   cases w<;>simp[Sw.lockable,Sw.kd,eqF]
  have k0:=ix2l (.int (-1)) (.int 1) h
  unfold jj9
  have c1:∀ρ:Ro,ρ[3]?=some (some (.int k))->mBin dLt (mVar 3) (mC (.int 0)) ρ h= .ok (.bl false) h:=λρ e=>by simp[e,q0]
  have c2:∀ρ:Ro,ρ[0]?=some (some (yd b.n b.sws))->ρ[3]?=some (some (.int k))->mBin dGe (mVar 3) (mFn fLen (ja3 (mBin dIx (mVar 0) (mC (.int 1))) mNil)) ρ h= .ok (.bl false) h:=λρ e e'=>by simp[-dIx,e,e',ix,q1]
  have r1:∀ρ:Ro,ρ[1]?=some (some (.ref q))->mBin dIx (mVar 1) (mC (.int 1)) ρ h= .ok (.int b.lk) h:=λρ e=>by simp[-dIx,e,i1]
  have r0:∀ρ:Ro,ρ[1]?=some (some (.ref q))->mBin dIx (mVar 1) (mC (.int 0)) ρ h= .ok (.int b.st) h:=λρ e=>by simp[-dIx,e,i0]
  have t1:∀ρ:Ro,ρ[2]?=some (some (.str (Str.ofString "lock")))->mBin dEq (mVar 2) (mC (.str (Str.ofString "turn"))) ρ h= .ok (.bl false) h:=λρ e=>by simp[e,w_lt]
  have t2:∀ρ:Ro,ρ[2]?=some (some (.str (Str.ofString "lock")))->mBin dEq (mVar 2) (mC (.str (Str.ofString "lock"))) ρ h= .ok (.bl true) h:=λρ e=>by simp[e]
  cases q2:w.lockable<;>cases q3:b.st.testBit k<;>cases q4:b.lk.testBit k<;>rw[q2] at wk<;>rw[q3] at s2<;>rw[q4] at s1<;>simp[-mBin, -dIx, -dIn, -dLt, -dGe, -dEq,z_Q5,b_Q5,c1,c2,t1,t2,wk,r0,s2,d5,d6,d1,dN]<;>simp[-dIx,i1,s1,k0]
 ·have k0:=ix2l (.int (-1)) (.int 2) h
  unfold jdu
  cases q2:b.lk.testBit k<;>cases q3:(jed b.gv).testBit k<;>rw[q2] at s1<;>rw[q3] at s3<;>simp[-dIx,z_Q5,b_Q5,ix,q0,q1,i1,w_ut,w_ul,s1,lh,s3,k0,d7,d2,dN]
theorem due34(R:Rw h q d b)(I:I34 b m)(hb:Hb h)(op:Op)(v:Int):z_Xq [yd b.n b.sws,.ref q,.str op.s,.int v] h= .ok (.int (jdl (opE op b v))) h:=by
 have d0:jdl (some "NoSwitch")=0:=by decide+kernel
 have d8:jdl (some "NoBar")=8:=by decide+kernel
 have d9:jdl (some "NotEarthed")=9:=by decide+kernel
 have d10:jdl (some "NotDead")=10:=by decide+kernel
 have d11:jdl (some "NoPermit")=11:=by decide+kernel
 have dN:jdl none= -1:=rfl
 obtain⟨i0,i1,i2,_⟩:=ix4 R.c
 have hd:=R.g
 cases op with
 | turn=>
  have e:z_Q5 [yd b.n b.sws,.ref q,.str (Str.ofString "turn"),.int v] h= .ok (.int (jdl (opE .turn b v))) h:=by
   simp only[opE]
   rcases jfk b v with hv | ⟨k,w,rfl,hw⟩
   ·rw[jhy hv,d0];exact jiy (d:=d) .turn v hv
   ·rw[jfj hw];exact(js6 R I hb k w hw).1
  simp only[Op.s]
  simp[z_Xq,b_Xq,w_tb,w_tp,e]
 | lock=>
  have e:z_Q5 [yd b.n b.sws,.ref q,.str (Str.ofString "lock"),.int v] h= .ok (.int (jdl (opE .lock b v))) h:=by
   simp only[opE]
   rcases jfk b v with hv | ⟨k,w,rfl,hw⟩
   ·rw[jhy hv,d0];exact jiy (d:=d) .lock v hv
   ·rw[jfj hw];exact(js6 R I hb k w hw).2.1
  simp only[Op.s]
  simp[z_Xq,b_Xq,w_lb,w_lp,e]
 | unlock=>
  have e:z_Q5 [yd b.n b.sws,.ref q,.str (Str.ofString "unlock"),.int v] h= .ok (.int (jdl (opE .unlock b v))) h:=by
   simp only[opE]
   rcases jfk b v with hv | ⟨k,w,rfl,hw⟩
   ·rw[jhy hv,d0];exact jiy (d:=d) .unlock v hv
   ·rw[jfj hw];exact(js6 R I hb k w hw).2.2
  simp only[Op.s]
  simp[z_Xq,b_Xq,w_ub,w_up,e]
 | back=>
  have k0:=ix2l (.int 11) (.int (-1)) h
  have vg:=jqo b.gv v
  simp only[Op.s,opE]
  cases hv:hasG b.gv v<;>rw[hv] at vg
  ·have vg:valK (gvD b.gv) (.inl v)=none:=Option.not_isSome_iff_eq_none.mp (by rw[vg];simp)
   have di:dIn false (.int v) (.ref d) h= .ok (.bl false) h:=by simp[hd,vg]
   simp[-dIx, -dIn,z_Xq,b_Xq,i2,di,k0,d11]
  ·obtain⟨x,ex⟩:=Option.isSome_iff_exists.mp vg
   have di:dIn false (.int v) (.ref d) h= .ok (.bl true) h:=by simp[hd,ex]
   simp[-dIx, -dIn,z_Xq,b_Xq,i2,di,k0,dN]
 | permit=>
  have iy:dIx (yd b.n b.sws) (.int 0) h= .ok (.int b.n) h:=by simp[yd]
  have o1:=okp (show b.n<=100 by have:=I.ok.2.1;omega)
  simp only[Op.s,opE]
  rcases jj6 b v with hv | ⟨pl,rfl,h1,h2⟩
  ·rw[if_pos hv,d8]
   by_cases q1:v<1
   ·simp[-dIx,z_Xq,b_Xq,w_pb,q1]
   ·have q2:(2:Int)^b.n<=v:=by omega
    simp[-dIx,z_Xq,b_Xq,w_pb,q1,iy,o1,q2]
  ·rw[if_neg (jli h1 h2),Int.toNat_natCast]
   have q1:¬((pl:Int)<1):=by omega
   have q2:¬((2:Int)^b.n<=(pl:Int)):=λz=>jli h1 h2 (.inr z)
   have eo:=jxl I.ok b.st pl h
   have j0:=(ix2l (.int (pl&&&jce b.st b.sws:Nat)) (.int (je1 (ownL b.st pl b.sws):Nat)) h).1
   have ek:=jqf I.ok pl b.lk h hb
   have k0:=ix2l (.int 10) (.int (-1)) h
   have sle:=Nat.and_le_left (n:=pl) (m:=jce b.st b.sws)
   have ne:pl - (pl&&&jce b.st b.sws)≠0↔¬(((pl&&&jce b.st b.sws:Nat):Int)=(pl:Int)):=by omega
   unfold jg9
   generalize (pl&&&jce b.st b.sws)=g at*
   generalize je1 (ownL b.st pl b.sws)=f at*
   by_cases q3:pl - g≠0
   ·rw[if_pos q3,d9]
    have q4:=ne.mp q3
    have q5:¬(g=pl):=by omega
    simp[-dIx,z_Xq,b_Xq,w_pb,q1,iy,o1,q2,i0,eo,j0,q4,q5]
   ·rw[if_neg q3]
    have q4:g=pl:=by omega
    subst q4
    cases q5:jis b.sws g b.lk<;>rw[q5] at ek<;>simp[-dIx,z_Xq,b_Xq,w_pb,q1,iy,o1,q2,i0,eo,j0,i1,ek,k0,d10,dN]
theorem row34(R:Rw h q d b)(I:I34 b m)(hm:m<=1000)(op:Op)(v:Int)(e:opE op b v=none):z_Xn [yd b.n b.sws,.ref q,.str op.s,.int v] h= .ok (.int (opT op (opB op b v):Nat)) ((h.set q (some (.lst [.int (opB op b v).st,.int (opB op b v).lk,.ref d,.int (opB op b v).la]))).set d (some (.dct (gvD (opB op b v).gv)))):=by
 obtain⟨i0,i1,i2,i3⟩:=ix4 R.c
 have hq:=R.c
 have hd:=R.g
 have lq:∀c:Option Cell,(h.set q c)[q]?=some c:=λc=>List.getElem?_set_self R.lt'
 have same:∀c:Option Cell,(h.set q c).set d (some (.dct (gvD b.gv)))=h.set q c:=λc=>jek (by rw[List.getElem?_set_ne R.ne];exact R.g)
 have x40:ixN 4 0=some 0:=rfl
 have x41:ixN 4 1=some 1:=rfl
 have x43:ixN 4 3=some 3:=rfl
 cases op with
 | turn=>
  obtain⟨k,w,rfl,hw,_⟩:=jnl e
  have hk:k<b.sws.length:=(List.getElem?_eq_some_iff.mp hw).1
  have o1:=okp (show k<=100 by have:=I.ok.2.2.1;omega)
  have x1:=bxor b.st (2^k)
  simp at x1
  simp only[opB,opT,Op.s,Int.toNat_natCast]
  rw[same]
  have r0:=(ix4 (lq (some (.lst [.int (b.st^^^2^k:Nat),.int b.lk,.ref d,.int b.la])))).1
  simp[-dIx,z_Xn,b_Xn,i0,o1,x1,hq,x40,r0]
 | lock=>
  obtain⟨k,w,rfl,hw,_⟩:=jnl e
  have hk:k<b.sws.length:=(List.getElem?_eq_some_iff.mp hw).1
  have o1:=okp (show k<=100 by have:=I.ok.2.2.1;omega)
  have x1:=bxor b.lk (2^k)
  simp at x1
  simp only[opB,opT,Op.s,Int.toNat_natCast]
  rw[same]
  have r0:=(ix4 (lq (some (.lst [.int b.st,.int (b.lk^^^2^k:Nat),.ref d,.int b.la])))).2.1
  simp[-dIx,z_Xn,b_Xn,w_lt,w_lp,w_lb,i1,o1,x1,hq,x41,r0]
 | unlock=>
  obtain⟨k,w,rfl,hw,_⟩:=jnl (f:=λk _=>jdu b k) e
  have hk:k<b.sws.length:=(List.getElem?_eq_some_iff.mp hw).1
  have o1:=okp (show k<=100 by have:=I.ok.2.2.1;omega)
  have x1:=bxor b.lk (2^k)
  simp at x1
  simp only[opB,opT,Op.s,Int.toNat_natCast]
  rw[same]
  have r0:=(ix4 (lq (some (.lst [.int b.st,.int (b.lk^^^2^k:Nat),.ref d,.int b.la])))).2.1
  simp[-dIx,z_Xn,b_Xn,w_ut,w_up,w_ub,i1,o1,x1,hq,x41,r0]
 | permit=>
  simp only[opE] at e
  rcases jj6 b v with hv | ⟨pl,rfl,h1,h2⟩
  ·rw[if_pos hv] at e;cases e
  ·simp only[opB,opT,Op.s,Int.toNat_natCast]
   have eo:=λh=>jxl I.ok b.st pl h
   have j1:=λh=>(ix2l (.int (pl&&&jce b.st b.sws:Nat)) (.int (je1 (ownL b.st pl b.sws):Nat)) h).2
   have bo:=bor (je1 (ownL b.st pl b.sws)) b.lk
   have pn:=js1 (gv:=b.gv) (m:=b.la+1) (a:=pl) (c:=je1 (ownL b.st pl b.sws)|||b.lk) (λg hg=>Nat.lt_succ_of_le (I.le g hg))
   have gl:(gvD b.gv).length<16777216:=by unfold gvD;rw[List.length_map];have:=I.ln;omega
   unfold jke
   generalize (pl&&&jce b.st b.sws)=g at*
   generalize je1 (ownL b.st pl b.sws)=f at*
   have c3:dAdd (.int (b.la:Int)) (.int 1) h= .ok (.int ((b.la+1:Nat):Int)) h:=rfl
   generalize hC:((b.la+1:Nat):Int)=L at*
   obtain⟨r0,r1,r2,r3⟩:=ix4 (lq (some (.lst [.int b.st,.int b.lk,.ref d,.int L])))
   have ld:(h.set q (some (.lst [.int b.st,.int b.lk,.ref d,.int L])))[d]?=some (some (.dct (gvD b.gv))):=by rw[List.getElem?_set_ne R.ne];exact R.g
   have r3':=(ix4 (h:=(h.set q (some (.lst [.int b.st,.int b.lk,.ref d,.int L]))).set d (some (.dct (gvD (b.gv++[(b.la+1,pl,f|||b.lk)]))))) (q:=q) (by rw[List.getElem?_set_ne (Ne.symm R.ne)];exact lq _)).2.2.2
   have eb:b_Xn [some (yd b.n b.sws),some (.ref q),some (.str (Str.ofString "permit")),some (.int pl)] h= .rt (.int L) ((h.set q (some (.lst [.int b.st,.int b.lk,.ref d,.int L]))).set d (some (.dct (gvD (b.gv++[(b.la+1,pl,f|||b.lk)]))))):=by
    simp[-dIx, -dAdd,b_Xn,w_pt,i3,c3,hq,x43,r0,r1,r2,r3,eo,j1,bo,ld,gl,pn,r3']
   exact jwk (b:=b_Xn) rfl eb (by simp)
 | back=>
  simp only[opE] at e
  cases hv:hasG b.gv v with
  | false=>rw[hv] at e;simp at e
  | true=>
   obtain⟨g,hg,eg⟩:=List.any_eq_true.mp hv
   have eg:v=(g.1:Int):=by simp at eg;omega
   subst eg
   simp only[opB,opT,Op.s,Int.toNat_natCast]
   have sq:h.set q (some (.lst [.int b.st,.int b.lk,.ref d,.int b.la]))=h:=jek R.c
   rw[sq]
   have e1:=jh0 (jf8 I.so) hg
   have e3:=jso b.gv g.1
   have R2:Rw (h.set d (some (.dct (gvD (gone b.gv g.1))))) q d {b with gv:=gone b.gv g.1}:=⟨by rw[List.getElem?_set_ne (Ne.symm R.ne)];exact R.c,by rw[List.getElem?_set_self R.lt]⟩
   have lh:=jjt R2 (jf8 (List.Pairwise.filter _ I.so))
   simp[-dIx,z_Xn,b_Xn,w_bt,w_bp,i2,hd,e1,e3,lh]
def kpF:Nat->List (List D)->List D
 | _,[]=>[]
 | i,l::ls=> .tup [.ref i,.lst l]::kpF (i+1) ls
def pl34(d:D):Prop:=(∃x y:Int,d= .tup [.int x,.int y]) \/ ∃x:Int,d= .int x
def pls(ls:List (List D)):Prop:=∀l∈ls,∀d∈l,pl34 d
def G34(hd:List D)(b c o oc:Bd)(ls:List (List D)):MH:=some (.lst hd)::b.cell 3::none::some (.dct (gvD b.gv))::o.cell 6::none::some (.dct (gvD o.gv))::some (.dct (gvD c.gv))::some (.lst [.int c.st,.int c.lk,.ref 7,.int c.la])::some (.dct (gvD oc.gv))::some (.lst [.int oc.st,.int oc.lk,.ref 9,.int oc.la])::some (.lst (kpF 12 ls))::ls.map λl=>some (.lst l)
def GS:Bool->List D->Bd->Bd->Bd->Bd->List (List D)->MH
 | false,hd,b,c,o,oc,ls=>G34 hd b c o oc ls
 | true,hd,b,c,o,oc,ls=>G34 hd o oc b c ls
def pS:Bool->Nat | false=>1 | true=>4
def rS:Bool->Nat | false=>3 | true=>6
def qS:Bool->Nat | false=>8 | true=>10
def dS:Bool->Nat | false=>7 | true=>9
theorem jwu{d:D}(h:pl34 d)(n:Nat):d.bnd n=true:=by
 rcases h with⟨x,y,rfl⟩ | ⟨x,rfl⟩<;>simp[D.bnd,D.bnds]
theorem jq6:∀(i n:Nat) (ls:List (List D)),pls ls->i+ls.length<=n->D.bnds n (kpF i ls)=true
 | _,_,[],_,_=>by simp[kpF,D.bnds]
 | i,n,l::ls,hp,h=>by
  simp only[List.length_cons] at h
  have ih:=jq6 (i+1) n ls (λa ha=>hp a (List.mem_cons_of_mem _ ha)) (by omega)
  have h1:D.bnds n l=true:=jfd λd hd=>jwu (hp l (List.mem_cons_self ..) d hd) n
  simp[kpF,D.bnds,D.bnd,ih,h1,show i<n by omega]
theorem jvx:∀(i n:Nat) (ls:List (List D)),i<=n->n<i+ls.length->D.bnds n (kpF i ls)=false
 | _,_,[],h1,h2=>by simp at h2;omega
 | i,n,l::ls,h1,h2=>by
  simp only[List.length_cons] at h2
  by_cases e:i=n
  ·subst e;simp[kpF,D.bnds,D.bnd]
  ·have ih:=jvx (i+1) n ls (by omega) (by omega)
   simp[kpF,D.bnds,ih]
theorem jsc:∀(i:Nat) (ls:List (List D)) (l:List D),kpF i (ls++[l])=kpF i ls++[.tup [.ref (i+ls.length),.lst l]]
 | i,[],l=>rfl
 | i,a::ls,l=>by
  have:=jsc (i+1) ls l
  simp only[List.cons_append,kpF,this,List.length_cons]
  rw[show i+1+ls.length=i+(ls.length+1) by omega]
theorem jrz(hd:List D)(b c o oc:Bd)(ls:List (List D)):(G34 hd b c o oc ls).length=12+ls.length:=by
 simp only[G34,List.length_cons,List.length_map];omega
theorem jkx(s:Bool)(hd:List D)(b c o oc:Bd)(ls:List (List D)):(GS s hd b c o oc ls).length=12+ls.length:=by
 cases s<;>exact jrz ..
theorem Hb34{hd:List D}(hh:∀n,D.bnds n hd=true)(b c o oc:Bd){ls:List (List D)}(hp:pls ls):Hb (G34 hd b c o oc ls):=λn hn=>by
 rw[jrz] at hn
 have h0:=hh n
 have h1:=js3 b (show 3<n by omega)
 have h2:=js3 o (show 6<n by omega)
 have h3:=jol b.gv n
 have h4:=jol o.gv n
 have h5:=jol c.gv n
 have h6:=jol oc.gv n
 have h7:=jq6 12 n ls hp hn
 have h8:(ls.map λl=>(some (.lst l):Option Cell)).all (Cell.bnd n)=true:=by
  rw[List.all_eq_true]
  intro x hx
  obtain⟨l,hl,rfl⟩:=List.mem_map.mp hx
  exact jfd λd hd=>jwu (hp l hl d hd) n
 simp only[G34,List.all_cons,h1,h2,h3,h4,h5,h6,h8,Bool.and_true,Bool.true_and]
 simp only[Cell.bnd,h0,h7,D.bnds,D.bnd,Bool.and_true,Bool.true_and]
 simp
 omega
theorem HbS(s:Bool){hd:List D}(hh:∀n,D.bnds n hd=true)(b c o oc:Bd){ls:List (List D)}(hp:pls ls):Hb (GS s hd b c o oc ls):=by
 cases s<;>exact Hb34 hh _ _ _ _ hp
theorem at_S(s:Bool){hd:List D}(hh:∀n,D.bnds n hd=true){b:Bd}(c o oc:Bd){ls:List (List D)}(hp:pls ls)(ok:jbx b.n b.sws):At (GS s hd b c o oc ls) (pS s) (rS s) b:=by
 cases s<;>exact⟨rfl,rfl,Hb34 hh _ _ _ _ hp,ok⟩
theorem rw_S(s:Bool)(hd:List D)(b c o oc:Bd)(ls:List (List D)):Rw (GS s hd b c o oc ls) (qS s) (dS s) c:=by
 cases s<;>exact⟨rfl,rfl⟩
theorem kp_S(s:Bool)(hd:List D)(b c o oc:Bd)(ls:List (List D)):(GS s hd b c o oc ls)[11]?=some (some (.lst (kpF 12 ls))):=by
 cases s<;>rfl
theorem set_b(s:Bool)(hd:List D)(b b' c o oc:Bd)(ls:List (List D)):((GS s hd b c o oc ls).set (pS s) (b'.cell (rS s))).set (rS s) (some (.dct (gvD b'.gv)))=GS s hd b' c o oc ls:=by
 cases s<;>rfl
theorem set_c(s:Bool)(hd:List D)(b c c' o oc:Bd)(ls:List (List D)):((GS s hd b c o oc ls).set (qS s) (some (.lst [.int c'.st,.int c'.lk,.ref (dS s),.int c'.la]))).set (dS s) (some (.dct (gvD c'.gv)))=GS s hd b c' o oc ls:=by
 cases s<;>rfl
theorem set_t(s:Bool)(hd:List D)(b c o oc:Bd)(ls:List (List D))(l:List D):(GS s hd b c o oc ls++[some (Cell.lst l)]).set 11 (some (Cell.lst (kpF 12 ls++[D.tup [.ref (12+ls.length),.lst l]])))=GS s hd b c o oc (ls++[l]):=by
 have e:(ls++[l]).map (λl=>(some (.lst l):Option Cell))=ls.map (λl=>some (.lst l))++[some (.lst l)]:=by simp
 cases s<;>simp only[GS,G34,jsc,e]<;>rfl
theorem jqx{np nn:Nat}{b:MS}{ds:List D}{h h':MH}{d:D}(hl:ds.length=np)(e:b (ds.map some++List.replicate (nn - ds.length) none) h= .rt d h'):mFun np nn b ds h=fin h.length d h':=by
 unfold mFun
 rw[if_pos hl,e]
theorem jox(A:At h p r b)(hlen:b.gv.length<16777216):z_Qe [.ref p] h= .ok (.ref h.length) (h++[some (.lst (b.gv.map λg=> .tup [.int g.1,.int g.2.1]))]):=by
 have o:h[p]?=some (some (.ins "Board" (b.f r))):=A.o
 have g:=A.g
 have l:∀c:Option Cell,(h.set r c)[r]?=some c:=λc=>List.getElem?_set_self A.lt
 have hs:(h.set r none).set r (some (.dct (gvD b.gv)))=h:=by rw[List.set_set];exact jek g
 have gl:(gvD b.gv).length<16777216:=by unfold gvD;rw[List.length_map];exact hlen
 have comp:compLoop (gTup [0,1]) tYes (mTup (ja3 (mVar 0) (ja3 (mBin dIx (mVar 1) (mC (.int 0))) mNil))) [none,none] ((gvD b.gv).map jk8) (h.set r none)= .ok (b.gv.map λg=> .tup [.int g.1,.int g.2.1]) (h.set r none):=by
  unfold gvD
  rw[List.map_map]
  exact jbq (g:=gTup [0,1]) (t:=tYes) (m:=mTup (ja3 (mVar 0) (ja3 (mBin dIx (mVar 1) (mC (.int 0))) mNil))) (ρ0:=[none,none]) (λg:Nat×Nat×Nat=>jk8 (.inl (g.1:Int),.tup [.int g.2.1,.int g.2.2])) (λg=>[some (.int g.1),some (.tup [.int g.2.1,.int g.2.2])]) (λg=> .tup [.int g.1,.int g.2.1]) b.gv λg _=>⟨by simp,by simp,by simp⟩
 have key:b_Qe [some (.ref p)] h= .rt (.ref h.length) (h++[some (.lst (b.gv.map λg=> .tup [.int g.1,.int g.2.1]))]):=by
  generalize b.gv.map (λg=>D.tup [.int g.1,.int g.2.1])=L at*
  simp[-List.map_map,b_Qe,o,g,gl,comp,l,hs]
 refine(jqx (np:=1) (nn:=1) (b:=b_Qe) (ds:=[.ref p]) rfl key).trans ?_
 unfold fin
 rw[if_neg (by simp),if_neg (by simp[D.bnd])]
theorem res_pl{d:D}(h:pl34 d)(n:Nat)(H:MH):res (n+2) H d=d:=by
 rcases h with⟨x,y,rfl⟩ | ⟨x,rfl⟩<;>simp[res]
theorem jo9{l:List D}(hp:∀d∈l,pl34 d)(n:Nat)(H:MH):l.map (res (n+2) H)=l:=by
 have:=List.map_congr_left (f:=res (n+2) H) (g:=id) (λd hd=>res_pl (hp d hd) n H)
 rw[this];simp
theorem jt7{l:List D}(hp:∀d∈l,pl34 d):(D.lst l).dat=true:=jkp (n:=3) (jha λd hd=>by
 rcases hp d hd with⟨x,y,rfl⟩ | ⟨x,rfl⟩
 ·exact jr8 λd hd=>by
   simp at hd
   rcases hd with rfl | rfl<;>exact jia _ _
 ·exact jia _ _) (by omega)
theorem jsh{h:MH}{L:Nat}{l:List D}(e:h[L]?=some (some (.lst l)))(hp:∀d∈l,pl34 d):dNe (.ref L) (.lst l) h= .ok (.bl false) h:=by
 have s1:see h (.ref L)= .lst l:=by
  unfold see
  simp only[res,e,jo9 hp 5 h]
 have s2:see h (.lst l)= .lst l:=by
  unfold see
  simp only[res,jo9 hp 5 h]
 have d1:=jt7 hp
 have d2:=jpa d1
 have d3:(D.ref L).dat=false:=by simp[D.dat,D.py]
 unfold dNe dEq
 simp only[s1,s2,d1,d2,d3,Bool.false_eq_true,false_and,if_false,and_self,chk,if_true,jdo,Bool.not_true]
theorem juu(gv:List (Nat×Nat×Nat)):jma (gvD gv)=some (gv.map λg=>(g.1:Int)):=by
 unfold gvD
 induction gv with
 | nil=>rfl
 | cons g gv ih=>simp[ih]
theorem joy{l:List Int}(h:l.Pairwise (·<=·)):srt l=l:=by
 unfold srt
 refine List.mergeSort_of_pairwise (h.imp λh=> ?_)
 simpa using h
def PL(b:Bd):List D:=b.gv.map λg=> .tup [.int g.1,.int g.2.1]
theorem jz4(b:Bd):∀d∈PL b,pl34 d:=λd hd=>by
 obtain⟨g,_,rfl⟩:=List.mem_map.mp hd
 exact .inl ⟨_,_,rfl⟩
theorem jut(R:Rw h q d b)(so:b.gv.Pairwise λg g'=>g.1<g'.1):compLoop (jad 0) tYes (mTup (ja3 (mVar 0) (ja3 (mBin dIx (mBin dIx (mBin dIx (mVar 1) (mC (.int 2))) (mVar 0)) (mC (.int 0))) mNil))) [none,some (.ref q)] ((b.gv.map λg=>(g.1:Int)).map D.int) h= .ok (PL b) h:=by
 rw[List.map_map]
 refine jbq (g:=jad 0) (t:=tYes) (h:=h) (m:=mTup (ja3 (mVar 0) (ja3 (mBin dIx (mBin dIx (mBin dIx (mVar 1) (mC (.int 2))) (mVar 0)) (mC (.int 0))) mNil))) (ρ0:=[none,some (.ref q)]) (D.int∘λg:Nat×Nat×Nat=>(g.1:Int)) (λg=>[some (.int g.1),some (.ref q)]) (λg=> .tup [.int g.1,.int g.2.1]) b.gv λg hg=>⟨by simp,by simp,?_⟩
 have e1:=jh0 (jf8 so) hg
 have hd:=R.g
 have i2:=(ix4 R.c).2.2.1
 have e2:dIx (.ref d) (.int g.1) h= .ok (.tup [.int (g.2.1:Nat),.int (g.2.2:Nat)]) h:=by simp[hd,e1]
 have e3:=(ix2t (.int (g.2.1:Nat)) (.int (g.2.2:Nat)) h).1
 simp[-dIx,i2,e2,e3]
theorem sort34(R:Rw h q d b)(I:I34 b m)(hm:m<=50){ρ:Ro}(e:ρ[1]?=some (some (.ref q))):jiq (ja3 (mBin dIx (mVar 1) (mC (.int 2))) mNil) ρ h= .ok ((b.gv.map λg=>(g.1:Int)).map D.int) h:=by
 have i2:=(ix4 R.c).2.2.1
 have hd:=R.g
 have ks:=juu b.gv
 have ss:srt (b.gv.map λg=>(g.1:Int))=b.gv.map λg=>(g.1:Int):=joy (List.pairwise_map.mpr (I.so.imp λh=>by omega))
 have gl:(b.gv.map λg=>(g.1:Int)).length<64:=by rw[List.length_map];have:=I.ln;omega
 simp only[jiq,ja3,mBin,mC,mVar,e,jdo,i2,mNil,hd,jlx,ks,jlt,chk,gl,if_true,ss]
section
variable (s : Bool) {hd : List D} (hh : ∀ n, D.bnds n hd = true) {b : Bd} (o : Bd) {m : Nat} (I : I34 b m) (hm : m <= 50)
def Rs(s:Bool)(t k:Int)(x5 x6:Option D):Ro:=[some (.ref (pS s)),some (.ref (qS s)),some (.int t),some (.ref 11),some (.int k),x5,x6]
include I hm hh
theorem jku(t k:Int)(x5 x6:Option D){ls:List (List D)}(hp:pls ls)(hl:ls.length<10000):∃(ls':List (List D)) (y5 y6:Option D),pls ls' /\ ls.length<=ls'.length /\ ls'.length<=ls.length+1 /\ jbl (Rs s t k x5 x6) (GS s hd b b o o ls)= .nx (Rs s t k y5 y6) (GS s hd b b o o ls'):=by
 have A:=at_S s hh b o o hp I.ok
 have R:=rw_S s hd b b o o ls
 have K:=kp_S s hd b b o o ls
 have st:=set_t s hd b b o o ls
 have ln:=jkx s hd b b o o ls
 obtain⟨i0,i1,i2,i3⟩:=ix4 R.c
 have lh:=jjt R (jf8 I.so)
 have e4:(k+t) % 4=0 \/ (k+t) % 4=1 \/ (k+t) % 4=2 \/ (k+t) % 4=3:=by omega
 unfold Rs
 generalize hH:GS s hd b b o o ls=H at*
 generalize hq:qS s=q at*
 generalize hpp:pS s=p at*
 have e0:∀ρ:Ro,ρ[0]?=some (some (.ref p))->mVar 0 ρ H= .ok (.ref p) H:=λρ e=>by simp[e]
 rcases e4 with r | r | r | r
 ·have m1:=λ(ρ:Ro) (e:ρ[0]?=some (some (.ref p)))=>jdg A (tab:=jfl) (f:="standing") (z:=z_Qa) (l:=mNil) (ds:=[]) rfl (by decide+kernel) (e0 ρ e) rfl
  rw[jmy A] at m1
  have i:=jji b.st H
  exact⟨ls,some (.int 0),x6,hp,Nat.le_refl _,by omega,by simp[-jan, -dIx,jbl,r,m1,i0,i,hH]⟩
 ·have m1:=λ(ρ:Ro) (e:ρ[0]?=some (some (.ref p)))=>jdg A (tab:=jic) (f:="locked") (z:=z_Qk) (l:=mNil) (ds:=[]) rfl (by decide+kernel) (e0 ρ e) rfl
  rw[jra A] at m1
  have i:=jji b.lk H
  exact⟨ls,some (.int 1),x6,hp,Nat.le_refl _,by omega,by simp[-jan, -dIx,jbl,r,m1,i1,i,hH]⟩
 ·have m1:=λ(ρ:Ro) (e:ρ[0]?=some (some (.ref p)))=>jdg A (tab:=jen) (f:="held") (z:=z_X7) (l:=mNil) (ds:=[]) rfl (by decide+kernel) (e0 ρ e) rfl
  rw[jj5 A] at m1
  have i:=jji (jed b.gv) H
  exact⟨ls,some (.int 2),x6,hp,Nat.le_refl _,by omega,by simp[-jan, -dIx,jbl,r,m1,lh,i,hH]⟩
 ·have m1:=λ(ρ:Ro) (e:ρ[0]?=some (some (.ref p)))=>jdg A (tab:=jg7) (f:="permits") (z:=z_Qe) (l:=mNil) (ds:=[]) rfl (by decide+kernel) (e0 ρ e) rfl
  rw[jox A (by have:=I.ln;omega),ln] at m1
  have hP:(b.gv.map λg=>D.tup [.int g.1,.int g.2.1])=PL b:=rfl
  rw[hP] at m1
  have lt:∀j:Nat,j<H.length->∀c:Option Cell,(H++[c])[j]?=H[j]?:=λj hj c=>List.getElem?_append_left hj
  have R1:Rw (H++[some (Cell.lst (PL b))]) q (dS s) b:=⟨by rw[lt q R.lt'];exact R.c,by rw[lt _ R.lt];exact R.g⟩
  have L1:∀c:Option Cell,(H++[c])[12+ls.length]?=some c:=λc=>by rw[<-ln];simp
  have K1:∀c:Option Cell,(H++[c])[11]?=some (some (.lst (kpF 12 ls))):=λc=>by rw[lt 11 (by omega)];exact K
  have ne:=jsh (L1 (some (.lst (PL b)))) (jz4 b)
  have pc:=jut R1 I.so
  have sl:=λ(ρ:Ro) (e:ρ[1]?=some (some (.ref q)))=>sort34 R1 I hm e
  have kl:(kpF 12 ls).length<16777216:=by
   have:∀(ls:List (List D)) (i:Nat),(kpF i ls).length=ls.length:=λls=>by
    induction ls with
    | nil=>intro i;rfl
    | cons a l ih=>intro i;simp[kpF,ih]
   rw[this];omega
  have pl:(PL b).length<16777216:=by unfold PL;rw[List.length_map];have:=I.ln;omega
  have gl2:(b.gv.map λg=>(g.1:Int)).length<16777216:=by rw[List.length_map];have:=I.ln;omega
  have sx:∀l:List D,(H++[some (Cell.lst (PL b))]).set (12+ls.length) (some (.lst l))=H++[some (.lst l)]:=λl=>by
   rw[<-ln];simp
  generalize b.gv.map (λg=>(g.1:Int))=KK at*
  generalize hPL:PL b=P at*
  by_cases q1:t / 4 % 2=1
  ·refine⟨ls++[P++[.int t]],some (.int 3),some (.ref (12+ls.length)),?_,by simp,by simp,?_⟩
   ·intro l hl d hd
    rcases List.mem_append.mp hl with h1 | h1
    ·exact hp l h1 d hd
    ·rw[List.mem_singleton.mp h1] at hd
     rcases List.mem_append.mp hd with h2 | h2
     ·rw[<-hPL] at h2;exact jz4 b d h2
     ·rw[List.mem_singleton.mp h2];exact .inr ⟨t,rfl⟩
   ·have s1:=st (P++[.int t])
    simp[-List.map_map, -jan, -dIx, -dNe, -jiq,jbl,r,m1,L1,sl,gl2,pc,ne,q1,pl,sx,K1,kl,s1]
  ·refine⟨ls++[P],some (.int 3),some (.ref (12+ls.length)),?_,by simp,by simp,?_⟩
   ·intro l hl d hd
    rcases List.mem_append.mp hl with h1 | h1
    ·exact hp l h1 d hd
    ·rw[List.mem_singleton.mp h1,<-hPL] at hd;exact jz4 b d hd
   ·have s1:=st P
    simp[-List.map_map, -jan, -dIx, -dNe, -jiq,jbl,r,m1,L1,sl,gl2,pc,ne,q1,K1,kl,s1]
end
section
variable (s : Bool) {hd : List D} (hh : ∀ n, D.bnds n hd = true) {b : Bd} (o : Bd) {m : Nat} (I : I34 b m) (hm : m <= 50)
include I hm hh
theorem jl4(t:Int):∀(ks:List Nat) (x4:Int) (x5 x6:Option D) (ls:List (List D)),pls ls->ls.length+ks.length<10000->∃(ls':List (List D)) (y4:Int) (y5 y6:Option D),pls ls' /\ ls.length<=ls'.length /\ ls'.length<=ls.length+ks.length /\ jc7 (jad 4) jbl (ks.map λk:Nat=>D.int k) (Rs s t x4 x5 x6) (GS s hd b b o o ls)= .nx (Rs s t y4 y5 y6) (GS s hd b b o o ls')
 | [],x4,x5,x6,ls,hp,_=>⟨ls,x4,x5,x6,hp,Nat.le_refl _,by simp,rfl⟩
 | k::ks,x4,x5,x6,ls,hp,hl=>by
  simp only[List.length_cons] at hl
  obtain⟨l1,z5,z6,p1,q1,q2,e1⟩:=jku s hh o I hm t k x5 x6 hp (by omega)
  obtain⟨l2,y4,y5,y6,p2,q3,q4,e2⟩:=jl4 t ks k z5 z6 l1 p1 (by omega)
  refine⟨l2,y4,y5,y6,p2,by omega,by simp only[List.length_cons];omega,?_⟩
  rw[List.map_cons]
  unfold jc7
  have er:(jad 4) (D.int (k:Int)) (Rs s t x4 x5 x6) (GS s hd b b o o ls)= .nx (Rs s t k x5 x6) (GS s hd b b o o ls):=rfl
  rw[er]
  simp only[e1]
  exact e2
theorem jo2(t:Int){ls:List (List D)}(hp:pls ls)(hl:ls.length<9000):∃ls':List (List D),pls ls' /\ ls'.length<=ls.length+4 /\ z_Xa [.ref (pS s),.ref (qS s),.int t,.ref 11] (GS s hd b b o o ls)= .ok (.bl true) (GS s hd b b o o ls'):=by
 obtain⟨l1,z5,z6,p1,q1,q2,e1⟩:=jku s hh o I hm t 0 none none hp (by omega)
 obtain⟨l2,y4,y5,y6,p2,q3,q4,e2⟩:=jl4 s hh o I hm t [1,2,3] 0 z5 z6 l1 p1 (by simp;omega)
 simp only[List.length_cons,List.length_nil] at q4
 refine⟨l2,p2,by omega,?_⟩
 have er:rng 0 4=D.int ((0:Nat):Int)::[1,2,3].map λk:Nat=>D.int k:=rfl
 have lp:jc7 (jad 4) jbl (rng 0 4) [some (.ref (pS s)),some (.ref (qS s)),some (.int t),some (.ref 11),none,none,none] (GS s hd b b o o ls)= .nx (Rs s t y4 y5 y6) (GS s hd b b o o l2):=by
  rw[er]
  unfold jc7
  have er:(jad 4) (D.int ((0:Nat):Int)) [some (.ref (pS s)),some (.ref (qS s)),some (.int t),some (.ref 11),none,none,none] (GS s hd b b o o ls)= .nx (Rs s t 0 none none) (GS s hd b b o o ls):=rfl
  rw[er]
  simp only[e1]
  exact e2
 have ln:=jkx s hd b b o o ls
 have ln2:=jkx s hd b b o o l2
 have K:=kp_S s hd b b o o l2
 generalize GS s hd b b o o ls=H at*
 generalize GS s hd b b o o l2=H2 at*
 have key:b_Xa [some (.ref (pS s)),some (.ref (qS s)),some (.int t),some (.ref 11),none,none,none] H= .rt (.bl true) H2:=by
  simp[b_Xa,lp]
 refine(jqx (np:=4) (nn:=7) (b:=b_Xa) (ds:=[.ref (pS s),.ref (qS s),.int t,.ref 11]) rfl key).trans ?_
 unfold fin
 by_cases c:H2.length<=H.length
 ·rw[if_pos c]
 ·rw[if_neg c,if_neg]
  have:(H2.take H.length).all (Cell.bnd H.length)=false:=by
   rw[List.all_eq_false]
   refine⟨some (.lst (kpF 12 l2)),?_,?_⟩
   ·exact List.mem_of_getElem? (i:=11) (by rw[List.getElem?_take_of_lt (by omega)];exact K)
   ·have:=jvx 12 H.length l2 (by omega) (by omega)
    simp[Cell.bnd,this]
  rw[this];simp
end
theorem I34.op{b:Bd}{m:Nat}(I:I34 b m){op:Op}{v:Int}(e:opE op b v=none):I34 (opB op b v) (m+1):=by
 cases op with
 | turn=>
  obtain⟨k,w,rfl,hw,_⟩:=jnl e
  have hk:k<b.sws.length:=(List.getElem?_eq_some_iff.mp hw).1
  refine⟨I.ok,?_,I.so,I.le,Nat.le_succ_of_le I.ln⟩
  simp only[opB,Int.toNat_natCast]
  exact Nat.xor_lt_two_pow I.st (Nat.pow_lt_pow_right (by decide) hk)
 | lock=>exact⟨I.ok,I.st,I.so,I.le,Nat.le_succ_of_le I.ln⟩
 | unlock=>exact⟨I.ok,I.st,I.so,I.le,Nat.le_succ_of_le I.ln⟩
 | permit=>
  refine⟨I.ok,I.st,?_,?_,?_⟩
  ·show(b.gv++[_]).Pairwise _
   rw[List.pairwise_append]
   refine⟨I.so,by simp,λa ha c hc=> ?_⟩
   rw[List.mem_singleton.mp hc]
   exact Nat.lt_succ_of_le (I.le a ha)
  ·intro g hg
   have hg:g∈b.gv++[_]:=hg
   rcases List.mem_append.mp hg with h | h
   ·exact Nat.le_succ_of_le (I.le g h)
   ·rw[List.mem_singleton.mp h];exact Nat.le_refl _
  ·show(b.gv++[_]).length<=_
   rw[List.length_append,List.length_singleton]
   exact Nat.succ_le_succ I.ln
 | back=>
  refine⟨I.ok,I.st,List.Pairwise.filter _ I.so,λg hg=>I.le g (List.mem_filter.mp hg).1,?_⟩
  exact Nat.le_trans (List.length_filter_le _ _) (Nat.le_succ_of_le I.ln)
theorem opB_yd(op:Op)(b:Bd)(v:Int):(opB op b v).n=b.n /\ (opB op b v).sws=b.sws:=by
 cases op<;>exact⟨rfl,rfl⟩
def R34(y0 y2:Option D)(n:Nat)(sws:List Sw)(x6 x7 x8 x9 x10 x11 x12 x13 x14:Option D):Ro:=[y0,some (yd n sws),y2,some (.lst [.ref 1,.ref 4]),some (.lst [.ref 8,.ref 10]),some (.ref 11),x6,x7,x8,x9,x10,x11,x12,x13,x14]
theorem jw2(y0 y2:Option D){hd:List D}(hh:∀n,D.bnds n hd=true){b o:Bd}{m:Nat}(I:I34 b m)(hm:m<50)(c:Int)(s:Bool)(hs:s=decide (c / 3 % 4=0)){ls:List (List D)}(hp:pls ls)(hl:ls.length<9000)(x7 x8 x9 x10 x11 x12 x13 x14:Option D):
  ∃(b':Bd) (ls':List (List D)) (z7 z8 z9 z10 z11 z12 z13:Option D),b'.n=b.n /\ b'.sws=b.sws /\ I34 b' (m+1) /\ pls ls' /\ ls'.length<=ls.length+4 /\
   jfq (R34 y0 y2 b.n b.sws (some (.int c)) x7 x8 x9 x10 x11 x12 x13 x14) (GS s hd b b o o ls)= .nx (R34 y0 y2 b.n b.sws (some (.int c)) z7 z8 z9 z10 z11 z12 z13 x14) (GS s hd b' b' o o ls'):=by
 have A:=at_S s hh b o o hp I.ok
 have R:=rw_S s hd b b o o ls
 have hb:=HbS s hh b b o o hp
 obtain⟨op,v,ed⟩:=deed34 R I.ok c
 have eu:=due34 R I hb op v
 have ea:=op_at A I (by omega) op v
 obtain⟨si,hsi⟩:∃si:Int,(if c / 3 % 4=0 then(1:Int) else 0)=si:=⟨_,rfl⟩
 have de:∀(i j:Int) (H:MH),dEq (.int i) (.int j) H= .ok (.bl (decide (i=j))) H:=λ_ _ _=>rfl
 have ixr:∀H:MH,dIx (.lst [.ref 8,.ref 10]) (.int si) H= .ok (.ref (qS s)) H:=λH=>by
  by_cases q:c / 3 % 4=0
  ·rw[if_pos q] at hsi;subst hsi hs;rw[decide_eq_true q];exact(ix2l (.ref 8) (.ref 10) H).2
  ·rw[if_neg q] at hsi;subst hsi hs;rw[decide_eq_false q];exact(ix2l (.ref 8) (.ref 10) H).1
 have ixb:∀H:MH,dIx (.lst [.ref 1,.ref 4]) (.int si) H= .ok (.ref (pS s)) H:=λH=>by
  by_cases q:c / 3 % 4=0
  ·rw[if_pos q] at hsi;subst hsi hs;rw[decide_eq_true q];exact(ix2l (.ref 1) (.ref 4) H).2
  ·rw[if_neg q] at hsi;subst hsi hs;rw[decide_eq_false q];exact(ix2l (.ref 1) (.ref 4) H).1
 cases e:opE op b v with
 | some cl=>
  obtain⟨h1,h2⟩:=opE_in e
  rw[e] at ea eu
  have dn:=jq5 A op v h2 ea
  rw[jql (ju8 h1)] at dn
  obtain⟨l1,p1,q1,se⟩:=jo2 s hh o I (by omega) (c % 7) hp (by omega)
  have d0:jdl (some cl)=((jg8.idxOf cl:Nat):Int):=rfl
  rw[d0] at eu
  generalize jg8.idxOf cl=dd at*
  have c16:=comp16 (dd:Int) (GS s hd b b o o ls)
  have ne16:dNe (.lst (jg3 dd)) (.lst (jg3 dd)) (GS s hd b b o o ls)= .ok (.bl false) (GS s hd b b o o ls):=by
   have:=eq16 (jg3 dd) (jyp dd) (GS s hd b b o o ls)
   unfold dNe
   rw[this];rfl
  have g0:(0:Int)<=(dd:Int):=by omega
  have g1:¬((dd:Int)<0):=by omega
  refine⟨b,l1,some (.int si),some (.str op.s),some (.int v),some (.int dd),some .non,some (.lst (jg3 dd)),x13,rfl,rfl,⟨I.ok,I.st,I.so,I.le,Nat.le_succ_of_le I.ln⟩,p1,q1,?_⟩
  generalize GS s hd b b o o ls=H at*
  generalize GS s hd b b o o l1=H1 at*
  generalize jg3 (dd:Int)=B at*
  simp[-dIx, -dNe, -dEq,jfq,R34,de,hsi,ixr,ixb,ed,eu,dn,g0,g1,c16,ne16,se]
 | none=>
  rw[e] at ea eu
  have hz:=set_b s hd b (opB op b v) b o o ls
  rw[hz] at ea
  have I':=I.op e
  obtain⟨yn,ys⟩:=opB_yd op b v
  have dn:=done34 A op v _ (by rw[jkx,jkx]) ea
  have R2:=rw_S s hd (opB op b v) b o o ls
  have er:=row34 R2 I (by omega) op v e
  rw[set_c] at er
  obtain⟨l1,p1,q1,se⟩:=jo2 s hh o I' (by omega) (c % 7) hp (by omega)
  have d0:jdl none= -1:=rfl
  rw[d0] at eu
  have i1:=jji (opT op (opB op b v)) (GS s hd (opB op b v) (opB op b v) o o ls)
  refine⟨opB op b v,l1,some (.int si),some (.str op.s),some (.int v),some (.int (-1)),some (.int (opT op (opB op b v):Nat)),some (.lst []),some (.int (opT op (opB op b v):Nat)),yn,ys,I',p1,q1,?_⟩
  generalize GS s hd (opB op b v) (opB op b v) o o l1=H3 at*
  generalize GS s hd (opB op b v) (opB op b v) o o ls=H2 at*
  generalize GS s hd (opB op b v) b o o ls=H1 at*
  generalize GS s hd b b o o ls=H at*
  generalize opT op (opB op b v)=tt at*
  simp[-dIx, -dNe, -dEq,jfq,R34,de,hsi,ixr,ixb,ed,eu,dn,er,i1,se]
theorem jrs(ok:jbx n sws){m:ME}{ρ:Ro}{h0 h:MH}{z:Nat}(hb:Hb h)(hz:h[z]?=some (some (.lst (sws.map Sw.d))))(e:m ρ h0= .ok (.tup [.int n,.ref z]) h):jgh "Board" z_Q8 (ja3 m mNil) ρ h0= .ok (.ref h.length) (h++[(Bd.new n sws).cell (h.length+2),none,some (.dct [])]):=by
 have hb1:Hb (h++[some (Cell.ins "Board" [(Str.ofString "yard",yd n sws)])]):=hb.snoc λk hk=>by
  simp[Cell.bnd,D.bnds,jyx n sws k]
 have e1:=jj2 (m:=mFld jde "yard" (mVar 0)) (ρ:=[some (.ref h.length),some (.tup [.int n,.ref z])]) (h:=h++[some (.ins "Board" [(Str.ofString "yard",yd n sws)])]) n sws ok.2.2.1 hb1 (by simp[List.lookup])
 have zl:z<h.length:=(List.getElem?_eq_some_iff.mp hz).1
 have hz1:(h++[some (Cell.ins "Board" [])])[z]?=some (some (.lst (sws.map Sw.d))):=by rw[List.getElem?_append_left zl];exact hz
 have ix:∀h:MH,dIx (.tup [.int n,.ref z]) (.int 1) h= .ok (.ref z) h:=λh=>(ix2t (.int n) (.ref z) h).2
 have ix0:∀h:MH,dIx (.tup [.int n,.ref z]) (.int 0) h= .ok (.int n) h:=λh=>(ix2t (.int n) (.ref z) h).1
 have yy:D.tup [.int n,.lst (sws.map Sw.d)]=yd n sws:=rfl
 have h1:=jyx n sws (h.length+1)
 have h2:=jw3 sws (h.length+1)
 have hbn:(h++[some (Cell.ins "Board" [])]).length=h.length+1:=by simp
 have nb:Cell.bnd (h.length+1) (some (Cell.ins "Board" (((Bd.new n sws).f (h.length+2)))))=false:=by
  simp[Bd.f,Bd.new,Cell.bnd,D.bnds,D.bnd]
 have key:z_Q8 [.ref h.length,.tup [.int n,.ref z]] (h++[some (Cell.ins "Board" [])])= .ok .non (h++[(Bd.new n sws).cell (h.length+2),none,some (.dct [])]):=by
  have eb:b_Q8 [some (.ref h.length),some (.tup [.int n,.ref z])] (h++[some (Cell.ins "Board" [])])= .nx [some (.ref h.length),some (.tup [.int n,.ref z])] (h++[(Bd.new n sws).cell (h.length+2),none,some (.dct [])]):=by
   simp[-List.map_map, -dIx, -jf3, -mFld,b_Q8,ix,ix0,hz1,yy,e1,putF,Bd.cell,Bd.f,Bd.new]
  unfold z_Q8 mFun
  rw[if_pos (show[D.ref h.length,.tup [.int n,.ref z]].length=2 from rfl)]
  have e2:b_Q8 ([D.ref h.length,.tup [.int n,.ref z]].map some++List.replicate (2 - [D.ref h.length,.tup [.int n,.ref z]].length) none) (h++[some (Cell.ins "Board" [])])= .nx [some (.ref h.length),some (.tup [.int n,.ref z])] (h++[(Bd.new n sws).cell (h.length+2),none,some (.dct [])]):=eb
  rw[e2]
  have tk:(h++[(Bd.new n sws).cell (h.length+2),none,some (.dct [])]).take (h++[some (Cell.ins "Board" [])]).length=h++[(Bd.new n sws).cell (h.length+2)]:=by
   rw[hbn,List.take_append,List.take_of_length_le (Nat.le_succ _)]
   simp
  show fin _ _ _=_
  unfold fin
  rw[if_neg (by simp),tk,hbn,List.all_append]
  have:([(Bd.new n sws).cell (h.length+2)].all (Cell.bnd (h.length+1)))=false:=by
   simp only[List.all_cons,List.all_nil,Bool.and_true]
   exact nb
  rw[this]
  simp
 simp[e,key]
theorem jla(all:List D)(h:MH)(ok:h[11]?=some (some (.lst all))):∀(ls:List (List D)) (i:Nat),pls ls->(∀(j:Nat) (l:List D),ls[j]?=some l->h[i+j]?=some (some (.lst l)))->jbf (some 11) all (gTup [0,1]) (tB (mBin dNe (mVar 0) (mVar 1))) (mVar 0) [none,none] (kpF i ls) h= .ok [] h
 | [],i,_,_=>by
  unfold kpF jbf
  rw[if_pos (by unfold okG;exact ok)]
 | l::ls,i,hp,hi=>by
  have ih:=jla all h ok ls (i+1) (λa ha=>hp a (List.mem_cons_of_mem _ ha)) (λj a ha=>by
   have:=hi (j+1) a (by simpa using ha)
   rw[show i+1+j=i+(j+1) by omega];exact this)
  have ne:=jsh (hi 0 l rfl) (hp l (List.mem_cons_self ..))
  unfold kpF jbf
  rw[if_pos (by unfold okG;exact ok)]
  have e1:gTup [0,1] (.tup [.ref i,.lst l]) [none,none] h= .nx [some (.ref i),some (.lst l)] h:=rfl
  have e2:tB (mBin dNe (mVar 0) (mVar 1)) [some (.ref i),some (.lst l)] h= .ok false h:=by
   have ne:dNe (.ref i) (.lst l) h= .ok (.bl false) h:=ne
   simp only[tB,mBin,mVar,List.getElem?_cons_zero,List.getElem?_cons_succ,jdo,ne]
  rw[e1]
  simp only[e2]
  exact ih
theorem jpt(y0 y2 x14:Option D){hd:List D}(hh:∀n,D.bnds n hd=true){n:Nat}{sws:List Sw}:∀(cs:List Int) (b0 b1:Bd) (m:Nat) (ls:List (List D)) (x6 x7 x8 x9 x10 x11 x12 x13:Option D),m+cs.length<=45->I34 b0 m->I34 b1 m->b0.n=n->b0.sws=sws->b1.n=n->b1.sws=sws->pls ls->ls.length+4*cs.length<8000->
  ∃(b0' b1':Bd) (ls':List (List D)) (z6 z7 z8 z9 z10 z11 z12 z13:Option D),I34 b0' 45 /\ I34 b1' 45 /\ pls ls' /\ ls'.length<8000 /\
   jc7 (jad 6) jfq (cs.map D.int) (R34 y0 y2 n sws x6 x7 x8 x9 x10 x11 x12 x13 x14) (G34 hd b0 b0 b1 b1 ls)= .nx (R34 y0 y2 n sws z6 z7 z8 z9 z10 z11 z12 z13 x14) (G34 hd b0' b0' b1' b1' ls')
 | [],b0,b1,m,ls,x6,x7,x8,x9,x10,x11,x12,x13,hm,I0,I1,_,_,_,_,hp,hl=>⟨b0,b1,ls,x6,x7,x8,x9,x10,x11,x12,x13,⟨I0.ok,I0.st,I0.so,I0.le,Nat.le_trans I0.ln (by simpa using hm)⟩,⟨I1.ok,I1.st,I1.so,I1.le,Nat.le_trans I1.ln (by simpa using hm)⟩,hp,by simpa using hl,rfl⟩
 | c::cs,b0,b1,m,ls,x6,x7,x8,x9,x10,x11,x12,x13,hm,I0,I1,n0,s0,n1,s1,hp,hl=>by
  simp only[List.length_cons] at hm hl
  have up:∀{b:Bd},I34 b m->I34 b (m+1):=λI=>⟨I.ok,I.st,I.so,I.le,Nat.le_succ_of_le I.ln⟩
  rw[List.map_cons]
  unfold jc7
  have er:(jad 6) (D.int c) (R34 y0 y2 n sws x6 x7 x8 x9 x10 x11 x12 x13 x14) (G34 hd b0 b0 b1 b1 ls)= .nx (R34 y0 y2 n sws (some (.int c)) x7 x8 x9 x10 x11 x12 x13 x14) (G34 hd b0 b0 b1 b1 ls):=rfl
  rw[er]
  by_cases q:c / 3 % 4=0
  ·obtain⟨b',l1,w7,w8,w9,w10,w11,w12,w13,e1,e2,I',p1,q1,st⟩:=jw2 y0 y2 hh (o:=b0) I1 (by omega) c true (decide_eq_true q).symm hp (by omega) x7 x8 x9 x10 x11 x12 x13 x14
   rw[n1,s1] at st
   have st:jfq (R34 y0 y2 n sws (some (.int c)) x7 x8 x9 x10 x11 x12 x13 x14) (G34 hd b0 b0 b1 b1 ls)= .nx (R34 y0 y2 n sws (some (.int c)) w7 w8 w9 w10 w11 w12 w13 x14) (G34 hd b0 b0 b' b' l1):=st
   simp only[st]
   exact jpt y0 y2 x14 hh cs b0 b' (m+1) l1 (some (.int c)) w7 w8 w9 w10 w11 w12 w13 (by omega) (up I0) I' n0 s0 (e1.trans n1) (e2.trans s1) p1 (by omega)
  ·obtain⟨b',l1,w7,w8,w9,w10,w11,w12,w13,e1,e2,I',p1,q1,st⟩:=jw2 y0 y2 hh (o:=b1) I0 (by omega) c false (decide_eq_false q).symm hp (by omega) x7 x8 x9 x10 x11 x12 x13 x14
   rw[n0,s0] at st
   have st:jfq (R34 y0 y2 n sws (some (.int c)) x7 x8 x9 x10 x11 x12 x13 x14) (G34 hd b0 b0 b1 b1 ls)= .nx (R34 y0 y2 n sws (some (.int c)) w7 w8 w9 w10 w11 w12 w13 x14) (G34 hd b' b' b1 b1 l1):=st
   simp only[st]
   exact jpt y0 y2 x14 hh cs b' b1 (m+1) l1 (some (.int c)) w7 w8 w9 w10 w11 w12 w13 (by omega) I' (up I1) (e1.trans n0) (e2.trans s0) n1 s1 p1 (by omega)
theorem jo8(sws:List Sw)(n:Nat):D.bnds n (sws.map Sw.d)=true:=jfd λd hd=>by
 obtain⟨s,_,rfl⟩:=List.mem_map.mp hd
 cases s<;>simp[Sw.d,D.bnd,D.bnds]
theorem res_sw(w:Sw)(n:Nat)(h:MH):res (n+2) h w.d=w.d:=by cases w<;>simp[Sw.d,res]
theorem ne_yd(n:Nat)(sws:List Sw){h:MH}(e:h[0]?=some (some (.lst (sws.map Sw.d)))):dNe (.tup [.int n,.ref 0]) (yd n sws) h= .ok (.bl false) h:=by
 have rm:∀k,(sws.map Sw.d).map (res (k+2) h)=sws.map Sw.d:=λk=>by
  rw[List.map_map]
  exact List.map_congr_left λw _=>res_sw w k h
 have s1:see h (.tup [.int n,.ref 0])= .tup [.int n,.lst (sws.map Sw.d)]:=by
  unfold see
  simp only[res,List.map_cons,List.map_nil,e,rm 4]
 have s2:see h (.tup [.int n,.lst (sws.map Sw.d)])= .tup [.int n,.lst (sws.map Sw.d)]:=by
  unfold see
  simp only[res,List.map_cons,List.map_nil,rm 4]
 have d1:(D.tup [.int n,.lst (sws.map Sw.d)]).dat=true:=dat_yd n sws
 have d2:=jpa d1
 have d3:(D.tup [.int n,.ref 0]).dat=false:=by simp[D.dat,D.py,D.pys]
 show dNe (.tup [.int n,.ref 0]) (.tup [.int n,.lst (sws.map Sw.d)]) h=_
 unfold dNe dEq
 simp only[s1,s2,d1,d2,d3,Bool.false_eq_true,false_and,if_false,and_self,chk,if_true,jdo,Bool.not_true]
theorem law_true:∀ns:List Int,ns.length<=63->∃h,z_law [.arg ns] []= .ok (.bl true) h:=by
 intro ns hn
 obtain⟨n,sws,ok,ey⟩:=yard30 ns [] Hb.nil
 have hl:=ok.2.2.1
 have ec:∀h:MH,z_Ql [.arg ns,.int 0] h= .ok (.int (ns.getD 0 0)) h:=λh=>js7 ns 0 h
 generalize ns.getD 0 0=c at ec
 have ix:=ixs n sws
 have ix0:∀h:MH,dIx (yd n sws) (.int 0) h= .ok (.int n) h:=λh=>by simp[yd]
 have hb0:Hb [some (Cell.lst (sws.map Sw.d))]:=λk hk=>by simp[Cell.bnd,jo8]
 have mk1:=λ(ρ:Ro) (e:ρ[2]?=some (some (.tup [.int n,.ref 0])))=>jrs ok (m:=mVar 2) (ρ:=ρ) (h0:=[some (.lst (sws.map Sw.d))]) (h:=[some (.lst (sws.map Sw.d))]) (z:=0) hb0 rfl (by simp[e])
 have at1:=at_new ok hb0
 have mk2:=λ(ρ:Ro) (e:ρ[2]?=some (some (.tup [.int n,.ref 0])))=>jrs ok (m:=mVar 2) (ρ:=ρ) (h0:=[some (.lst (sws.map Sw.d))]++[(Bd.new n sws).cell ([some (Cell.lst (sws.map Sw.d))].length+2),none,some (.dct [])]) (h:=[some (.lst (sws.map Sw.d))]++[(Bd.new n sws).cell ([some (Cell.lst (sws.map Sw.d))].length+2),none,some (.dct [])]) (z:=0) at1.hb rfl (by simp[e])
 have mk1:∀ρ:Ro,ρ[2]?=some (some (.tup [.int n,.ref 0]))->jgh "Board" z_Q8 (ja3 (mVar 2) mNil) ρ [some (.lst (sws.map Sw.d))]= .ok (.ref 1) [some (.lst (sws.map Sw.d)),(Bd.new n sws).cell 3,none,some (.dct [])]:=mk1
 have mk2:∀ρ:Ro,ρ[2]?=some (some (.tup [.int n,.ref 0]))->jgh "Board" z_Q8 (ja3 (mVar 2) mNil) ρ [some (.lst (sws.map Sw.d)),(Bd.new n sws).cell 3,none,some (.dct [])]= .ok (.ref 4) [some (.lst (sws.map Sw.d)),(Bd.new n sws).cell 3,none,some (.dct []),(Bd.new n sws).cell 6,none,some (.dct [])]:=mk2
 obtain⟨hd,hhd⟩:∃hd:List D,hd=if c / 4032 % 2=1 then[] else sws.map Sw.d:=⟨_,rfl⟩
 have hh:∀k,D.bnds k hd=true:=λk=>by
  rw[hhd]
  split
  ·rfl
  ·exact jo8 sws k
 have g0:[some (Cell.lst hd),(Bd.new n sws).cell 3,none,some (.dct []),(Bd.new n sws).cell 6,none,some (.dct []),some (.dct []),some (.lst [.int 0,.int 0,.ref 7,.int 0]),some (.dct []),some (.lst [.int 0,.int 0,.ref 9,.int 0]),some (.lst [])]=G34 hd (Bd.new n sws) (Bd.new n sws) (Bd.new n sws) (Bd.new n sws) []:=rfl
 have I0:I34 (Bd.new n sws) 0:=⟨ok,Nat.pow_pos (by decide),.nil,(λg hg=>nomatch hg),Nat.le_refl _⟩
 have lc:(cut ns (some 1) (some 41)).length<=40:=by
  unfold cut
  rw[List.length_take,List.length_drop]
  have h1:sIx ns.length 0 (some 1)=min 1 ns.length:=rfl
  have h2:sIx ns.length ns.length (some 41)=min 41 ns.length:=rfl
  rw[h1,h2]
  omega
 obtain⟨b0,b1,ls,z6,z7,z8,z9,z10,z11,z12,z13,J0,J1,p1,q1,lp⟩:=jpt (some (.arg ns)) (some (.tup [.int n,.ref 0])) none hh (n:=n) (sws:=sws) (cut ns (some 1) (some 41)) (Bd.new n sws) (Bd.new n sws) 0 [] none none none none none none none none (by omega) I0 I0 rfl rfl rfl rfl (λl h=>by cases h) (by simp;omega)
 obtain⟨l1,p2,q2,se1⟩:=jo2 false hh b1 J0 (by omega) 3 p1 (by omega)
 obtain⟨l2,p3,q3,se2⟩:=jo2 true hh b0 J1 (by omega) 4 p2 (by omega)
 have sf1:z_Xa [.ref 1,.ref 8,.int 3,.ref 11] (G34 hd b0 b0 b1 b1 ls)= .ok (.bl true) (G34 hd b0 b0 b1 b1 l1):=se1
 have sf2:z_Xa [.ref 4,.ref 10,.int 4,.ref 11] (G34 hd b0 b0 b1 b1 l1)= .ok (.bl true) (G34 hd b0 b0 b1 b1 l2):=se2
 have tc:=jla (kpF 12 l2) (G34 hd b0 b0 b1 b1 l2) rfl l2 12 p3 (λj l hj=>by
  have:(G34 hd b0 b0 b1 b1 l2)[12+j]?=(l2.map λl=>some (Cell.lst l))[j]?:=by
   rw[Nat.add_comm];rfl
  rw[this,List.getElem?_map,hj];rfl)
 have K:=kp_S false hd b0 b0 b1 b1 l2
 have K2:(G34 hd b0 b0 b1 b1 l2)[11]?=some (some (.lst (kpF 12 l2))):=K
 have kl:(kpF 12 l2).length<16777216:=by
  have:∀(ls:List (List D)) (i:Nat),(kpF i ls).length=ls.length:=λls=>by
   induction ls with
   | nil=>intro i;rfl
   | cons a l ih=>intro i;simp[kpF,ih]
  rw[this];omega
 have ecu:cut (ns.map D.int) (some 1) (some 41)=(cut ns (some 1) (some 41)).map D.int:=by simp[cut,List.map_drop,List.map_take]
 have ne:=nil_eq (G34 hd b0 b0 b1 b1 l2)
 have de:∀(i j:Int) (H:MH),dEq (.int i) (.int j) H= .ok (.bl (decide (i=j))) H:=λ_ _ _=>rfl
 have i0:=ix2l (.ref 1) (.ref 4)
 have i1:=ix2l (.ref 8) (.ref 10)
 have it:=ix2t (.int n) (.ref 0)
 have hy:(c / 4032 % 2=1) \/ (¬(c / 4032 % 2=1) /\ dNe (.tup [.int n,.ref 0]) (yd n sws) (G34 hd b0 b0 b1 b1 l2)= .ok (.bl false) (G34 hd b0 b0 b1 b1 l2)):=by
  by_cases q:c / 4032 % 2=1
  ·exact .inl q
  ·refine .inr ⟨q,ne_yd n sws ?_⟩
   rw[if_neg q] at hhd
   subst hhd
   rfl
 obtain⟨HE,key⟩:∃HE,jos [some (.arg ns),none,none,none,none,none,none,none,none,none,none,none,none,none,none] []= .rt (.bl true) HE:=by
  refine⟨G34 hd b0 b0 b1 b1 l2,?_⟩
  unfold R34 at lp
  rw[<-g0] at lp
  generalize G34 hd b0 b0 b1 b1 l2=H3 at*
  generalize G34 hd b0 b0 b1 b1 l1=H2 at*
  generalize G34 hd b0 b0 b1 b1 ls=H1 at*
  generalize (Bd.new n sws).cell 3=C3 at*
  generalize (Bd.new n sws).cell 6=C6 at*
  generalize kpF 12 l2=KP at*
  rcases hy with q | ⟨q,hne⟩
  ·rw[if_pos q] at hhd
   subst hhd
   generalize sws.map Sw.d=SD at*
   simp[-List.map_map, -dIx, -dNe, -dEq, -jgh,jos,de,ey,ec,ix,ix0,mk1,mk2,q,it,i0,i1,ecu,lp,sf1,sf2,K2,kl,tc,ne,show(cut ns (some 1) (some 41)).length<16777216 by omega]
  ·rw[if_neg q] at hhd
   subst hhd
   generalize sws.map Sw.d=SD at*
   simp[-List.map_map, -dIx, -dNe, -dEq, -jgh,jos,de,ey,ec,ix,ix0,mk1,mk2,q,it,i0,i1,ecu,lp,sf1,sf2,hne,K2,kl,tc,ne,show(cut ns (some 1) (some 41)).length<16777216 by omega]
 exact⟨[],jgz (b:=jos) (np:=1) (nn:=15) (ds:=[.arg ns]) (J:=HE) rfl (by simpa using key) Hb.nil (by simp[D.bnd])⟩
end My
namespace My
open PySem L2
def top(i:Nat):Stmt:=PySem.Challenge.pw_earthward_k34_whole_rows_of_two_boards.main.body.getD i (.Pass ⟨0,0,0,0⟩)
abbrev s_Qp:Stmt:=jbc (top 18) 0
abbrev s_Qi:Stmt:=jbc (top 18) 1
abbrev s_Qn:Stmt:=jbc (top 18) 2
abbrev s_Qc:Stmt:=jbc (top 18) 3
abbrev s_Qd:Stmt:=jbc (top 19) 0
abbrev s_X2:Stmt:=jbc (top 19) 1
abbrev s_Q9:Stmt:=jbc (top 20) 0
abbrev s_Qo:Stmt:=jbc (top 20) 1
abbrev s_Q1:Stmt:=jbc (top 21) 0
abbrev s_Qf:Stmt:=jbc (top 21) 1
abbrev s_Q0:Stmt:=jbc (top 22) 0
abbrev s_Q7:Stmt:=jbc (top 22) 1
abbrev s_Q3:Stmt:=jbc (top 22) 2
abbrev s_Xe:Stmt:=top 23
abbrev s_has:Stmt:=top 25
abbrev s_Qr:Stmt:=jbc (top 26) 0
abbrev s_Qh:Stmt:=jbc (top 26) 1
abbrev s_Q6:Stmt:=jbc (top 26) 2
abbrev s_Qb:Stmt:=jbc (top 26) 3
abbrev s_Qt:Stmt:=jbc (top 26) 4
abbrev s_Q2:Stmt:=jbc (top 26) 5
abbrev s_Qu:Stmt:=jbc (top 26) 6
abbrev s_Xx:Stmt:=top 27
abbrev s_X6:Stmt:=top 28
abbrev s_Qs:Stmt:=top 30
abbrev s_X3:Stmt:=top 31
abbrev s_Y7:Stmt:=top 32
abbrev s_Y3:Stmt:=top 33
abbrev s_Y1:Stmt:=top 34
abbrev s_Xp:Stmt:=top 36
abbrev s_Qj:Stmt:=top 37
abbrev s_X5:Stmt:=top 38
abbrev s_X0:Stmt:=top 40
abbrev s_Q8:Stmt:=jbc (top 41) 0
abbrev s_Qa:Stmt:=jbc (top 41) 1
abbrev s_Qk:Stmt:=jbc (top 41) 2
abbrev s_X7:Stmt:=jbc (top 41) 3
abbrev s_Qe:Stmt:=jbc (top 41) 4
abbrev s_X8:Stmt:=jbc (top 41) 5
abbrev s_X1:Stmt:=jbc (top 41) 6
abbrev s_Qq:Stmt:=jbc (top 41) 7
abbrev s_Qm:Stmt:=jbc (top 41) 8
abbrev s_Q4:Stmt:=jbc (top 41) 9
abbrev s_Ql:Stmt:=top 43
abbrev s_Qw:Stmt:=top 44
abbrev s_Xb:Stmt:=top 45
abbrev s_Xj:Stmt:=top 46
abbrev s_Qy:Stmt:=top 47
abbrev s_Xh:Stmt:=top 48
abbrev s_Xk:Stmt:=top 49
abbrev s_Qv:Stmt:=top 50
abbrev s_Qg:Stmt:=top 51
abbrev s_X4:Stmt:=top 52
abbrev s_Xs:Stmt:=top 53
abbrev s_Qx:Stmt:=top 54
abbrev s_Xo:Stmt:=top 55
abbrev s_Xi:Stmt:=top 56
abbrev s_Xc:Stmt:=top 57
abbrev s_Q5:Stmt:=top 58
abbrev s_Xq:Stmt:=top 59
abbrev s_Xn:Stmt:=top 60
abbrev s_X9:Stmt:=top 61
abbrev s_Xa:Stmt:=top 62
abbrev s_law:Stmt:=top 63
theorem sc_Qp:FnScope ["self"] ["self"] (jab s_Qp):=scof
theorem sc_Qi:FnScope ["self"] ["self"] (jab s_Qi):=scof
theorem sc_Qn:FnScope ["self"] ["self"] (jab s_Qn):=scof
theorem sc_Qc:FnScope ["self"] ["self"] (jab s_Qc):=scof
theorem sc_Qd:FnScope ["self","bar"] ["self","bar"] (jab s_Qd):=scof
theorem sc_X2:FnScope ["self"] ["self"] (jab s_X2):=scof
theorem sc_Q9:FnScope ["self","bar"] ["self","bar"] (jab s_Q9):=scof
theorem sc_Qo:FnScope ["self"] ["self"] (jab s_Qo):=scof
theorem sc_Q1:FnScope ["self","one","other"] ["self","one","other"] (jab s_Q1):=scof
theorem sc_Qf:FnScope ["self"] ["self"] (jab s_Qf):=scof
theorem sc_Q0:FnScope ["self","one","other"] ["self","one","other"] (jab s_Q0):=scof
theorem sc_Q7:FnScope ["self"] ["self"] (jab s_Q7):=scof
theorem sc_Q3:FnScope ["self"] ["self"] (jab s_Q3):=scof
theorem sc_Xe:FnScope ["switch","kind"] ["switch"] (jab s_Xe):=scof
theorem sc_has:FnScope ["some","number"] ["some","number"] (jab s_has):=scof
theorem sc_Qr:FnScope ["self","yard"] ["self","yard"] (jab s_Qr):=scof
theorem sc_Qh:FnScope ["self","standing"] ["self","standing"] (jab s_Qh):=scof
theorem jmd:FnScope ["self","standing","some","pairs","reached","ahead","pair"] ["self","standing","some"] (jab s_Q6):=scof
theorem jv8:FnScope ["self","standing","fed","switch"] ["self","standing"] (jab s_Qb):=scof
theorem juh:FnScope ["self","standing","led","switch"] ["self","standing"] (jab s_Qt):=scof
theorem sc_Q2:FnScope ["self","standing"] ["self","standing"] (jab s_Q2):=scof
theorem sc_Qu:FnScope ["self","standing"] ["self","standing"] (jab s_Qu):=scof
theorem sc_Xx:FnScope ["some"] ["some"] (jab s_Xx):=scof
theorem sc_X6:FnScope ["some"] ["some"] (jab s_X6):=scof
theorem sc_Qs:FnScope ["yard","number"] ["yard","number"] (jab s_Qs):=scof
theorem sc_X3:FnScope ["standing","number"] ["standing","number"] (jab s_X3):=scof
theorem jts:FnScope ["net","standing","number","switch","apart","ends"] ["net","standing","number"] (jab s_Y7):=scof
theorem sc_Y3:FnScope ["net","standing","number"] ["net","standing","number"] (jab s_Y3):=scof
theorem sc_Y1:FnScope ["yard","standing","number","net"] ["yard","standing","number"] (jab s_Y1):=scof
theorem sc_Xp:FnScope ["switch"] ["switch"] (jab s_Xp):=scof
theorem sc_Qj:FnScope ["yard"] ["yard"] (jab s_Qj):=scof
theorem sc_X5:FnScope ["yard","place","locks"] ["yard","place","locks"] (jab s_X5):=scof
theorem sc_X0:FnScope ["net","standing","place","numbers"] ["net","standing","place"] (jab s_X0):=scof
theorem sc_Q8:FnScope ["self","yard"] ["self","yard"] (jab s_Q8):=scof
theorem sc_Qa:FnScope ["self"] ["self"] (jab s_Qa):=scof
theorem sc_Qk:FnScope ["self"] ["self"] (jab s_Qk):=scof
theorem jvc:FnScope ["self","some","given"] ["self"] (jab s_X7):=scof
theorem sc_Qe:FnScope ["self"] ["self"] (jab s_Qe):=scof
theorem sc_X8:FnScope ["self","number"] ["self","number"] (jab s_X8):=scof
theorem sc_X1:FnScope ["self","number"] ["self","number"] (jab s_X1):=scof
theorem sc_Qq:FnScope ["self","number"] ["self","number"] (jab s_Qq):=scof
theorem sc_Qm:FnScope ["self","place"] ["self","place"] (jab s_Qm):=scof
theorem sc_Q4:FnScope ["self","number"] ["self","number"] (jab s_Q4):=scof
theorem sc_Ql:FnScope ["script","k"] ["script","k"] (jab s_Ql):=scof
theorem sc_Qw:FnScope ["number","kind","count","bar"] ["number","kind","count"] (jab s_Qw):=scof
theorem jgb:FnScope ["script","first","count","many","kinds","switches","j","number","kind"] ["script"] (jab s_Xb):=scof
theorem sc_Xj:FnScope ["standing","number"] ["standing","number"] (jab s_Xj):=scof
theorem jm6:FnScope ["yard","standing","some","found","grown","k","switch"] ["yard","standing","some"] (jab s_Qy):=scof
theorem jz0:FnScope ["yard","standing","kind","some","k"] ["yard","standing","kind"] (jab s_Xh):=scof
theorem jz8:FnScope ["yard","standing","power","ground"] ["yard","standing"] (jab s_Xk):=scof
theorem jsw:FnScope ["yard","standing","number","switch","one","power"] ["yard","standing","number"] (jab s_Qv):=scof
theorem sc_Qg:FnScope ["yard","standing","number"] ["yard","standing","number"] (jab s_Qg):=scof
theorem jpw:FnScope ["yard","place","locks","free","k","power"] ["yard","place","locks"] (jab s_X4):=scof
theorem sc_Xs:FnScope ["found","due"] ["found","due"] (jab s_Xs):=scof
theorem sc_Qx:FnScope ["rest","many"] ["rest","many"] (jab s_Qx):=scof
theorem jme:FnScope ["yard","standing","place","bars","earths","k","switch"] ["yard","standing","place"] (jab s_Xo):=scof
theorem jve:FnScope ["rows","held","number"] ["rows"] (jab s_Xi):=scof
theorem jqy:FnScope ["yard","rows","cell","rest","word","own","some"] ["yard","rows","cell"] (jab s_Xc):=scof
theorem sc_Q5:FnScope ["yard","rows","word","number"] ["yard","rows","word","number"] (jab s_Q5):=scof
theorem sc_Xq:FnScope ["yard","rows","word","number"] ["yard","rows","word","number"] (jab s_Xq):=scof
theorem sc_Xn:FnScope ["yard","rows","word","number"] ["yard","rows","word","number"] (jab s_Xn):=scof
theorem jfv:FnScope ["board","word","number","kinds","found","e"] ["board","word","number"] (jab s_X9):=scof
theorem jvf:FnScope ["board","rows","turn","kept","k","part","told"] ["board","rows","turn","kept"] (jab s_Xa):=scof
theorem jdq:FnScope ["script","yard","handed","boards","rows","kept","cell","side","word","number","due","found","kinds","told","emptied"] ["script"] (jab s_law):=scof
set_option genInjectivity false in
structure Txt (P:Program) (w:World) (K:W.Frag) (mg:Str->Option Value) where
 c_Y2:Addr
 C_Y2:ClsT K mg "Switch" c_Y2
 f_Qp:Addr
 fd_Qp:FuncData
 mt_Qp:Meth K c_Y2 "feeds" f_Qp
 H_Qp:FnM K "feeds" "Switch.feeds" s_Qp f_Qp fd_Qp ["self"]
 f_Qi:Addr
 fd_Qi:FuncData
 mt_Qi:Meth K c_Y2 "earths" f_Qi
 H_Qi:FnM K "earths" "Switch.earths" s_Qi f_Qi fd_Qi ["self"]
 f_Qn:Addr
 fd_Qn:FuncData
 mt_Qn:Meth K c_Y2 "joins" f_Qn
 H_Qn:FnM K "joins" "Switch.joins" s_Qn f_Qn fd_Qn ["self"]
 f_Qc:Addr
 fd_Qc:FuncData
 mt_Qc:Meth K c_Y2 "gentle" f_Qc
 H_Qc:FnM K "gentle" "Switch.gentle" s_Qc f_Qc fd_Qc ["self"]
 c_Yb:Addr
 C_Yb:ClsT K mg "Feed" c_Yb
 f_Qd:Addr
 fd_Qd:FuncData
 mt_Qd:Meth K c_Yb "__init__" f_Qd
 H_Qd:FnM K "__init__" "Feed.__init__" s_Qd f_Qd fd_Qd ["self","bar"]
 f_X2:Addr
 fd_X2:FuncData
 mt_X2:Meth K c_Yb "feeds" f_X2
 H_X2:FnM K "feeds" "Feed.feeds" s_X2 f_X2 fd_X2 ["self"]
 mt_Feed_earths:Meth K c_Yb "earths" f_Qi
 mt_Feed_joins:Meth K c_Yb "joins" f_Qn
 mt_Feed_gentle:Meth K c_Yb "gentle" f_Qc
 na_Feed_bar:jcg K c_Yb "bar"
 c_Y5:Addr
 C_Y5:ClsT K mg "Earth" c_Y5
 f_Q9:Addr
 fd_Q9:FuncData
 mt_Q9:Meth K c_Y5 "__init__" f_Q9
 H_Q9:FnM K "__init__" "Earth.__init__" s_Q9 f_Q9 fd_Q9 ["self","bar"]
 f_Qo:Addr
 fd_Qo:FuncData
 mt_Qo:Meth K c_Y5 "earths" f_Qo
 H_Qo:FnM K "earths" "Earth.earths" s_Qo f_Qo fd_Qo ["self"]
 mt_Earth_feeds:Meth K c_Y5 "feeds" f_Qp
 mt_Earth_joins:Meth K c_Y5 "joins" f_Qn
 mt_Earth_gentle:Meth K c_Y5 "gentle" f_Qc
 na_Earth_bar:jcg K c_Y5 "bar"
 c_Xt:Addr
 C_Xt:ClsT K mg "Breaker" c_Xt
 f_Q1:Addr
 fd_Q1:FuncData
 mt_Q1:Meth K c_Xt "__init__" f_Q1
 H_Q1:FnM K "__init__" "Breaker.__init__" s_Q1 f_Q1 fd_Q1 ["self","one","other"]
 f_Qf:Addr
 fd_Qf:FuncData
 mt_Qf:Meth K c_Xt "joins" f_Qf
 H_Qf:FnM K "joins" "Breaker.joins" s_Qf f_Qf fd_Qf ["self"]
 mt_Breaker_feeds:Meth K c_Xt "feeds" f_Qp
 mt_Breaker_earths:Meth K c_Xt "earths" f_Qi
 mt_Breaker_gentle:Meth K c_Xt "gentle" f_Qc
 na_Breaker_one:jcg K c_Xt "one"
 na_Breaker_other:jcg K c_Xt "other"
 c_Xr:Addr
 C_Xr:ClsT K mg "Splitter" c_Xr
 f_Q0:Addr
 fd_Q0:FuncData
 mt_Q0:Meth K c_Xr "__init__" f_Q0
 H_Q0:FnM K "__init__" "Splitter.__init__" s_Q0 f_Q0 fd_Q0 ["self","one","other"]
 f_Q7:Addr
 fd_Q7:FuncData
 mt_Q7:Meth K c_Xr "joins" f_Q7
 H_Q7:FnM K "joins" "Splitter.joins" s_Q7 f_Q7 fd_Q7 ["self"]
 f_Q3:Addr
 fd_Q3:FuncData
 mt_Q3:Meth K c_Xr "gentle" f_Q3
 H_Q3:FnM K "gentle" "Splitter.gentle" s_Q3 f_Q3 fd_Q3 ["self"]
 mt_Splitter_feeds:Meth K c_Xr "feeds" f_Qp
 mt_Splitter_earths:Meth K c_Xr "earths" f_Qi
 na_Splitter_one:jcg K c_Xr "one"
 na_Splitter_other:jcg K c_Xr "other"
 c_Net:Addr
 C_Net:ClsT K mg "Net" c_Net
 f_Qr:Addr
 fd_Qr:FuncData
 mt_Qr:Meth K c_Net "__init__" f_Qr
 H_Qr:FnM K "__init__" "Net.__init__" s_Qr f_Qr fd_Qr ["self","yard"]
 f_Qh:Addr
 fd_Qh:FuncData
 mt_Qh:Meth K c_Net "shut_ones" f_Qh
 H_Qh:FnM K "shut_ones" "Net.shut_ones" s_Qh f_Qh fd_Qh ["self","standing"]
 f_Q6:Addr
 fd_Q6:FuncData
 mt_Q6:Meth K c_Net "joined_bars" f_Q6
 H_Q6:FnM K "joined_bars" "Net.joined_bars" s_Q6 f_Q6 fd_Q6 ["self","standing","some"]
 f_Qb:Addr
 fd_Qb:FuncData
 mt_Qb:Meth K c_Net "live_bars" f_Qb
 H_Qb:FnM K "live_bars" "Net.live_bars" s_Qb f_Qb fd_Qb ["self","standing"]
 f_Qt:Addr
 fd_Qt:FuncData
 mt_Qt:Meth K c_Net "led_bars" f_Qt
 H_Qt:FnM K "led_bars" "Net.led_bars" s_Qt f_Qt fd_Qt ["self","standing"]
 f_Q2:Addr
 fd_Q2:FuncData
 mt_Q2:Meth K c_Net "earthed_bars" f_Q2
 H_Q2:FnM K "earthed_bars" "Net.earthed_bars" s_Q2 f_Q2 fd_Q2 ["self","standing"]
 f_Qu:Addr
 fd_Qu:FuncData
 mt_Qu:Meth K c_Net "is_safe" f_Qu
 H_Qu:FnM K "is_safe" "Net.is_safe" s_Qu f_Qu fd_Qu ["self","standing"]
 na_Net_switches:jcg K c_Net "switches"
 c_Y8:Addr
 C_Y8:ClsT K mg "Board" c_Y8
 f_Q8:Addr
 fd_Q8:FuncData
 mt_Q8:Meth K c_Y8 "__init__" f_Q8
 H_Q8:FnM K "__init__" "Board.__init__" s_Q8 f_Q8 fd_Q8 ["self","yard"]
 f_Qa:Addr
 fd_Qa:FuncData
 mt_Qa:Meth K c_Y8 "standing" f_Qa
 H_Qa:FnM K "standing" "Board.standing" s_Qa f_Qa fd_Qa ["self"]
 f_Qk:Addr
 fd_Qk:FuncData
 mt_Qk:Meth K c_Y8 "locked" f_Qk
 H_Qk:FnM K "locked" "Board.locked" s_Qk f_Qk fd_Qk ["self"]
 f_X7:Addr
 fd_X7:FuncData
 mt_X7:Meth K c_Y8 "held" f_X7
 H_X7:FnM K "held" "Board.held" s_X7 f_X7 fd_X7 ["self"]
 f_Qe:Addr
 fd_Qe:FuncData
 mt_Qe:Meth K c_Y8 "permits" f_Qe
 H_Qe:FnM K "permits" "Board.permits" s_Qe f_Qe fd_Qe ["self"]
 f_X8:Addr
 fd_X8:FuncData
 mt_X8:Meth K c_Y8 "turn" f_X8
 H_X8:FnM K "turn" "Board.turn" s_X8 f_X8 fd_X8 ["self","number"]
 f_X1:Addr
 fd_X1:FuncData
 mt_X1:Meth K c_Y8 "lock" f_X1
 H_X1:FnM K "lock" "Board.lock" s_X1 f_X1 fd_X1 ["self","number"]
 f_Qq:Addr
 fd_Qq:FuncData
 mt_Qq:Meth K c_Y8 "unlock" f_Qq
 H_Qq:FnM K "unlock" "Board.unlock" s_Qq f_Qq fd_Qq ["self","number"]
 f_Qm:Addr
 fd_Qm:FuncData
 mt_Qm:Meth K c_Y8 "permit" f_Qm
 H_Qm:FnM K "permit" "Board.permit" s_Qm f_Qm fd_Qm ["self","place"]
 f_Q4:Addr
 fd_Q4:FuncData
 mt_Q4:Meth K c_Y8 "give_back" f_Q4
 H_Q4:FnM K "give_back" "Board.give_back" s_Q4 f_Q4 fd_Q4 ["self","number"]
 na_Board_given:jcg K c_Y8 "given"
 na_Board_last_number:jcg K c_Y8 "last_number"
 na_Board_locks:jcg K c_Y8 "locks"
 na_Board_net:jcg K c_Y8 "net"
 na_Board_shut:jcg K c_Y8 "shut"
 na_Board_yard:jcg K c_Y8 "yard"
 c_Y9:Addr
 ac_Y9:W.nsIn K mainGlobals "Held"=some (some (.ref c_Y9))
 xq_Y9:W.excIn K c_Y9 [.type "ValueError",.type "Exception",.type "BaseException",.type "object"] "ValueError.__new__"=true
 xm_Y9:mg "Held"=some (.ref c_Y9)
 c_Y0:Addr
 ac_Y0:W.nsIn K mainGlobals "Loaded"=some (some (.ref c_Y0))
 xq_Y0:W.excIn K c_Y0 [.type "ValueError",.type "Exception",.type "BaseException",.type "object"] "ValueError.__new__"=true
 xm_Y0:mg "Loaded"=some (.ref c_Y0)
 c_Xz:Addr
 ac_Xz:W.nsIn K mainGlobals "Locked"=some (some (.ref c_Xz))
 xq_Xz:W.excIn K c_Xz [.type "ValueError",.type "Exception",.type "BaseException",.type "object"] "ValueError.__new__"=true
 xm_Xz:mg "Locked"=some (.ref c_Xz)
 c_Y6:Addr
 ac_Y6:W.nsIn K mainGlobals "NoBar"=some (some (.ref c_Y6))
 xq_Y6:W.excIn K c_Y6 [.type "ValueError",.type "Exception",.type "BaseException",.type "object"] "ValueError.__new__"=true
 xm_Y6:mg "NoBar"=some (.ref c_Y6)
 c_Xy:Addr
 ac_Xy:W.nsIn K mainGlobals "NoLock"=some (some (.ref c_Xy))
 xq_Xy:W.excIn K c_Xy [.type "ValueError",.type "Exception",.type "BaseException",.type "object"] "ValueError.__new__"=true
 xm_Xy:mg "NoLock"=some (.ref c_Xy)
 c_Xf:Addr
 ac_Xf:W.nsIn K mainGlobals "NoMeasure"=some (some (.ref c_Xf))
 xq_Xf:W.excIn K c_Xf [.type "ValueError",.type "Exception",.type "BaseException",.type "object"] "ValueError.__new__"=true
 xm_Xf:mg "NoMeasure"=some (.ref c_Xf)
 c_Xl:Addr
 ac_Xl:W.nsIn K mainGlobals "NoPermit"=some (some (.ref c_Xl))
 xq_Xl:W.excIn K c_Xl [.type "ValueError",.type "Exception",.type "BaseException",.type "object"] "ValueError.__new__"=true
 xm_Xl:mg "NoPermit"=some (.ref c_Xl)
 c_Y4:Addr
 ac_Y4:W.nsIn K mainGlobals "NoRow"=some (some (.ref c_Y4))
 xq_Y4:W.excIn K c_Y4 [.type "ValueError",.type "Exception",.type "BaseException",.type "object"] "ValueError.__new__"=true
 xm_Y4:mg "NoRow"=some (.ref c_Y4)
 c_Xm:Addr
 ac_Xm:W.nsIn K mainGlobals "NoSwitch"=some (some (.ref c_Xm))
 xq_Xm:W.excIn K c_Xm [.type "ValueError",.type "Exception",.type "BaseException",.type "object"] "ValueError.__new__"=true
 xm_Xm:mg "NoSwitch"=some (.ref c_Xm)
 c_Xw:Addr
 ac_Xw:W.nsIn K mainGlobals "NotDead"=some (some (.ref c_Xw))
 xq_Xw:W.excIn K c_Xw [.type "ValueError",.type "Exception",.type "BaseException",.type "object"] "ValueError.__new__"=true
 xm_Xw:mg "NotDead"=some (.ref c_Xw)
 c_Qz:Addr
 ac_Qz:W.nsIn K mainGlobals "NotEarthed"=some (some (.ref c_Qz))
 xq_Qz:W.excIn K c_Qz [.type "ValueError",.type "Exception",.type "BaseException",.type "object"] "ValueError.__new__"=true
 xm_Qz:mg "NotEarthed"=some (.ref c_Qz)
 c_Xg:Addr
 ac_Xg:W.nsIn K mainGlobals "NotLocked"=some (some (.ref c_Xg))
 xq_Xg:W.excIn K c_Xg [.type "ValueError",.type "Exception",.type "BaseException",.type "object"] "ValueError.__new__"=true
 xm_Xg:mg "NotLocked"=some (.ref c_Xg)
 c_Xv:Addr
 ac_Xv:W.nsIn K mainGlobals "NotOpen"=some (some (.ref c_Xv))
 xq_Xv:W.excIn K c_Xv [.type "ValueError",.type "Exception",.type "BaseException",.type "object"] "ValueError.__new__"=true
 xm_Xv:mg "NotOpen"=some (.ref c_Xv)
 c_Ya:Addr
 ac_Ya:W.nsIn K mainGlobals "Same"=some (some (.ref c_Ya))
 xq_Ya:W.excIn K c_Ya [.type "ValueError",.type "Exception",.type "BaseException",.type "object"] "ValueError.__new__"=true
 xm_Ya:mg "Same"=some (.ref c_Ya)
 c_Xu:Addr
 ac_Xu:W.nsIn K mainGlobals "Shorted"=some (some (.ref c_Xu))
 xq_Xu:W.excIn K c_Xu [.type "ValueError",.type "Exception",.type "BaseException",.type "object"] "ValueError.__new__"=true
 xm_Xu:mg "Shorted"=some (.ref c_Xu)
 c_Xd:Addr
 ac_Xd:W.nsIn K mainGlobals "WardError"=some (some (.ref c_Xd))
 xq_Xd:W.excIn K c_Xd [.type "ValueError",.type "Exception",.type "BaseException",.type "object"] "ValueError.__new__"=true
 xm_Xd:mg "WardError"=some (.ref c_Xd)
 nv:List Value
 nve:nv=[.ref c_Xm,.ref c_Xz,.ref c_Y9,.ref c_Y0,.ref c_Xu,.ref c_Xy,.ref c_Xv,.ref c_Xg,.ref c_Y6,.ref c_Qz,.ref c_Xw,.ref c_Xl,.ref c_Y4,.ref c_Xf,.ref c_Ya,.type "ValueError"]
 f_Xe:Addr
 fd_Xe:FuncData
 H_Xe:FnT K mg "switch_of" "switch_of" s_Xe f_Xe fd_Xe ["switch"]
 f_has:Addr
 fd_has:FuncData
 H_has:FnT K mg "has" "has" s_has f_has fd_has ["some","number"]
 f_Xx:Addr
 fd_Xx:FuncData
 H_Xx:FnT K mg "lowest" "lowest" s_Xx f_Xx fd_Xx ["some"]
 f_X6:Addr
 fd_X6:FuncData
 H_X6:FnT K mg "numbers_in" "numbers_in" s_X6 f_X6 fd_X6 ["some"]
 f_Qs:Addr
 fd_Qs:FuncData
 H_Qs:FnT K mg "check_switch" "check_switch" s_Qs f_Qs fd_Qs ["yard","number"]
 f_X3:Addr
 fd_X3:FuncData
 H_X3:FnT K mg "after_turn" "after_turn" s_X3 f_X3 fd_X3 ["standing","number"]
 f_Y7:Addr
 fd_Y7:FuncData
 H_Y7:FnT K mg "loads" "loads" s_Y7 f_Y7 fd_Y7 ["net","standing","number"]
 f_Y3:Addr
 fd_Y3:FuncData
 H_Y3:FnT K mg "shorts" "shorts" s_Y3 f_Y3 fd_Y3 ["net","standing","number"]
 f_Y1:Addr
 fd_Y1:FuncData
 H_Y1:FnT K mg "turned" "turned" s_Y1 f_Y1 fd_Y1 ["yard","standing","number"]
 f_Xp:Addr
 fd_Xp:FuncData
 H_Xp:FnT K mg "can_lock" "can_lock" s_Xp f_Xp fd_Xp ["switch"]
 f_Qj:Addr
 fd_Qj:FuncData
 H_Qj:FnT K mg "all_switches" "all_switches" s_Qj f_Qj fd_Qj ["yard"]
 f_X5:Addr
 fd_X5:FuncData
 H_X5:FnT K mg "keeps_dead" "keeps_dead" s_X5 f_X5 fd_X5 ["yard","place","locks"]
 f_X0:Addr
 fd_X0:FuncData
 H_X0:FnT K mg "own_earths" "own_earths" s_X0 f_X0 fd_X0 ["net","standing","place"]
 f_Ql:Addr
 fd_Ql:FuncData
 H_Ql:FnT K mg "_law_cell_at" "_law_cell_at" s_Ql f_Ql fd_Ql ["script","k"]
 f_Qw:Addr
 fd_Qw:FuncData
 H_Qw:FnT K mg "_law_switch" "_law_switch" s_Qw f_Qw fd_Qw ["number","kind","count"]
 f_Xb:Addr
 fd_Xb:FuncData
 H_Xb:FnT K mg "_law_yard" "_law_yard" s_Xb f_Xb fd_Xb ["script"]
 f_Xj:Addr
 fd_Xj:FuncData
 H_Xj:FnT K mg "_law_shut" "_law_shut" s_Xj f_Xj fd_Xj ["standing","number"]
 f_Qy:Addr
 fd_Qy:FuncData
 H_Qy:FnT K mg "_law_spread" "_law_spread" s_Qy f_Qy fd_Qy ["yard","standing","some"]
 f_Xh:Addr
 fd_Xh:FuncData
 H_Xh:FnT K mg "_law_bars" "_law_bars" s_Xh f_Xh fd_Xh ["yard","standing","kind"]
 f_Xk:Addr
 fd_Xk:FuncData
 H_Xk:FnT K mg "_law_safe" "_law_safe" s_Xk f_Xk fd_Xk ["yard","standing"]
 f_Qv:Addr
 fd_Qv:FuncData
 H_Qv:FnT K mg "_law_loaded" "_law_loaded" s_Qv f_Qv fd_Qv ["yard","standing","number"]
 f_Qg:Addr
 fd_Qg:FuncData
 H_Qg:FnT K mg "_law_turn_due" "_law_turn_due" s_Qg f_Qg fd_Qg ["yard","standing","number"]
 f_X4:Addr
 fd_X4:FuncData
 H_X4:FnT K mg "_law_keeps" "_law_keeps" s_X4 f_X4 fd_X4 ["yard","place","locks"]
 f_Xs:Addr
 fd_Xs:FuncData
 H_Xs:FnT K mg "_law_is" "_law_is" s_Xs f_Xs fd_Xs ["found","due"]
 f_Qx:Addr
 fd_Qx:FuncData
 H_Qx:FnT K mg "_law_number" "_law_number" s_Qx f_Qx fd_Qx ["rest","many"]
 f_Xo:Addr
 fd_Xo:FuncData
 H_Xo:FnT K mg "_law_own" "_law_own" s_Xo f_Xo fd_Xo ["yard","standing","place"]
 f_Xi:Addr
 fd_Xi:FuncData
 H_Xi:FnT K mg "_law_held" "_law_held" s_Xi f_Xi fd_Xi ["rows"]
 f_Xc:Addr
 fd_Xc:FuncData
 H_Xc:FnT K mg "_law_deed" "_law_deed" s_Xc f_Xc fd_Xc ["yard","rows","cell"]
 f_Q5:Addr
 fd_Q5:FuncData
 H_Q5:FnT K mg "_law_switch_due" "_law_switch_due" s_Q5 f_Q5 fd_Q5 ["yard","rows","word","number"]
 f_Xq:Addr
 fd_Xq:FuncData
 H_Xq:FnT K mg "_law_due" "_law_due" s_Xq f_Xq fd_Xq ["yard","rows","word","number"]
 f_Xn:Addr
 fd_Xn:FuncData
 H_Xn:FnT K mg "_law_row" "_law_row" s_Xn f_Xn fd_Xn ["yard","rows","word","number"]
 f_X9:Addr
 fd_X9:FuncData
 H_X9:FnT K mg "_law_done" "_law_done" s_X9 f_X9 fd_X9 ["board","word","number"]
 f_Xa:Addr
 fd_Xa:FuncData
 H_Xa:FnT K mg "_law_seen" "_law_seen" s_Xa f_Xa fd_Xa ["board","rows","turn","kept"]
 f_law:Addr
 fd_law:FuncData
 H_law:FnT K mg "law" "law" s_law f_law fd_law ["script"]
 b_len:mg "len"=none
 b_sum:mg "sum"=none
 b_isinstance:mg "isinstance"=none
 b_sorted:mg "sorted"=none
 b_int:mg "int"=none
 b_bool:mg "bool"=none
 b_list:mg "list"=none
 b_range:mg "range"=none
 b_enumerate:mg "enumerate"=none
 b_ValueError:mg "ValueError"=none
 w_Xd:Clause K c_Xd
 su_Held_WardError:W.mroIn K c_Y9 (.ref c_Xd)=some true
 su_Loaded_WardError:W.mroIn K c_Y0 (.ref c_Xd)=some true
 su_Locked_WardError:W.mroIn K c_Xz (.ref c_Xd)=some true
 su_NoBar_WardError:W.mroIn K c_Y6 (.ref c_Xd)=some true
 su_NoLock_WardError:W.mroIn K c_Xy (.ref c_Xd)=some true
 su_NoPermit_WardError:W.mroIn K c_Xl (.ref c_Xd)=some true
 su_NoSwitch_WardError:W.mroIn K c_Xm (.ref c_Xd)=some true
 su_NotDead_WardError:W.mroIn K c_Xw (.ref c_Xd)=some true
 su_NotEarthed_WardError:W.mroIn K c_Qz (.ref c_Xd)=some true
 su_NotLocked_WardError:W.mroIn K c_Xg (.ref c_Xd)=some true
 su_NotOpen_WardError:W.mroIn K c_Xv (.ref c_Xd)=some true
 su_Shorted_WardError:W.mroIn K c_Xu (.ref c_Xd)=some true
 ic_Y9:IsiC K c_Y9
 io_Y9:IoL K c_Y9 nv [false,false,true,false,false,false,false,false,false,false,false,false,false,false,false,true]
 ic_Y0:IsiC K c_Y0
 io_Y0:IoL K c_Y0 nv [false,false,false,true,false,false,false,false,false,false,false,false,false,false,false,true]
 ic_Xz:IsiC K c_Xz
 io_Xz:IoL K c_Xz nv [false,true,false,false,false,false,false,false,false,false,false,false,false,false,false,true]
 ic_Y6:IsiC K c_Y6
 io_Y6:IoL K c_Y6 nv [false,false,false,false,false,false,false,false,true,false,false,false,false,false,false,true]
 ic_Xy:IsiC K c_Xy
 io_Xy:IoL K c_Xy nv [false,false,false,false,false,true,false,false,false,false,false,false,false,false,false,true]
 ic_Xl:IsiC K c_Xl
 io_Xl:IoL K c_Xl nv [false,false,false,false,false,false,false,false,false,false,false,true,false,false,false,true]
 ic_Xm:IsiC K c_Xm
 io_Xm:IoL K c_Xm nv [true,false,false,false,false,false,false,false,false,false,false,false,false,false,false,true]
 ic_Xw:IsiC K c_Xw
 io_Xw:IoL K c_Xw nv [false,false,false,false,false,false,false,false,false,false,true,false,false,false,false,true]
 ic_Qz:IsiC K c_Qz
 io_Qz:IoL K c_Qz nv [false,false,false,false,false,false,false,false,false,true,false,false,false,false,false,true]
 ic_Xg:IsiC K c_Xg
 io_Xg:IoL K c_Xg nv [false,false,false,false,false,false,false,true,false,false,false,false,false,false,false,true]
 ic_Xv:IsiC K c_Xv
 io_Xv:IoL K c_Xv nv [false,false,false,false,false,false,true,false,false,false,false,false,false,false,false,true]
 ic_Xu:IsiC K c_Xu
 io_Xu:IoL K c_Xu nv [false,false,false,false,true,false,false,false,false,false,false,false,false,false,false,true]
 Bl:∀(s:Shared) (u:Value),BindsTo s fd_law ⟨[u],[]⟩ [("script",u)]
section
variable {P : Program} {w : World} {K : W.Frag} {mg : Str -> Option Value} (T : Txt P w K mg)
theorem Txt.x_Y9:Exc K mg "Held" T.c_Y9:=⟨T.ac_Y9,⟨_,_,_,_,T.xq_Y9,PySem.F.excBase_ValueError⟩,T.xm_Y9⟩
theorem Txt.k_Y9:GV mg "Held" (.ref T.c_Y9):=⟨_,T.xm_Y9,rfl⟩
theorem Txt.x_Y0:Exc K mg "Loaded" T.c_Y0:=⟨T.ac_Y0,⟨_,_,_,_,T.xq_Y0,PySem.F.excBase_ValueError⟩,T.xm_Y0⟩
theorem Txt.k_Y0:GV mg "Loaded" (.ref T.c_Y0):=⟨_,T.xm_Y0,rfl⟩
theorem Txt.x_Xz:Exc K mg "Locked" T.c_Xz:=⟨T.ac_Xz,⟨_,_,_,_,T.xq_Xz,PySem.F.excBase_ValueError⟩,T.xm_Xz⟩
theorem Txt.k_Xz:GV mg "Locked" (.ref T.c_Xz):=⟨_,T.xm_Xz,rfl⟩
theorem Txt.x_Y6:Exc K mg "NoBar" T.c_Y6:=⟨T.ac_Y6,⟨_,_,_,_,T.xq_Y6,PySem.F.excBase_ValueError⟩,T.xm_Y6⟩
theorem Txt.k_Y6:GV mg "NoBar" (.ref T.c_Y6):=⟨_,T.xm_Y6,rfl⟩
theorem Txt.x_Xy:Exc K mg "NoLock" T.c_Xy:=⟨T.ac_Xy,⟨_,_,_,_,T.xq_Xy,PySem.F.excBase_ValueError⟩,T.xm_Xy⟩
theorem Txt.k_Xy:GV mg "NoLock" (.ref T.c_Xy):=⟨_,T.xm_Xy,rfl⟩
theorem Txt.x_Xf:Exc K mg "NoMeasure" T.c_Xf:=⟨T.ac_Xf,⟨_,_,_,_,T.xq_Xf,PySem.F.excBase_ValueError⟩,T.xm_Xf⟩
theorem Txt.k_Xf:GV mg "NoMeasure" (.ref T.c_Xf):=⟨_,T.xm_Xf,rfl⟩
theorem Txt.x_Xl:Exc K mg "NoPermit" T.c_Xl:=⟨T.ac_Xl,⟨_,_,_,_,T.xq_Xl,PySem.F.excBase_ValueError⟩,T.xm_Xl⟩
theorem Txt.k_Xl:GV mg "NoPermit" (.ref T.c_Xl):=⟨_,T.xm_Xl,rfl⟩
theorem Txt.x_Y4:Exc K mg "NoRow" T.c_Y4:=⟨T.ac_Y4,⟨_,_,_,_,T.xq_Y4,PySem.F.excBase_ValueError⟩,T.xm_Y4⟩
theorem Txt.k_Y4:GV mg "NoRow" (.ref T.c_Y4):=⟨_,T.xm_Y4,rfl⟩
theorem Txt.x_Xm:Exc K mg "NoSwitch" T.c_Xm:=⟨T.ac_Xm,⟨_,_,_,_,T.xq_Xm,PySem.F.excBase_ValueError⟩,T.xm_Xm⟩
theorem Txt.k_Xm:GV mg "NoSwitch" (.ref T.c_Xm):=⟨_,T.xm_Xm,rfl⟩
theorem Txt.x_Xw:Exc K mg "NotDead" T.c_Xw:=⟨T.ac_Xw,⟨_,_,_,_,T.xq_Xw,PySem.F.excBase_ValueError⟩,T.xm_Xw⟩
theorem Txt.k_Xw:GV mg "NotDead" (.ref T.c_Xw):=⟨_,T.xm_Xw,rfl⟩
theorem Txt.x_Qz:Exc K mg "NotEarthed" T.c_Qz:=⟨T.ac_Qz,⟨_,_,_,_,T.xq_Qz,PySem.F.excBase_ValueError⟩,T.xm_Qz⟩
theorem Txt.k_Qz:GV mg "NotEarthed" (.ref T.c_Qz):=⟨_,T.xm_Qz,rfl⟩
theorem Txt.x_Xg:Exc K mg "NotLocked" T.c_Xg:=⟨T.ac_Xg,⟨_,_,_,_,T.xq_Xg,PySem.F.excBase_ValueError⟩,T.xm_Xg⟩
theorem Txt.k_Xg:GV mg "NotLocked" (.ref T.c_Xg):=⟨_,T.xm_Xg,rfl⟩
theorem Txt.x_Xv:Exc K mg "NotOpen" T.c_Xv:=⟨T.ac_Xv,⟨_,_,_,_,T.xq_Xv,PySem.F.excBase_ValueError⟩,T.xm_Xv⟩
theorem Txt.k_Xv:GV mg "NotOpen" (.ref T.c_Xv):=⟨_,T.xm_Xv,rfl⟩
theorem Txt.x_Ya:Exc K mg "Same" T.c_Ya:=⟨T.ac_Ya,⟨_,_,_,_,T.xq_Ya,PySem.F.excBase_ValueError⟩,T.xm_Ya⟩
theorem Txt.k_Ya:GV mg "Same" (.ref T.c_Ya):=⟨_,T.xm_Ya,rfl⟩
theorem Txt.x_Xu:Exc K mg "Shorted" T.c_Xu:=⟨T.ac_Xu,⟨_,_,_,_,T.xq_Xu,PySem.F.excBase_ValueError⟩,T.xm_Xu⟩
theorem Txt.k_Xu:GV mg "Shorted" (.ref T.c_Xu):=⟨_,T.xm_Xu,rfl⟩
theorem Txt.x_Xd:Exc K mg "WardError" T.c_Xd:=⟨T.ac_Xd,⟨_,_,_,_,T.xq_Xd,PySem.F.excBase_ValueError⟩,T.xm_Xd⟩
theorem Txt.k_Yb:GV mg "Feed" (.ref T.c_Yb):=T.C_Yb.k
theorem Txt.k_Y5:GV mg "Earth" (.ref T.c_Y5):=T.C_Y5.k
theorem Txt.k_Xt:GV mg "Breaker" (.ref T.c_Xt):=T.C_Xt.k
theorem Txt.k_Xr:GV mg "Splitter" (.ref T.c_Xr):=T.C_Xr.k
theorem Txt.k_Net:GV mg "Net" (.ref T.c_Net):=T.C_Net.k
theorem Txt.k_Y8:GV mg "Board" (.ref T.c_Y8):=T.C_Y8.k
end
def cmOf{P:Program}{w:World}{K:W.Frag}{mg:Str->Option Value}(T:Txt P w K mg)(n:String):Addr:=
 if n="Held" then T.c_Y9 else
 if n="Loaded" then T.c_Y0 else
 if n="Locked" then T.c_Xz else
 if n="NoBar" then T.c_Y6 else
 if n="NoLock" then T.c_Xy else
 if n="NoMeasure" then T.c_Xf else
 if n="NoPermit" then T.c_Xl else
 if n="NoRow" then T.c_Y4 else
 if n="NoSwitch" then T.c_Xm else
 if n="NotDead" then T.c_Xw else
 if n="NotEarthed" then T.c_Qz else
 if n="NotLocked" then T.c_Xg else
 if n="NotOpen" then T.c_Xv else
 if n="Same" then T.c_Ya else
 if n="Shorted" then T.c_Xu else
 if n="WardError" then T.c_Xd else
 if n="Switch" then T.c_Y2 else
 if n="Feed" then T.c_Yb else
 if n="Earth" then T.c_Y5 else
 if n="Breaker" then T.c_Xt else
 if n="Splitter" then T.c_Xr else
 if n="Net" then T.c_Net else
 if n="Board" then T.c_Y8 else
 0
abbrev ct{P:Program}{w:World}{K:W.Frag}{mg:Str->Option Value}(T:Txt P w K mg):Ct:=⟨P,w,K,cmOf T⟩
section
variable {P : Program} {w : World} {K : W.Frag} {mg : Str -> Option Value} {base : Heap} (T : Txt P w K mg)
theorem jog:cmOf T "Held"=T.c_Y9:=by simp[cmOf]
theorem jrn:cmOf T "Loaded"=T.c_Y0:=by simp[cmOf]
theorem joe:cmOf T "Locked"=T.c_Xz:=by simp[cmOf]
theorem jqd:cmOf T "NoBar"=T.c_Y6:=by simp[cmOf]
theorem js4:cmOf T "NoLock"=T.c_Xy:=by simp[cmOf]
theorem cm_Xf:cmOf T "NoMeasure"=T.c_Xf:=by simp[cmOf]
theorem jrj:cmOf T "NoPermit"=T.c_Xl:=by simp[cmOf]
theorem cm_Y4:cmOf T "NoRow"=T.c_Y4:=by simp[cmOf]
theorem jpd:cmOf T "NoSwitch"=T.c_Xm:=by simp[cmOf]
theorem jsq:cmOf T "NotDead"=T.c_Xw:=by simp[cmOf]
theorem jsg:cmOf T "NotEarthed"=T.c_Qz:=by simp[cmOf]
theorem jrr:cmOf T "NotLocked"=T.c_Xg:=by simp[cmOf]
theorem jsm:cmOf T "NotOpen"=T.c_Xv:=by simp[cmOf]
theorem cm_Ya:cmOf T "Same"=T.c_Ya:=by simp[cmOf]
theorem jqj:cmOf T "Shorted"=T.c_Xu:=by simp[cmOf]
theorem jul:cmOf T "Switch"=T.c_Y2:=by simp[cmOf]
theorem jov:cmOf T "Feed"=T.c_Yb:=by simp[cmOf]
theorem joa:cmOf T "Earth"=T.c_Y5:=by simp[cmOf]
theorem jm5:cmOf T "Breaker"=T.c_Xt:=by simp[cmOf]
theorem jmo:cmOf T "Splitter"=T.c_Xr:=by simp[cmOf]
theorem jfh:cmOf T "Net"=T.c_Net:=by simp[cmOf]
theorem jew:cmOf T "Board"=T.c_Y8:=by simp[cmOf]
theorem jnk:jf6 (ct T) "bar" jgr:=(fldc (jov T) T.C_Yb.cl T.na_Feed_bar (fldc (joa T) T.C_Y5.cl T.na_Earth_bar jeb))
theorem jf9:jf6 (ct T) "given" je7:=(fldc (jew T) T.C_Y8.cl T.na_Board_given jeb)
theorem jcq:jf6 (ct T) "last_number" jc1:=(fldc (jew T) T.C_Y8.cl T.na_Board_last_number jeb)
theorem jck:jf6 (ct T) "locks" jbu:=(fldc (jew T) T.C_Y8.cl T.na_Board_locks jeb)
theorem jn6:jf6 (ct T) "net" jgf:=(fldc (jew T) T.C_Y8.cl T.na_Board_net jeb)
theorem jnq:jf6 (ct T) "one" jgp:=(fldc (jm5 T) T.C_Xt.cl T.na_Breaker_one (fldc (jmo T) T.C_Xr.cl T.na_Splitter_one jeb))
theorem jh4:jf6 (ct T) "other" je6:=(fldc (jm5 T) T.C_Xt.cl T.na_Breaker_other (fldc (jmo T) T.C_Xr.cl T.na_Splitter_other jeb))
theorem jf4:jf6 (ct T) "shut" jdx:=(fldc (jew T) T.C_Y8.cl T.na_Board_shut jeb)
theorem jdv:jf6 (ct T) "switches" jb3:=(fldc (jfh T) T.C_Net.cl T.na_Net_switches jeb)
theorem jex:jf6 (ct T) "yard" jde:=(fldc (jew T) T.C_Y8.cl T.na_Board_yard jeb)
theorem sub_Xd:jlq (ct T) T.c_Xd w_Xd:=(subc (jog T) T.su_Held_WardError (subc (jrn T) T.su_Loaded_WardError (subc (joe T) T.su_Locked_WardError (subc (jqd T) T.su_NoBar_WardError (subc (js4 T) T.su_NoLock_WardError (subc (jrj T) T.su_NoPermit_WardError (subc (jpd T) T.su_NoSwitch_WardError (subc (jsq T) T.su_NotDead_WardError (subc (jsg T) T.su_NotEarthed_WardError (subc (jrr T) T.su_NotLocked_WardError (subc (jsm T) T.su_NotOpen_WardError (subc (jqj T) T.su_Shorted_WardError jzb))))))))))))
theorem nm_tab:NmL (ct T) x_ns T.nv:=by rw[T.nve];exact⟨congrArg Value.ref (jpd T),congrArg Value.ref (joe T),congrArg Value.ref (jog T),congrArg Value.ref (jrn T),congrArg Value.ref (jqj T),congrArg Value.ref (js4 T),congrArg Value.ref (jsm T),congrArg Value.ref (jrr T),congrArg Value.ref (jqd T),congrArg Value.ref (jsg T),congrArg Value.ref (jsq T),congrArg Value.ref (jrj T),congrArg Value.ref (cm_Y4 T),congrArg Value.ref (cm_Xf T),congrArg Value.ref (cm_Ya T),rfl,trivial⟩
theorem jcp:jlc (ct T) jcl:=isxF (nm_tab T) (xlc (jog T) T.ic_Y9 T.io_Y9 (xlc (jrn T) T.ic_Y0 T.io_Y0 (xlc (joe T) T.ic_Xz T.io_Xz (xlc (jqd T) T.ic_Y6 T.io_Y6 (xlc (js4 T) T.ic_Xy T.io_Xy (xlc (jrj T) T.ic_Xl T.io_Xl (xlc (jpd T) T.ic_Xm T.io_Xm (xlc (jsq T) T.ic_Xw T.io_Xw (xlc (jsg T) T.ic_Qz T.io_Qz (xlc (jrr T) T.ic_Xg T.io_Xg (xlc (jsm T) T.ic_Xv T.io_Xv (xlc (jqj T) T.ic_Xu T.io_Xu trivial))))))))))))
seal PE PA PS PSs
local macro_rules | `(tactic| trivial) => `(tactic| first | exact Or.inl rfl | exact Or.inr rfl)
theorem jz2:FnOk P w K mg base (CXE P w) 1 T.f_Ql T.fd_Ql ["script","k"] (spZ (ct T) z_Ql):=by
 refine okZ2 (b:=b_Ql) T.H_Ql.F sc_Ql λcdv A outer s H E hr=> ?_
 have hu:=hr.units
 refine⟨_,(ja5 (jb6 (jar (jlk) (pv 1) (jay (jcr (P:=P) (w:=w) (K:=K) rfl rfl rfl) (by rfl) T.b_len jff (ja0 (pv 0) ja6)) (jau _)) (ja7 (jaf (ixq P w K hu (pv 0) (pv 1)))) jai)
   (ja7 (jaf ja4))),?_⟩
 exact(ja9 (jb7 (jao (s_op jmt ja2 (s_cb jfi (ja1 ja2 jaa)))) (jag (s_ix ja2 ja2)) jah)
   (jag ja8))
theorem ok_Qw:FnOk P w K mg base (CXE P w) 1 T.f_Qw T.fd_Qw ["number","kind","count"] (spZ (ct T) z_Qw):=by
 refine okZ2 (b:=b_Qw) T.H_Qw.F sc_Qw λcdv A outer s H E hr=> ?_
 have hu:=hr.units
 refine⟨_,(ja5 (jap (i:=3) sc_Qw.nd rfl (by trivial) (jak jc6 (jak jci (pv 0) ja4) (pv 2)))
   (ja5 (jb6 (jar (jwn (P:=P) (w:=w) (K:=K) rfl rfl rfl hu) (pv 1) (jbp (ja0 jat (ja0 jat ja6))) (by with_unfolding_all rfl)) (ja7 (jaf (jdw (ja0 (pv 1) (ja0 (pv 3) ja6))))) jai)
   (ja7 (jaf (jdw (ja0 (pv 1) (ja0 (pv 3) (ja0 (jak jc6 (jak (jc4 (K:=K) rfl) (jak (jc4 (K:=K) rfl) (pv 3) ja4) (jak jc6 (jak jci (pv 0) ja4) (jak jgq (pv 2) ja4))) (pv 2)) ja6)))))))),?_⟩
 exact(ja9 (jal (s_op jc5 (s_op jd8 ja2 ja8) ja2) jac)
   (ja9 (jb7 (jao (s_op ju3 ja2 (jbb (jbo (ja1 jba (ja1 jba jaa)))))) (jag (jfs (ja1 ja2 (ja1 ja2 jaa)))) jah)
   (jag (jfs (ja1 ja2 (ja1 ja2 (ja1 (s_op jc5 (s_op jd0 (s_op jd0 ja2 ja8) (s_op jc5 (s_op jd8 ja2 ja8) (s_op jgg ja2 ja8))) ja2) jaa)))))))
theorem ok_Xb:FnOk P w K mg base (CXE P w) 2 T.f_Xb T.fd_Xb ["script"] (spZ (ct T) z_Xb):=by
 refine okZ2 (b:=b_Xb) T.H_Xb.F jgb λcdv A outer s H E hr=> ?_
 have hu:=hr.units
 refine⟨_,(ja5 (jap (i:=1) jgb.nd rfl (by trivial) (pe_g (gOf T.H_Ql (jz2 T)) (hm hr) jaq (ja0 (pv 0) (ja0 ja4 ja6))))
   (ja5 (jap (i:=2) jgb.nd rfl (by trivial) (ixq P w K hu (jbp (ja0 ja4 (ja0 ja4 (ja0 ja4 (ja0 ja4 (ja0 ja4 (ja0 ja4 (ja0 ja4 ja6)))))))) (jak jc6 (pv 1) ja4)))
   (ja5 (jap (i:=3) jgb.nd rfl (by trivial) (ixq P w K hu (jbp (ja0 ja4 (ja0 ja4 (ja0 ja4 (ja0 ja4 (ja0 ja4 (ja0 ja4 (ja0 ja4 (ja0 ja4 (ja0 ja4 ja6)))))))))) (jak jc6 (jak jci (pv 1) ja4) ja4)))
   (ja5 (jb6 (jar (jb5 hu) (jak jc6 (jak jci (pv 1) ja4) ja4) ja4 (jau _)) (ja7 (jap (i:=3) jgb.nd rfl (by trivial) (jak (jc4 (K:=K) rfl) ja4 (jak jc6 (jak jci (pv 1) ja4) ja4)))) jai)
   (ja5 (jap (i:=4) jgb.nd rfl (by trivial) (jbp (ja0 jat (ja0 jat (ja0 jat (ja0 jat (ja0 jat (ja0 jat (ja0 jat (ja0 jat (ja0 jat (ja0 jat ja6))))))))))))
   (ja5 (jap (i:=4) jgb.nd rfl (by trivial) (jak (jc4 (K:=K) rfl) (pv 4) (jbp (ja0 jat (ja0 jat ja6)))))
   (ja5 (jap (i:=5) jgb.nd rfl (by trivial) (jbp ja6))
   (ja5 (jeq ownE rfl (jcd rfl T.b_range (ja0 (pv 3) ja6)) (jb8 (i:=6) jgb.nd rfl (by trivial)) (ja5 (jap (i:=7) jgb.nd rfl (by trivial) (jak (jc4 (K:=K) rfl) (jay (jlb (K:=K) rfl rfl) (by rfl) T.b_sum jws (ja0 (job (K:=K) rfl (pv 0) (jju (jak (jc4 (K:=K) rfl) ja4 (pv 6))) jxb (jju (pv 3))) ja6)) (jak jll (jak jll ja4 (pv 6)) (pv 6))))
   (ja5 (jap (i:=8) jgb.nd rfl (by trivial) (ixq P w K hu (pv 4) (pv 6)))
   (ja5 (jb6 (jar (jb5 hu) (jak jc6 (jak jci (pv 1) ja4) ja4) ja4 (jau _)) (ja7 (jap (i:=8) jgb.nd rfl (by trivial) (ixq P w K hu (pv 4) (jak jc6 (pv 7) ja4)))) jai)
   (ja5 (jb6 (jar (jb5 hu) (pv 2) ja4 (jau _)) (ja7 (jap (i:=8) jgb.nd rfl (by trivial) (ixq P w K hu (jbp (ja0 jat (ja0 jat ja6))) (jak jc6 (pv 7) ja4)))) jai)
   (ja7 (je8 (jpe (K:=K) rfl (jxn PySem.F.plainAttrs_list PySem.F.slot_list_append PySem.F.type_list_append jfx (pv 5) (ja0 (pe_g (gOf T.H_Qw (ok_Qw T)) (hm hr) jaq (ja0 (pv 7) (ja0 (pv 8) (ja0 (pv 2) ja6)))) ja6))))))))))
   (ja7 (jaf (jdw (ja0 (pv 2) (ja0 (pv 5) ja6))))))))))))),?_⟩
 exact(ja9 (jal (jam (ja1 ja2 (ja1 ja8 jaa))) jac)
   (ja9 (jal (s_ix (jbb (jbo (ja1 ja8 (ja1 ja8 (ja1 ja8 (ja1 ja8 (ja1 ja8 (ja1 ja8 (ja1 ja8 jaa))))))))) (s_op jc5 ja2 ja8)) jac)
   (ja9 (jal (s_ix (jbb (jbo (ja1 ja8 (ja1 ja8 (ja1 ja8 (ja1 ja8 (ja1 ja8 (ja1 ja8 (ja1 ja8 (ja1 ja8 (ja1 ja8 jaa))))))))))) (s_op jc5 (s_op jd8 ja2 ja8) ja8)) jac)
   (ja9 (jb7 (jao (s_op jbw (s_op jc5 (s_op jd8 ja2 ja8) ja8) ja8)) (jal (s_op jd0 ja8 (s_op jc5 (s_op jd8 ja2 ja8) ja8)) jac) jah)
   (ja9 (jal (jbb (jbo (ja1 jba (ja1 jba (ja1 jba (ja1 jba (ja1 jba (ja1 jba (ja1 jba (ja1 jba (ja1 jba (ja1 jba jaa)))))))))))) jac)
   (ja9 (jal (s_op jd0 ja2 (jbb (jbo (ja1 jba (ja1 jba jaa))))) jac)
   (ja9 (jal (jgj (jbo jaa)) jac)
   (ja9 (jfg (jdp (ja1 ja2 jaa)) jac (ja9 (jal (s_op jd0 (s_cb jvz (ja1 (s_slX ja2 (jvg (s_op jd0 ja8 ja2)) so_no (jvg ja2)) jaa)) (s_op jvk (s_op jvk ja8 ja2) ja2)) jac)
   (ja9 (jal (s_ix ja2 ja2) jac)
   (ja9 (jb7 (jao (s_op jbw (s_op jc5 (s_op jd8 ja2 ja8) ja8) ja8)) (jal (s_ix ja2 (s_op jc5 ja2 ja8)) jac) jah)
   (ja9 (jb7 (jao (s_op jbw ja2 ja8)) (jal (s_ix (jbb (jbo (ja1 jba (ja1 jba jaa)))) (s_op jc5 ja2 ja8)) jac) jah)
   (jhi ja2 (jam (ja1 ja2 (ja1 ja2 (ja1 ja2 jaa))))))))))
   (jhq (i:=5) (jag (jfs (ja1 ja2 (ja1 ja2 jaa)))))))))))))
theorem jge:FnOk P w K mg base (CXE P w) 1 T.f_Xj T.fd_Xj ["standing","number"] (spZ (ct T) z_Xj):=by
 refine okZ2 (b:=b_Xj) T.H_Xj.F sc_Xj λcdv A outer s H E hr=> ?_
 have hu:=hr.units
 refine⟨_,(ja7 (jaf (jco (jb5 hu) (jak je5 (jak jw1 (pv 0) (pv 1)) ja4) ja4 (jau _)))),?_⟩
 exact(jag (s_op jbw (s_op je4 (s_op jw5 ja2 ja2) ja8) ja8))
theorem jym:FnOk P w K mg base (CXE P w) 2 T.f_Xo T.fd_Xo ["yard","standing","place"] (spZ (ct T) z_Xo):=by
 refine okZ2 (b:=b_Xo) T.H_Xo.F jme λcdv A outer s H E hr=> ?_
 have hu:=hr.units
 refine⟨_,(ja5 (jap (i:=3) jme.nd rfl (by trivial) ja4)
   (ja5 (jap (i:=4) jme.nd rfl (by trivial) ja4)
   (ja5 (jeq ownE rfl (jcd rfl T.b_range (ja0 (jay (jcr (P:=P) (w:=w) (K:=K) rfl rfl rfl) (by rfl) T.b_len jff (ja0 (ixq P w K hu (pv 0) ja4) ja6)) ja6)) (jb8 (i:=5) jme.nd rfl (by trivial)) (ja5 (jap (i:=6) jme.nd rfl (by trivial) (ixq P w K hu (ixq P w K hu (pv 0) ja4) (pv 5)))
   (ja7 (jb6 (PW.pt (je3 (jar (jb5 hu) (ixq P w K hu (pv 6) ja4) jat (jau _)) (je3 (jaj (K:=K) rfl (pe_g (gOf T.H_Xj (jge T)) (hm hr) jaq (ja0 (pv 1) (ja0 (pv 5) ja6))) (λ_=>rfl)) (jdh (jaj (K:=K) rfl (pe_g (gOf T.H_Xj (jge T)) (hm hr) jaq (ja0 (pv 2) (ja0 (ixq P w K hu (pv 6) ja4) ja6))) (λ_=>rfl)))))) (ja5 (jap (i:=3) jme.nd rfl (by trivial) (jak ji9 (pv 3) (jak jcc ja4 (ixq P w K hu (pv 6) ja4))))
   (ja7 (jap (i:=4) jme.nd rfl (by trivial) (jak (jc4 (K:=K) rfl) (pv 4) (jak jcc ja4 (pv 5)))))) jai))))
   (ja7 (jaf (jbp (ja0 (pv 3) (ja0 (pv 4) ja6)))))))),?_⟩
 exact(ja9 (jal ja8 jac)
   (ja9 (jal ja8 jac)
   (ja9 (jfg (jdp (ja1 (s_cb jfi (ja1 (s_ix ja2 ja8) jaa)) jaa)) jac (ja9 (jal (s_ix (s_ix ja2 ja8) ja2) jac)
   (jb7 (je2 (jao (s_op jbw (s_ix ja2 ja8) jba)) (je2 (jax (jam (ja1 ja2 (ja1 ja2 jaa)))) (jax (jam (ja1 ja2 (ja1 (s_ix ja2 ja8) jaa)))))) (ja9 (jal (s_op jh7 ja2 (s_op jcf ja8 (s_ix ja2 ja8))) jac)
   (jal (s_op jd0 ja2 (s_op jcf ja8 ja2)) jac)) jah)))
   (jag (jbb (jbo (ja1 ja2 (ja1 ja2 jaa))))))))
theorem ok_Qx:FnOk P w K mg base (CXE P w) 1 T.f_Qx T.fd_Qx ["rest","many"] (spZ (ct T) z_Qx):=by
 refine okZ2 (b:=b_Qx) T.H_Qx.F sc_Qx λcdv A outer s H E hr=> ?_
 have hu:=hr.units
 refine⟨_,(ja5 (jb6 (jar (jb5 hu) (jak jc6 (pv 0) ja4) ja4 (jau _)) (ja7 (jaf (ixq P w K hu (jbp (ja0 (jak (jc4 (K:=K) rfl) (jak jpq ja4 ja4) (jak jc6 (jak jci (pv 0) ja4) (jak jpq ja4 ja4))) (ja0 (jak jgq (jgw jib ja4) (jak jc6 (jak jci (pv 0) ja4) (jak jpq ja4 ja4))) ja6))) (jak jc6 (jak jci (pv 0) ja4) ja4)))) jai)
   (ja7 (jaf (jak jgq (jak jc6 (jak jci (pv 0) ja4) (jak (jc4 (K:=K) rfl) (pv 1) ja4)) ja4)))),?_⟩
 exact(ja9 (jb7 (jao (s_op jbw (s_op jc5 ja2 ja8) ja8)) (jag (s_ix (jbb (jbo (ja1 (s_op jd0 (s_op jrx ja8 ja8) (s_op jc5 (s_op jd8 ja2 ja8) (s_op jrx ja8 ja8))) (ja1 (s_op jgg (s_un jih ja8) (s_op jc5 (s_op jd8 ja2 ja8) (s_op jrx ja8 ja8))) jaa)))) (s_op jc5 (s_op jd8 ja2 ja8) ja8))) jah)
   (jag (s_op jgg (s_op jc5 (s_op jd8 ja2 ja8) (s_op jd0 ja2 ja8)) ja8)))
theorem ok_Xc:FnOk P w K mg base (CXE P w) 3 T.f_Xc T.fd_Xc ["yard","rows","cell"] (spZ (ct T) z_Xc):=by
 refine okZ2 (b:=b_Xc) T.H_Xc.F jqy λcdv A outer s H E hr=> ?_
 have hu:=hr.units
 refine⟨_,(ja5 (jap (i:=3) jqy.nd rfl (by trivial) (jak jci (pv 2) ja4))
   (ja5 (jap (i:=4) jqy.nd rfl (by trivial) (ixq P w K hu (jbp (ja0 jat (ja0 jat (ja0 jat (ja0 jat (ja0 jat (ja0 jat (ja0 jat (ja0 jat ja6))))))))) (jak jc6 (pv 2) ja4)))
   (ja5 (jb6 (jar (jb5 hu) (pv 4) jat (jau _)) (ja7 (jaf (jdw (ja0 (pv 4) (ja0 (jak jgq (jak jc6 (pv 3) (jak (jc4 (K:=K) rfl) (ixq P w K hu (pv 1) ja4) ja4)) ja4) ja6))))) jai)
   (ja5 (jb6 (jar (jes hu) (pv 4) jat (jau _)) (ja7 (jaf (jdw (ja0 (pv 4) (ja0 (pe_g (gOf T.H_Qx (ok_Qx T)) (hm hr) jaq (ja0 (pv 3) (ja0 (jay (jcr (P:=P) (w:=w) (K:=K) rfl rfl rfl) (by rfl) T.b_len jff (ja0 (ixq P w K hu (pv 0) ja4) ja6)) ja6))) ja6))))) jai)
   (ja5 (jap (i:=5) jqy.nd rfl (by trivial) (ixq P w K hu (pe_g (gOf T.H_Xo (jym T)) (hm hr) jaq (ja0 (pv 0) (ja0 (ixq P w K hu (pv 1) ja4) (ja0 (jak jgq (jak jcc ja4 (ixq P w K hu (pv 0) ja4)) ja4) ja6)))) ja4))
   (ja5 (jb6 (PW.pt (jtl (jar (jb5 hu) (jak jc6 (pv 3) ja4) ja4 (jau _)) (jnm (jar (jb5 hu) (pv 5) ja4 (jau _))))) (ja7 (jaf (jdw (ja0 (pv 4) (ja0 (jak jgq (jak jc6 (jak jci (pv 3) ja4) (jak jcc ja4 (jak (jc4 (K:=K) rfl) (ixq P w K hu (pv 0) ja4) ja4))) ja4) ja6))))) jai)
   (ja5 (jap (i:=6) jqy.nd rfl (by trivial) (jak je5 (pv 5) (jak jci (pv 3) ja4)))
   (ja7 (jaf (jdw (ja0 (pv 4) (ja0 (ixq P w K hu (jbp (ja0 (pv 6) (ja0 (pv 5) ja6))) (jct (jeh) (by rfl) T.b_int jhv (ja0 (jco (jb5 hu) (pv 6) ja4 (jau _)) ja6))) ja6)))))))))))),?_⟩
 exact(ja9 (jal (s_op jd8 ja2 ja8) jac)
   (ja9 (jal (s_ix (jbb (jbo (ja1 jba (ja1 jba (ja1 jba (ja1 jba (ja1 jba (ja1 jba (ja1 jba (ja1 jba jaa)))))))))) (s_op jc5 ja2 ja8)) jac)
   (ja9 (jb7 (jao (s_op jbw ja2 jba)) (jag (jfs (ja1 ja2 (ja1 (s_op jgg (s_op jc5 ja2 (s_op jd0 (s_ix ja2 ja8) ja8)) ja8) jaa)))) jah)
   (ja9 (jb7 (jao (s_op jgy ja2 jba)) (jag (jfs (ja1 ja2 (ja1 (jam (ja1 ja2 (ja1 (s_cb jfi (ja1 (s_ix ja2 ja8) jaa)) jaa))) jaa)))) jah)
   (ja9 (jal (s_ix (jam (ja1 ja2 (ja1 (s_ix ja2 ja8) (ja1 (s_op jgg (s_op jcf ja8 (s_ix ja2 ja8)) ja8) jaa)))) ja8) jac)
   (ja9 (jb7 (jv2 (jao (s_op jbw (s_op jc5 ja2 ja8) ja8)) (jao (s_op jbw ja2 ja8))) (jag (jfs (ja1 ja2 (ja1 (s_op jgg (s_op jc5 (s_op jd8 ja2 ja8) (s_op jcf ja8 (s_op jd0 (s_ix ja2 ja8) ja8))) ja8) jaa)))) jah)
   (ja9 (jal (s_op je4 ja2 (s_op jd8 ja2 ja8)) jac)
   (jag (jfs (ja1 ja2 (ja1 (s_ix (jbb (jbo (ja1 ja2 (ja1 ja2 jaa)))) (s_cb jit (ja1 (s_op jbw ja2 ja8) jaa))) jaa)))))))))))
theorem ok_Qy:FnOk P w K mg base (CXE P w) 2 T.f_Qy T.fd_Qy ["yard","standing","some"] (spZ (ct T) z_Qy):=by
 refine okZ2 (b:=b_Qy) T.H_Qy.F jm6 λcdv A outer s H E hr=> ?_
 have hu:=hr.units
 refine⟨_,(ja5 (jap (i:=3) jm6.nd rfl (by trivial) (jct (jfc (K:=K) rfl) (by rfl) T.b_list jhn (ja0 (pv 2) ja6)))
   (ja5 (jap (i:=4) jm6.nd rfl (by trivial) jds)
   (ja5 (jmz ownE (jaj (K:=K) rfl (pv 4) (λ_=>rfl)) (ja5 (jap (i:=4) jm6.nd rfl (by trivial) jds)
   (ja7 (jeq ownE rfl (jcd rfl T.b_range (ja0 (jay (jcr (P:=P) (w:=w) (K:=K) rfl rfl rfl) (by rfl) T.b_len jff (ja0 (ixq P w K hu (pv 0) ja4) ja6)) ja6)) (jb8 (i:=5) jm6.nd rfl (by trivial)) (ja5 (jap (i:=6) jm6.nd rfl (by trivial) (ixq P w K hu (ixq P w K hu (pv 0) ja4) (pv 5)))
   (ja7 (jb6 (PW.pt (je3 (jar (jb5 hu) (jay (jcr (P:=P) (w:=w) (K:=K) rfl rfl rfl) (by rfl) T.b_len jff (ja0 (pv 6) ja6)) ja4 (jau _)) (je3 (jaj (K:=K) rfl (pe_g (gOf T.H_Xj (jge T)) (hm hr) jaq (ja0 (pv 1) (ja0 (pv 5) ja6))) (λ_=>rfl)) (jdh (jar (jes hu) (ixq P w K hu (pv 3) (ixq P w K hu (pv 6) ja4)) (ixq P w K hu (pv 3) (ixq P w K hu (pv 6) ja4)) (jau _)))))) (ja5 (jgi jds (jiw (pv 3) (ixq P w K hu (pv 6) ja4) jfb))
   (ja5 (jgi jds (jiw (pv 3) (ixq P w K hu (pv 6) ja4) jfb))
   (ja7 (jap (i:=4) jm6.nd rfl (by trivial) jds)))) jai)))))))
   (ja7 (jaf (pv 3)))))),?_⟩
 exact(ja9 (jal (jgj (jnj (ja1 ja2 jaa))) jac)
   (ja9 (jal s_bl jac)
   (ja9 (jnu (jax ja2) (ja9 (jal s_bl jac)
   (jfg (jdp (ja1 (s_cb jfi (ja1 (s_ix ja2 ja8) jaa)) jaa)) jac (ja9 (jal (s_ix (s_ix ja2 ja8) ja2) jac)
   (jb7 (je2 (jao (s_op jbw (s_cb jfi (ja1 ja2 jaa)) ja8)) (je2 (jax (jam (ja1 ja2 (ja1 ja2 jaa)))) (jao (s_op jgy (s_ix ja2 (s_ix ja2 ja8)) (s_ix ja2 (s_ix ja2 ja8)))))) (ja9 (jal s_bl (jiv ja2 (s_ix ja2 ja8)))
   (ja9 (jal s_bl (jiv ja2 (s_ix ja2 ja8)))
   (jal s_bl jac))) jah)))))
   (jhq (i:=3) (jag ja2)))))
theorem jud:FnOk P w K mg base (CXE P w) 3 T.f_Xh T.fd_Xh ["yard","standing","kind"] (spZ (ct T) z_Xh):=by
 refine okZ2 (b:=b_Xh) T.H_Xh.F jz0 λcdv A outer s H E hr=> ?_
 have hu:=hr.units
 refine⟨_,(ja5 (jap (i:=3) jz0.nd rfl (by trivial) (jak jll (jbp (ja0 jds ja6)) (ixq P w K hu (pv 0) ja4)))
   (ja5 (jeq ownE rfl (jcd rfl T.b_range (ja0 (jay (jcr (P:=P) (w:=w) (K:=K) rfl rfl rfl) (by rfl) T.b_len jff (ja0 (ixq P w K hu (pv 0) ja4) ja6)) ja6)) (jb8 (i:=4) jz0.nd rfl (by trivial)) (ja7 (jb6 (PW.pt (je3 (jar (jb5 hu) (ixq P w K hu (ixq P w K hu (ixq P w K hu (pv 0) ja4) (pv 4)) ja4) (pv 2) (jau _)) (jdh (jaj (K:=K) rfl (pe_g (gOf T.H_Xj (jge T)) (hm hr) jaq (ja0 (pv 1) (ja0 (pv 4) ja6))) (λ_=>rfl))))) (ja7 (jgi jds (jiw (pv 3) (ixq P w K hu (ixq P w K hu (ixq P w K hu (pv 0) ja4) (pv 4)) ja4) jfb))) jai)))
   (ja7 (jaf (pe_g (gOf T.H_Qy (ok_Qy T)) (hm hr) jaq (ja0 (pv 0) (ja0 (pv 1) (ja0 (pv 3) ja6)))))))),?_⟩
 exact(ja9 (jal (jgj (n_rep (jbb (jbo (ja1 s_bl jaa))) (s_ix ja2 ja8))) jac)
   (ja9 (jfg (jdp (ja1 (s_cb jfi (ja1 (s_ix ja2 ja8) jaa)) jaa)) jac (jb7 (je2 (jao (s_op jbw (s_ix (s_ix (s_ix ja2 ja8) ja2) ja8) ja2)) (jax (jam (ja1 ja2 (ja1 ja2 jaa))))) (jal s_bl (jiv ja2 (s_ix (s_ix (s_ix ja2 ja8) ja2) ja8))) jah))
   (jhq (i:=3) (jag (jam (ja1 ja2 (ja1 ja2 (ja1 ja2 jaa))))))))
theorem ok_Qv:FnOk P w K mg base (CXE P w) 4 T.f_Qv T.fd_Qv ["yard","standing","number"] (spZ (ct T) z_Qv):=by
 refine okZ2 (b:=b_Qv) T.H_Qv.F jsw λcdv A outer s H E hr=> ?_
 have hu:=hr.units
 refine⟨_,(ja5 (jap (i:=3) jsw.nd rfl (by trivial) (ixq P w K hu (ixq P w K hu (pv 0) ja4) (pv 2)))
   (ja5 (jb6 (jar (jes hu) (ixq P w K hu (pv 3) ja4) jat (jau _)) (ja7 (jaf jds)) jai)
   (ja5 (jb6 (jaj (K:=K) rfl (pe_g (gOf T.H_Xj (jge T)) (hm hr) jaq (ja0 (pv 1) (ja0 (pv 2) ja6))) (λ_=>rfl)) (ja7 (jap (i:=1) jsw.nd rfl (by trivial) (jak jgq (pv 1) (jak jcc ja4 (pv 2))))) jai)
   (ja5 (jap (i:=4) jsw.nd rfl (by trivial) (pe_g (gOf T.H_Qy (ok_Qy T)) (hm hr) jaq (ja0 (pv 0) (ja0 (pv 1) (ja0 (ji7 (CompOk.mk (tgs:=["k"]) (cap:=["switch"]) (idx:=[3]) rfl rfl (by decide+kernel) (by decide+kernel) (List.forall_mem_cons.mpr ⟨rfl,(List.forall_mem_nil _)⟩) rfl (.cons rfl (by trivial) (by trivial) rfl rfl .nil)) rfl (jcd rfl T.b_range (ja0 (ixq P w K hu (pv 0) ja4) ja6)) (jd4 (by decide)) (λ_ _ _ _=>(jb8 (i:=0) (show List.Nodup (α:=PySem.Str) ["k","switch"] by decide+kernel) rfl (by trivial))) (λ_ _ _ _=>jhw) (λ_ _ _ _=>(jco (jb5 hu) (pv 0) (ixq P w K hu (pv 1) ja4) (jau _)))) ja6)))))
   (ja5 (jap (i:=5) jsw.nd rfl (by trivial) (pe_g (gOf T.H_Xh (jud T)) (hm hr) jaq (ja0 (pv 0) (ja0 (pv 1) (ja0 jat ja6)))))
   (ja7 (jaf (jsp (jjh (K:=K) rfl (ixq P w K hu (pv 4) (ixq P w K hu (pv 3) ja4))) (jn4 (pe_or (ixq P w K hu (pv 5) (ixq P w K hu (pv 3) ja4)) (jn4 (ixq P w K hu (pv 5) (ixq P w K hu (pv 3) ja4))))))))))))),?_⟩
 exact(ja9 (jal (s_ix (s_ix ja2 ja8) ja2) jac)
   (ja9 (jb7 (jao (s_op jgy (s_ix ja2 ja8) jba)) (jag s_bl) jah)
   (ja9 (jb7 (jax (jam (ja1 ja2 (ja1 ja2 jaa)))) (jal (s_op jgg ja2 (s_op jcf ja8 ja2)) jac) jah)
   (ja9 (jal (jam (ja1 ja2 (ja1 ja2 (ja1 (jbb (jeu (jdp (ja1 (s_ix ja2 ja8) jaa)) jac jmb (s_op jbw ja2 (s_ix ja2 ja8)))) jaa)))) jac)
   (ja9 (jal (jam (ja1 ja2 (ja1 ja2 (ja1 jba jaa)))) jac)
   (jag (jpf (jny (s_ix ja2 (s_ix ja2 ja8))) (s_orV (s_ix ja2 (s_ix ja2 ja8)) (s_ix ja2 (s_ix ja2 ja8))))))))))
theorem ok_Xk:FnOk P w K mg base (CXE P w) 4 T.f_Xk T.fd_Xk ["yard","standing"] (spZ (ct T) z_Xk):=by
 refine okZ2 (b:=b_Xk) T.H_Xk.F jz8 λcdv A outer s H E hr=> ?_
 have hu:=hr.units
 refine⟨_,(ja5 (jap (i:=2) jz8.nd rfl (by trivial) (pe_g (gOf T.H_Xh (jud T)) (hm hr) jaq (ja0 (pv 0) (ja0 (pv 1) (ja0 jat ja6)))))
   (ja5 (jap (i:=3) jz8.nd rfl (by trivial) (pe_g (gOf T.H_Xh (jud T)) (hm hr) jaq (ja0 (pv 0) (ja0 (pv 1) (ja0 jat ja6)))))
   (ja7 (jaf (jco (jb5 hu) (ji7 (CompOk.mk (tgs:=["k"]) (cap:=["power","ground"]) (idx:=[2,3]) rfl rfl (by decide+kernel) (by decide+kernel) (List.forall_mem_cons.mpr ⟨rfl,(List.forall_mem_cons.mpr ⟨rfl,(List.forall_mem_nil _)⟩)⟩) rfl (.cons rfl (by trivial) (by trivial) rfl rfl (.cons rfl (by trivial) (by trivial) rfl rfl .nil))) rfl (jcd rfl T.b_range (ja0 (ixq P w K hu (pv 0) ja4) ja6)) (jd4 (by decide)) (λ_ _ _ _=>(jb8 (i:=0) (show List.Nodup (α:=PySem.Str) ["k","power","ground"] by decide+kernel) rfl (by trivial))) (λ_ _ _ _=>(jiu (PW.pt (je3 (jaj (K:=K) rfl (ixq P w K hu (pv 1) (pv 0)) (λ_=>rfl)) (jdh (jaj (K:=K) rfl (ixq P w K hu (pv 2) (pv 0)) (λ_=>rfl))))))) (λ_ _ _ _=>(pv 0))) (jbp ja6) (jau _)))))),?_⟩
 exact(ja9 (jal (jam (ja1 ja2 (ja1 ja2 (ja1 jba jaa)))) jac)
   (ja9 (jal (jam (ja1 ja2 (ja1 ja2 (ja1 jba jaa)))) jac)
   (jag (s_op jbw (jbb (jeu (jdp (ja1 (s_ix ja2 ja8) jaa)) jac (je2 (jax (s_ix ja2 ja2)) (jax (s_ix ja2 ja2))) ja2)) (jbb (jbo jaa))))))
theorem ok_Qg:FnOk P w K mg base (CXE P w) 5 T.f_Qg T.fd_Qg ["yard","standing","number"] (spZ (ct T) z_Qg):=by
 refine okZ2 (b:=b_Qg) T.H_Qg.F sc_Qg λcdv A outer s H E hr=> ?_
 have hu:=hr.units
 refine⟨_,(ja5 (jb6 (jaj (K:=K) rfl (pe_g (gOf T.H_Qv (ok_Qv T)) (hm hr) jaq (ja0 (pv 0) (ja0 (pv 1) (ja0 (pv 2) ja6)))) (λ_=>rfl)) (ja7 (jaf ja4)) jai)
   (ja5 (jb6 (jcz (jaj (K:=K) rfl (pe_g (gOf T.H_Xk (ok_Xk T)) (hm hr) jaq (ja0 (pv 0) (ja0 (jak jn1 (pv 1) (jak jcc ja4 (pv 2))) ja6))) (λ_=>rfl))) (ja7 (jaf ja4)) jai)
   (ja7 (jaf (jgw jib ja4))))),?_⟩
 exact(ja9 (jb7 (jax (jam (ja1 ja2 (ja1 ja2 (ja1 ja2 jaa))))) (jag ja8) jah)
   (ja9 (jb7 (jd2 (jax (jam (ja1 ja2 (ja1 (s_op jo6 ja2 (s_op jcf ja8 ja2)) jaa))))) (jag ja8) jah)
   (jag (s_un jih ja8))))
theorem jup:FnOk P w K mg base (CXE P w) 1 T.f_Xi T.fd_Xi ["rows"] (spZ (ct T) z_Xi):=by
 refine okZ2 (b:=b_Xi) T.H_Xi.F jve λcdv A outer s H E hr=> ?_
 have hu:=hr.units
 refine⟨_,(ja5 (jap (i:=1) jve.nd rfl (by trivial) ja4)
   (ja5 (jz7 ownE rfl (ixq P w K hu (pv 0) ja4) (jb8 (i:=2) jve.nd rfl (by trivial)) (ja7 (jap (i:=1) jve.nd rfl (by trivial) (jak ji9 (pv 1) (ixq P w K hu (ixq P w K hu (ixq P w K hu (pv 0) ja4) (pv 2)) ja4)))))
   (ja7 (jaf (pv 1))))),?_⟩
 exact(ja9 (jal ja8 jac)
   (ja9 (jyw (s_ix ja2 ja8) jac (jal (s_op jh7 ja2 (s_ix (s_ix (s_ix ja2 ja8) ja2) ja8)) jac))
   (jag ja2)))
theorem ok_Q5:FnOk P w K mg base (CXE P w) 6 T.f_Q5 T.fd_Q5 ["yard","rows","word","number"] (spZ (ct T) z_Q5):=by
 refine okZ2 (b:=b_Q5) T.H_Q5.F sc_Q5 λcdv A outer s H E hr=> ?_
 have hu:=hr.units
 refine⟨_,(ja5 (jb6 (PW.pt (jtl (jar (jlk) (pv 3) ja4 (jau _)) (jnm (jar (jye) (pv 3) (jay (jcr (P:=P) (w:=w) (K:=K) rfl rfl rfl) (by rfl) T.b_len jff (ja0 (ixq P w K hu (pv 0) ja4) ja6)) (jau _))))) (ja7 (jaf ja4)) jai)
   (ja5 (jb6 (jar (jb5 hu) (pv 2) jat (jau _)) (ja5 (jb6 (jaj (K:=K) rfl (pe_g (gOf T.H_Xj (jge T)) (hm hr) jaq (ja0 (ixq P w K hu (pv 1) ja4) (ja0 (pv 3) ja6))) (λ_=>rfl)) (ja7 (jaf ja4)) jai)
   (ja5 (jb6 (jaj (K:=K) rfl (pe_g (gOf T.H_Xj (jge T)) (hm hr) jaq (ja0 (pe_g (gOf T.H_Xi (jup T)) (hm hr) jaq (ja0 (pv 1) ja6)) (ja0 (pv 3) ja6))) (λ_=>rfl)) (ja7 (jaf ja4)) jai)
   (ja7 (jaf (pe_g (gOf T.H_Qg (ok_Qg T)) (hm hr) jaq (ja0 (pv 0) (ja0 (ixq P w K hu (pv 1) ja4) (ja0 (pv 3) ja6)))))))) jai)
   (ja5 (jb6 (PW.pt (je3 (jar (jb5 hu) (pv 2) jat (jau _)) (jdh (jar (jki (P:=P) (w:=w) (K:=K) rfl rfl rfl hu) (ixq P w K hu (ixq P w K hu (ixq P w K hu (pv 0) ja4) (pv 3)) ja4) (jbp (ja0 jat (ja0 jat ja6))) (by with_unfolding_all rfl))))) (ja7 (jaf ja4)) jai)
   (ja5 (jb6 (PW.pt (je3 (jar (jb5 hu) (pv 2) jat (jau _)) (jdh (jaj (K:=K) rfl (pe_g (gOf T.H_Xj (jge T)) (hm hr) jaq (ja0 (ixq P w K hu (pv 1) ja4) (ja0 (pv 3) ja6))) (λ_=>rfl))))) (ja7 (jaf ja4)) jai)
   (ja5 (jb6 (jar (jb5 hu) (pv 2) jat (jau _)) (ja7 (jaf (ixq P w K hu (jbp (ja0 (jgw jib ja4) (ja0 ja4 ja6))) (jct (jeh) (by rfl) T.b_int jhv (ja0 (pe_g (gOf T.H_Xj (jge T)) (hm hr) jaq (ja0 (ixq P w K hu (pv 1) ja4) (ja0 (pv 3) ja6))) ja6))))) jai)
   (ja5 (jb6 (jcz (jaj (K:=K) rfl (pe_g (gOf T.H_Xj (jge T)) (hm hr) jaq (ja0 (ixq P w K hu (pv 1) ja4) (ja0 (pv 3) ja6))) (λ_=>rfl))) (ja7 (jaf ja4)) jai)
   (ja7 (jaf (ixq P w K hu (jbp (ja0 (jgw jib ja4) (ja0 ja4 ja6))) (jct (jeh) (by rfl) T.b_int jhv (ja0 (pe_g (gOf T.H_Xj (jge T)) (hm hr) jaq (ja0 (pe_g (gOf T.H_Xi (jup T)) (hm hr) jaq (ja0 (pv 1) ja6)) (ja0 (pv 3) ja6))) ja6))))))))))),?_⟩
 exact(ja9 (jb7 (jv2 (jao (s_op jmt ja2 ja8)) (jao (s_op jz1 ja2 (s_cb jfi (ja1 (s_ix ja2 ja8) jaa))))) (jag ja8) jah)
   (ja9 (jb7 (jao (s_op jbw ja2 jba)) (ja9 (jb7 (jax (jam (ja1 (s_ix ja2 ja8) (ja1 ja2 jaa)))) (jag ja8) jah)
   (ja9 (jb7 (jax (jam (ja1 (jam (ja1 ja2 jaa)) (ja1 ja2 jaa)))) (jag ja8) jah)
   (jag (jam (ja1 ja2 (ja1 (s_ix ja2 ja8) (ja1 ja2 jaa))))))) jah)
   (ja9 (jb7 (je2 (jao (s_op jbw ja2 jba)) (jao (s_op ju3 (s_ix (s_ix (s_ix ja2 ja8) ja2) ja8) (jbb (jbo (ja1 jba (ja1 jba jaa))))))) (jag ja8) jah)
   (ja9 (jb7 (je2 (jao (s_op jbw ja2 jba)) (jax (jam (ja1 (s_ix ja2 ja8) (ja1 ja2 jaa))))) (jag ja8) jah)
   (ja9 (jb7 (jao (s_op jbw ja2 jba)) (jag (s_ix (jbb (jbo (ja1 (s_un jih ja8) (ja1 ja8 jaa)))) (s_cb jit (ja1 (jam (ja1 (s_ix ja2 ja8) (ja1 ja2 jaa))) jaa)))) jah)
   (ja9 (jb7 (jd2 (jax (jam (ja1 (s_ix ja2 ja8) (ja1 ja2 jaa))))) (jag ja8) jah)
   (jag (s_ix (jbb (jbo (ja1 (s_un jih ja8) (ja1 ja8 jaa)))) (s_cb jit (ja1 (jam (ja1 (jam (ja1 ja2 jaa)) (ja1 ja2 jaa))) jaa))))))))))
theorem ok_X4:FnOk P w K mg base (CXE P w) 4 T.f_X4 T.fd_X4 ["yard","place","locks"] (spZ (ct T) z_X4):=by
 refine okZ2 (b:=b_X4) T.H_X4.F jpw λcdv A outer s H E hr=> ?_
 have hu:=hr.units
 refine⟨_,(ja5 (jap (i:=3) jpw.nd rfl (by trivial) ja4)
   (ja5 (jeq ownE rfl (jcd rfl T.b_range (ja0 (jay (jcr (P:=P) (w:=w) (K:=K) rfl rfl rfl) (by rfl) T.b_len jff (ja0 (ixq P w K hu (pv 0) ja4) ja6)) ja6)) (jb8 (i:=4) jpw.nd rfl (by trivial)) (ja7 (jb6 (jcz (jaj (K:=K) rfl (pe_g (gOf T.H_Xj (jge T)) (hm hr) jaq (ja0 (pv 2) (ja0 (pv 4) ja6))) (λ_=>rfl))) (ja7 (jap (i:=3) jpw.nd rfl (by trivial) (jak (jc4 (K:=K) rfl) (pv 3) (jak jcc ja4 (pv 4))))) jai)))
   (ja5 (jap (i:=5) jpw.nd rfl (by trivial) (pe_g (gOf T.H_Xh (jud T)) (hm hr) jaq (ja0 (pv 0) (ja0 (pv 3) (ja0 jat ja6)))))
   (ja7 (jaf (jco (jb5 hu) (ji7 (CompOk.mk (tgs:=["k"]) (cap:=["power","place"]) (idx:=[5,1]) rfl rfl (by decide+kernel) (by decide+kernel) (List.forall_mem_cons.mpr ⟨rfl,(List.forall_mem_cons.mpr ⟨rfl,(List.forall_mem_nil _)⟩)⟩) rfl (.cons rfl (by trivial) (by trivial) rfl rfl (.cons rfl (by trivial) (by trivial) rfl rfl .nil))) rfl (jcd rfl T.b_range (ja0 (ixq P w K hu (pv 0) ja4) ja6)) (jd4 (by decide)) (λ_ _ _ _=>(jb8 (i:=0) (show List.Nodup (α:=PySem.Str) ["k","power","place"] by decide+kernel) rfl (by trivial))) (λ_ _ _ _=>(jiu (PW.pt (je3 (jaj (K:=K) rfl (ixq P w K hu (pv 1) (pv 0)) (λ_=>rfl)) (jdh (jaj (K:=K) rfl (pe_g (gOf T.H_Xj (jge T)) (hm hr) jip (ja0 (pv 2) (ja0 (pv 0) ja6))) (λ_=>rfl))))))) (λ_ _ _ _=>(pv 0))) (jbp ja6) (jau _))))))),?_⟩
 exact(ja9 (jal ja8 jac)
   (ja9 (jfg (jdp (ja1 (s_cb jfi (ja1 (s_ix ja2 ja8) jaa)) jaa)) jac (jb7 (jd2 (jax (jam (ja1 ja2 (ja1 ja2 jaa))))) (jal (s_op jd0 ja2 (s_op jcf ja8 ja2)) jac) jah))
   (ja9 (jal (jam (ja1 ja2 (ja1 ja2 (ja1 jba jaa)))) jac)
   (jag (s_op jbw (jbb (jeu (jdp (ja1 (s_ix ja2 ja8) jaa)) jac (je2 (jax (s_ix ja2 ja2)) (jax (jam (ja1 ja2 (ja1 ja2 jaa))))) ja2)) (jbb (jbo jaa)))))))
theorem ok_Xq:FnOk P w K mg base (CXE P w) 7 T.f_Xq T.fd_Xq ["yard","rows","word","number"] (spZ (ct T) z_Xq):=by
 refine okZ2 (b:=b_Xq) T.H_Xq.F sc_Xq λcdv A outer s H E hr=> ?_
 have hu:=hr.units
 refine⟨_,(ja5 (jb6 (jar (jb5 hu) (pv 2) jat (jau _)) (ja7 (jaf (ixq P w K hu (jbp (ja0 ja4 (ja0 (jgw jib ja4) ja6))) (jct (jeh) (by rfl) T.b_int jhv (ja0 (jco (jwn (P:=P) (w:=w) (K:=K) rfl rfl rfl hu) (pv 3) (ixq P w K hu (pv 1) ja4) (by with_unfolding_all rfl)) ja6))))) jai)
   (ja5 (jb6 (jar (jes hu) (pv 2) jat (jau _)) (ja7 (jaf (pe_g (gOf T.H_Q5 (ok_Q5 T)) (hm hr) jaq (ja0 (pv 0) (ja0 (pv 1) (ja0 (pv 2) (ja0 (pv 3) ja6))))))) jai)
   (ja5 (jb6 (PW.pt (jtl (jar (jlk) (pv 3) ja4 (jau _)) (jnm (jar (jye) (pv 3) (jak jcc ja4 (ixq P w K hu (pv 0) ja4)) (jau _))))) (ja7 (jaf ja4)) jai)
   (ja5 (jb6 (jar (jes hu) (ixq P w K hu (pe_g (gOf T.H_Xo (jym T)) (hm hr) jaq (ja0 (pv 0) (ja0 (ixq P w K hu (pv 1) ja4) (ja0 (pv 3) ja6)))) ja4) (pv 3) (jau _)) (ja7 (jaf ja4)) jai)
   (ja7 (jaf (ixq P w K hu (jbp (ja0 ja4 (ja0 (jgw jib ja4) ja6))) (jct (jeh) (by rfl) T.b_int jhv (ja0 (pe_g (gOf T.H_X4 (ok_X4 T)) (hm hr) jaq (ja0 (pv 0) (ja0 (pv 3) (ja0 (ixq P w K hu (pv 1) ja4) ja6)))) ja6))))))))),?_⟩
 exact(ja9 (jb7 (jao (s_op jbw ja2 jba)) (jag (s_ix (jbb (jbo (ja1 ja8 (ja1 (s_un jih ja8) jaa)))) (s_cb jit (ja1 (s_op ju3 ja2 (s_ix ja2 ja8)) jaa)))) jah)
   (ja9 (jb7 (jao (s_op jgy ja2 jba)) (jag (jam (ja1 ja2 (ja1 ja2 (ja1 ja2 (ja1 ja2 jaa)))))) jah)
   (ja9 (jb7 (jv2 (jao (s_op jmt ja2 ja8)) (jao (s_op jz1 ja2 (s_op jcf ja8 (s_ix ja2 ja8))))) (jag ja8) jah)
   (ja9 (jb7 (jao (s_op jgy (s_ix (jam (ja1 ja2 (ja1 (s_ix ja2 ja8) (ja1 ja2 jaa)))) ja8) ja2)) (jag ja8) jah)
   (jag (s_ix (jbb (jbo (ja1 ja8 (ja1 (s_un jih ja8) jaa)))) (s_cb jit (ja1 (jam (ja1 ja2 (ja1 ja2 (ja1 (s_ix ja2 ja8) jaa)))) jaa))))))))
theorem ok_X7:FnOk P w K mg base (CXE P w) 1 T.f_X7 T.fd_X7 ["self"] (spZ (ct T) z_X7):=by
 refine okZ2 (b:=b_X7) T.H_X7.F jvc λcdv A outer s H E hr=> ?_
 have hu:=hr.units
 refine⟨_,(ja5 (jap (i:=1) jvc.nd rfl (by trivial) ja4)
   (ja5 (jzc ownE rfl (jav (K:=K) rfl (jb4 (pv 0) rfl)) (jb8 (i:=2) jvc.nd rfl (by trivial)) (ja7 (jap (i:=1) jvc.nd rfl (by trivial) (jak ji9 (pv 1) (ixq P w K hu (pv 2) ja4)))))
   (ja7 (jaf (pv 1))))),?_⟩
 exact(ja9 (jal ja8 jac)
   (ja9 (jx6 (jbr (jf9 T) ja2) jac (jal (s_op jh7 ja2 (s_ix ja2 ja8)) jac))
   (jag ja2)))
theorem jjm:jda (ct T) mg base 1 "held" jen:=by
 exact(mtc (jew T) T.C_Y8.cl T.mt_X7 (ok_X7 T) (by decide) T.H_X7.B jcx)
theorem ok_Q4:FnOk P w K mg base (CXE P w) 2 T.f_Q4 T.fd_Q4 ["self","number"] (spZ (ct T) z_Q4):=by
 refine okZ2 (b:=b_Q4) T.H_Q4.F sc_Q4 λcdv A outer s H E hr=> ?_
 have hu:=hr.units
 refine⟨_,(ja5 (jb6 (jar (jki (P:=P) (w:=w) (K:=K) rfl rfl rfl hu) (pv 1) (jav (K:=K) rfl (jb4 (pv 0) rfl)) (by with_unfolding_all rfl)) (ja7 (jc9 T.x_Xl jat (hr.mono (Nat.zero_le _)))) jai)
   (ja5 (je8 (jo3 (jav (K:=K) rfl (jb4 (pv 0) rfl)) (pv 1) ⟨rfl,rfl,rfl,rfl⟩))
   (ja7 (jaf (mdq P w K mg base 1 (jdz (pv 0) (hm hr) jaq)))))),?_⟩
 exact(ja9 (jb7 (jao (s_op ju3 ja2 (jbr (jf9 T) ja2))) (jc8 (jrj T) jba) jah)
   (ja9 (jg6 (jpy (jbr (jf9 T) ja2) ja2))
   (jag (jbs (jjm T) ja2 jaa))))
theorem jvd:FnOk P w K mg base (CXE P w) 1 T.f_Qs T.fd_Qs ["yard","number"] (spZ (ct T) z_Qs):=by
 refine okZ2 (b:=b_Qs) T.H_Qs.F sc_Qs λcdv A outer s H E hr=> ?_
 have hu:=hr.units
 refine⟨_,(ja7 (jb6 (jcz (jnh (op_le) (jlk) ja4 (pv 1) (jay (jcr (P:=P) (w:=w) (K:=K) rfl rfl rfl) (by rfl) T.b_len jff (ja0 (ixq P w K hu (pv 0) ja4) ja6)))) (ja7 (jc9 T.x_Xm jat (hr.mono (Nat.zero_le _)))) jai)),?_⟩
 exact(jb7 (jd2 (jao (jqe s2_le jmt ja8 ja2 (s_cb jfi (ja1 (s_ix ja2 ja8) jaa))))) (jc8 (jpd T) jba) jah)
theorem jgk:FnOk P w K mg base (CXE P w) 1 T.f_has T.fd_has ["some","number"] (spZ (ct T) jg2):=by
 refine okZ2 (b:=jxk) T.H_has.F sc_has λcdv A outer s H E hr=> ?_
 have hu:=hr.units
 refine⟨_,(ja7 (jaf (jco (jb5 hu) (jak je5 (jak jw1 (pv 0) (pv 1)) ja4) ja4 (jau _)))),?_⟩
 exact(jag (s_op jbw (s_op je4 (s_op jw5 ja2 ja2) ja8) ja8))
theorem jv4:FnOk P w K mg base (CXE P w) 1 T.f_Qp T.fd_Qp ["self"] (spZ (ct T) z_Qp):=by
 refine okZ2 (b:=b_Qp) T.H_Qp.F sc_Qp λcdv A outer s H E hr=> ?_
 have hu:=hr.units
 refine⟨_,(ja7 (jaf ja4)),?_⟩
 exact(jag ja8)
theorem ok_X2:FnOk P w K mg base (CXE P w) 1 T.f_X2 T.fd_X2 ["self"] (spZ (ct T) z_X2):=by
 refine okZ2 (b:=b_X2) T.H_X2.F sc_X2 λcdv A outer s H E hr=> ?_
 have hu:=hr.units
 refine⟨_,(ja7 (jaf (jak jcc ja4 (jav (K:=K) rfl (jb4 (pv 0) rfl))))),?_⟩
 exact(jag (s_op jcf ja8 (jbr (jnk T) ja2)))
theorem jvj:FnOk P w K mg base (CXE P w) 1 T.f_Qc T.fd_Qc ["self"] (spZ (ct T) z_Qc):=by
 refine okZ2 (b:=b_Qc) T.H_Qc.F sc_Qc λcdv A outer s H E hr=> ?_
 have hu:=hr.units
 refine⟨_,(ja7 (jaf jds)),?_⟩
 exact(jag s_bl)
theorem ok_Q3:FnOk P w K mg base (CXE P w) 1 T.f_Q3 T.fd_Q3 ["self"] (spZ (ct T) z_Q3):=by
 refine okZ2 (b:=b_Q3) T.H_Q3.F sc_Q3 λcdv A outer s H E hr=> ?_
 have hu:=hr.units
 refine⟨_,(ja7 (jaf jds)),?_⟩
 exact(jag s_bl)
theorem jn8:jda (ct T) mg base 1 "feeds" jd5:=by
 exact(mtc (jul T) T.C_Y2.cl T.mt_Qp (jv4 T) (by decide) T.H_Qp.B (mtc (jov T) T.C_Yb.cl T.mt_X2 (ok_X2 T) (by decide) T.H_X2.B (mtc (joa T) T.C_Y5.cl T.mt_Earth_feeds (jv4 T) (by decide) T.H_Qp.B (mtc (jm5 T) T.C_Xt.cl T.mt_Breaker_feeds (jv4 T) (by decide) T.H_Qp.B (mtc (jmo T) T.C_Xr.cl T.mt_Splitter_feeds (jv4 T) (by decide) T.H_Qp.B jcx)))))
theorem jk2:jda (ct T) mg base 1 "gentle" jcu:=by
 exact(mtc (jul T) T.C_Y2.cl T.mt_Qc (jvj T) (by decide) T.H_Qc.B (mtc (jov T) T.C_Yb.cl T.mt_Feed_gentle (jvj T) (by decide) T.H_Qc.B (mtc (joa T) T.C_Y5.cl T.mt_Earth_gentle (jvj T) (by decide) T.H_Qc.B (mtc (jm5 T) T.C_Xt.cl T.mt_Breaker_gentle (jvj T) (by decide) T.H_Qc.B (mtc (jmo T) T.C_Xr.cl T.mt_Q3 (ok_Q3 T) (by decide) T.H_Q3.B jcx)))))
theorem ok_Xp:FnOk P w K mg base (CXE P w) 2 T.f_Xp T.fd_Xp ["switch"] (spZ (ct T) z_Xp):=by
 refine okZ2 (b:=b_Xp) T.H_Xp.F sc_Xp λcdv A outer s H E hr=> ?_
 have hu:=hr.units
 refine⟨_,(ja7 (jaf (pe_or (jco (jes hu) (mdq P w K mg base 1 (jdz (pv 0) (hm hr) jaq)) ja4 (jau _)) (jn4 (mdq P w K mg base 1 (jdz (pv 0) (hm hr) jaq)))))),?_⟩
 exact(jag (s_orV (s_op jgy (jbs (jn8 T) ja2 jaa) ja8) (jbs (jk2 T) ja2 jaa)))
theorem ok_X1:FnOk P w K mg base (CXE P w) 3 T.f_X1 T.fd_X1 ["self","number"] (spZ (ct T) z_X1):=by
 refine okZ2 (b:=b_X1) T.H_X1.F sc_X1 λcdv A outer s H E hr=> ?_
 have hu:=hr.units
 refine⟨_,(ja5 (je8 (pe_g (gOf T.H_Qs (jvd T)) (hm hr) jaq (ja0 (jav (K:=K) rfl (jb4 (pv 0) rfl)) (ja0 (pv 1) ja6))))
   (ja5 (jb6 (jcz (jaj (K:=K) rfl (pe_g (gOf T.H_Xp (ok_Xp T)) (hm hr) jaq (ja0 (ixq P w K hu (jav (K:=K) rfl (jb4 (jav (K:=K) rfl (jb4 (pv 0) rfl)) rfl)) (pv 1)) ja6)) (λ_=>rfl))) (ja7 (jc9 T.x_Xy jat (hr.mono (Nat.zero_le _)))) jai)
   (ja5 (jb6 (jaj (K:=K) rfl (pe_g (gOf T.H_has (jgk T)) (hm hr) jaq (ja0 (jav (K:=K) rfl (jb4 (pv 0) rfl)) (ja0 (pv 1) ja6))) (λ_=>rfl)) (ja7 (jc9 T.x_Xv jat (hr.mono (Nat.zero_le _)))) jai)
   (ja5 (jb6 (jaj (K:=K) rfl (pe_g (gOf T.H_has (jgk T)) (hm hr) jaq (ja0 (jav (K:=K) rfl (jb4 (pv 0) rfl)) (ja0 (pv 1) ja6))) (λ_=>rfl)) (ja7 (jc9 T.x_Xz jat (hr.mono (Nat.zero_le _)))) jai)
   (ja5 (jch (K:=K) rfl (jd9 (pv 0) (jak ji9 (jav (K:=K) rfl (jb4 (pv 0) rfl)) (jak jcc ja4 (pv 1))) rfl))
   (ja7 (jaf (jav (K:=K) rfl (jb4 (pv 0) rfl))))))))),?_⟩
 exact(ja9 (jg6 (jam (ja1 (jbr (jex T) ja2) (ja1 ja2 jaa))))
   (ja9 (jb7 (jd2 (jax (jam (ja1 (s_ix (jbr (jdv T) (jbr (jn6 T) ja2)) ja2) jaa)))) (jc8 (js4 T) jba) jah)
   (ja9 (jb7 (jax (jam (ja1 (jbr (jf4 T) ja2) (ja1 ja2 jaa)))) (jc8 (jsm T) jba) jah)
   (ja9 (jb7 (jax (jam (ja1 (jbr (jck T) ja2) (ja1 ja2 jaa)))) (jc8 (joe T) jba) jah)
   (ja9 (jdd (jck T) ja2 (s_op jh7 (jbr (jck T) ja2) (s_op jcf ja8 ja2)))
   (jag (jbr (jck T) ja2)))))))
theorem ok_Qj:FnOk P w K mg base (CXE P w) 1 T.f_Qj T.fd_Qj ["yard"] (spZ (ct T) z_Qj):=by
 refine okZ2 (b:=b_Qj) T.H_Qj.F sc_Qj λcdv A outer s H E hr=> ?_
 have hu:=hr.units
 refine⟨_,(ja7 (jaf (jak jgq (jak jcc ja4 (jay (jcr (P:=P) (w:=w) (K:=K) rfl rfl rfl) (by rfl) T.b_len jff (ja0 (ixq P w K hu (pv 0) ja4) ja6))) ja4))),?_⟩
 exact(jag (s_op jgg (s_op jcf ja8 (s_cb jfi (ja1 (s_ix ja2 ja8) jaa))) ja8))
theorem ok_Q1:FnOk P w K mg base (CXE P w) 1 T.f_Q1 T.fd_Q1 ["self","one","other"] (spZ (ct T) z_Q1):=by
 refine okZ2 (b:=b_Q1) T.H_Q1.F sc_Q1 λcdv A outer s H E hr=> ?_
 have hu:=hr.units
 refine⟨_,(ja5 (jch (K:=K) rfl (jd9 (pv 0) (pv 1) rfl))
   (ja7 (jch (K:=K) rfl (jd9 (pv 0) (pv 2) rfl)))),?_⟩
 exact(ja9 (jdd (jnq T) ja2 ja2)
   (jdd (jh4 T) ja2 ja2))
theorem ok_Q9:FnOk P w K mg base (CXE P w) 1 T.f_Q9 T.fd_Q9 ["self","bar"] (spZ (ct T) z_Q9):=by
 refine okZ2 (b:=b_Q9) T.H_Q9.F sc_Q9 λcdv A outer s H E hr=> ?_
 have hu:=hr.units
 refine⟨_,(ja7 (jch (K:=K) rfl (jd9 (pv 0) (pv 1) rfl))),?_⟩
 exact(jdd (jnk T) ja2 ja2)
theorem ok_Qd:FnOk P w K mg base (CXE P w) 1 T.f_Qd T.fd_Qd ["self","bar"] (spZ (ct T) z_Qd):=by
 refine okZ2 (b:=b_Qd) T.H_Qd.F sc_Qd λcdv A outer s H E hr=> ?_
 have hu:=hr.units
 refine⟨_,(ja7 (jch (K:=K) rfl (jd9 (pv 0) (pv 1) rfl))),?_⟩
 exact(jdd (jnk T) ja2 ja2)
theorem ok_Q0:FnOk P w K mg base (CXE P w) 1 T.f_Q0 T.fd_Q0 ["self","one","other"] (spZ (ct T) z_Q0):=by
 refine okZ2 (b:=b_Q0) T.H_Q0.F sc_Q0 λcdv A outer s H E hr=> ?_
 have hu:=hr.units
 refine⟨_,(ja5 (jch (K:=K) rfl (jd9 (pv 0) (pv 1) rfl))
   (ja7 (jch (K:=K) rfl (jd9 (pv 0) (pv 2) rfl)))),?_⟩
 exact(ja9 (jdd (jnq T) ja2 ja2)
   (jdd (jh4 T) ja2 ja2))
theorem ok_Xe:FnOk P w K mg base (CXE P w) 3 T.f_Xe T.fd_Xe ["switch"] (spZ (ct T) z_Xe):=by
 refine okZ2 (b:=b_Xe) T.H_Xe.F sc_Xe λcdv A outer s H E hr=> ?_
 have hu:=hr.units
 refine⟨_,(ja5 (jap (i:=1) sc_Xe.nd rfl (by trivial) (ixq P w K hu (pv 0) ja4))
   (ja5 (jb6 (jar (jb5 hu) (pv 1) jat (jau _)) (ja7 (jaf (jjq (mOf T.C_Yb T.mt_Qd T.H_Qd (ok_Qd T)) (hm hr) jaq (ja0 (ixq P w K hu (pv 0) ja4) ja6)))) jai)
   (ja5 (jb6 (jar (jb5 hu) (pv 1) jat (jau _)) (ja7 (jaf (jjq (mOf T.C_Y5 T.mt_Q9 T.H_Q9 (ok_Q9 T)) (hm hr) jaq (ja0 (ixq P w K hu (pv 0) ja4) ja6)))) jai)
   (ja5 (jb6 (jar (jb5 hu) (pv 1) jat (jau _)) (ja7 (jaf (jjq (mOf T.C_Xt T.mt_Q1 T.H_Q1 (ok_Q1 T)) (hm hr) jaq (ja0 (ixq P w K hu (pv 0) ja4) (ja0 (ixq P w K hu (pv 0) ja4) ja6))))) jai)
   (ja7 (jaf (jjq (mOf T.C_Xr T.mt_Q0 T.H_Q0 (ok_Q0 T)) (hm hr) jaq (ja0 (ixq P w K hu (pv 0) ja4) (ja0 (ixq P w K hu (pv 0) ja4) ja6))))))))),?_⟩
 exact(ja9 (jal (s_ix ja2 ja8) jac)
   (ja9 (jb7 (jao (s_op jbw ja2 jba)) (jag (jhg (jov T) (ja1 (s_ix ja2 ja8) jaa))) jah)
   (ja9 (jb7 (jao (s_op jbw ja2 jba)) (jag (jhg (joa T) (ja1 (s_ix ja2 ja8) jaa))) jah)
   (ja9 (jb7 (jao (s_op jbw ja2 jba)) (jag (jhg (jm5 T) (ja1 (s_ix ja2 ja8) (ja1 (s_ix ja2 ja8) jaa)))) jah)
   (jag (jhg (jmo T) (ja1 (s_ix ja2 ja8) (ja1 (s_ix ja2 ja8) jaa))))))))
theorem jyv:FnOk P w K mg base (CXE P w) 4 T.f_Qr T.fd_Qr ["self","yard"] (spZ (ct T) z_Qr):=by
 refine okZ2 (b:=b_Qr) T.H_Qr.F sc_Qr λcdv A outer s H E hr=> ?_
 have hu:=hr.units
 refine⟨_,(ja7 (jch (K:=K) rfl (jd9 (pv 0) (ji7 (CompOk.mk (tgs:=["switch"]) (cap:=[]) (idx:=[]) rfl rfl (by decide+kernel) (by decide+kernel) (List.forall_mem_nil _) rfl .nil) rfl (pi_K (K:=K) rfl (ixq P w K hu (pv 1) ja4)) (jd4 (by decide)) (λ_ _ _ _=>(jb8 (i:=0) (show List.Nodup (α:=PySem.Str) ["switch"] by decide+kernel) rfl (by trivial))) (λ_ _ _ _=>jhw) (λ_ _ _ _=>(pe_g (gOf T.H_Xe (ok_Xe T)) (hm hr) jip (ja0 (pv 0) ja6)))) rfl))),?_⟩
 exact(jdd (jdv T) ja2 (jbb (jeu (si_V (s_ix ja2 ja8)) jac jmb (jam (ja1 ja2 jaa)))))
theorem jyk:FnOk P w K mg base (CXE P w) 1 T.f_Qn T.fd_Qn ["self"] (spZ (ct T) z_Qn):=by
 refine okZ2 (b:=b_Qn) T.H_Qn.F sc_Qn λcdv A outer s H E hr=> ?_
 have hu:=hr.units
 refine⟨_,(ja7 (jaf ja4)),?_⟩
 exact(jag ja8)
theorem ok_Qf:FnOk P w K mg base (CXE P w) 1 T.f_Qf T.fd_Qf ["self"] (spZ (ct T) z_Qf):=by
 refine okZ2 (b:=b_Qf) T.H_Qf.F sc_Qf λcdv A outer s H E hr=> ?_
 have hu:=hr.units
 refine⟨_,(ja7 (jaf (jak ji9 (jak jcc ja4 (jav (K:=K) rfl (jb4 (pv 0) rfl))) (jak jcc ja4 (jav (K:=K) rfl (jb4 (pv 0) rfl)))))),?_⟩
 exact(jag (s_op jh7 (s_op jcf ja8 (jbr (jnq T) ja2)) (s_op jcf ja8 (jbr (jh4 T) ja2))))
theorem ok_Q7:FnOk P w K mg base (CXE P w) 1 T.f_Q7 T.fd_Q7 ["self"] (spZ (ct T) z_Q7):=by
 refine okZ2 (b:=b_Q7) T.H_Q7.F sc_Q7 λcdv A outer s H E hr=> ?_
 have hu:=hr.units
 refine⟨_,(ja7 (jaf (jak ji9 (jak jcc ja4 (jav (K:=K) rfl (jb4 (pv 0) rfl))) (jak jcc ja4 (jav (K:=K) rfl (jb4 (pv 0) rfl)))))),?_⟩
 exact(jag (s_op jh7 (s_op jcf ja8 (jbr (jnq T) ja2)) (s_op jcf ja8 (jbr (jh4 T) ja2))))
theorem ok_Qh:FnOk P w K mg base (CXE P w) 2 T.f_Qh T.fd_Qh ["self","standing"] (spZ (ct T) z_Qh):=by
 refine okZ2 (b:=b_Qh) T.H_Qh.F sc_Qh λcdv A outer s H E hr=> ?_
 have hu:=hr.units
 refine⟨_,(ja7 (jaf (ji7 (CompOk.mk (tgs:=["number","switch"]) (cap:=["standing"]) (idx:=[1]) rfl rfl (by decide+kernel) (by decide+kernel) (List.forall_mem_cons.mpr ⟨rfl,(List.forall_mem_nil _)⟩) rfl (.cons rfl (by trivial) (by trivial) rfl rfl .nil)) rfl (jt6 (K:=K) rfl (jy4 rfl T.b_enumerate (ja0 (jav (K:=K) rfl (jb4 (pv 0) rfl)) ja6))) (jm0 (jeg (by decide) (jeg (by decide) jjn))) (λ_ _ _ _=>(jhe (K:=K) rfl (jk5 (n:=2) rfl (jd7 (jb8 (i:=0) (show List.Nodup (α:=PySem.Str) ["number","switch","standing"] by decide+kernel) rfl (by trivial)) (jd7 (jb8 (i:=1) (show List.Nodup (α:=PySem.Str) ["number","switch","standing"] by decide+kernel) rfl (by trivial)) jie))))) (λ_ _ _ _=>(jiu (jaj (K:=K) rfl (pe_g (gOf T.H_has (jgk T)) (hm hr) jip (ja0 (pv 2) (ja0 (pv 0) ja6))) (λ_=>rfl)))) (λ_ _ _ _=>(pv 1))))),?_⟩
 exact(jag (jbb (jeu (jz9 (ja1 (jbr (jdv T) ja2) jaa)) (jkl rfl (jd6 (jd6 jhm))) (jax (jam (ja1 ja2 (ja1 ja2 jaa)))) ja2)))
theorem jnc:jda (ct T) mg base 1 "joins" jcj:=by
 exact(mtc (jul T) T.C_Y2.cl T.mt_Qn (jyk T) (by decide) T.H_Qn.B (mtc (jov T) T.C_Yb.cl T.mt_Feed_joins (jyk T) (by decide) T.H_Qn.B (mtc (joa T) T.C_Y5.cl T.mt_Earth_joins (jyk T) (by decide) T.H_Qn.B (mtc (jm5 T) T.C_Xt.cl T.mt_Qf (ok_Qf T) (by decide) T.H_Qf.B (mtc (jmo T) T.C_Xr.cl T.mt_Q7 (ok_Q7 T) (by decide) T.H_Q7.B jcx)))))
theorem jf2:jda (ct T) mg base 2 "shut_ones" jbt:=by
 exact(mtc (jfh T) T.C_Net.cl T.mt_Qh (ok_Qh T) (by decide) T.H_Qh.B jcx)
theorem ok_Q6:FnOk P w K mg base (CXE P w) 3 T.f_Q6 T.fd_Q6 ["self","standing","some"] (spZ (ct T) z_Q6):=by
 refine okZ2 (b:=b_Q6) T.H_Q6.F jmd λcdv A outer s H E hr=> ?_
 have hu:=hr.units
 refine⟨_,(ja5 (jna (i:=3) jmd.nd rfl (by trivial) (CompOk.mk (tgs:=["switch"]) (cap:=[]) (idx:=[]) rfl rfl (by decide+kernel) (by decide+kernel) (List.forall_mem_nil _) rfl .nil) rfl (pi_K (K:=K) rfl (mdq P w K mg base 2 (jg5 (pv 0) (hm hr) jaq (ja0 (pv 1) ja6)))) (jd4 (by decide)) (λ_ _ _ _=>(jb8 (i:=0) (show List.Nodup (α:=PySem.Str) ["switch"] by decide+kernel) rfl (by trivial))) (λ_ _ _ _=>jhw) (λ_ _ _ _=>(mdq P w K mg base 1 (jdz (pv 0) (hm hr) jip))))
   (ja5 (jap (i:=4) jmd.nd rfl (by trivial) (pv 2))
   (ja5 (jap (i:=5) jmd.nd rfl (by trivial) jwi)
   (ja5 (jmz ownE (jar (jes hu) (pv 4) (pv 5) (jau _)) (ja5 (jap (i:=5) jmd.nd rfl (by trivial) (pv 4))
   (ja7 (jeq ownE rfl (pi_K (K:=K) rfl (pv 3)) (jb8 (i:=6) jmd.nd rfl (by trivial)) (ja7 (jb6 (jaj (K:=K) rfl (jak je5 (pv 6) (pv 4)) (λ_=>rfl)) (ja7 (jap (i:=4) jmd.nd rfl (by trivial) (jak ji9 (pv 4) (pv 6)))) jai))))))
   (ja7 (jaf (pv 4))))))),?_⟩
 exact(ja9 (jsa (jbb (jeu (si_V (jbs (jf2 T) ja2 (ja1 ja2 jaa))) jac jmb (jbs (jnc T) ja2 jaa))))
   (ja9 (jal ja2 jac)
   (ja9 (jal s_non jac)
   (ja9 (jnu (jao (s_op jgy ja2 ja2)) (ja9 (jal ja2 jac)
   (jfg (si_V ja2) jac (jb7 (jax (s_op je4 ja2 ja2)) (jal (s_op jh7 ja2 ja2) jac) jah))))
   (jag ja2)))))
theorem je9:jda (ct T) mg base 3 "joined_bars" jby:=by
 exact(mtc (jfh T) T.C_Net.cl T.mt_Q6 (ok_Q6 T) (by decide) T.H_Q6.B jcx)
theorem ok_Qb:FnOk P w K mg base (CXE P w) 4 T.f_Qb T.fd_Qb ["self","standing"] (spZ (ct T) z_Qb):=by
 refine okZ2 (b:=b_Qb) T.H_Qb.F jv8 λcdv A outer s H E hr=> ?_
 have hu:=hr.units
 refine⟨_,(ja5 (jap (i:=2) jv8.nd rfl (by trivial) ja4)
   (ja5 (jeq ownE rfl (pi_K (K:=K) rfl (mdq P w K mg base 2 (jg5 (pv 0) (hm hr) jaq (ja0 (pv 1) ja6)))) (jb8 (i:=3) jv8.nd rfl (by trivial)) (ja7 (jap (i:=2) jv8.nd rfl (by trivial) (jak ji9 (pv 2) (mdq P w K mg base 1 (jdz (pv 3) (hm hr) jaq))))))
   (ja7 (jaf (mdq P w K mg base 3 (jg5 (pv 0) (hm hr) jaq (ja0 (pv 1) (ja0 (pv 2) ja6)))))))),?_⟩
 exact(ja9 (jal ja8 jac)
   (ja9 (jfg (si_V (jbs (jf2 T) ja2 (ja1 ja2 jaa))) jac (jal (s_op jh7 ja2 (jbs (jn8 T) ja2 jaa)) jac))
   (jag (jbs (je9 T) ja2 (ja1 ja2 (ja1 ja2 jaa))))))
theorem jez:jda (ct T) mg base 4 "live_bars" jcb:=by
 exact(mtc (jfh T) T.C_Net.cl T.mt_Qb (ok_Qb T) (by decide) T.H_Qb.B jcx)
theorem ok_X5:FnOk P w K mg base (CXE P w) 6 T.f_X5 T.fd_X5 ["yard","place","locks"] (spZ (ct T) z_X5):=by
 refine okZ2 (b:=b_X5) T.H_X5.F sc_X5 λcdv A outer s H E hr=> ?_
 have hu:=hr.units
 refine⟨_,(ja7 (jaf (jco (jb5 hu) (jak je5 (mdq P w K mg base 4 (jg5 (jjq (mOf T.C_Net T.mt_Qr T.H_Qr (jyv T)) (hm hr) jaq (ja0 (pv 0) ja6)) (hm hr) jaq (ja0 (jak je5 (pe_g (gOf T.H_Qj (ok_Qj T)) (hm hr) jaq (ja0 (pv 0) ja6)) (jgw jkw (pv 2))) ja6))) (pv 1)) ja4 (jau _)))),?_⟩
 exact(jag (s_op jbw (s_op je4 (jbs (jez T) (jhg (jfh T) (ja1 ja2 jaa)) (ja1 (s_op je4 (jam (ja1 ja2 jaa)) (s_un jl3 ja2)) jaa)) ja2) ja8))
theorem ok_X6:FnOk P w K mg base (CXE P w) 2 T.f_X6 T.fd_X6 ["some"] (spZ (ct T) z_X6):=by
 refine okZ2 (b:=b_X6) T.H_X6.F sc_X6 λcdv A outer s H E hr=> ?_
 have hu:=hr.units
 refine⟨_,(ja7 (jaf (ji7 (CompOk.mk (tgs:=["number"]) (cap:=["some"]) (idx:=[0]) rfl rfl (by decide+kernel) (by decide+kernel) (List.forall_mem_cons.mpr ⟨rfl,(List.forall_mem_nil _)⟩) rfl (.cons rfl (by trivial) (by trivial) rfl rfl .nil)) rfl (jcd rfl T.b_range (ja0 (jq4 (K:=K) rfl (jvw PySem.F.plainAttrs_int PySem.F.slot_int_bit_length PySem.F.type_int_bit_length jxa (pv 0))) ja6)) (jd4 (by decide)) (λ_ _ _ _=>(jb8 (i:=0) (show List.Nodup (α:=PySem.Str) ["number","some"] by decide+kernel) rfl (by trivial))) (λ_ _ _ _=>(jiu (jaj (K:=K) rfl (pe_g (gOf T.H_has (jgk T)) (hm hr) jip (ja0 (pv 1) (ja0 (pv 0) ja6))) (λ_=>rfl)))) (λ_ _ _ _=>(pv 0))))),?_⟩
 exact(jag (jbb (jeu (jdp (ja1 (s_bits ja2) jaa)) jac (jax (jam (ja1 ja2 (ja1 ja2 jaa)))) ja2)))
theorem jtc:FnOk P w K mg base (CXE P w) 1 T.f_Qi T.fd_Qi ["self"] (spZ (ct T) z_Qi):=by
 refine okZ2 (b:=b_Qi) T.H_Qi.F sc_Qi λcdv A outer s H E hr=> ?_
 have hu:=hr.units
 refine⟨_,(ja7 (jaf ja4)),?_⟩
 exact(jag ja8)
theorem ok_Qo:FnOk P w K mg base (CXE P w) 1 T.f_Qo T.fd_Qo ["self"] (spZ (ct T) z_Qo):=by
 refine okZ2 (b:=b_Qo) T.H_Qo.F sc_Qo λcdv A outer s H E hr=> ?_
 have hu:=hr.units
 refine⟨_,(ja7 (jaf (jak jcc ja4 (jav (K:=K) rfl (jb4 (pv 0) rfl))))),?_⟩
 exact(jag (s_op jcf ja8 (jbr (jnk T) ja2)))
theorem jl1:jda (ct T) mg base 1 "earths" jcs:=by
 exact(mtc (jul T) T.C_Y2.cl T.mt_Qi (jtc T) (by decide) T.H_Qi.B (mtc (jov T) T.C_Yb.cl T.mt_Feed_earths (jtc T) (by decide) T.H_Qi.B (mtc (joa T) T.C_Y5.cl T.mt_Qo (ok_Qo T) (by decide) T.H_Qo.B (mtc (jm5 T) T.C_Xt.cl T.mt_Breaker_earths (jtc T) (by decide) T.H_Qi.B (mtc (jmo T) T.C_Xr.cl T.mt_Splitter_earths (jtc T) (by decide) T.H_Qi.B jcx)))))
theorem ok_X0:FnOk P w K mg base (CXE P w) 3 T.f_X0 T.fd_X0 ["net","standing","place"] (spZ (ct T) z_X0):=by
 refine okZ2 (b:=b_X0) T.H_X0.F sc_X0 λcdv A outer s H E hr=> ?_
 have hu:=hr.units
 refine⟨_,(ja5 (jna (i:=3) sc_X0.nd rfl (by trivial) (CompOk.mk (tgs:=["number"]) (cap:=["place","net"]) (idx:=[2,0]) rfl rfl (by decide+kernel) (by decide+kernel) (List.forall_mem_cons.mpr ⟨rfl,(List.forall_mem_cons.mpr ⟨rfl,(List.forall_mem_nil _)⟩)⟩) rfl (.cons rfl (by trivial) (by trivial) rfl rfl (.cons rfl (by trivial) (by trivial) rfl rfl .nil))) rfl (pi_K (K:=K) rfl (pe_g (gOf T.H_X6 (ok_X6 T)) (hm hr) jaq (ja0 (pv 1) ja6))) (jd4 (by decide)) (λ_ _ _ _=>(jb8 (i:=0) (show List.Nodup (α:=PySem.Str) ["number","place","net"] by decide+kernel) rfl (by trivial))) (λ_ _ _ _=>(jiu (jaj (K:=K) rfl (jak je5 (mdq P w K mg base 1 (jdz (ixq P w K hu (jav (K:=K) rfl (jb4 (pv 2) rfl)) (pv 0)) (hm hr) jip)) (pv 1)) (λ_=>rfl)))) (λ_ _ _ _=>(pv 0)))
   (ja7 (jaf (jay (jlb (K:=K) rfl rfl) (by rfl) T.b_sum jws (ja0 (ji7 (CompOk.mk (tgs:=["number"]) (cap:=[]) (idx:=[]) rfl rfl (by decide+kernel) (by decide+kernel) (List.forall_mem_nil _) rfl .nil) rfl (pi_K (K:=K) rfl (pv 3)) (jd4 (by decide)) (λ_ _ _ _=>(jb8 (i:=0) (show List.Nodup (α:=PySem.Str) ["number"] by decide+kernel) rfl (by trivial))) (λ_ _ _ _=>jhw) (λ_ _ _ _=>(jak jcc ja4 (pv 0)))) ja6))))),?_⟩
 exact(ja9 (jsa (jbb (jeu (si_V (jam (ja1 ja2 jaa))) jac (jax (s_op je4 (jbs (jl1 T) (s_ix (jbr (jdv T) ja2) ja2) jaa) ja2)) ja2)))
   (jag (s_cb jvz (ja1 (jbb (jeu (si_V ja2) jac jmb (s_op jcf ja8 ja2))) jaa))))
theorem ok_Qt:FnOk P w K mg base (CXE P w) 3 T.f_Qt T.fd_Qt ["self","standing"] (spZ (ct T) z_Qt):=by
 refine okZ2 (b:=b_Qt) T.H_Qt.F juh λcdv A outer s H E hr=> ?_
 have hu:=hr.units
 refine⟨_,(ja5 (jap (i:=2) juh.nd rfl (by trivial) ja4)
   (ja5 (jeq ownE rfl (pi_K (K:=K) rfl (mdq P w K mg base 2 (jg5 (pv 0) (hm hr) jaq (ja0 (pv 1) ja6)))) (jb8 (i:=3) juh.nd rfl (by trivial)) (ja7 (jap (i:=2) juh.nd rfl (by trivial) (jak ji9 (pv 2) (mdq P w K mg base 1 (jdz (pv 3) (hm hr) jaq))))))
   (ja7 (jaf (pv 2))))),?_⟩
 exact(ja9 (jal ja8 jac)
   (ja9 (jfg (si_V (jbs (jf2 T) ja2 (ja1 ja2 jaa))) jac (jal (s_op jh7 ja2 (jbs (jl1 T) ja2 jaa)) jac))
   (jag ja2)))
theorem jhh:jda (ct T) mg base 3 "led_bars" jd3:=by
 exact(mtc (jfh T) T.C_Net.cl T.mt_Qt (ok_Qt T) (by decide) T.H_Qt.B jcx)
theorem ok_Qm:FnOk P w K mg base (CXE P w) 7 T.f_Qm T.fd_Qm ["self","place"] (spZ (ct T) z_Qm):=by
 refine okZ2 (b:=b_Qm) T.H_Qm.F sc_Qm λcdv A outer s H E hr=> ?_
 have hu:=hr.units
 refine⟨_,(ja5 (jb6 (jcz (jnh (jlk) (jlk) ja4 (pv 1) (jak jcc ja4 (ixq P w K hu (jav (K:=K) rfl (jb4 (pv 0) rfl)) ja4)))) (ja7 (jc9 T.x_Y6 jat (hr.mono (Nat.zero_le _)))) jai)
   (ja5 (jb6 (jaj (K:=K) rfl (jak je5 (pv 1) (jgw jkw (mdq P w K mg base 3 (jg5 (jav (K:=K) rfl (jb4 (pv 0) rfl)) (hm hr) jaq (ja0 (jav (K:=K) rfl (jb4 (pv 0) rfl)) ja6))))) (λ_=>rfl)) (ja7 (jc9 T.x_Qz jat (hr.mono (Nat.zero_le _)))) jai)
   (ja5 (jb6 (jcz (jaj (K:=K) rfl (pe_g (gOf T.H_X5 (ok_X5 T)) (hm hr) jaq (ja0 (jav (K:=K) rfl (jb4 (pv 0) rfl)) (ja0 (pv 1) (ja0 (jav (K:=K) rfl (jb4 (pv 0) rfl)) ja6)))) (λ_=>rfl))) (ja7 (jc9 T.x_Xw jat (hr.mono (Nat.zero_le _)))) jai)
   (ja5 (jch (K:=K) rfl (jd9 (pv 0) (jak (jc4 (K:=K) rfl) (jav (K:=K) rfl (jb4 (pv 0) rfl)) ja4) rfl))
   (ja5 (jre (hu_of hr) (jav (K:=K) rfl (jb4 (pv 0) rfl)) (jav (K:=K) rfl (jb4 (pv 0) rfl)) (jdw (ja0 (pv 1) (ja0 (jak ji9 (pe_g (gOf T.H_X0 (ok_X0 T)) (hm hr) jaq (ja0 (jav (K:=K) rfl (jb4 (pv 0) rfl)) (ja0 (jav (K:=K) rfl (jb4 (pv 0) rfl)) (ja0 (pv 1) ja6)))) (jav (K:=K) rfl (jb4 (pv 0) rfl))) ja6))) rfl)
   (ja7 (jaf (jav (K:=K) rfl (jb4 (pv 0) rfl))))))))),?_⟩
 exact(ja9 (jb7 (jd2 (jao (jqe jmt jmt ja8 ja2 (s_op jcf ja8 (s_ix (jbr (jex T) ja2) ja8))))) (jc8 (jqd T) jba) jah)
   (ja9 (jb7 (jax (s_op je4 ja2 (s_un jl3 (jbs (jhh T) (jbr (jn6 T) ja2) (ja1 (jbr (jf4 T) ja2) jaa))))) (jc8 (jsg T) jba) jah)
   (ja9 (jb7 (jd2 (jax (jam (ja1 (jbr (jex T) ja2) (ja1 ja2 (ja1 (jbr (jck T) ja2) jaa)))))) (jc8 (jsq T) jba) jah)
   (ja9 (jdd (jcq T) ja2 (s_op jd0 (jbr (jcq T) ja2) ja8))
   (ja9 (jqq (jbr (jf9 T) ja2) (jbr (jcq T) ja2) (jfs (ja1 ja2 (ja1 (s_op jh7 (jam (ja1 (jbr (jn6 T) ja2) (ja1 (jbr (jf4 T) ja2) (ja1 ja2 jaa)))) (jbr (jck T) ja2)) jaa))))
   (jag (jbr (jcq T) ja2)))))))
theorem ok_Xx:FnOk P w K mg base (CXE P w) 1 T.f_Xx T.fd_Xx ["some"] (spZ (ct T) z_Xx):=by
 refine okZ2 (b:=b_Xx) T.H_Xx.F sc_Xx λcdv A outer s H E hr=> ?_
 have hu:=hr.units
 refine⟨_,(ja7 (jaf (jak je5 (pv 0) (jgw jib (pv 0))))),?_⟩
 exact(jag (s_op je4 ja2 (s_un jih ja2)))
theorem ok_Y7:FnOk P w K mg base (CXE P w) 5 T.f_Y7 T.fd_Y7 ["net","standing","number"] (spZ (ct T) z_Y7):=by
 refine okZ2 (b:=b_Y7) T.H_Y7.F jts λcdv A outer s H E hr=> ?_
 have hu:=hr.units
 refine⟨_,(ja5 (jap (i:=3) jts.nd rfl (by trivial) (ixq P w K hu (jav (K:=K) rfl (jb4 (pv 0) rfl)) (pv 2)))
   (ja5 (jb6 (jcz (jaj (K:=K) rfl (mdq P w K mg base 1 (jdz (pv 3) (hm hr) jaq)) (λ_=>rfl))) (ja7 (jaf jds)) jai)
   (ja5 (jap (i:=4) jts.nd rfl (by trivial) (jak je5 (pv 1) (jgw jkw (jak jcc ja4 (pv 2)))))
   (ja5 (jap (i:=5) jts.nd rfl (by trivial) (mdq P w K mg base 1 (jdz (pv 3) (hm hr) jaq)))
   (ja5 (jb6 (jcz (jaj (K:=K) rfl (jak je5 (pv 5) (mdq P w K mg base 4 (jg5 (pv 0) (hm hr) jaq (ja0 (pv 4) ja6)))) (λ_=>rfl))) (ja7 (jaf jds)) jai)
   (ja7 (jaf (jco (jes hu) (jak je5 (pv 5) (jgw jkw (mdq P w K mg base 3 (jg5 (pv 0) (hm hr) jaq (ja0 (pv 4) (ja0 (pe_g (gOf T.H_Xx (ok_Xx T)) (hm hr) jaq (ja0 (pv 5) ja6)) ja6)))))) ja4 (jau _))))))))),?_⟩
 exact(ja9 (jal (s_ix (jbr (jdv T) ja2) ja2) jac)
   (ja9 (jb7 (jd2 (jax (jbs (jk2 T) ja2 jaa))) (jag s_bl) jah)
   (ja9 (jal (s_op je4 ja2 (s_un jl3 (s_op jcf ja8 ja2))) jac)
   (ja9 (jal (jbs (jnc T) ja2 jaa) jac)
   (ja9 (jb7 (jd2 (jax (s_op je4 ja2 (jbs (jez T) ja2 (ja1 ja2 jaa))))) (jag s_bl) jah)
   (jag (s_op jgy (s_op je4 ja2 (s_un jl3 (jbs (je9 T) ja2 (ja1 ja2 (ja1 (jam (ja1 ja2 jaa)) jaa))))) ja8)))))))
theorem ok_X3:FnOk P w K mg base (CXE P w) 1 T.f_X3 T.fd_X3 ["standing","number"] (spZ (ct T) z_X3):=by
 refine okZ2 (b:=b_X3) T.H_X3.F sc_X3 λcdv A outer s H E hr=> ?_
 have hu:=hr.units
 refine⟨_,(ja7 (jaf (jak jn1 (pv 0) (jak jcc ja4 (pv 1))))),?_⟩
 exact(jag (s_op jo6 ja2 (s_op jcf ja8 ja2)))
theorem ok_Q2:FnOk P w K mg base (CXE P w) 4 T.f_Q2 T.fd_Q2 ["self","standing"] (spZ (ct T) z_Q2):=by
 refine okZ2 (b:=b_Q2) T.H_Q2.F sc_Q2 λcdv A outer s H E hr=> ?_
 have hu:=hr.units
 refine⟨_,(ja7 (jaf (mdq P w K mg base 3 (jg5 (pv 0) (hm hr) jaq (ja0 (pv 1) (ja0 (mdq P w K mg base 3 (jg5 (pv 0) (hm hr) jaq (ja0 (pv 1) ja6))) ja6)))))),?_⟩
 exact(jag (jbs (je9 T) ja2 (ja1 ja2 (ja1 (jbs (jhh T) ja2 (ja1 ja2 jaa)) jaa))))
theorem ji5:jda (ct T) mg base 4 "earthed_bars" jcy:=by
 exact(mtc (jfh T) T.C_Net.cl T.mt_Q2 (ok_Q2 T) (by decide) T.H_Q2.B jcx)
theorem ok_Qu:FnOk P w K mg base (CXE P w) 5 T.f_Qu T.fd_Qu ["self","standing"] (spZ (ct T) z_Qu):=by
 refine okZ2 (b:=b_Qu) T.H_Qu.F sc_Qu λcdv A outer s H E hr=> ?_
 have hu:=hr.units
 refine⟨_,(ja7 (jaf (jco (jb5 hu) (jak je5 (mdq P w K mg base 4 (jg5 (pv 0) (hm hr) jaq (ja0 (pv 1) ja6))) (mdq P w K mg base 4 (jg5 (pv 0) (hm hr) jaq (ja0 (pv 1) ja6)))) ja4 (jau _)))),?_⟩
 exact(jag (s_op jbw (s_op je4 (jbs (jez T) ja2 (ja1 ja2 jaa)) (jbs (ji5 T) ja2 (ja1 ja2 jaa))) ja8))
theorem jp3:jda (ct T) mg base 5 "is_safe" jgc:=by
 exact(mtc (jfh T) T.C_Net.cl T.mt_Qu (ok_Qu T) (by decide) T.H_Qu.B jcx)
theorem ok_Y3:FnOk P w K mg base (CXE P w) 6 T.f_Y3 T.fd_Y3 ["net","standing","number"] (spZ (ct T) z_Y3):=by
 refine okZ2 (b:=b_Y3) T.H_Y3.F sc_Y3 λcdv A outer s H E hr=> ?_
 have hu:=hr.units
 refine⟨_,(ja7 (jaf (jjh (K:=K) rfl (mdq P w K mg base 5 (jg5 (pv 0) (hm hr) jaq (ja0 (pe_g (gOf T.H_X3 (ok_X3 T)) (hm hr) jaq (ja0 (pv 1) (ja0 (pv 2) ja6))) ja6)))))),?_⟩
 exact(jag (jny (jbs (jp3 T) ja2 (ja1 (jam (ja1 ja2 (ja1 ja2 jaa))) jaa))))
theorem ok_Y1:FnOk P w K mg base (CXE P w) 7 T.f_Y1 T.fd_Y1 ["yard","standing","number"] (spZ (ct T) z_Y1):=by
 refine okZ2 (b:=b_Y1) T.H_Y1.F sc_Y1 λcdv A outer s H E hr=> ?_
 have hu:=hr.units
 refine⟨_,(ja5 (je8 (pe_g (gOf T.H_Qs (jvd T)) (hm hr) jaq (ja0 (pv 0) (ja0 (pv 2) ja6))))
   (ja5 (jap (i:=3) sc_Y1.nd rfl (by trivial) (jjq (mOf T.C_Net T.mt_Qr T.H_Qr (jyv T)) (hm hr) jaq (ja0 (pv 0) ja6)))
   (ja5 (jb6 (jaj (K:=K) rfl (pe_g (gOf T.H_Y7 (ok_Y7 T)) (hm hr) jaq (ja0 (pv 3) (ja0 (pv 1) (ja0 (pv 2) ja6)))) (λ_=>rfl)) (ja7 (jc9 T.x_Y0 jat (hr.mono (Nat.zero_le _)))) jai)
   (ja5 (jb6 (jaj (K:=K) rfl (pe_g (gOf T.H_Y3 (ok_Y3 T)) (hm hr) jaq (ja0 (pv 3) (ja0 (pv 1) (ja0 (pv 2) ja6)))) (λ_=>rfl)) (ja7 (jc9 T.x_Xu jat (hr.mono (Nat.zero_le _)))) jai)
   (ja7 (jaf (pe_g (gOf T.H_X3 (ok_X3 T)) (hm hr) jaq (ja0 (pv 1) (ja0 (pv 2) ja6))))))))),?_⟩
 exact(ja9 (jg6 (jam (ja1 ja2 (ja1 ja2 jaa))))
   (ja9 (jal (jhg (jfh T) (ja1 ja2 jaa)) jac)
   (ja9 (jb7 (jax (jam (ja1 ja2 (ja1 ja2 (ja1 ja2 jaa))))) (jc8 (jrn T) jba) jah)
   (ja9 (jb7 (jax (jam (ja1 ja2 (ja1 ja2 (ja1 ja2 jaa))))) (jc8 (jqj T) jba) jah)
   (jag (jam (ja1 ja2 (ja1 ja2 jaa))))))))
theorem ok_X8:FnOk P w K mg base (CXE P w) 8 T.f_X8 T.fd_X8 ["self","number"] (spZ (ct T) z_X8):=by
 refine okZ2 (b:=b_X8) T.H_X8.F sc_X8 λcdv A outer s H E hr=> ?_
 have hu:=hr.units
 refine⟨_,(ja5 (je8 (pe_g (gOf T.H_Qs (jvd T)) (hm hr) jaq (ja0 (jav (K:=K) rfl (jb4 (pv 0) rfl)) (ja0 (pv 1) ja6))))
   (ja5 (jb6 (jaj (K:=K) rfl (pe_g (gOf T.H_has (jgk T)) (hm hr) jaq (ja0 (jav (K:=K) rfl (jb4 (pv 0) rfl)) (ja0 (pv 1) ja6))) (λ_=>rfl)) (ja7 (jc9 T.x_Xz jat (hr.mono (Nat.zero_le _)))) jai)
   (ja5 (jb6 (jaj (K:=K) rfl (pe_g (gOf T.H_has (jgk T)) (hm hr) jaq (ja0 (mdq P w K mg base 1 (jdz (pv 0) (hm hr) jaq)) (ja0 (pv 1) ja6))) (λ_=>rfl)) (ja7 (jc9 T.x_Y9 jat (hr.mono (Nat.zero_le _)))) jai)
   (ja5 (jch (K:=K) rfl (jd9 (pv 0) (pe_g (gOf T.H_Y1 (ok_Y1 T)) (hm hr) jaq (ja0 (jav (K:=K) rfl (jb4 (pv 0) rfl)) (ja0 (jav (K:=K) rfl (jb4 (pv 0) rfl)) (ja0 (pv 1) ja6)))) rfl))
   (ja7 (jaf (jav (K:=K) rfl (jb4 (pv 0) rfl)))))))),?_⟩
 exact(ja9 (jg6 (jam (ja1 (jbr (jex T) ja2) (ja1 ja2 jaa))))
   (ja9 (jb7 (jax (jam (ja1 (jbr (jck T) ja2) (ja1 ja2 jaa)))) (jc8 (joe T) jba) jah)
   (ja9 (jb7 (jax (jam (ja1 (jbs (jjm T) ja2 jaa) (ja1 ja2 jaa)))) (jc8 (jog T) jba) jah)
   (ja9 (jdd (jf4 T) ja2 (jam (ja1 (jbr (jex T) ja2) (ja1 (jbr (jf4 T) ja2) (ja1 ja2 jaa)))))
   (jag (jbr (jf4 T) ja2))))))
theorem ok_Qq:FnOk P w K mg base (CXE P w) 2 T.f_Qq T.fd_Qq ["self","number"] (spZ (ct T) z_Qq):=by
 refine okZ2 (b:=b_Qq) T.H_Qq.F sc_Qq λcdv A outer s H E hr=> ?_
 have hu:=hr.units
 refine⟨_,(ja5 (je8 (pe_g (gOf T.H_Qs (jvd T)) (hm hr) jaq (ja0 (jav (K:=K) rfl (jb4 (pv 0) rfl)) (ja0 (pv 1) ja6))))
   (ja5 (jb6 (jcz (jaj (K:=K) rfl (pe_g (gOf T.H_has (jgk T)) (hm hr) jaq (ja0 (jav (K:=K) rfl (jb4 (pv 0) rfl)) (ja0 (pv 1) ja6))) (λ_=>rfl))) (ja7 (jc9 T.x_Xg jat (hr.mono (Nat.zero_le _)))) jai)
   (ja5 (jb6 (jaj (K:=K) rfl (pe_g (gOf T.H_has (jgk T)) (hm hr) jaq (ja0 (mdq P w K mg base 1 (jdz (pv 0) (hm hr) jaq)) (ja0 (pv 1) ja6))) (λ_=>rfl)) (ja7 (jc9 T.x_Y9 jat (hr.mono (Nat.zero_le _)))) jai)
   (ja5 (jch (K:=K) rfl (jd9 (pv 0) (jak je5 (jav (K:=K) rfl (jb4 (pv 0) rfl)) (jgw jkw (jak jcc ja4 (pv 1)))) rfl))
   (ja7 (jaf (jav (K:=K) rfl (jb4 (pv 0) rfl)))))))),?_⟩
 exact(ja9 (jg6 (jam (ja1 (jbr (jex T) ja2) (ja1 ja2 jaa))))
   (ja9 (jb7 (jd2 (jax (jam (ja1 (jbr (jck T) ja2) (ja1 ja2 jaa))))) (jc8 (jrr T) jba) jah)
   (ja9 (jb7 (jax (jam (ja1 (jbs (jjm T) ja2 jaa) (ja1 ja2 jaa)))) (jc8 (jog T) jba) jah)
   (ja9 (jdd (jck T) ja2 (s_op je4 (jbr (jck T) ja2) (s_un jl3 (s_op jcf ja8 ja2))))
   (jag (jbr (jck T) ja2))))))
theorem jk0:jda (ct T) mg base 2 "give_back" jf7:=by
 exact(mtc (jew T) T.C_Y8.cl T.mt_Q4 (ok_Q4 T) (by decide) T.H_Q4.B jcx)
theorem jxq:jda (ct T) mg base 3 "lock" jmp:=by
 exact(mtc (jew T) T.C_Y8.cl T.mt_X1 (ok_X1 T) (by decide) T.H_X1.B jcx)
theorem jry:jda (ct T) mg base 7 "permit" jh9:=by
 exact(mtc (jew T) T.C_Y8.cl T.mt_Qm (ok_Qm T) (by decide) T.H_Qm.B jcx)
theorem jx4:jda (ct T) mg base 8 "turn" jlu:=by
 exact(mtc (jew T) T.C_Y8.cl T.mt_X8 (ok_X8 T) (by decide) T.H_X8.B jcx)
theorem jrf:jda (ct T) mg base 2 "unlock" jhd:=by
 exact(mtc (jew T) T.C_Y8.cl T.mt_Qq (ok_Qq T) (by decide) T.H_Qq.B jcx)
theorem ok_X9:FnOk P w K mg base (CXE P w) 9 T.f_X9 T.fd_X9 ["board","word","number"] (spZ (ct T) z_X9):=by
 refine okZ2 (b:=b_X9) T.H_X9.F jfv λcdv A outer s H E hr=> ?_
 have hu:=hr.units
 refine⟨_,(ja5 (jap (i:=3) jfv.nd rfl (by trivial) (jbp ja6))
   (ja5 (jap (i:=4) jfv.nd rfl (by trivial) jwi)
   (ja5 (ps_try rfl rfl (jd1 (jo0 (jar (jb5 hu) (pv 1) jat (jau _)) (jd1 (jho (i:=4) jfv.nd rfl (by trivial) (jhl (P:=P) (w:=w) (K:=K) (mg:=mg) (base:=base) rfl rfl rfl rfl rfl (jk9 (k:=8) (pv 0) (hm hr) (ja0 (pv 2) ja6)))) jdm) (jd1 (jo0 (jar (jb5 hu) (pv 1) jat (jau _)) (jd1 (jho (i:=4) jfv.nd rfl (by trivial) (jhl (P:=P) (w:=w) (K:=K) (mg:=mg) (base:=base) rfl rfl rfl rfl rfl (jk9 (k:=3) (pv 0) (hm hr) (ja0 (pv 2) ja6)))) jdm) (jd1 (jo0 (jar (jb5 hu) (pv 1) jat (jau _)) (jd1 (jho (i:=4) jfv.nd rfl (by trivial) (jhl (P:=P) (w:=w) (K:=K) (mg:=mg) (base:=base) rfl rfl rfl rfl rfl (jk9 (k:=2) (pv 0) (hm hr) (ja0 (pv 2) ja6)))) jdm) (jd1 (jo0 (jar (jb5 hu) (pv 1) jat (jau _)) (jd1 (jho (i:=4) jfv.nd rfl (by trivial) (jhl (P:=P) (w:=w) (K:=K) (mg:=mg) (base:=base) rfl rfl rfl rfl rfl (jk9 (k:=7) (pv 0) (hm hr) (ja0 (pv 2) ja6)))) jdm) (jd1 (jho (i:=4) jfv.nd rfl (by trivial) (jhl (P:=P) (w:=w) (K:=K) (mg:=mg) (base:=base) rfl rfl rfl rfl rfl (jk9 (k:=2) (pv 0) (hm hr) (ja0 (pv 2) ja6)))) jdm)) jdm)) jdm)) jdm)) jdm) (ph_asK (K:=K) rfl (ph_as (i:=5) rfl jfv.nd rfl rfl rfl T.x_Xd.mg_ T.w_Xd (λea=>(ja5 (jap (i:=3) jfv.nd rfl (by trivial) (jbp (ja0 (jay (jbj (K:=K) rfl) (by rfl) T.b_isinstance jas (ja0 (pv 5) (ja0 (jfp T.k_Xm) ja6))) (ja0 (jay (jbj (K:=K) rfl) (by rfl) T.b_isinstance jas (ja0 (pv 5) (ja0 (jfp T.k_Xz) ja6))) (ja0 (jay (jbj (K:=K) rfl) (by rfl) T.b_isinstance jas (ja0 (pv 5) (ja0 (jfp T.k_Y9) ja6))) (ja0 (jay (jbj (K:=K) rfl) (by rfl) T.b_isinstance jas (ja0 (pv 5) (ja0 (jfp T.k_Y0) ja6))) ja6))))))
   (ja5 (jap (i:=3) jfv.nd rfl (by trivial) (jak (jc4 (K:=K) rfl) (pv 3) (jbp (ja0 (jay (jbj (K:=K) rfl) (by rfl) T.b_isinstance jas (ja0 (pv 5) (ja0 (jfp T.k_Xu) ja6))) (ja0 (jay (jbj (K:=K) rfl) (by rfl) T.b_isinstance jas (ja0 (pv 5) (ja0 (jfp T.k_Xy) ja6))) (ja0 (jay (jbj (K:=K) rfl) (by rfl) T.b_isinstance jas (ja0 (pv 5) (ja0 (jfp T.k_Xv) ja6))) ja6))))))
   (ja5 (jap (i:=3) jfv.nd rfl (by trivial) (jak (jc4 (K:=K) rfl) (pv 3) (jbp (ja0 (jay (jbj (K:=K) rfl) (by rfl) T.b_isinstance jas (ja0 (pv 5) (ja0 (jfp T.k_Xg) ja6))) (ja0 (jay (jbj (K:=K) rfl) (by rfl) T.b_isinstance jas (ja0 (pv 5) (ja0 (jfp T.k_Y6) ja6))) (ja0 (jay (jbj (K:=K) rfl) (by rfl) T.b_isinstance jas (ja0 (pv 5) (ja0 (jfp T.k_Qz) ja6))) ja6))))))
   (ja5 (jap (i:=3) jfv.nd rfl (by trivial) (jak (jc4 (K:=K) rfl) (pv 3) (jbp (ja0 (jay (jbj (K:=K) rfl) (by rfl) T.b_isinstance jas (ja0 (pv 5) (ja0 (jfp T.k_Xw) ja6))) (ja0 (jay (jbj (K:=K) rfl) (by rfl) T.b_isinstance jas (ja0 (pv 5) (ja0 (jfp T.k_Xl) ja6))) (ja0 (jay (jbj (K:=K) rfl) (by rfl) T.b_isinstance jas (ja0 (pv 5) (ja0 (jfp T.k_Y4) ja6))) ja6))))))
   (ja7 (jap (i:=3) jfv.nd rfl (by trivial) (jak (jc4 (K:=K) rfl) (pv 3) (jbp (ja0 (jay (jbj (K:=K) rfl) (by rfl) T.b_isinstance jas (ja0 (pv 5) (ja0 (jfp T.k_Xf) ja6))) (ja0 (jay (jbj (K:=K) rfl) (by rfl) T.b_isinstance jas (ja0 (pv 5) (ja0 (jfp T.k_Ya) ja6))) (ja0 (jjh (K:=K) rfl (jay (jbj (K:=K) rfl) (by rfl) T.b_isinstance jas (ja0 (pv 5) (ja0 (jui T.b_ValueError jj4) ja6)))) ja6)))))))))))) ph_nil)))
   (ja7 (jaf (jdw (ja0 (pv 4) (ja0 (pv 3) ja6)))))))),?_⟩
 exact(ja9 (jal (jbb (jbo jaa)) jac)
   (ja9 (jal s_non jac)
   (ja9 (ss_try (jfu (jtd (jao (s_op jbw ja2 jba)) (jfu (jk3 (i:=4) (jg0 (jx4 T) (λ_=>ja2) (ja1 ja2 jaa)))) (jfu (jtd (jao (s_op jbw ja2 jba)) (jfu (jk3 (i:=4) (jg0 (jxq T) (λ_=>ja2) (ja1 ja2 jaa)))) (jfu (jtd (jao (s_op jbw ja2 jba)) (jfu (jk3 (i:=4) (jg0 (jrf T) (λ_=>ja2) (ja1 ja2 jaa)))) (jfu (jtd (jao (s_op jbw ja2 jba)) (jfu (jk3 (i:=4) (jg0 (jry T) (λ_=>ja2) (ja1 ja2 jaa)))) (jfu (jk3 (i:=4) (jg0 (jk0 T) (λ_=>ja2) (ja1 ja2 jaa)))))))))))) (sh_as (i:=5) (sub_Xd T) (ja9 (jal (jbb (jbo (ja1 (s_cb (jdk (jcp T)) (ja1 ja2 (ja1 (s_c λ_ _=>by simp only[RV];exact(congrArg V.ref (jpd T)).symm) jaa))) (ja1 (s_cb (jdk (jcp T)) (ja1 ja2 (ja1 (s_c λ_ _=>by simp only[RV];exact(congrArg V.ref (joe T)).symm) jaa))) (ja1 (s_cb (jdk (jcp T)) (ja1 ja2 (ja1 (s_c λ_ _=>by simp only[RV];exact(congrArg V.ref (jog T)).symm) jaa))) (ja1 (s_cb (jdk (jcp T)) (ja1 ja2 (ja1 (s_c λ_ _=>by simp only[RV];exact(congrArg V.ref (jrn T)).symm) jaa))) jaa)))))) jac)
   (ja9 (jal (s_op jd0 ja2 (jbb (jbo (ja1 (s_cb (jdk (jcp T)) (ja1 ja2 (ja1 (s_c λ_ _=>by simp only[RV];exact(congrArg V.ref (jqj T)).symm) jaa))) (ja1 (s_cb (jdk (jcp T)) (ja1 ja2 (ja1 (s_c λ_ _=>by simp only[RV];exact(congrArg V.ref (js4 T)).symm) jaa))) (ja1 (s_cb (jdk (jcp T)) (ja1 ja2 (ja1 (s_c λ_ _=>by simp only[RV];exact(congrArg V.ref (jsm T)).symm) jaa))) jaa)))))) jac)
   (ja9 (jal (s_op jd0 ja2 (jbb (jbo (ja1 (s_cb (jdk (jcp T)) (ja1 ja2 (ja1 (s_c λ_ _=>by simp only[RV];exact(congrArg V.ref (jrr T)).symm) jaa))) (ja1 (s_cb (jdk (jcp T)) (ja1 ja2 (ja1 (s_c λ_ _=>by simp only[RV];exact(congrArg V.ref (jqd T)).symm) jaa))) (ja1 (s_cb (jdk (jcp T)) (ja1 ja2 (ja1 (s_c λ_ _=>by simp only[RV];exact(congrArg V.ref (jsg T)).symm) jaa))) jaa)))))) jac)
   (ja9 (jal (s_op jd0 ja2 (jbb (jbo (ja1 (s_cb (jdk (jcp T)) (ja1 ja2 (ja1 (s_c λ_ _=>by simp only[RV];exact(congrArg V.ref (jsq T)).symm) jaa))) (ja1 (s_cb (jdk (jcp T)) (ja1 ja2 (ja1 (s_c λ_ _=>by simp only[RV];exact(congrArg V.ref (jrj T)).symm) jaa))) (ja1 (s_cb (jdk (jcp T)) (ja1 ja2 (ja1 (s_c λ_ _=>by simp only[RV];exact(congrArg V.ref (cm_Y4 T)).symm) jaa))) jaa)))))) jac)
   (jal (s_op jd0 ja2 (jbb (jbo (ja1 (s_cb (jdk (jcp T)) (ja1 ja2 (ja1 (s_c λ_ _=>by simp only[RV];exact(congrArg V.ref (cm_Xf T)).symm) jaa))) (ja1 (s_cb (jdk (jcp T)) (ja1 ja2 (ja1 (s_c λ_ _=>by simp only[RV];exact(congrArg V.ref (cm_Ya T)).symm) jaa))) (ja1 (jny (s_cb (jdk (jcp T)) (ja1 ja2 (ja1 s_ty jaa)))) jaa)))))) jac))))) (λc=>sh_nil)))
   (jag (jfs (ja1 ja2 (ja1 ja2 jaa)))))))
theorem jvh:FnOk P w K mg base (CXE P w) 1 T.f_Xs T.fd_Xs ["found","due"] (spZ (ct T) z_Xs):=by
 refine okZ2 (b:=b_Xs) T.H_Xs.F sc_Xs λcdv A outer s H E hr=> ?_
 have hu:=hr.units
 refine⟨_,(ja7 (jaf (jsp (jay (jhx (K:=K) rfl) (by rfl) T.b_isinstance jas (ja0 (pv 0) (ja0 (jui T.b_int jhv) ja6))) (jsp (jjh (K:=K) rfl (jay (jhx (K:=K) rfl) (by rfl) T.b_isinstance jas (ja0 (pv 0) (ja0 (jui T.b_bool jz6) ja6)))) (jn4 (jco (jb5 hu) (pv 0) (pv 1) (jau _))))))),?_⟩
 exact(jag (jpf (s_cb jrl (ja1 ja2 (ja1 s_ty jaa))) (jpf (jny (s_cb jrl (ja1 ja2 (ja1 s_ty jaa)))) (s_op jbw ja2 ja2))))
theorem ok_Qk:FnOk P w K mg base (CXE P w) 1 T.f_Qk T.fd_Qk ["self"] (spZ (ct T) z_Qk):=by
 refine okZ2 (b:=b_Qk) T.H_Qk.F sc_Qk λcdv A outer s H E hr=> ?_
 have hu:=hr.units
 refine⟨_,(ja7 (jaf (jav (K:=K) rfl (jb4 (pv 0) rfl)))),?_⟩
 exact(jag (jbr (jck T) ja2))
theorem ok_Qe:FnOk P w K mg base (CXE P w) 1 T.f_Qe T.fd_Qe ["self"] (spZ (ct T) z_Qe):=by
 refine okZ2 (b:=b_Qe) T.H_Qe.F sc_Qe λcdv A outer s H E hr=> ?_
 have hu:=hr.units
 refine⟨_,(ja7 (jaf (pe_lcI (CompOk.mk (tgs:=["number","given"]) (cap:=[]) (idx:=[]) rfl rfl (by decide+kernel) (by decide+kernel) (List.forall_mem_nil _) rfl .nil) rfl (jav (K:=K) rfl (jb4 (pv 0) rfl)) (jm0 (jeg (by decide) (jeg (by decide) jjn))) (λ_ _ _ _=>(jhe (K:=K) rfl (jk5 (n:=2) rfl (jd7 (jb8 (i:=0) (show List.Nodup (α:=PySem.Str) ["number","given"] by decide+kernel) rfl (by trivial)) (jd7 (jb8 (i:=1) (show List.Nodup (α:=PySem.Str) ["number","given"] by decide+kernel) rfl (by trivial)) jie))))) (λ_ _ _ _=>jhw) (λ_ _ _ _=>(jdw (ja0 (pv 0) (ja0 (ixq P w K hu (pv 1) ja4) ja6))))))),?_⟩
 exact(jag (jgj (jwy (jbr (jf9 T) ja2) (jkl rfl (jd6 (jd6 jhm))) jmb (jfs (ja1 ja2 (ja1 (s_ix ja2 ja8) jaa))))))
theorem ok_Qa:FnOk P w K mg base (CXE P w) 1 T.f_Qa T.fd_Qa ["self"] (spZ (ct T) z_Qa):=by
 refine okZ2 (b:=b_Qa) T.H_Qa.F sc_Qa λcdv A outer s H E hr=> ?_
 have hu:=hr.units
 refine⟨_,(ja7 (jaf (jav (K:=K) rfl (jb4 (pv 0) rfl)))),?_⟩
 exact(jag (jbr (jf4 T) ja2))
theorem jsb:jda (ct T) mg base 1 "locked" jic:=by
 exact(mtc (jew T) T.C_Y8.cl T.mt_Qk (ok_Qk T) (by decide) T.H_Qk.B jcx)
theorem jp6:jda (ct T) mg base 1 "permits" jg7:=by
 exact(mtc (jew T) T.C_Y8.cl T.mt_Qe (ok_Qe T) (by decide) T.H_Qe.B jcx)
theorem jlo:jda (ct T) mg base 1 "standing" jfl:=by
 exact(mtc (jew T) T.C_Y8.cl T.mt_Qa (ok_Qa T) (by decide) T.H_Qa.B jcx)
theorem jxp:FnOk P w K mg base (CXE P w) 2 T.f_Xa T.fd_Xa ["board","rows","turn","kept"] (spZ (ct T) z_Xa):=by
 refine okZ2 (b:=b_Xa) T.H_Xa.F jvf λcdv A outer s H E hr=> ?_
 have hu:=hr.units
 refine⟨_,(ja5 (jeq ownE rfl (jcd rfl T.b_range (ja0 ja4 ja6)) (jb8 (i:=4) jvf.nd rfl (by trivial)) (ja5 (jap (i:=5) jvf.nd rfl (by trivial) (jak jc6 (jak (jc4 (K:=K) rfl) (pv 4) (pv 2)) ja4))
   (ja5 (jb6 (PW.pt (je3 (jar (jb5 hu) (pv 5) ja4 (jau _)) (jdh (jcz (jaj (K:=K) rfl (pe_g (gOf T.H_Xs (jvh T)) (hm hr) jaq (ja0 (mdq P w K mg base 1 (jdz (pv 0) (hm hr) jaq)) (ja0 (ixq P w K hu (pv 1) ja4) ja6))) (λ_=>rfl)))))) (ja7 (jaf jds)) jai)
   (ja5 (jb6 (PW.pt (je3 (jar (jb5 hu) (pv 5) ja4 (jau _)) (jdh (jcz (jaj (K:=K) rfl (pe_g (gOf T.H_Xs (jvh T)) (hm hr) jaq (ja0 (mdq P w K mg base 1 (jdz (pv 0) (hm hr) jaq)) (ja0 (ixq P w K hu (pv 1) ja4) ja6))) (λ_=>rfl)))))) (ja7 (jaf jds)) jai)
   (ja5 (jb6 (PW.pt (je3 (jar (jb5 hu) (pv 5) ja4 (jau _)) (jdh (jcz (jaj (K:=K) rfl (pe_g (gOf T.H_Xs (jvh T)) (hm hr) jaq (ja0 (mdq P w K mg base 1 (jdz (pv 0) (hm hr) jaq)) (ja0 (pe_g (gOf T.H_Xi (jup T)) (hm hr) jaq (ja0 (pv 1) ja6)) ja6))) (λ_=>rfl)))))) (ja7 (jaf jds)) jai)
   (ja7 (jb6 (jar (jb5 hu) (pv 5) ja4 (jau _)) (ja5 (jap (i:=6) jvf.nd rfl (by trivial) (mdq P w K mg base 1 (jdz (pv 0) (hm hr) jaq)))
   (ja5 (jb6 (PW.pt (jtl (jcz (jaj (K:=K) rfl (jay (jhx (K:=K) rfl) (by rfl) T.b_isinstance jas (ja0 (pv 6) (ja0 (jui T.b_list jhn) ja6))) (λ_=>rfl))) (jnm (jar (jes hu) (pv 6) (ji7 (CompOk.mk (tgs:=["one"]) (cap:=["rows"]) (idx:=[1]) rfl rfl (by decide+kernel) (by decide+kernel) (List.forall_mem_cons.mpr ⟨rfl,(List.forall_mem_nil _)⟩) rfl (.cons rfl (by trivial) (by trivial) rfl rfl .nil)) rfl (pi_K (K:=K) rfl (jay (jly rfl) (by rfl) T.b_sorted jqs (ja0 (ixq P w K hu (pv 1) ja4) ja6))) (jd4 (by decide)) (λ_ _ _ _=>(jb8 (i:=0) (show List.Nodup (α:=PySem.Str) ["one","rows"] by decide+kernel) rfl (by trivial))) (λ_ _ _ _=>jhw) (λ_ _ _ _=>(jdw (ja0 (pv 0) (ja0 (ixq P w K hu (ixq P w K hu (ixq P w K hu (pv 1) ja4) (pv 0)) ja4) ja6))))) (jau _))))) (ja7 (jaf jds)) jai)
   (ja5 (jb6 (jar (jb5 hu) (jak jc6 (jak jci (pv 2) ja4) ja4) ja4 (jau _)) (ja7 (je8 (jpe (K:=K) rfl (jxn PySem.F.plainAttrs_list PySem.F.slot_list_append PySem.F.type_list_append jfx (pv 6) (ja0 (pv 2) ja6))))) jai)
   (ja7 (je8 (jpe (K:=K) rfl (jxn PySem.F.plainAttrs_list PySem.F.slot_list_append PySem.F.type_list_append jfx (pv 3) (ja0 (jdw (ja0 (pv 6) (ja0 (jct (jfc (K:=K) rfl) (by rfl) T.b_list jhn (ja0 (pv 6) ja6)) ja6))) ja6)))))))) jai)))))))
   (ja7 (jaf jds))),?_⟩
 exact(ja9 (jfg (jdp (ja1 ja8 jaa)) jac (ja9 (jal (s_op jc5 (s_op jd0 ja2 ja2) ja8) jac)
   (ja9 (jb7 (je2 (jao (s_op jbw ja2 ja8)) (jd2 (jax (jam (ja1 (jbs (jlo T) ja2 jaa) (ja1 (s_ix ja2 ja8) jaa)))))) (jag s_bl) jah)
   (ja9 (jb7 (je2 (jao (s_op jbw ja2 ja8)) (jd2 (jax (jam (ja1 (jbs (jsb T) ja2 jaa) (ja1 (s_ix ja2 ja8) jaa)))))) (jag s_bl) jah)
   (ja9 (jb7 (je2 (jao (s_op jbw ja2 ja8)) (jd2 (jax (jam (ja1 (jbs (jjm T) ja2 jaa) (ja1 (jam (ja1 ja2 jaa)) jaa)))))) (jag s_bl) jah)
   (jb7 (jao (s_op jbw ja2 ja8)) (ja9 (jal (jbs (jp6 T) ja2 jaa) jac)
   (ja9 (jb7 (jv2 (jd2 (jax (s_cb jrl (ja1 ja2 (ja1 s_ty jaa))))) (jao (s_op jgy ja2 (jbb (jeu (si_V (jbb (jys (ja1 (s_ix ja2 ja8) jaa)))) jac jmb (jfs (ja1 ja2 (ja1 (s_ix (s_ix (s_ix ja2 ja8) ja2) ja8) jaa)))))))) (jag s_bl) jah)
   (ja9 (jb7 (jao (s_op jbw (s_op jc5 (s_op jd8 ja2 ja8) ja8) ja8)) (jhi ja2 ja2) jah)
   (jhi ja2 (jfs (ja1 ja2 (ja1 (jbb (jnj (ja1 ja2 jaa))) jaa))))))) jah))))))
   (jag s_bl))
theorem ok_Xn:FnOk P w K mg base (CXE P w) 3 T.f_Xn T.fd_Xn ["yard","rows","word","number"] (spZ (ct T) z_Xn):=by
 refine okZ2 (b:=b_Xn) T.H_Xn.F sc_Xn λcdv A outer s H E hr=> ?_
 have hu:=hr.units
 refine⟨_,(ja5 (jb6 (jar (jb5 hu) (pv 2) jat (jau _)) (ja5 (jgi (jak jn1 (ixq P w K hu (pv 1) ja4) (jak jcc ja4 (pv 3))) (jiw (pv 1) ja4 jfb))
   (ja7 (jaf (ixq P w K hu (pv 1) ja4)))) jai)
   (ja5 (jb6 (jar (jb5 hu) (pv 2) jat (jau _)) (ja5 (jgi (jak (jc4 (K:=K) rfl) (ixq P w K hu (pv 1) ja4) ja4) (jiw (pv 1) ja4 jfb))
   (ja5 (jre (hu_of hr) (ixq P w K hu (pv 1) ja4) (ixq P w K hu (pv 1) ja4) (jdw (ja0 (pv 3) (ja0 (jak ji9 (ixq P w K hu (pe_g (gOf T.H_Xo (jym T)) (hm hr) jaq (ja0 (pv 0) (ja0 (ixq P w K hu (pv 1) ja4) (ja0 (pv 3) ja6)))) ja4) (ixq P w K hu (pv 1) ja4)) ja6))) rfl)
   (ja7 (jaf (ixq P w K hu (pv 1) ja4))))) jai)
   (ja5 (jb6 (jar (jb5 hu) (pv 2) jat (jau _)) (ja5 (je8 (jo3 (ixq P w K hu (pv 1) ja4) (pv 3) ⟨rfl,rfl,rfl,rfl⟩))
   (ja7 (jaf (pe_g (gOf T.H_Xi (jup T)) (hm hr) jaq (ja0 (pv 1) ja6))))) jai)
   (ja5 (jgi (jak jn1 (ixq P w K hu (pv 1) ja4) (jak jcc ja4 (pv 3))) (jiw (pv 1) ja4 jfb))
   (ja7 (jaf (ixq P w K hu (pv 1) ja4))))))),?_⟩
 exact(ja9 (jb7 (jao (s_op jbw ja2 jba)) (ja9 (jal (s_op jo6 (s_ix ja2 ja8) (s_op jcf ja8 ja2)) (jiv ja2 ja8))
   (jag (s_ix ja2 ja8))) jah)
   (ja9 (jb7 (jao (s_op jbw ja2 jba)) (ja9 (jal (s_op jd0 (s_ix ja2 ja8) ja8) (jiv ja2 ja8))
   (ja9 (jqq (s_ix ja2 ja8) (s_ix ja2 ja8) (jfs (ja1 ja2 (ja1 (s_op jh7 (s_ix (jam (ja1 ja2 (ja1 (s_ix ja2 ja8) (ja1 ja2 jaa)))) ja8) (s_ix ja2 ja8)) jaa))))
   (jag (s_ix ja2 ja8)))) jah)
   (ja9 (jb7 (jao (s_op jbw ja2 jba)) (ja9 (jg6 (jpy (s_ix ja2 ja8) ja2))
   (jag (jam (ja1 ja2 jaa)))) jah)
   (ja9 (jal (s_op jo6 (s_ix ja2 ja8) (s_op jcf ja8 ja2)) (jiv ja2 ja8))
   (jag (s_ix ja2 ja8))))))
theorem ok_Q8:FnOk P w K mg base (CXE P w) 6 T.f_Q8 T.fd_Q8 ["self","yard"] (spZ (ct T) z_Q8):=by
 refine okZ2 (b:=b_Q8) T.H_Q8.F sc_Q8 λcdv A outer s H E hr=> ?_
 have hu:=hr.units
 refine⟨_,(ja5 (jch (K:=K) rfl (jd9 (pv 0) (jdw (ja0 (ixq P w K hu (pv 1) ja4) (ja0 (jct (jfc (K:=K) rfl) (by rfl) T.b_list jhn (ja0 (ixq P w K hu (pv 1) ja4) ja6)) ja6))) rfl))
   (ja5 (jch (K:=K) rfl (jd9 (pv 0) (jjq (mOf T.C_Net T.mt_Qr T.H_Qr (jyv T)) (hm hr) jaq (ja0 (jav (K:=K) rfl (jb4 (pv 0) rfl)) ja6)) rfl))
   (ja5 (jch (K:=K) rfl (jd9 (pv 0) ja4 rfl))
   (ja5 (jch (K:=K) rfl (jd9 (pv 0) ja4 rfl))
   (ja5 (jch (K:=K) rfl (jd9 (pv 0) jjv rfl))
   (ja7 (jch (K:=K) rfl (jd9 (pv 0) ja4 rfl)))))))),?_⟩
 exact(ja9 (jdd (jex T) ja2 (jfs (ja1 (s_ix ja2 ja8) (ja1 (jbb (jnj (ja1 (s_ix ja2 ja8) jaa))) jaa))))
   (ja9 (jdd (jn6 T) ja2 (jhg (jfh T) (ja1 (jbr (jex T) ja2) jaa)))
   (ja9 (jdd (jf4 T) ja2 ja8)
   (ja9 (jdd (jck T) ja2 ja8)
   (ja9 (jdd (jf9 T) ja2 jsk)
   (jdd (jcq T) ja2 ja8))))))
theorem ok_law:FnOk P w K mg base (CXE P w) 10 T.f_law T.fd_law ["script"] (spZ (ct T) z_law):=by
 refine okZ2 (b:=jos) T.H_law.F jdq λcdv A outer s H E hr=> ?_
 have hu:=hr.units
 refine⟨_,(ja5 (jap (i:=1) jdq.nd rfl (by trivial) (pe_g (gOf T.H_Xb (ok_Xb T)) (hm hr) jaq (ja0 (pv 0) ja6)))
   (ja5 (jap (i:=2) jdq.nd rfl (by trivial) (jdw (ja0 (ixq P w K hu (pv 1) ja4) (ja0 (jct (jfc (K:=K) rfl) (by rfl) T.b_list jhn (ja0 (ixq P w K hu (pv 1) ja4) ja6)) ja6))))
   (ja5 (jap (i:=3) jdq.nd rfl (by trivial) (jbp (ja0 (jjq (mOf T.C_Y8 T.mt_Q8 T.H_Q8 (ok_Q8 T)) (hm hr) jaq (ja0 (pv 2) ja6)) (ja0 (jjq (mOf T.C_Y8 T.mt_Q8 T.H_Q8 (ok_Q8 T)) (hm hr) jaq (ja0 (pv 2) ja6)) ja6))))
   (ja5 (jb6 (jar (jb5 hu) (jak jc6 (jak jci (pe_g (gOf T.H_Ql (jz2 T)) (hm hr) jaq (ja0 (pv 0) (ja0 ja4 ja6))) ja4) ja4) ja4 (jau _)) (ja7 (je8 (jq4 (K:=K) rfl (jvw PySem.F.plainAttrs_list PySem.F.slot_list_clear PySem.F.type_list_clear juq (ixq P w K hu (pv 2) ja4))))) jai)
   (ja5 (jap (i:=4) jdq.nd rfl (by trivial) (jbp (ja0 (jbp (ja0 ja4 (ja0 ja4 (ja0 jjv (ja0 ja4 ja6))))) (ja0 (jbp (ja0 ja4 (ja0 ja4 (ja0 jjv (ja0 ja4 ja6))))) ja6))))
   (ja5 (jap (i:=5) jdq.nd rfl (by trivial) (jbp ja6))
   (ja5 (jeq ownE rfl (pi_K (K:=K) rfl (juw (sl_K (K:=K) rfl) (pv 0) (jju ja4) (jju ja4))) (jb8 (i:=6) jdq.nd rfl (by trivial)) (ja5 (jap (i:=7) jdq.nd rfl (by trivial) (jct (jeh) (by rfl) T.b_int jhv (ja0 (jco (jb5 hu) (jak jc6 (jak jci (pv 6) ja4) ja4) ja4 (jau _)) ja6)))
   (ja5 (jgi (pe_g (gOf T.H_Xc (ok_Xc T)) (hm hr) jaq (ja0 (pv 1) (ja0 (ixq P w K hu (pv 4) (pv 7)) (ja0 (pv 6) ja6)))) (jhe (K:=K) rfl (jk5 (n:=2) rfl (jd7 (jb8 (i:=8) jdq.nd rfl (by trivial)) (jd7 (jb8 (i:=9) jdq.nd rfl (by trivial)) jie)))))
   (ja5 (jap (i:=10) jdq.nd rfl (by trivial) (pe_g (gOf T.H_Xq (ok_Xq T)) (hm hr) jaq (ja0 (pv 1) (ja0 (ixq P w K hu (pv 4) (pv 7)) (ja0 (pv 8) (ja0 (pv 9) ja6))))))
   (ja5 (jgi (pe_g (gOf T.H_X9 (ok_X9 T)) (hm hr) jaq (ja0 (ixq P w K hu (pv 3) (pv 7)) (ja0 (pv 8) (ja0 (pv 9) ja6)))) (jhe (K:=K) rfl (jk5 (n:=2) rfl (jd7 (jb8 (i:=11) jdq.nd rfl (by trivial)) (jd7 (jb8 (i:=12) jdq.nd rfl (by trivial)) jie)))))
   (ja5 (jb6 (PW.pt (je3 (jar (jye) (pv 10) ja4 (jau _)) (jdh (jar (jes hu) (pv 12) (ji7 (CompOk.mk (tgs:=["k"]) (cap:=["due"]) (idx:=[10]) rfl rfl (by decide+kernel) (by decide+kernel) (List.forall_mem_cons.mpr ⟨rfl,(List.forall_mem_nil _)⟩) rfl (.cons rfl (by trivial) (by trivial) rfl rfl .nil)) rfl (jcd rfl T.b_range (ja0 ja4 ja6)) (jd4 (by decide)) (λ_ _ _ _=>(jb8 (i:=0) (show List.Nodup (α:=PySem.Str) ["k","due"] by decide+kernel) rfl (by trivial))) (λ_ _ _ _=>jhw) (λ_ _ _ _=>(jco (jb5 hu) (pv 0) (pv 1) (jau _)))) (jau _))))) (ja7 (jaf jds)) jai)
   (ja5 (jb6 (jar (jlk) (pv 10) ja4 (jau _)) (ja5 (jap (i:=13) jdq.nd rfl (by trivial) (pe_g (gOf T.H_Xn (ok_Xn T)) (hm hr) jaq (ja0 (pv 1) (ja0 (ixq P w K hu (pv 4) (pv 7)) (ja0 (pv 8) (ja0 (pv 9) ja6))))))
   (ja7 (jb6 (jcz (jaj (K:=K) rfl (pe_g (gOf T.H_Xs (jvh T)) (hm hr) jaq (ja0 (pv 11) (ja0 (pv 13) ja6))) (λ_=>rfl))) (ja7 (jaf jds)) jai))) jai)
   (ja7 (jb6 (jcz (jaj (K:=K) rfl (pe_g (gOf T.H_Xa (jxp T)) (hm hr) jaq (ja0 (ixq P w K hu (pv 3) (pv 7)) (ja0 (ixq P w K hu (pv 4) (pv 7)) (ja0 (jak jc6 (pv 6) ja4) (ja0 (pv 5) ja6))))) (λ_=>rfl))) (ja7 (jaf jds)) jai)))))))))
   (ja5 (jb6 (jcz (jaj (K:=K) rfl (pe_g (gOf T.H_Xa (jxp T)) (hm hr) jaq (ja0 (ixq P w K hu (pv 3) ja4) (ja0 (ixq P w K hu (pv 4) ja4) (ja0 ja4 (ja0 (pv 5) ja6))))) (λ_=>rfl))) (ja7 (jaf jds)) jai)
   (ja5 (jb6 (jcz (jaj (K:=K) rfl (pe_g (gOf T.H_Xa (jxp T)) (hm hr) jaq (ja0 (ixq P w K hu (pv 3) ja4) (ja0 (ixq P w K hu (pv 4) ja4) (ja0 ja4 (ja0 (pv 5) ja6))))) (λ_=>rfl))) (ja7 (jaf jds)) jai)
   (ja5 (jap (i:=14) jdq.nd rfl (by trivial) (jco (jb5 hu) (jak jc6 (jak jci (pe_g (gOf T.H_Ql (jz2 T)) (hm hr) jaq (ja0 (pv 0) (ja0 ja4 ja6))) ja4) ja4) ja4 (jau _)))
   (ja5 (jb6 (PW.pt (je3 (jcz (jaj (K:=K) rfl (pv 14) (λ_=>rfl))) (jdh (jar (jes hu) (pv 2) (pv 1) (jau _))))) (ja7 (jaf jds)) jai)
   (ja7 (jaf (jco (jb5 hu) (ji7 (CompOk.mk (tgs:=["told","twin"]) (cap:=[]) (idx:=[]) rfl rfl (by decide+kernel) (by decide+kernel) (List.forall_mem_nil _) rfl .nil) rfl (pi_K (K:=K) rfl (pv 5)) (jm0 (jeg (by decide) (jeg (by decide) jjn))) (λ_ _ _ _=>(jhe (K:=K) rfl (jk5 (n:=2) rfl (jd7 (jb8 (i:=0) (show List.Nodup (α:=PySem.Str) ["told","twin"] by decide+kernel) rfl (by trivial)) (jd7 (jb8 (i:=1) (show List.Nodup (α:=PySem.Str) ["told","twin"] by decide+kernel) rfl (by trivial)) jie))))) (λ_ _ _ _=>(jiu (jar (jes hu) (pv 0) (pv 1) (jau _)))) (λ_ _ _ _=>(pv 0))) (jbp ja6) (jau _))))))))))))))),?_⟩
 exact(ja9 (jal (jam (ja1 ja2 jaa)) jac)
   (ja9 (jal (jfs (ja1 (s_ix ja2 ja8) (ja1 (jgj (jnj (ja1 (s_ix ja2 ja8) jaa))) jaa))) jac)
   (ja9 (jal (jbb (jbo (ja1 (jsf (jew T) (ja1 ja2 jaa)) (ja1 (jsf (jew T) (ja1 ja2 jaa)) jaa)))) jac)
   (ja9 (jb7 (jao (s_op jbw (s_op jc5 (s_op jd8 (jam (ja1 ja2 (ja1 ja8 jaa))) ja8) ja8) ja8)) (jtg (s_ix ja2 ja8)) jah)
   (ja9 (jal (jbb (jbo (ja1 (jgj (jbo (ja1 ja8 (ja1 ja8 (ja1 jsk (ja1 ja8 jaa)))))) (ja1 (jgj (jbo (ja1 ja8 (ja1 ja8 (ja1 jsk (ja1 ja8 jaa)))))) jaa)))) jac)
   (ja9 (jal (jgj (jbo jaa)) jac)
   (ja9 (jfg (si_V (s_sl ja2 (jvg ja8) (jvg ja8))) jac (ja9 (jal (s_cb jit (ja1 (s_op jbw (s_op jc5 (s_op jd8 ja2 ja8) ja8) ja8) jaa)) jac)
   (ja9 (jal (jam (ja1 ja2 (ja1 (s_ix ja2 ja2) (ja1 ja2 jaa)))) (jkl rfl (jd6 (jd6 jhm))))
   (ja9 (jal (jam (ja1 ja2 (ja1 (s_ix ja2 ja2) (ja1 ja2 (ja1 ja2 jaa))))) jac)
   (ja9 (jal (jam (ja1 (s_ix ja2 ja2) (ja1 ja2 (ja1 ja2 jaa)))) (jkl rfl (jd6 (jd6 jhm))))
   (ja9 (jb7 (je2 (jao (s_op jz1 ja2 ja8)) (jao (s_op jgy ja2 (jbb (jeu (jdp (ja1 ja8 jaa)) jac jmb (s_op jbw ja2 ja2)))))) (jag s_bl) jah)
   (ja9 (jb7 (jao (s_op jmt ja2 ja8)) (ja9 (jal (jam (ja1 ja2 (ja1 (s_ix ja2 ja2) (ja1 ja2 (ja1 ja2 jaa))))) jac)
   (jb7 (jd2 (jax (jam (ja1 ja2 (ja1 ja2 jaa))))) (jag s_bl) jah)) jah)
   (jb7 (jd2 (jax (jam (ja1 (s_ix ja2 ja2) (ja1 (s_ix ja2 ja2) (ja1 (s_op jc5 ja2 ja8) (ja1 ja2 jaa))))))) (jag s_bl) jah))))))))
   (ja9 (jb7 (jd2 (jax (jam (ja1 (s_ix ja2 ja8) (ja1 (s_ix ja2 ja8) (ja1 ja8 (ja1 ja2 jaa))))))) (jag s_bl) jah)
   (ja9 (jb7 (jd2 (jax (jam (ja1 (s_ix ja2 ja8) (ja1 (s_ix ja2 ja8) (ja1 ja8 (ja1 ja2 jaa))))))) (jag s_bl) jah)
   (ja9 (jal (s_op jbw (s_op jc5 (s_op jd8 (jam (ja1 ja2 (ja1 ja8 jaa))) ja8) ja8) ja8) jac)
   (ja9 (jb7 (je2 (jd2 (jax ja2)) (jao (s_op jgy ja2 ja2))) (jag s_bl) jah)
   (jag (s_op jbw (jbb (jeu (si_V ja2) (jkl rfl (jd6 (jd6 jhm))) (jao (s_op jgy ja2 ja2)) ja2)) (jbb (jbo jaa)))))))))))))))
end
end My
local macro_rules | `(tactic| k_head) => do
 let hw:=Lean.mkIdent `hw
 let hc:=Lean.mkIdent `hc
 `(tactic| refine PySem.W.holds_open (q:=My.vw) (loose:=[]) (Xt:=(λs=>PySem.W.xlAt My.vw [] s&&PySem.W.recOk (PySem.Challenge.rw_earthward_k34_whole_rows_of_two_boards).row.records s)) (XP:=PySem.W.XL My.vw []) (Yf:=PySem.W.Hook.obs (PySem.W.kHook My.pre.heap_39 My.kL (λ_=>by kernel_rfl))) (Ya:=PySem.W.Hook.val (PySem.W.kHook My.pre.heap_39 My.kL (λ_=>by kernel_rfl))) (YP:=PySem.W.Hook.says (PySem.W.kHook My.pre.heap_39 My.kL (λ_=>by kernel_rfl))) (N:=7961) My.left (PySem.W.Hook.of (PySem.W.kHook My.pre.heap_39 My.kL (λ_=>by kernel_rfl))) (PySem.W.Hook.keeps (PySem.W.kHook My.pre.heap_39 My.kL (λ_=>by kernel_rfl))) (λs e=>PySem.W.xl_of s (Bool.and_eq_true_iff.mp e).1) PySem.W.XL.keeps (by rfl) (by rfl) (by rfl) (λs e=>PySem.W.recFacts_of (Bool.and_eq_true_iff.mp e).2) (by rfl) (by first | assumption | decide+kernel) (by decide+kernel) ⟨rfl,rfl,rfl,rfl,rfl,by decide+kernel⟩ ?$hw ?$hc)
set_option maxRecDepth 100000 in
set_option maxHeartbeats 0 in
theorem PySem.Challenge.cw_earthward_k34_whole_rows_of_two_boards_holds : PySem.Challenge.rw_earthward_k34_whole_rows_of_two_boards.Holds := by
 w_on;o_law;k_head;(case hw=>w_witness2)
 k_fill
 refine L2.walk_ofE (l:=PySem.Challenge.rw_earthward_k34_whole_rows_of_two_boards) (n:=63) (k:=10) (x:="script") (CX:=λw=>L2.CXE (PySem.Challenge.rw_earthward_k34_whole_rows_of_two_boards).prog w) (sp:=L2.spL) rfl (by decide) rfl ⟨rfl,by decide,by decide⟩ (λw h Y=>PySem.W.kIn_of Y) ?F ?S ?C
 case F=>
  intro w mg fa h KX G hmg
  have T:Nonempty (My.Txt (PySem.Challenge.rw_earthward_k34_whole_rows_of_two_boards).prog w (L2.KOf KX) mg):=by
   dsimp only[L2.KOf]
   open L2 in refine' ⟨⟨_,clm KX G ?_ ?_ ?_ ?_ ?_ ?_ ?_,_,_,⟨?_,?_,?_⟩,fnm ?_ ?_ ?_,_,_,⟨?_,?_,?_⟩,fnm ?_ ?_ ?_,_,_,⟨?_,?_,?_⟩,fnm ?_ ?_ ?_,_,_,⟨?_,?_,?_⟩,fnm ?_ ?_ ?_,_,clm KX G ?_ ?_ ?_ ?_ ?_ ?_ ?_,_,_,⟨?_,?_,?_⟩,fnm ?_ ?_ ?_,_,_,⟨?_,?_,?_⟩,fnm ?_ ?_ ?_,⟨?_,?_,?_⟩,⟨?_,?_,?_⟩,⟨?_,?_,?_⟩,naOf ?_,_,clm KX G ?_ ?_ ?_ ?_ ?_ ?_ ?_,_,_,⟨?_,?_,?_⟩,fnm ?_ ?_ ?_,_,_,⟨?_,?_,?_⟩,fnm ?_ ?_ ?_,⟨?_,?_,?_⟩,⟨?_,?_,?_⟩,⟨?_,?_,?_⟩,naOf ?_,_,clm KX G ?_ ?_ ?_ ?_ ?_ ?_ ?_,_,_,⟨?_,?_,?_⟩,fnm ?_ ?_ ?_,_,_,⟨?_,?_,?_⟩,fnm ?_ ?_ ?_,⟨?_,?_,?_⟩,⟨?_,?_,?_⟩,⟨?_,?_,?_⟩,naOf ?_,naOf ?_,_,clm KX G ?_ ?_ ?_ ?_ ?_ ?_ ?_,_,_,⟨?_,?_,?_⟩,fnm ?_ ?_ ?_,_,_,⟨?_,?_,?_⟩,fnm ?_ ?_ ?_,_,_,⟨?_,?_,?_⟩,fnm ?_ ?_ ?_,⟨?_,?_,?_⟩,⟨?_,?_,?_⟩,naOf ?_,naOf ?_,_,clm KX G ?_ ?_ ?_ ?_ ?_ ?_ ?_,_,_,⟨?_,?_,?_⟩,fnm ?_ ?_ ?_,_,_,⟨?_,?_,?_⟩,fnm ?_ ?_ ?_,_,_,⟨?_,?_,?_⟩,fnm ?_ ?_ ?_,_,_,⟨?_,?_,?_⟩,fnm ?_ ?_ ?_,_,_,⟨?_,?_,?_⟩,fnm ?_ ?_ ?_,_,_,⟨?_,?_,?_⟩,fnm ?_ ?_ ?_,_,_,⟨?_,?_,?_⟩,fnm ?_ ?_ ?_,naOf ?_,_,clm KX G ?_ ?_ ?_ ?_ ?_ ?_ ?_,_,_,⟨?_,?_,?_⟩,fnm ?_ ?_ ?_,_,_,⟨?_,?_,?_⟩,fnm ?_ ?_ ?_,_,_,⟨?_,?_,?_⟩,fnm ?_ ?_ ?_,_,_,⟨?_,?_,?_⟩,fnm ?_ ?_ ?_,_,_,⟨?_,?_,?_⟩,fnm ?_ ?_ ?_,_,_,⟨?_,?_,?_⟩,fnm ?_ ?_ ?_,_,_,⟨?_,?_,?_⟩,fnm ?_ ?_ ?_,_,_,⟨?_,?_,?_⟩,fnm ?_ ?_ ?_,_,_,⟨?_,?_,?_⟩,fnm ?_ ?_ ?_,_,_,⟨?_,?_,?_⟩,fnm ?_ ?_ ?_,naOf ?_,naOf ?_,naOf ?_,naOf ?_,naOf ?_,naOf ?_,_,?_,?_,PySem.W.mg_of KX G ?_,_,?_,?_,PySem.W.mg_of KX G ?_,_,?_,?_,PySem.W.mg_of KX G ?_,_,?_,?_,PySem.W.mg_of KX G ?_,_,?_,?_,PySem.W.mg_of KX G ?_,49,?_,?_,PySem.W.mg_of KX G ?_,_,?_,?_,PySem.W.mg_of KX G ?_,37,?_,?_,PySem.W.mg_of KX G ?_,_,?_,?_,PySem.W.mg_of KX G ?_,_,?_,?_,PySem.W.mg_of KX G ?_,_,?_,?_,PySem.W.mg_of KX G ?_,_,?_,?_,PySem.W.mg_of KX G ?_,_,?_,?_,PySem.W.mg_of KX G ?_,73,?_,?_,PySem.W.mg_of KX G ?_,_,?_,?_,PySem.W.mg_of KX G ?_,_,?_,?_,PySem.W.mg_of KX G ?_,_,rfl,_,_,fnt KX G ?_ (fnm ?_ ?_ ?_),_,_,fnt KX G ?_ (fnm ?_ ?_ ?_),_,_,fnt KX G ?_ (fnm ?_ ?_ ?_),_,_,fnt KX G ?_ (fnm ?_ ?_ ?_),_,_,fnt KX G ?_ (fnm ?_ ?_ ?_),_,_,fnt KX G ?_ (fnm ?_ ?_ ?_),_,_,fnt KX G ?_ (fnm ?_ ?_ ?_),_,_,fnt KX G ?_ (fnm ?_ ?_ ?_),_,_,fnt KX G ?_ (fnm ?_ ?_ ?_),_,_,fnt KX G ?_ (fnm ?_ ?_ ?_),_,_,fnt KX G ?_ (fnm ?_ ?_ ?_),_,_,fnt KX G ?_ (fnm ?_ ?_ ?_),_,_,fnt KX G ?_ (fnm ?_ ?_ ?_),_,_,fnt KX G ?_ (fnm ?_ ?_ ?_),_,_,fnt KX G ?_ (fnm ?_ ?_ ?_),_,_,fnt KX G ?_ (fnm ?_ ?_ ?_),_,_,fnt KX G ?_ (fnm ?_ ?_ ?_),_,_,fnt KX G ?_ (fnm ?_ ?_ ?_),_,_,fnt KX G ?_ (fnm ?_ ?_ ?_),_,_,fnt KX G ?_ (fnm ?_ ?_ ?_),_,_,fnt KX G ?_ (fnm ?_ ?_ ?_),_,_,fnt KX G ?_ (fnm ?_ ?_ ?_),_,_,fnt KX G ?_ (fnm ?_ ?_ ?_),_,_,fnt KX G ?_ (fnm ?_ ?_ ?_),_,_,fnt KX G ?_ (fnm ?_ ?_ ?_),_,_,fnt KX G ?_ (fnm ?_ ?_ ?_),_,_,fnt KX G ?_ (fnm ?_ ?_ ?_),_,_,fnt KX G ?_ (fnm ?_ ?_ ?_),_,_,fnt KX G ?_ (fnm ?_ ?_ ?_),_,_,fnt KX G ?_ (fnm ?_ ?_ ?_),_,_,fnt KX G ?_ (fnm ?_ ?_ ?_),_,_,fnt KX G ?_ (fnm ?_ ?_ ?_),_,_,fnt KX G ?_ (fnm ?_ ?_ ?_),_,_,fnt KX G ?_ (fnm ?_ ?_ ?_),PySem.W.mg_none_of KX G ?_,PySem.W.mg_none_of KX G ?_,PySem.W.mg_none_of KX G ?_,PySem.W.mg_none_of KX G ?_,PySem.W.mg_none_of KX G ?_,PySem.W.mg_none_of KX G ?_,PySem.W.mg_none_of KX G ?_,PySem.W.mg_none_of KX G ?_,PySem.W.mg_none_of KX G ?_,PySem.W.mg_none_of KX G ?_,⟨?_,?_,?_⟩,?_,?_,?_,?_,?_,?_,?_,?_,?_,?_,?_,?_,⟨?_,?_,?_,?_,?_,?_⟩,?_,⟨?_,?_,?_,?_,?_,?_⟩,?_,⟨?_,?_,?_,?_,?_,?_⟩,?_,⟨?_,?_,?_,?_,?_,?_⟩,?_,⟨?_,?_,?_,?_,?_,?_⟩,?_,⟨?_,?_,?_,?_,?_,?_⟩,?_,⟨?_,?_,?_,?_,?_,?_⟩,?_,⟨?_,?_,?_,?_,?_,?_⟩,?_,⟨?_,?_,?_,?_,?_,?_⟩,?_,⟨?_,?_,?_,?_,?_,?_⟩,?_,⟨?_,?_,?_,?_,?_,?_⟩,?_,⟨?_,?_,?_,?_,?_,?_⟩,?_,?_⟩⟩
   all_goals try first | k_is | k_exc | (dsimp only[L2.IoL];repeat' first | exact True.intro | refine And.intro ?_ ?_ | kit_is) | exact λs u=> .of_eq rfl
  obtain⟨T⟩:=T
  have e0:=hmg.symm.trans T.H_law.m
  cases e0
  exact⟨_,T.Bl,λbase kb nb=>L2.law_ok (C:=My.ct T) (My.ok_law T) My.law_true⟩
 case S=>exact L2.spL_of
 case C=>exact λ_ _ _ _ _ z=>L2.cxe_out z
#print axioms PySem.Challenge.cw_earthward_k34_whole_rows_of_two_boards_holds
