import PyProof.Rows.All
import Wide.All
import OpenK.AllK
import Wide.FinOn
import Lean
import PyProof.EqAt
import PyProof.EqKinds
import PyProof.TupleCall
import PyProof.StrBlockL
import PyProof.Lay0
import KE.IntText
import PyProof.SliceList
import PyProof.StrLawsReplace
import PyProof.StrLawsIn
import KE.IntTextLaws
import KE.KIntText
import KE.KPairComp
import PyProof.Rows.StrMul
import PyProof.Rows.BitMore
import PyProof.ZipIter
import PySem.Challenge.RW_earthward_k37_rows_make_a_yard
set_option Elab.async false
set_option linter.all false
set_option maxRecDepth 100000
noncomputable section
set_option genSizeOf false
set_option maxHeartbeats 4000000
section
local macro_rules | `(tactic| o_head $H) => `(tactic| exact False.elim (by assumption))
set_option maxHeartbeats 0 in
theorem My.pre(hF:False):PySem.Challenge.rw_earthward_k37_rows_make_a_yard.Holds:=by
 w_on;o_law;k_head
end
namespace My
section
open PySem PySem.W
theorem left_split{p q:Program}{loose:List Str}{Xt:Shared->Bool}{α:Type}{Yf:Shared->α}{Ya:World->α}{N:Nat}{g0:Bool}(row:String)(e:opening p=plainProg p.main.scope.names)(hN:Nat.ble 600 N=true)(f:∀s,fenceModules? p s=some s)
  (h1:∀(w:World) (os:OsState),(topFrom treeTable p (w.withFollow row false) N ⟨boot_heap (w.withFollow row false).params,Array.mk [],boot_drawn,boot_toks,os⟩).map (λs=>(openSeen q loose (importedModules p.main.body) Xt g0 s,Yf s))=some (openGood q loose,Ya (w.withFollow row false)))
  (h2:∀(w:World) (os:OsState),(topFrom treeTable p (w.withFollow row true) N ⟨boot_heap (w.withFollow row true).params,Array.mk [],boot_drawn,boot_toks,os⟩).map (λs=>(openSeen q loose (importedModules p.main.body) Xt g0 s,Yf s))=some (openGood q loose,Ya (w.withFollow row true))):LeftO p q loose Xt Yf Ya N g0:=by
 refine LeftO.of_split row λw=> ?_
 obtain⟨⟨hh,gs,d,k,os⟩,e1,e2⟩:=Option.map_eq_some_iff.mp (boot_open e hN f w)
 simp only[Prod.mk.injEq] at e2
 obtain⟨rfl,rfl,rfl,rfl⟩:=e2
 rw[e1]
 exact congrArg some (Prod.ext (h1 w os) (h2 w os))
abbrev RunOk(p q:Program)(loose:List Str)(Xt:Shared->Bool){α:Type}(Yf:Shared->α)(Ya:World->α)(g0:Bool)(w:World)(m₀:Nat)(ann:Option Value)(env:Env)(qp pb pf:Pos)(n3 n4:Nat)(Sb:SharedT)(l:List Stmt):Prop:=
  (segRunT treeTable p w m₀ ann 1 n3 Sb (piecesOf l env (.body (behindTheImports p) env) pb [topFrame qp])).bind (λr=>(topRun treeTable p w m₀ ann n4 r.2.1.abs ⟨doneF .next,.body (behindTheImports p) env,pf,[topFrame qp]⟩).bind λs₁=>
    some ((r.1,r.2.2.1,r.2.2.2),(staticsOk (importedModules p.main.body) (boot_heap w.params) s₁.heap&&namesBound p s₁.heap&&gensDone s₁&&laidKept (boot_heap w.params) s₁.heap),openSeen q loose (importedModules p.main.body) Xt g0 s₁,Yf s₁))=some ((.next,.body (behindTheImports p) env,pf),true,openGood q loose,Ya w)
abbrev RunA{β:Type}(p:Program)(w:World)(m₀:Nat)(ann:Option Value)(env:Env)(qp pb pf:Pos)(n3 n4:Nat)(Sb:SharedT)(l:List Stmt)(F:Shared->β)(v:β):Prop:=
  (segRunT treeTable p w m₀ ann 1 n3 Sb (piecesOf l env (.body (behindTheImports p) env) pb [topFrame qp])).bind (λr=>(topRun treeTable p w m₀ ann n4 r.2.1.abs ⟨doneF .next,.body (behindTheImports p) env,pf,[topFrame qp]⟩).bind λs₁=>some ((r.1,r.2.2.1,r.2.2.2),F s₁))=some ((.next,.body (behindTheImports p) env,pf),v)
abbrev chkA(p:Program)(w:World){α:Type}(Yf:Shared->α)(s₁:Shared):Bool×α:=(staticsOk (importedModules p.main.body) (boot_heap w.params) s₁.heap&&namesBound p s₁.heap&&gensDone s₁&&laidKept (boot_heap w.params) s₁.heap,Yf s₁)
def Ends(p q:Program)(loose:List Str)(Xt:Shared->Bool){α:Type}(Yf:Shared->α)(Ya:World->α)(g0:Bool)(w:World)(m₀:Nat)(ann:Option Value)(env:Env)(qp pb:Pos)(n:Nat)(Sb:SharedT)(l:List Stmt):Prop:=
  ∃s₁,topRun treeTable p w m₀ ann n Sb.abs (restOf l env (.body (behindTheImports p) env) pb [topFrame qp])=some s₁ /\ (staticsOk (importedModules p.main.body) (boot_heap w.params) s₁.heap&&namesBound p s₁.heap&&gensDone s₁&&laidKept (boot_heap w.params) s₁.heap)=true /\ openSeen q loose (importedModules p.main.body) Xt g0 s₁=openGood q loose /\ Yf s₁=Ya w
section
variable {p q : Program} {loose : List Str} {Xt : Shared -> Bool} {α : Type} {Yf : Shared -> α} {Ya : World -> α} {g0 : Bool} {w : World} {m₀ : Nat} {ann : Option Value} {env : Env} {qp pb : Pos} {Sb : SharedT} {l : List Stmt}
theorem ends_two{pf:Pos}{n3 n4:Nat}(r1:RunA p w m₀ ann env qp pb pf n3 n4 Sb l (chkA p w Yf) (true,Ya w))(r2:RunA p w m₀ ann env qp pb pf n3 n4 Sb l (openSeen q loose (importedModules p.main.body) Xt g0) (openGood q loose)):Ends p q loose Xt Yf Ya g0 w m₀ ann env qp pb (n3+n4) Sb l:=by
 obtain⟨⟨f,s2,c2,p2⟩,hr,h⟩:=Option.bind_eq_some_iff.mp r1
 obtain⟨s₁,hs,h⟩:=Option.bind_eq_some_iff.mp h
 simp only[Option.some.injEq,Prod.mk.injEq] at h
 obtain⟨⟨rfl,rfl,rfl⟩,l1,l3⟩:=h
 obtain⟨r',hr',h'⟩:=Option.bind_eq_some_iff.mp r2
 rw[hr] at hr'
 cases hr'
 obtain⟨s₂,hs',h'⟩:=Option.bind_eq_some_iff.mp h'
 rw[hs] at hs'
 cases hs'
 simp only[Option.some.injEq,Prod.mk.injEq] at h'
 have k3:=piece_app (rest:=[]) (segRun_of hr) (piece_nil hs)
 rw[List.append_nil] at k3
 exact⟨s₁,k3,l1,h'.2,l3⟩
theorem ends_cut{pm:Pos}{na n j:Nat}{Sm:SharedT}(run:segRunT treeTable p w m₀ ann 1 na Sb (piecesOf (l.take j) env (.body (behindTheImports p) env) pb [topFrame qp])=some (.next,Sm,.body (behindTheImports p) env,pm))(h:Ends p q loose Xt Yf Ya g0 w m₀ ann env qp pm n Sm (l.drop j)):Ends p q loose Xt Yf Ya g0 w m₀ ann env qp pb (na+n) Sb l:=by
 obtain⟨s₁,k,r⟩:=h
 have:=piece_app (segRun_of run) k
 rw[List.take_append_drop] at this
 exact⟨s₁,this,r⟩
end
theorem top_tree{p q:Program}{loose:List Str}{Xt:Shared->Bool}{α:Type}{Yf:Shared->α}{Ya:World->α}{N:Nat}{g0:Bool}{w:World}{os:OsState}{m₀:Nat}{ann:Option Value}{env:Env}{qp pp pb:Pos}{n1 n2 n3:Nat}{Sa:Shared}{Sb:SharedT}
  (size:((boot_heap w.params).isNs mainGlobals&&(Array.mk []:Array GenState).size==0,(boot_heap w.params).objs.size,(boot_heap w.params).nsMap mainGlobals "__annotations__")=(true,m₀,ann))
  (pre:topGo treeTable p w m₀ ann n1 ⟨boot_heap w.params,Array.mk [],boot_drawn,boot_toks,os⟩ (topStub p)=some (Sa,⟨denote treeTable (.body (behindTheImports p) env),.body (behindTheImports p) env,pp,[topFrame qp]⟩))
  (block:segRun treeTable p w m₀ ann 1 n2 Sa (blockOf (behindTheImports p) env (.body (behindTheImports p) env) pp [topFrame qp])=some (.next,Sb.abs,.body (behindTheImports p) env,pb))
  (run:Ends p q loose Xt Yf Ya g0 w m₀ ann env qp pb n3 Sb (behindTheImports p))
  (le:Nat.ble (n1+(n2+n3)) N=true):
  (topFrom treeTable p w N ⟨boot_heap w.params,Array.mk [],boot_drawn,boot_toks,os⟩).map (λs=>(openSeen q loose (importedModules p.main.body) Xt g0 s,Yf s))=some (openGood q loose,Ya w):=by
 obtain⟨s₁,k3,l1,l2,l3⟩:=run
 have k1:=go_top pre (piece_block block k3)
 have r:=topRun_mono (N - (n1+(n2+n3))) _ _ _ _ k1
 rw[show n1+(n2+n3)+(N - (n1+(n2+n3)))=N by have:=Nat.le_of_ble_eq_true le;omega] at r
 obtain⟨z1,z2,z3⟩:_ /\ _ /\ _:=by simpa only[Prod.mk.injEq] using size
 have t:topFrom treeTable p w N ⟨boot_heap w.params,Array.mk [],boot_drawn,boot_toks,os⟩=some s₁:=by
  unfold topFrom
  dsimp only
  rw[z1,z2,z3,r]
  show(match staticsOk (importedModules p.main.body) (boot_heap w.params) s₁.heap&&namesBound p s₁.heap&&gensDone s₁&&laidKept (boot_heap w.params) s₁.heap with | true=>_ | false=>_)=_
  rw[l1]
 rw[t]
 exact congrArg some (Prod.ext l2 l3)
end
def o0:=PySem.W.boot_o_0
def o1:=PySem.W.boot_o_1
def o2:=PySem.W.boot_o_2
def o3:=PySem.W.boot_o_3
def o4:=PySem.W.boot_o_4
def o5:=PySem.W.boot_o_5
def o6:=PySem.W.boot_o_6
def o7:=PySem.W.boot_o_7
def o8:=PySem.W.boot_o_8
def o9:=PySem.W.boot_o_9
def o10:=PySem.W.boot_o_10
def o11(_:PySem.Params):PySem.Obj:= .mk (.type "tuple") none (.seq #[]) #[]
def o12(_:PySem.Params):PySem.Obj:= .mk .none none (.fields #[]) #[]
def o13(_:PySem.Params):PySem.Obj:= .mk (.type "code") none (.fields #[.str (PySem.Str.ofString "<module>") 182,.str (PySem.Str.ofString "<module>") 183,.str (PySem.Str.ofString "/claim/cut.py") 184,.int 1 0,.int 0 0,.int 0 0,.int 0 0,.int 0 0,.ref 11,.bool false,.int 181 0,.ref 12,.none,.none,.none,.none,.int 185 0,.int 1 0,.str (PySem.Str.ofString "/claim/cut.py") 186]) #[]
def o14(_:PySem.Params):PySem.Obj:= .mk (.type "frame") none .plain #[some (.ref 13),some (.ref 3),some (.ref 3),none,some (.str (PySem.Str.ofString "__main__") 164),none,some (.ref 0)]
def Sa(w:PySem.World)(os:PySem.OsState):PySem.Shared:=let P:=w.params;⟨⟨⟨[o0 P,o1 P,o2 P,o3 P,o4 P,o5 P,o6 P,o7 P,o8 P,o9 P,o10 P,o11 P,o12 P,o13 P,o14 P]⟩,{}⟩,Array.mk [],{},187,os⟩
def bt(P:PySem.Params):PySem.W.BT:=(.node (o0 P) (.node (o1 P) (.node (o3 P) (.node (o7 P) .nil .nil) (.node (o11 P) .nil .nil)) (.node (o5 P) (.node (o9 P) .nil .nil) (.node (o13 P) .nil .nil))) (.node (o2 P) (.node (o4 P) (.node (o8 P) .nil .nil) (.node (o12 P) .nil .nil)) (.node (o6 P) (.node (o10 P) .nil .nil) (.node (o14 P) .nil .nil))))
def Sb(w:PySem.World)(os:PySem.OsState):PySem.W.SharedT:=⟨bt w.params,15,{},Array.mk [],{},187,os⟩
def tenv:PySem.Env:={scope:=PySem.Challenge.pw_earthward_k37_rows_make_a_yard.main.scope,locals:=PySem.mainNs,globals:=PySem.mainNs,cells:=[],code:= .ref 13,frame:=some 14}
def vw:PySem.Program:={PySem.Challenge.pw_earthward_k37_rows_make_a_yard with main:={PySem.Challenge.pw_earthward_k37_rows_make_a_yard.main with body:=[0,2,3,4,5,6,7,8,9,10,11,12,13,14,15,16,17,19,20,21,22,23,24,26,27,28,29,30,31,32,33,34,36,37,38,39,40,42,43,44,45,46,48,49,51,52,53,54,55,57,58,59,60,61,62,63,64,65,66,67,68,69,71,72,73,74,75,77,78,79,80,81,82,83,84].filterMap λi=>PySem.Challenge.pw_earthward_k37_rows_make_a_yard.main.body[i]?}}
end My
set_option maxRecDepth 100000
set_option maxHeartbeats 0
namespace My
abbrev wAl:List PySem.Addr:=[2,3,15,17,18,20,21,22,29,30,31,32,35,42,43,44,47,54,55,56,59,66,67,68,71,78,79,80,83,90,91,92,95,102,103,104,107,114,115,116,119,126,127,128,131,138,139,140,143,150,151,152,155,162,163,164,167,174,175,176,179,186,187,188,191,198,199,200,203,210,211,212,222,224,225,227,228,229,231,232,234,235,236,238,239,241,242,243,245,246,248,249,250,251,252,253,254,257,264,266,267,269,270,271,273,274,276,277,278,279,280,283,290,292,293,295,296,297,299,300,302,303,304,305,306,309,316,318,319,321,322,323,325,326,328,329,330,331,332,335,342,344,345,347,348,349,351,352,354,355,356,358,359,361,362,363,364,365,368,370,371,373,374,375,377,378,380,381,389,392,393,394,397,398,399,402,403,404,406,407,409,410,411,413,414,416,417,418,420,421,423,424,425,427,428,430,431,432,433,434,435,436,439,441,442,444,445,446,448,449,451,452,453,455,456,458,459,460,463,464,465,467,468,470,471,472,474,475,477,478,479,481,482,484,485,486,488,489,491,492,493,495,496,498,499,500,502,503,505,506,507,509,510,512,513,514,516,517,519,520,521,523,524,526,527,528,530,531,533,534,535,537,538,540,541,549,551,552,554,555,556,558,559,561,562,563,565,566,568,569,570,572,573,575,576,577,579,580,582,583,584,586,587,589,590,591,593,594,596,597,598,601,602,603,605,606,608,609,610,612,613,615,616,617,619,620,622,623,624,625,626,627,628,631,634,635,636,639,640,648,650,651,653,654,655,657,658,660,661,662,664,665,667,668,669,671,672,674,675,676,678,679,681,682,683,685,686,688,689,690,692,693,695,696,697,699,700,702,703,704,706,707,709,710,711,713,714,716,717,718,719,720,721,722,725,728,729,730,732,733,735,736,737,739,740,742,743,744,746,747,749,750,751,753,754,756,757,758,759,762,763,764,767,768,769,771,772,774,775,776,778,779,781,782,783,785,786,788,789,790,792,793,795,796,797,800,801,802,805,806,807,810,811,812,814,815,817,818,819,822,823,824,826,827,829,830,838,840,841,843,844,845,847,848,850,851,852,854,855,857,858,859,861,862,864,865,866,868,869,871,872,873,876,877,878,880,881,883,884,885,886,887,888,889,892,894,895,897,898,899,901,902,904,905,906,908,909,911,912,913,915,916,918,919,920,922,923,925,926,927,929,930,932,933,934,936,937,939,940,941,944,945]
theorem wHk(P:PySem.Params):wAl=(My.pre.heap_39 P).map (·.1):=by kernel_rfl
abbrev sS:=PySem.Str.ofString
abbrev dE(P:PySem.Params)(x:String)(t:Nat)(v:PySem.Value):PySem.DictEntry:= .mk (PySem.PyData.keyHash P (sS x)) (.str (sS x) t) v
def kO(P:PySem.Params)(j:Nat):PySem.Obj:=match(My.pre.heap_39 P).drop j with | x::_=>x.2 | []=>o0 P
def wTb:List PySem.Stmt:=PySem.Challenge.pw_earthward_k37_rows_make_a_yard.main.body
def wCb(k:Nat):List PySem.Stmt:=match wTb.drop k with | .ClassDef _ _ _ b _ _ _ _ _ _ _::_=>b | _=>[]
def wFd(l:List PySem.Stmt)(k:Nat)(q:String):PySem.Obj:=match l.drop k with | .FunctionDef n a b _ _ _ c _ _ _::_=> .mk .none none (.func (.mk n (sS q) a (.stmts b) c 0 [] .none .none .none .none none .none .none 0)) #[] | _=> .mk .none none (.fields #[]) #[]
def m3(P:PySem.Params):PySem.Obj:= .mk (.type "dict") none (.dict #[dE P "__name__" 165 (.str (sS "earthward.switches") 454),dE P "__doc__" 166 .none,dE P "__package__" 167 .none,dE P "__loader__" 168 (.builtin "__main__.__loader__#opaque"),dE P "__spec__" 169 .none,dE P "__annotations__" 170 (.ref 6),dE P "__builtins__" 171 (.ref 4),dE P "__file__" 173 (.str (sS "/claim/cut.py") 172),dE P "__cached__" 174 .none,dE P "_wall" 193 (.ref 21),dE P "WardError" 213 (.ref 31),dE P "NoRow" 229 (.ref 44),dE P "NoMeasure" 245 (.ref 56),dE P "NoBar" 261 (.ref 68),dE P "Same" 277 (.ref 80),dE P "NoSwitch" 293 (.ref 92),dE P "Loaded" 309 (.ref 104),dE P "Shorted" 325 (.ref 116),dE P "Locked" 341 (.ref 128),dE P "Held" 357 (.ref 140),dE P "NoLock" 373 (.ref 152),dE P "NotOpen" 389 (.ref 164),dE P "NotLocked" 405 (.ref 176),dE P "NotEarthed" 421 (.ref 188),dE P "NotDead" 437 (.ref 200),dE P "NoPermit" 453 (.ref 212),dE P "Switch" 503 (.ref 252),dE P "Feed" 535 (.ref 280),dE P "Earth" 567 (.ref 306)] 29) #[]
def mk0:PySem.Obj:= .mk (.type "tuple") none (.seq #[]) #[]
def m12:PySem.Obj:= .mk .none none (.fields #[.int 1 0,.int 0 0,.ref 20,.int 5 0,.int 0 0,.ref 27,.int 7 0,.int 0 0,.ref 40,.int 9 0,.int 0 0,.ref 52,.int 11 0,.int 0 0,.ref 64,.int 13 0,.int 0 0,.ref 76,.int 15 0,.int 0 0,.ref 88,.int 17 0,.int 0 0,.ref 100,.int 19 0,.int 0 0,.ref 112,.int 21 0,.int 0 0,.ref 124,.int 23 0,.int 0 0,.ref 136,.int 25 0,.int 0 0,.ref 148,.int 27 0,.int 0 0,.ref 160,.int 29 0,.int 0 0,.ref 172,.int 31 0,.int 0 0,.ref 184,.int 33 0,.int 0 0,.ref 196,.int 35 0,.int 0 0,.ref 208,.int 38 0,.int 0 0,.ref 220,.int 51 0,.int 0 0,.ref 262,.int 58 0,.int 0 0,.ref 288]) #[]
def mk1(x0:String)(x1:Nat)(x2:Nat)(x3:Nat):PySem.Obj:= .mk (.type "code") none (.fields #[.str (sS x0) x1,.str (sS x0) (x1+1),.str (sS "/claim/cut.py") (x1+2),.int x2 0,.int 0 0,.int 0 0,.int 0 0,.int 0 0,.ref x3,.bool false,.int 181 0,.ref (x3+1),.none,.none,.none,.none,.int (x1+3) 0,.int x2 0,.str (sS "/claim/cut.py") (x1+4)]) #[]
def mk2(x0:Nat)(x1:Nat)(x2:String)(x3:Nat):PySem.Obj:= .mk (.type "frame") none .plain #[some (.ref x0),some (.ref 3),some (.ref x1),none,some (.str (sS x2) x3),none,some (.ref 0)]
def mk3:PySem.Obj:= .mk .none none (.fields #[]) #[]
def mk4:PySem.Obj:= .mk (.type "builtin_function_or_method") none (.fields #[.builtin "type.__prepare__",.type "type"]) #[]
def mk5(P:PySem.Params)(x0:Nat)(x1:String)(x2:Nat)(x3:Nat):PySem.Obj:= .mk (.type "dict") none (.dict #[dE P "__module__" x0 (.str (sS "earthward.errors") 194),dE P "__qualname__" (x0+2) (.str (sS x1) (x0+1)),dE P "__firstlineno__" (x0+4) (.int x2 (x0+3)),dE P "__static_attributes__" (x0+5) (.ref x3)] 4) #[]
def mk6(x0:Nat):PySem.Obj:= .mk (.type "super") none (.fields #[.ref x0,.ref x0,.ref x0]) #[]
def mk7(x0:Nat):PySem.Obj:= .mk (.type "builtin_function_or_method") none (.fields #[.builtin "object.__init_subclass__",.ref x0]) #[]
def m217(P:PySem.Params):PySem.Obj:= .mk (.type "dict") none (.dict #[dE P "__module__" 463 (.str (sS "earthward.switches") 454),dE P "__qualname__" 465 (.str (sS "Switch") 464),dE P "__firstlineno__" 467 (.int 38 466),dE P "feeds" 474 (.ref 228),dE P "earths" 481 (.ref 235),dE P "joins" 488 (.ref 242),dE P "gentle" 495 (.ref 249),dE P "__static_attributes__" 496 (.ref 250)] 8) #[]
def m219:PySem.Obj:= .mk .none none (.fields #[.int 40 0,.int 4 0,.ref 227,.int 43 0,.int 4 0,.ref 234,.int 46 0,.int 4 0,.ref 241,.int 49 0,.int 4 0,.ref 248]) #[]
def m252:PySem.Obj:= .mk (.type "type") none (.cls (PySem.ClassData.mk (sS "Switch") [.type "object"] [.ref 252,.type "object"] 251 (sS "Switch") true [] [.ref 280,.ref 306] false none false)) #[none,none,some (.str (sS "Switch") 456),some (.str (sS "Switch") 464),some (.builtin "object.__new__"),some (.bool true)]
def mk8(P:PySem.Params)(x0:Nat)(x1:String)(x2:Nat)(x3:Nat)(x4:String):PySem.Obj:= .mk (.type "dict") none (.dict #[dE P "__module__" x0 (.str (sS "earthward.switches") 454),dE P "__qualname__" (x0+2) (.str (sS x1) (x0+1)),dE P "__firstlineno__" (x0+4) (.int x2 (x0+3)),dE P "__init__" (x0+12) (.ref x3),dE P x4 (x0+19) (.ref (x3+7)),dE P "__static_attributes__" (x0+21) (.ref (x3+8))] 6) #[]
def mk9(x0:Nat)(x1:Nat):PySem.Obj:= .mk .none none (.fields #[.int x0 0,.int 4 0,.ref x1,.int (x0+3) 0,.int 4 0,.ref (x1+7)]) #[]
def mt(P:PySem.Params):PySem.W.BT:=(.node (PySem.W.boot_o_0 P) (.node (PySem.W.boot_o_1 P) (.node (m3 P) (.node (PySem.W.boot_o_7 P) (.node (kO P 2) (.node (kO P 10) (.node mk3 (.node (kO P 42) (.node (mk6 252) .nil .nil) .nil) (.node (kO P 64) .nil .nil)) (.node (kO P 32) (.node mk3 (.node (mk9 60 295) .nil .nil) .nil) (.node mk3 .nil .nil))) (.node (kO P 16) (.node (kO P 26) (.node (kO P 48) (.node (kO P 103) .nil .nil) .nil) (.node mk3 .nil .nil)) (.node mk3 (.node (kO P 58) (.node (kO P 121) .nil .nil) .nil) (.node (kO P 84) .nil .nil)))) (.node mk4 (.node mk3 (.node (kO P 24) (.node mk3 (.node (mk2 262 259 "earthward.switches" 454) .nil .nil) .nil) (.node (kO P 66) .nil .nil)) (.node (kO P 34) (.node (kO P 56) (.node (kO P 115) .nil .nil) .nil) (.node (kO P 78) .nil .nil))) (.node (kO P 18) (.node mk3 (.node (kO P 50) (.node (kO P 109) .nil .nil) .nil) (.node mk0 .nil .nil)) (.node (kO P 40) (.node mk3 .nil .nil) (.node (wFd (wCb 19) 3 "Switch.gentle") .nil .nil))))) (.node mk0 (.node (wFd wTb 0 "_wall") (.node (kO P 12) (.node (kO P 22) (.node (kO P 44) (.node (mk8 P 511 "Feed" 51 270 "feeds") .nil .nil) .nil) (.node mk3 .nil .nil)) (.node mk3 (.node (kO P 54) (.node mk3 .nil .nil) .nil) (.node (kO P 75) .nil .nil))) (.node mk3 (.node (kO P 28) (.node mk3 (.node (wFd (wCb 20) 1 "Feed.feeds") .nil .nil) .nil) (.node (kO P 70) .nil .nil)) (.node (kO P 38) (.node (kO P 60) (.node (mk6 306) .nil .nil) .nil) (.node (kO P 87) .nil .nil)))) (.node (mk1 "WardError" 198 5 25) (.node (kO P 14) (.node mk3 (.node (kO P 46) (.node (kO P 100) .nil .nil) .nil) (.node (kO P 68) .nil .nil)) (.node (kO P 36) (.node mk3 (.node (kO P 118) .nil .nil) .nil) (.node (kO P 81) .nil .nil))) (.node (kO P 20) (.node (kO P 30) (.node (kO P 52) (.node (kO P 111) .nil .nil) .nil) (.node m219 .nil .nil)) (.node mk3 (.node (kO P 62) .nil .nil) (.node (kO P 93) .nil .nil)))))) (.node (PySem.W.boot_o_5 P) (.node (PySem.W.boot_o_9 P) (.node (kO P 3) (.node (mk6 31) (.node (mk2 64 61 "earthward.errors" 194) (.node (mk6 128) (.node (kO P 97) .nil .nil) .nil) (.node (mk5 P 429 "NotDead" 33 198) .nil .nil)) (.node (mk5 P 301 "Loaded" 17 102) (.node (mk2 160 157 "earthward.errors" 194) (.node (mk2 288 285 "earthward.switches" 454) .nil .nil) .nil) (.node (kO P 74) .nil .nil))) (.node (mk5 P 237 "NoMeasure" 9 54) (.node (mk6 80) (.node (mk5 P 365 "NoLock" 25 150) (.node (kO P 104) .nil .nil) .nil) (.node (mk2 208 205 "earthward.errors" 194) .nil .nil)) (.node (mk2 112 109 "earthward.errors" 194) (.node (mk6 176) (.node (kO P 123) .nil .nil) .nil) (.node (kO P 85) .nil .nil)))) (.node mk0 (.node (mk2 40 37 "earthward.errors" 194) (.node (mk5 P 269 "Same" 13 78) (.node (mk2 136 133 "earthward.errors" 194) (.node mk3 .nil .nil) .nil) (.node (mk6 200) .nil .nil)) (.node (mk6 104) (.node (mk5 P 397 "NotLocked" 29 174) (.node (kO P 117) .nil .nil) .nil) (.node (wFd (wCb 19) 1 "Switch.earths") .nil .nil))) (.node (mk6 56) (.node (mk2 88 85 "earthward.errors" 194) (.node (mk6 152) (.node (mk6 280) .nil .nil) .nil) (.node (m217 P) .nil .nil)) (.node (mk5 P 333 "Locked" 21 126) (.node (mk2 184 181 "earthward.errors" 194) .nil .nil) (.node (kO P 91) .nil .nil))))) (.node (mk1 "<module>" 182 1 11) (.node (kO P 6) (.node (mk5 P 221 "NoRow" 7 42) (.node (mk6 68) (.node (mk5 P 349 "Held" 23 138) (.node (mk9 53 269) .nil .nil) .nil) (.node (mk2 196 193 "earthward.errors" 194) .nil .nil)) (.node (mk2 100 97 "earthward.errors" 194) (.node (mk6 164) (.node (kO P 114) .nil .nil) .nil) (.node (kO P 77) .nil .nil))) (.node (mk2 52 49 "earthward.errors" 194) (.node (mk5 P 285 "NoSwitch" 15 90) (.node (mk2 148 145 "earthward.errors" 194) (.node (kO P 107) .nil .nil) .nil) (.node (mk6 212) .nil .nil)) (.node (mk6 116) (.node (mk5 P 413 "NotEarthed" 31 186) .nil .nil) (.node (kO P 88) .nil .nil)))) (.node (kO P 8) (.node (mk6 44) (.node (mk2 76 73 "earthward.errors" 194) (.node (mk6 140) (.node (kO P 101) .nil .nil) .nil) (.node (mk5 P 445 "NoPermit" 35 210) .nil .nil)) (.node (mk5 P 317 "Shorted" 19 114) (.node (mk2 172 169 "earthward.errors" 194) (.node (wFd (wCb 21) 1 "Earth.earths") .nil .nil) .nil) (.node mk3 .nil .nil))) (.node (mk5 P 253 "NoBar" 11 66) (.node (mk6 92) (.node (mk5 P 381 "NotOpen" 27 162) (.node (mk8 P 543 "Earth" 58 296 "earths") .nil .nil) .nil) (.node (mk2 220 217 "earthward.switches" 454) .nil .nil)) (.node (mk2 124 121 "earthward.errors" 194) (.node (mk6 188) .nil .nil) (.node (kO P 95) .nil .nil))))))) (.node (PySem.W.boot_o_2 P) (.node (PySem.W.boot_o_4 P) (.node (PySem.W.boot_o_8 P) (.node mk3 (.node (kO P 11) (.node (mk1 "NoBar" 248 11 62) (.node (kO P 43) (.node (mk7 252) .nil .nil) .nil) (.node mk4 .nil .nil)) (.node mk4 (.node (mk1 "NotOpen" 376 27 158) (.node (mk1 "Earth" 538 58 286) .nil .nil) .nil) (.node (kO P 73) .nil .nil))) (.node mk4 (.node (kO P 27) (.node mk4 (.node mk3 .nil .nil) .nil) (.node (mk1 "NoPermit" 440 35 206) .nil .nil)) (.node (mk1 "Shorted" 312 19 110) (.node (kO P 59) (.node (kO P 122) .nil .nil) .nil) (.node (wFd (wCb 19) 2 "Switch.joins") .nil .nil)))) (.node (mk5 P 203 "WardError" 5 29) (.node (mk1 "NoRow" 216 7 38) (.node mk4 (.node (mk1 "Held" 344 23 134) (.node (kO P 98) .nil .nil) .nil) (.node (kO P 67) .nil .nil)) (.node (kO P 35) (.node mk4 (.node (kO P 116) .nil .nil) .nil) (.node (kO P 79) .nil .nil))) (.node (kO P 19) (.node (mk1 "NoSwitch" 280 15 86) (.node (kO P 51) (.node (kO P 110) .nil .nil) .nil) (.node mk4 .nil .nil)) (.node mk4 (.node (mk1 "NotEarthed" 408 31 182) .nil .nil) (.node (kO P 90) .nil .nil))))) (.node m12 (.node (kO P 5) (.node mk4 (.node (kO P 23) (.node mk4 (.node mk0 .nil .nil) .nil) (.node (mk1 "NotDead" 424 33 194) .nil .nil)) (.node (mk1 "Loaded" 296 17 98) (.node (kO P 55) (.node (kO P 113) .nil .nil) .nil) (.node (kO P 76) .nil .nil))) (.node (mk1 "NoMeasure" 232 9 50) (.node mk4 (.node (mk1 "NoLock" 360 25 146) (.node (kO P 106) .nil .nil) .nil) (.node (kO P 71) .nil .nil)) (.node (kO P 39) (.node mk4 (.node (mk7 306) .nil .nil) .nil) (.node mk3 .nil .nil)))) (.node (mk2 27 24 "earthward.errors" 194) (.node (kO P 15) (.node (mk1 "Same" 264 13 74) (.node (kO P 47) (.node (wFd (wCb 20) 0 "Feed.__init__") .nil .nil) .nil) (.node mk4 .nil .nil)) (.node mk4 (.node (mk1 "NotLocked" 392 29 170) (.node (kO P 119) .nil .nil) .nil) (.node (kO P 82) .nil .nil))) (.node mk4 (.node (kO P 31) (.node mk4 (.node mk4 .nil .nil) .nil) (.node (mk1 "Switch" 458 38 218) .nil .nil)) (.node (mk1 "Locked" 328 21 122) (.node (kO P 63) .nil .nil) (.node m252 .nil .nil)))))) (.node (PySem.W.boot_o_6 P) (.node (PySem.W.boot_o_10 P) (.node (kO P 4) (.node (mk7 31) (.node (kO P 21) (.node (mk7 128) (.node mk4 .nil .nil) .nil) (.node mk0 .nil .nil)) (.node mk0 (.node (kO P 53) (.node (kO P 112) .nil .nil) .nil) (.node (wFd (wCb 19) 0 "Switch.feeds") .nil .nil))) (.node mk0 (.node (mk7 80) (.node mk0 (.node (kO P 105) .nil .nil) .nil) (.node (kO P 69) .nil .nil)) (.node (kO P 37) (.node (mk7 176) (.node (kO P 124) .nil .nil) .nil) (.node (kO P 86) .nil .nil)))) (.node mk3 (.node (kO P 13) (.node mk0 (.node (kO P 45) (.node (kO P 99) .nil .nil) .nil) (.node (mk7 200) .nil .nil)) (.node (mk7 104) (.node mk0 (.node mk3 .nil .nil) .nil) (.node (kO P 80) .nil .nil))) (.node (mk7 56) (.node (kO P 29) (.node (mk7 152) (.node (mk7 280) .nil .nil) .nil) (.node mk0 .nil .nil)) (.node mk0 (.node (kO P 61) .nil .nil) (.node (kO P 92) .nil .nil))))) (.node (mk2 13 3 "__main__" 164) (.node (kO P 7) (.node mk0 (.node (mk7 68) (.node mk0 (.node (mk1 "Feed" 506 51 260) .nil .nil) .nil) (.node (kO P 65) .nil .nil)) (.node (kO P 33) (.node (mk7 164) (.node (wFd (wCb 21) 0 "Earth.__init__") .nil .nil) .nil) (.node mk3 .nil .nil))) (.node (kO P 17) (.node mk0 (.node (kO P 49) (.node (kO P 108) .nil .nil) .nil) (.node (mk7 212) .nil .nil)) (.node (mk7 116) (.node mk0 .nil .nil) (.node (kO P 89) .nil .nil)))) (.node (kO P 9) (.node (mk7 44) (.node (kO P 25) (.node (mk7 140) (.node (kO P 102) .nil .nil) .nil) (.node mk0 .nil .nil)) (.node mk0 (.node (kO P 57) (.node (kO P 120) .nil .nil) .nil) (.node (kO P 83) .nil .nil))) (.node mk0 (.node (mk7 92) (.node mk0 (.node mk0 .nil .nil) .nil) (.node (kO P 72) .nil .nil)) (.node (kO P 41) (.node (mk7 188) .nil .nil) (.node (kO P 96) .nil .nil))))))))
def Sm(w:PySem.World)(os:PySem.OsState):PySem.W.SharedT:=⟨mt w.params,309,PySem.Life.mk [] [] [] 0 [] [] false #[] [] 0 false false false 0 [2000,10,10] false 0 true [] [] 0 false,Array.mk [],PySem.Drawn.mk 0 0 0 0,568,os⟩
def m3b(P:PySem.Params):PySem.Obj:= .mk (.type "dict") none (.dict #[dE P "__name__" 165 (.str (sS "law_earthward_k37_rows_make_a_yard") 1386),dE P "__doc__" 166 .none,dE P "__package__" 167 .none,dE P "__loader__" 168 (.builtin "__main__.__loader__#opaque"),dE P "__spec__" 169 .none,dE P "__annotations__" 170 (.ref 6),dE P "__builtins__" 171 (.ref 4),dE P "__file__" 173 (.str (sS "/claim/cut.py") 172),dE P "__cached__" 174 .none,dE P "_wall" 193 (.ref 21),dE P "WardError" 213 (.ref 31),dE P "NoRow" 229 (.ref 44),dE P "NoMeasure" 245 (.ref 56),dE P "NoBar" 261 (.ref 68),dE P "Same" 277 (.ref 80),dE P "NoSwitch" 293 (.ref 92),dE P "Loaded" 309 (.ref 104),dE P "Shorted" 325 (.ref 116),dE P "Locked" 341 (.ref 128),dE P "Held" 357 (.ref 140),dE P "NoLock" 373 (.ref 152),dE P "NotOpen" 389 (.ref 164),dE P "NotLocked" 405 (.ref 176),dE P "NotEarthed" 421 (.ref 188),dE P "NotDead" 437 (.ref 200),dE P "NoPermit" 453 (.ref 212),dE P "Switch" 503 (.ref 252),dE P "Feed" 535 (.ref 280),dE P "Earth" 567 (.ref 306),dE P "Breaker" 601 (.ref 332),dE P "Splitter" 642 (.ref 365),dE P "switch_of" 650 (.ref 374),dE P "has" 660 (.ref 381),dE P "Net" 735 (.ref 434),dE P "live" 743 (.ref 445),dE P "earthed" 751 (.ref 452),dE P "lowest" 758 (.ref 459),dE P "numbers_in" 764 (.ref 464),dE P "steps_from" 778 (.ref 471),dE P "numbers_back" 789 (.ref 478),dE P "way" 804 (.ref 485),dE P "check_switch" 814 (.ref 492),dE P "after_turn" 822 (.ref 499),dE P "loads" 834 (.ref 506),dE P "shorts" 843 (.ref 513),dE P "turned" 853 (.ref 520),dE P "can_lock" 862 (.ref 527),dE P "all_switches" 869 (.ref 534),dE P "keeps_dead" 878 (.ref 541),dE P "Bundle" 1011 (.ref 626),dE P "fewest_locks" 1017 (.ref 635),dE P "own_earths" 1025 (.ref 640),dE P "Board" 1129 (.ref 720),dE P "free_switches" 1137 (.ref 729),dE P "layer_behind" 1151 (.ref 736),dE P "meets" 1162 (.ref 743),dE P "deeds_to" 1172 (.ref 750),dE P "plan" 1187 (.ref 757),dE P "MOST_BARS" 1191 (.int 10 1190),dE P "MOST_SWITCHES" 1193 (.int 12 1192),dE P "MOST_FIGURES" 1195 (.int 9 1194),dE P "FIGURES" 1197 (.str (sS "0123456789") 1196),dE P "NUMBERS_BEHIND" 1213 (.ref 758),dE P "is_number" 1219 (.ref 763),dE P "numbers_told" 1225 (.ref 768),dE P "parted" 1234 (.ref 775),dE P "count_in" 1242 (.ref 782),dE P "switch_in" 1252 (.ref 789),dE P "read" 1263 (.ref 796),dE P "row_of" 1269 (.ref 801),dE P "shown" 1275 (.ref 806),dE P "joined_by_blanks" 1283 (.ref 811),dE P "one_number" 1290 (.ref 818),dE P "place_told" 1296 (.ref 823),dE P "wish_for" 1304 (.ref 830),dE P "Desk" 1385 (.ref 887)] 76) #[]
def mk0b:PySem.Obj:= .mk (.type "tuple") none (.seq #[]) #[]
def m12b:PySem.Obj:= .mk .none none (.fields #[.int 1 0,.int 0 0,.ref 20,.int 5 0,.int 0 0,.ref 27,.int 7 0,.int 0 0,.ref 40,.int 9 0,.int 0 0,.ref 52,.int 11 0,.int 0 0,.ref 64,.int 13 0,.int 0 0,.ref 76,.int 15 0,.int 0 0,.ref 88,.int 17 0,.int 0 0,.ref 100,.int 19 0,.int 0 0,.ref 112,.int 21 0,.int 0 0,.ref 124,.int 23 0,.int 0 0,.ref 136,.int 25 0,.int 0 0,.ref 148,.int 27 0,.int 0 0,.ref 160,.int 29 0,.int 0 0,.ref 172,.int 31 0,.int 0 0,.ref 184,.int 33 0,.int 0 0,.ref 196,.int 35 0,.int 0 0,.ref 208,.int 38 0,.int 0 0,.ref 220,.int 51 0,.int 0 0,.ref 262,.int 58 0,.int 0 0,.ref 288,.int 65 0,.int 0 0,.ref 314,.int 73 0,.int 0 0,.ref 340,.int 84 0,.int 0 0,.ref 373,.int 94 0,.int 0 0,.ref 380,.int 96 0,.int 0 0,.ref 387,.int 132 0,.int 0 0,.ref 444,.int 134 0,.int 0 0,.ref 451,.int 136 0,.int 0 0,.ref 458,.int 138 0,.int 0 0,.ref 463,.int 140 0,.int 0 0,.ref 470,.int 147 0,.int 0 0,.ref 477,.int 154 0,.int 0 0,.ref 484,.int 168 0,.int 0 0,.ref 491,.int 171 0,.int 0 0,.ref 498,.int 173 0,.int 0 0,.ref 505,.int 182 0,.int 0 0,.ref 512,.int 184 0,.int 0 0,.ref 519,.int 193 0,.int 0 0,.ref 526,.int 195 0,.int 0 0,.ref 533,.int 197 0,.int 0 0,.ref 540,.int 199 0,.int 0 0,.ref 547,.int 287 0,.int 0 0,.ref 634,.int 295 0,.int 0 0,.ref 639,.int 298 0,.int 0 0,.ref 646,.int 369 0,.int 0 0,.ref 728,.int 371 0,.int 0 0,.ref 735,.int 380 0,.int 0 0,.ref 742,.int 384 0,.int 0 0,.ref 749,.int 391 0,.int 0 0,.ref 756,.int 408 0,.int 0 0,.ref 762,.int 414 0,.int 0 0,.ref 767,.int 418 0,.int 0 0,.ref 774,.int 424 0,.int 0 0,.ref 781,.int 431 0,.int 0 0,.ref 788,.int 442 0,.int 0 0,.ref 795,.int 449 0,.int 0 0,.ref 800,.int 451 0,.int 0 0,.ref 805,.int 455 0,.int 0 0,.ref 810,.int 459 0,.int 0 0,.ref 817,.int 463 0,.int 0 0,.ref 822,.int 470 0,.int 0 0,.ref 829,.int 476 0,.int 0 0,.ref 836]) #[]
def mk1b(x0:String)(x1:Nat)(x2:Nat)(x3:Nat):PySem.Obj:= .mk (.type "code") none (.fields #[.str (sS x0) x1,.str (sS x0) (x1+1),.str (sS "/claim/cut.py") (x1+2),.int x2 0,.int 0 0,.int 0 0,.int 0 0,.int 0 0,.ref x3,.bool false,.int 181 0,.ref (x3+1),.none,.none,.none,.none,.int (x1+3) 0,.int x2 0,.str (sS "/claim/cut.py") (x1+4)]) #[]
def mk2b(x0:Nat)(x1:Nat)(x2:String)(x3:Nat):PySem.Obj:= .mk (.type "frame") none .plain #[some (.ref x0),some (.ref 3),some (.ref x1),none,some (.str (sS x2) x3),none,some (.ref 0)]
def mk3b:PySem.Obj:= .mk .none none (.fields #[]) #[]
def mk4b:PySem.Obj:= .mk (.type "builtin_function_or_method") none (.fields #[.builtin "type.__prepare__",.type "type"]) #[]
def mk5b(P:PySem.Params)(x0:Nat)(x1:String)(x2:Nat)(x3:Nat):PySem.Obj:= .mk (.type "dict") none (.dict #[dE P "__module__" x0 (.str (sS "earthward.errors") 194),dE P "__qualname__" (x0+2) (.str (sS x1) (x0+1)),dE P "__firstlineno__" (x0+4) (.int x2 (x0+3)),dE P "__static_attributes__" (x0+5) (.ref x3)] 4) #[]
def mk6b(x0:Nat):PySem.Obj:= .mk (.type "super") none (.fields #[.ref x0,.ref x0,.ref x0]) #[]
def mk7b(x0:Nat):PySem.Obj:= .mk (.type "builtin_function_or_method") none (.fields #[.builtin "object.__init_subclass__",.ref x0]) #[]
def m217b(P:PySem.Params):PySem.Obj:= .mk (.type "dict") none (.dict #[dE P "__module__" 463 (.str (sS "earthward.switches") 454),dE P "__qualname__" 465 (.str (sS "Switch") 464),dE P "__firstlineno__" 467 (.int 38 466),dE P "feeds" 474 (.ref 228),dE P "earths" 481 (.ref 235),dE P "joins" 488 (.ref 242),dE P "gentle" 495 (.ref 249),dE P "__static_attributes__" 496 (.ref 250)] 8) #[]
def m219b:PySem.Obj:= .mk .none none (.fields #[.int 40 0,.int 4 0,.ref 227,.int 43 0,.int 4 0,.ref 234,.int 46 0,.int 4 0,.ref 241,.int 49 0,.int 4 0,.ref 248]) #[]
def mk8b(P:PySem.Params)(x0:Nat)(x1:String)(x2:Nat)(x3:Nat)(x4:Nat)(x5:String)(x6:Nat):PySem.Obj:= .mk (.type "dict") none (.dict #[dE P "__module__" x0 (.str (sS "earthward.switches") 454),dE P "__qualname__" (x0+2) (.str (sS x1) (x0+1)),dE P "__firstlineno__" (x0+4) (.int x2 (x0+3)),dE P "__init__" x3 (.ref x4),dE P x5 (x3+7) (.ref (x4+7)),dE P "__static_attributes__" x6 (.ref (x4+8))] 6) #[]
def mk9b(x0:Nat)(x1:Nat)(x2:Nat):PySem.Obj:= .mk .none none (.fields #[.int x0 0,.int 4 0,.ref x1,.int x2 0,.int 4 0,.ref (x1+7)]) #[]
def m337b(P:PySem.Params):PySem.Obj:= .mk (.type "dict") none (.dict #[dE P "__module__" 609 (.str (sS "earthward.switches") 454),dE P "__qualname__" 611 (.str (sS "Splitter") 610),dE P "__firstlineno__" 613 (.int 73 612),dE P "__init__" 622 (.ref 348),dE P "joins" 629 (.ref 355),dE P "gentle" 636 (.ref 362),dE P "__static_attributes__" 639 (.ref 363)] 7) #[]
def m339b:PySem.Obj:= .mk .none none (.fields #[.int 75 0,.int 4 0,.ref 347,.int 79 0,.int 4 0,.ref 354,.int 82 0,.int 4 0,.ref 361]) #[]
def mk10b(P:PySem.Params)(x0:Nat)(x1:String)(x2:Nat)(x3:String)(x4:Nat)(x5:Nat)(x6:Nat)(x7:String)(x8:Nat)(x9:Nat)(x10:String)(x11:Nat)(x12:Nat)(x13:String)(x14:String)(x15:Nat)(x16:String)(x17:Nat)(x18:String):PySem.Obj:= .mk (.type "dict") none (.dict #[dE P "__module__" x0 (.str (sS x1) x2),dE P "__qualname__" (x0+2) (.str (sS x3) (x0+1)),dE P "__firstlineno__" (x0+4) (.int x4 (x0+3)),dE P "__init__" x5 (.ref x6),dE P x7 x8 (.ref x9),dE P x10 x11 (.ref x12),dE P x13 (x11+10) (.ref (x12+7)),dE P x14 x15 (.ref (x12+14)),dE P x16 x17 (.ref (x9+26)),dE P x18 (x17+8) (.ref (x9+33)),dE P "__static_attributes__" (x8+44) (.ref (x9+34))] 11) #[]
def mk11b(x0:Nat)(x1:Nat)(x2:Nat)(x3:Nat)(x4:Nat)(x5:Nat)(x6:Nat)(x7:Nat)(x8:Nat)(x9:Nat):PySem.Obj:= .mk .none none (.fields #[.int x0 0,.int 4 0,.ref x1,.int x2 0,.int 4 0,.ref x3,.int x4 0,.int 4 0,.ref x5,.int x6 0,.int 4 0,.ref (x5+7),.int x7 0,.int 4 0,.ref (x5+14),.int x8 0,.int 4 0,.ref (x3+26),.int x9 0,.int 4 0,.ref (x3+33)]) #[]
def m544b(P:PySem.Params):PySem.Obj:= .mk (.type "dict") none (.dict #[dE P "__module__" 886 (.str (sS "earthward.locks") 854),dE P "__qualname__" 888 (.str (sS "Bundle") 887),dE P "__firstlineno__" 890 (.int 199 889),dE P "__init__" 902 (.ref 555),dE P "pair_of" 910 (.ref 562),dE P "joined_in_common" 918 (.ref 569),dE P "steps_by" 931 (.ref 576),dE P "row_in" 942 (.ref 583),dE P "steps_left" 950 (.ref 590),dE P "widen" 959 (.ref 597),dE P "rim" 965 (.ref 602),dE P "row_of_a_way" 975 (.ref 609),dE P "way_by" 986 (.ref 616),dE P "take_ways" 996 (.ref 623),dE P "__static_attributes__" 1004 (.ref 624)] 15) #[]
def m546b:PySem.Obj:= .mk .none none (.fields #[.int 201 0,.int 4 0,.ref 554,.int 212 0,.int 4 0,.ref 561,.int 217 0,.int 4 0,.ref 568,.int 220 0,.int 4 0,.ref 575,.int 233 0,.int 4 0,.ref 582,.int 242 0,.int 4 0,.ref 589,.int 247 0,.int 4 0,.ref 596,.int 256 0,.int 4 0,.ref 601,.int 262 0,.int 4 0,.ref 608,.int 268 0,.int 4 0,.ref 615,.int 278 0,.int 4 0,.ref 622]) #[]
def m643b(P:PySem.Params):PySem.Obj:= .mk (.type "dict") none (.dict #[dE P "__module__" 1033 (.str (sS "earthward.board") 1018),dE P "__qualname__" 1035 (.str (sS "Board") 1034),dE P "__firstlineno__" 1037 (.int 298 1036),dE P "__init__" 1045 (.ref 654),dE P "standing" 1052 (.ref 661),dE P "locked" 1059 (.ref 668),dE P "held" 1068 (.ref 675),dE P "permits" 1075 (.ref 682),dE P "turn" 1083 (.ref 689),dE P "lock" 1091 (.ref 696),dE P "unlock" 1099 (.ref 703),dE P "permit" 1107 (.ref 710),dE P "give_back" 1115 (.ref 717),dE P "__static_attributes__" 1122 (.ref 718)] 14) #[]
def m645b:PySem.Obj:= .mk .none none (.fields #[.int 300 0,.int 4 0,.ref 653,.int 308 0,.int 4 0,.ref 660,.int 311 0,.int 4 0,.ref 667,.int 314 0,.int 4 0,.ref 674,.int 320 0,.int 4 0,.ref 681,.int 323 0,.int 4 0,.ref 688,.int 332 0,.int 4 0,.ref 695,.int 343 0,.int 4 0,.ref 702,.int 352 0,.int 4 0,.ref 709,.int 363 0,.int 4 0,.ref 716]) #[]
def mtb(P:PySem.Params):PySem.W.BT:=(.node (PySem.W.boot_o_0 P) (.node (PySem.W.boot_o_1 P) (.node (m3b P) (.node (PySem.W.boot_o_7 P) (.node (kO P 2) (.node (kO P 10) (.node mk3b (.node (kO P 42) (.node (mk6b 252) (.node (wFd wTb 39 "shorts") .nil .nil) (.node (kO P 422) .nil .nil)) (.node mk4b (.node (kO P 337) .nil .nil) .nil)) (.node (kO P 64) (.node (kO P 128) (.node (kO P 293) .nil .nil) (.node mk0b .nil .nil)) (.node mk3b (.node (kO P 378) .nil .nil) .nil))) (.node (kO P 32) (.node mk3b (.node (mk9b 60 295 63) (.node mk4b .nil .nil) (.node (wFd wTb 68 "row_of") .nil .nil)) (.node (wFd (wCb 27) 4 "Net.led_bars") (.node (kO P 355) .nil .nil) .nil)) (.node mk3b (.node (kO P 146) (.node (wFd (wCb 45) 8 "Bundle.row_of_a_way") .nil .nil) (.node (wFd (wCb 75) 3 "Desk.add_switch") .nil .nil)) (.node (kO P 230) (.node (kO P 400) .nil .nil) .nil)))) (.node (kO P 16) (.node (kO P 26) (.node (kO P 48) (.node (kO P 103) (.node (kO P 264) .nil .nil) (.node (kO P 434) .nil .nil)) (.node (kO P 174) (.node (kO P 344) .nil .nil) .nil)) (.node mk3b (.node (kO P 139) (.node (kO P 305) .nil .nil) (.node (kO P 472) .nil .nil)) (.node (kO P 218) (.node (kO P 390) .nil .nil) .nil))) (.node mk3b (.node (kO P 58) (.node (kO P 121) (.node (kO P 282) .nil .nil) (.node (kO P 455) .nil .nil)) (.node (kO P 196) (.node (wFd (wCb 49) 5 "Board.turn") .nil .nil) .nil)) (.node (kO P 84) (.node (mk7b 365) (.node (kO P 327) .nil .nil) (.node mk3b .nil .nil)) (.node (kO P 241) (.node (kO P 412) .nil .nil) .nil))))) (.node mk4b (.node mk3b (.node (kO P 24) (.node mk3b (.node (mk2b 262 259 "earthward.switches" 454) (.node (kO P 258) .nil .nil) (.node (kO P 428) .nil .nil)) (.node (wFd (wCb 27) 0 "Net.__init__") (.node (mk2b 646 643 "earthward.board" 1018) .nil .nil) .nil)) (.node (kO P 66) (.node (wFd (wCb 22) 1 "Breaker.joins") (.node (kO P 299) .nil .nil) (.node mk3b .nil .nil)) (.node (kO P 213) (.node (kO P 384) .nil .nil) .nil))) (.node (kO P 34) (.node (kO P 56) (.node (kO P 115) (.node (kO P 276) .nil .nil) (.node (kO P 450) .nil .nil)) (.node (kO P 190) (.node (kO P 361) .nil .nil) .nil)) (.node (kO P 78) (.node (kO P 152) (.node (kO P 321) .nil .nil) (.node (kO P 489) .nil .nil)) (.node mk3b (.node (kO P 406) .nil .nil) .nil)))) (.node (kO P 18) (.node mk3b (.node (kO P 50) (.node (kO P 109) (.node (kO P 270) .nil .nil) (.node mk3b .nil .nil)) (.node (kO P 179) (.node mk3b .nil .nil) .nil)) (.node mk0b (.node mk3b (.node mk3b .nil .nil) (.node (kO P 478) .nil .nil)) (.node (kO P 224) (.node (wFd wTb 51 "free_switches") .nil .nil) .nil))) (.node (kO P 40) (.node mk3b (.node (mk8b P 575 "Breaker" 65 588 322 "joins" 598) (.node (wFd (wCb 45) 2 "Bundle.joined_in_common") .nil .nil) (.node (kO P 460) .nil .nil)) (.node (kO P 202) (.node (kO P 372) .nil .nil) .nil)) (.node (wFd (wCb 19) 3 "Switch.gentle") (.node (kO P 163) (.node (kO P 333) .nil .nil) (.node (kO P 501) .nil .nil)) (.node (kO P 247) (.node (kO P 418) .nil .nil) .nil)))))) (.node mk0b (.node (wFd wTb 0 "_wall") (.node (kO P 12) (.node (kO P 22) (.node (kO P 44) (.node (mk8b P 511 "Feed" 51 523 270 "feeds" 532) (.node mk3b .nil .nil) (.node (kO P 425) .nil .nil)) (.node (mk1b "Net" 663 96 385) (.node (m643b P) .nil .nil) .nil)) (.node mk3b (.node (kO P 131) (.node (kO P 296) .nil .nil) (.node (mk11b 478 843 482 850 504 857 509 514 525 534) .nil .nil)) (.node (kO P 210) (.node (kO P 381) .nil .nil) .nil))) (.node mk3b (.node (kO P 54) (.node mk3b (.node (mk1b "Bundle" 881 199 545) .nil .nil) (.node mk3b .nil .nil)) (.node mk3b (.node (kO P 358) .nil .nil) .nil)) (.node (kO P 75) (.node (kO P 149) (.node mk3b .nil .nil) (.node mk3b .nil .nil)) (.node (wFd wTb 34 "way") (.node (kO P 403) .nil .nil) .nil)))) (.node mk3b (.node (kO P 28) (.node mk3b (.node (wFd (wCb 20) 1 "Feed.feeds") (.node (kO P 267) .nil .nil) (.node (wFd wTb 66 "switch_in") .nil .nil)) (.node (kO P 176) (.node (wFd (wCb 49) 1 "Board.standing") .nil .nil) .nil)) (.node (kO P 70) (.node m339b (.node (wFd (wCb 45) 6 "Bundle.widen") .nil .nil) (.node (kO P 475) .nil .nil)) (.node (kO P 221) (.node (mk6b 720) .nil .nil) .nil))) (.node (kO P 38) (.node (kO P 60) (.node (mk6b 306) (.node (kO P 285) .nil .nil) (.node (kO P 458) .nil .nil)) (.node (kO P 200) (.node mk3b .nil .nil) .nil)) (.node (kO P 87) (.node (kO P 160) (.node (kO P 331) .nil .nil) (.node (kO P 497) .nil .nil)) (.node (kO P 244) (.node (wFd wTb 55 "plan") .nil .nil) .nil))))) (.node (mk1b "WardError" 198 5 25) (.node (kO P 14) (.node mk3b (.node (kO P 46) (.node (kO P 100) (.node (kO P 261) .nil .nil) (.node (kO P 431) .nil .nil)) (.node mk3b (.node (kO P 341) .nil .nil) .nil)) (.node (kO P 68) (.node (kO P 137) (.node (kO P 302) .nil .nil) (.node (kO P 469) .nil .nil)) (.node (kO P 216) (.node (wFd (wCb 49) 9 "Board.give_back") .nil .nil) .nil))) (.node (kO P 36) (.node mk3b (.node (kO P 118) (.node (kO P 279) .nil .nil) (.node (kO P 452) .nil .nil)) (.node (kO P 193) (.node (kO P 364) .nil .nil) .nil)) (.node (kO P 81) (.node (kO P 155) (.node (kO P 324) .nil .nil) (.node (wFd (wCb 75) 5 "Desk.reach") .nil .nil)) (.node (kO P 238) (.node (kO P 409) .nil .nil) .nil)))) (.node (kO P 20) (.node (kO P 30) (.node (kO P 52) (.node (kO P 111) (.node (wFd wTb 44 "keeps_dead") .nil .nil) (.node (kO P 442) .nil .nil)) (.node (kO P 182) (.node (kO P 352) .nil .nil) .nil)) (.node m219b (.node (kO P 143) (.node (kO P 313) .nil .nil) (.node (kO P 481) .nil .nil)) (.node (kO P 227) (.node mk3b .nil .nil) .nil))) (.node mk3b (.node (kO P 62) (.node (mk2b 314 311 "earthward.switches" 454) (.node mk3b .nil .nil) (.node (kO P 463) .nil .nil)) (.node (wFd wTb 28 "live") (.node (kO P 375) .nil .nil) .nil)) (.node (kO P 93) (.node (wFd wTb 26 "has") (.node (kO P 335) .nil .nil) (.node (mk7b 887) .nil .nil)) (.node (kO P 250) (.node (kO P 420) .nil .nil) .nil))))))) (.node (PySem.W.boot_o_5 P) (.node (PySem.W.boot_o_9 P) (.node (kO P 3) (.node (mk6b 31) (.node (mk2b 64 61 "earthward.errors" 194) (.node (mk6b 128) (.node (kO P 97) (.node (kO P 254) .nil .nil) (.node (kO P 424) .nil .nil)) (.node mk0b (.node mk0b .nil .nil) .nil)) (.node (mk5b P 429 "NotDead" 33 198) (.node (kO P 129) (.node (kO P 295) .nil .nil) (.node (mk10b P 1312 "earthward.desk" 1276 "Desk" 476 1323 844 "say" 1334 851 "begin" 1342 858 "add_switch" "done" 1361 "reach" 1367 "tell") .nil .nil)) (.node (kO P 209) (.node mk3b .nil .nil) .nil))) (.node (mk5b P 301 "Loaded" 17 102) (.node (mk2b 160 157 "earthward.errors" 194) (.node (mk2b 288 285 "earthward.switches" 454) (.node mk0b .nil .nil) (.node (kO P 446) .nil .nil)) (.node (kO P 186) (.node (wFd (wCb 49) 3 "Board.held") .nil .nil) .nil)) (.node (kO P 74) (.node (wFd (wCb 23) 1 "Splitter.joins") (.node (kO P 317) .nil .nil) (.node (kO P 485) .nil .nil)) (.node (kO P 231) (.node (kO P 402) .nil .nil) .nil)))) (.node (mk5b P 237 "NoMeasure" 9 54) (.node (mk6b 80) (.node (mk5b P 365 "NoLock" 25 150) (.node (kO P 104) (.node mk3b .nil .nil) (.node (kO P 435) .nil .nil)) (.node (wFd (wCb 27) 2 "Net.joined_bars") (.node (kO P 345) .nil .nil) .nil)) (.node (mk2b 208 205 "earthward.errors" 194) (.node (m337b P) (.node (kO P 306) .nil .nil) (.node (wFd (wCb 75) 1 "Desk.say") .nil .nil)) (.node (kO P 220) (.node (kO P 392) .nil .nil) .nil))) (.node (mk2b 112 109 "earthward.errors" 194) (.node (mk6b 176) (.node (kO P 123) (.node (kO P 283) .nil .nil) (.node (kO P 456) .nil .nil)) (.node (kO P 198) (.node (kO P 368) .nil .nil) .nil)) (.node (kO P 85) (.node mk3b (.node (kO P 329) .nil .nil) (.node (kO P 496) .nil .nil)) (.node (wFd wTb 37 "after_turn") (.node (kO P 413) .nil .nil) .nil))))) (.node mk0b (.node (mk2b 40 37 "earthward.errors" 194) (.node (mk5b P 269 "Same" 13 78) (.node (mk2b 136 133 "earthward.errors" 194) (.node mk3b (.node (kO P 260) .nil .nil) (.node mk3b .nil .nil)) (.node (kO P 170) (.node mk3b .nil .nil) .nil)) (.node (mk6b 200) (.node (kO P 135) (.node mk3b .nil .nil) (.node (kO P 468) .nil .nil)) (.node (wFd wTb 30 "lowest") (.node (kO P 385) .nil .nil) .nil))) (.node (mk6b 104) (.node (mk5b P 397 "NotLocked" 29 174) (.node (kO P 117) (.node (wFd (wCb 45) 0 "Bundle.__init__") .nil .nil) (.node (wFd wTb 71 "joined_by_blanks") .nil .nil)) (.node (kO P 192) (.node (kO P 362) .nil .nil) .nil)) (.node (wFd (wCb 19) 1 "Switch.earths") (.node (kO P 153) (.node (kO P 323) .nil .nil) (.node (kO P 491) .nil .nil)) (.node (kO P 237) (.node mk3b .nil .nil) .nil)))) (.node (mk6b 56) (.node (mk2b 88 85 "earthward.errors" 194) (.node (mk6b 152) (.node (mk6b 280) (.node (kO P 271) .nil .nil) (.node (kO P 441) .nil .nil)) (.node (kO P 180) (.node (kO P 351) .nil .nil) .nil)) (.node (m217b P) (.node (kO P 142) (.node (kO P 311) .nil .nil) (.node (kO P 479) .nil .nil)) (.node mk3b (.node (kO P 396) .nil .nil) .nil))) (.node (mk5b P 333 "Locked" 21 126) (.node (mk2b 184 181 "earthward.errors" 194) (.node (mk9b 67 321 71) (.node (kO P 289) .nil .nil) (.node mk3b .nil .nil)) (.node (kO P 203) (.node (kO P 374) .nil .nil) .nil)) (.node (kO P 91) (.node (kO P 164) (.node (wFd wTb 46 "fewest_locks") .nil .nil) (.node (kO P 503) .nil .nil)) (.node (kO P 248) (.node (wFd wTb 62 "is_number") .nil .nil) .nil)))))) (.node (mk1b "<module>" 182 1 11) (.node (kO P 6) (.node (mk5b P 221 "NoRow" 7 42) (.node (mk6b 68) (.node (mk5b P 349 "Held" 23 138) (.node (mk9b 53 269 56) (.node (kO P 257) .nil .nil) (.node (wFd wTb 64 "parted") .nil .nil)) (.node (kO P 168) (.node m645b .nil .nil) .nil)) (.node (mk2b 196 193 "earthward.errors" 194) (.node (kO P 132) (.node (wFd (wCb 45) 4 "Bundle.row_in") .nil .nil) (.node (mk2b 836 833 "earthward.desk" 1276) .nil .nil)) (.node (kO P 212) (.node (kO P 382) .nil .nil) .nil))) (.node (mk2b 100 97 "earthward.errors" 194) (.node (mk6b 164) (.node (kO P 114) (.node (kO P 275) .nil .nil) (.node (kO P 448) .nil .nil)) (.node (kO P 189) (.node mk3b .nil .nil) .nil)) (.node (kO P 77) (.node mk3b (.node (kO P 320) .nil .nil) (.node (kO P 488) .nil .nil)) (.node (kO P 234) (.node (wFd wTb 53 "meets") .nil .nil) .nil)))) (.node (mk2b 52 49 "earthward.errors" 194) (.node (mk5b P 285 "NoSwitch" 15 90) (.node (mk2b 148 145 "earthward.errors" 194) (.node (kO P 107) (.node (kO P 268) .nil .nil) (.node (kO P 438) .nil .nil)) (.node mk3b (.node (kO P 348) .nil .nil) .nil)) (.node (mk6b 212) (.node (mk2b 340 337 "earthward.switches" 454) (.node (kO P 309) .nil .nil) (.node mk3b .nil .nil)) (.node (wFd wTb 32 "steps_from") (.node (kO P 394) .nil .nil) .nil))) (.node (mk6b 116) (.node (mk5b P 413 "NotEarthed" 31 186) (.node (kO P 125) (.node (kO P 286) .nil .nil) (.node (wFd wTb 73 "place_told") .nil .nil)) (.node (mk6b 434) (.node (kO P 371) .nil .nil) .nil)) (.node (kO P 88) (.node (kO P 161) (.node (mk6b 626) .nil .nil) (.node (kO P 499) .nil .nil)) (.node mk3b (.node (kO P 416) .nil .nil) .nil))))) (.node (kO P 8) (.node (mk6b 44) (.node (mk2b 76 73 "earthward.errors" 194) (.node (mk6b 140) (.node (kO P 101) (.node (wFd wTb 42 "can_lock") .nil .nil) (.node (kO P 432) .nil .nil)) (.node (kO P 172) (.node (kO P 342) .nil .nil) .nil)) (.node (mk5b P 445 "NoPermit" 35 210) (.node (mk6b 332) (.node (kO P 303) .nil .nil) (.node (kO P 471) .nil .nil)) (.node mk3b (.node (kO P 388) .nil .nil) .nil))) (.node (mk5b P 317 "Shorted" 19 114) (.node (mk2b 172 169 "earthward.errors" 194) (.node (wFd (wCb 21) 1 "Earth.earths") (.node mk3b .nil .nil) (.node mk3b .nil .nil)) (.node (wFd (wCb 27) 6 "Net.is_safe") (.node (kO P 365) .nil .nil) .nil)) (.node mk3b (.node (kO P 157) (.node (wFd (wCb 45) 10 "Bundle.take_ways") .nil .nil) (.node (kO P 493) .nil .nil)) (.node (kO P 240) (.node (kO P 410) .nil .nil) .nil)))) (.node (mk5b P 253 "NoBar" 11 66) (.node (mk6b 92) (.node (mk5b P 381 "NotOpen" 27 162) (.node (mk8b P 543 "Earth" 58 555 296 "earths" 564) (.node (kO P 274) .nil .nil) (.node (kO P 444) .nil .nil)) (.node (kO P 183) (.node (kO P 354) .nil .nil) .nil)) (.node (mk2b 220 217 "earthward.switches" 454) (.node (kO P 145) (.node (kO P 314) .nil .nil) (.node (kO P 482) .nil .nil)) (.node (kO P 228) (.node (kO P 399) .nil .nil) .nil))) (.node (mk2b 124 121 "earthward.errors" 194) (.node (mk6b 188) (.node mk3b (.node (kO P 292) .nil .nil) (.node (kO P 464) .nil .nil)) (.node (kO P 206) (.node (wFd (wCb 49) 7 "Board.unlock") .nil .nil) .nil)) (.node (kO P 95) (.node (kO P 167) (.node mk3b .nil .nil) .nil) (.node (kO P 251) (.node mk3b .nil .nil) .nil)))))))) (.node (PySem.W.boot_o_2 P) (.node (PySem.W.boot_o_4 P) (.node (PySem.W.boot_o_8 P) (.node mk3b (.node (kO P 11) (.node (mk1b "NoBar" 248 11 62) (.node (kO P 43) (.node (mk7b 252) (.node (kO P 253) .nil .nil) (.node (kO P 423) .nil .nil)) (.node (mk10b P 668 "earthward.reach" 651 "Net" 96 678 393 "shut_ones" 684 398 "joined_bars" 690 403 "live_bars" "led_bars" 710 "earthed_bars" 718 "is_safe") (.node (kO P 338) .nil .nil) .nil)) (.node mk4b (.node (wFd (wCb 22) 0 "Breaker.__init__") (.node (kO P 294) .nil .nil) (.node mk4b .nil .nil)) (.node (kO P 208) (.node (kO P 379) .nil .nil) .nil))) (.node mk4b (.node (mk1b "NotOpen" 376 27 158) (.node (mk1b "Earth" 538 58 286) (.node (m544b P) .nil .nil) (.node (kO P 445) .nil .nil)) (.node (kO P 185) (.node (kO P 356) .nil .nil) .nil)) (.node (kO P 73) (.node (kO P 147) (.node (kO P 316) .nil .nil) (.node (kO P 484) .nil .nil)) (.node mk3b (.node (kO P 401) .nil .nil) .nil)))) (.node mk4b (.node (kO P 27) (.node mk4b (.node mk3b (.node (kO P 265) .nil .nil) (.node mk3b .nil .nil)) (.node mk3b (.node mk3b .nil .nil) .nil)) (.node (mk1b "NoPermit" 440 35 206) (.node mk4b (.node mk3b .nil .nil) (.node (kO P 473) .nil .nil)) (.node (kO P 219) (.node (kO P 391) .nil .nil) .nil))) (.node (mk1b "Shorted" 312 19 110) (.node (kO P 59) (.node (kO P 122) (.node (wFd (wCb 45) 1 "Bundle.pair_of") .nil .nil) (.node (wFd wTb 72 "one_number") .nil .nil)) (.node (kO P 197) (.node (kO P 367) .nil .nil) .nil)) (.node (wFd (wCb 19) 2 "Switch.joins") (.node (kO P 158) (.node (kO P 328) .nil .nil) (.node (kO P 495) .nil .nil)) (.node (kO P 242) (.node mk3b .nil .nil) .nil))))) (.node (mk5b P 203 "WardError" 5 29) (.node (mk1b "NoRow" 216 7 38) (.node mk4b (.node (mk1b "Held" 344 23 134) (.node (kO P 98) (.node (kO P 259) .nil .nil) (.node (kO P 429) .nil .nil)) (.node (kO P 169) (.node (kO P 339) .nil .nil) .nil)) (.node (kO P 67) (.node (kO P 134) (.node (kO P 300) .nil .nil) (.node (kO P 467) .nil .nil)) (.node (kO P 214) (.node mk3b .nil .nil) .nil))) (.node (kO P 35) (.node mk4b (.node (kO P 116) (.node (kO P 277) .nil .nil) (.node mk3b .nil .nil)) (.node (kO P 191) (.node (wFd (wCb 49) 4 "Board.permits") .nil .nil) .nil)) (.node (kO P 79) (.node (wFd (wCb 23) 2 "Splitter.gentle") (.node (kO P 322) .nil .nil) (.node (kO P 490) .nil .nil)) (.node (kO P 236) (.node (kO P 407) .nil .nil) .nil)))) (.node (kO P 19) (.node (mk1b "NoSwitch" 280 15 86) (.node (kO P 51) (.node (kO P 110) (.node mk3b .nil .nil) (.node (kO P 440) .nil .nil)) (.node (wFd (wCb 27) 3 "Net.live_bars") (.node (kO P 350) .nil .nil) .nil)) (.node mk4b (.node (kO P 141) (.node (wFd (wCb 45) 7 "Bundle.rim") .nil .nil) (.node (wFd (wCb 75) 2 "Desk.begin") .nil .nil)) (.node (kO P 225) (.node (kO P 395) .nil .nil) .nil))) (.node mk4b (.node (mk1b "NotEarthed" 408 31 182) (.node mk0b (.node (kO P 288) .nil .nil) (.node (kO P 461) .nil .nil)) (.node mk3b (.node (kO P 373) .nil .nil) .nil)) (.node (kO P 90) (.node mk3b (.node mk3b .nil .nil) (.node (kO P 502) .nil .nil)) (.node (wFd wTb 38 "loads") (.node mk3b .nil .nil) .nil)))))) (.node m12b (.node (kO P 5) (.node mk4b (.node (kO P 23) (.node mk4b (.node mk0b (.node (kO P 256) .nil .nil) (.node (kO P 426) .nil .nil)) (.node (mk2b 387 384 "earthward.reach" 651) (.node mk0b .nil .nil) .nil)) (.node (mk1b "NotDead" 424 33 194) (.node mk3b (.node (kO P 297) .nil .nil) (.node (mk1b "Desk" 1307 476 834) .nil .nil)) (.node (kO P 211) (.node (wFd (wCb 49) 8 "Board.permit") .nil .nil) .nil))) (.node (mk1b "Loaded" 296 17 98) (.node (kO P 55) (.node (kO P 113) (.node (mk2b 547 544 "earthward.locks" 854) .nil .nil) (.node (wFd wTb 69 "shown") .nil .nil)) (.node (kO P 188) (.node (kO P 359) .nil .nil) .nil)) (.node (kO P 76) (.node (kO P 150) (.node (kO P 319) .nil .nil) (.node (kO P 487) .nil .nil)) (.node (kO P 233) (.node (kO P 404) .nil .nil) .nil)))) (.node (mk1b "NoMeasure" 232 9 50) (.node mk4b (.node (mk1b "NoLock" 360 25 146) (.node (kO P 106) (.node (wFd wTb 43 "all_switches") .nil .nil) (.node (kO P 437) .nil .nil)) (.node (kO P 177) (.node (kO P 347) .nil .nil) .nil)) (.node (kO P 71) (.node (mk1b "Splitter" 604 73 338) (.node (kO P 308) .nil .nil) (.node (kO P 476) .nil .nil)) (.node (kO P 222) (.node (mk7b 720) .nil .nil) .nil))) (.node (kO P 39) (.node mk4b (.node (mk7b 306) (.node mk3b .nil .nil) (.node mk3b .nil .nil)) (.node (kO P 201) (.node (kO P 370) .nil .nil) .nil)) (.node mk3b (.node (wFd wTb 24 "switch_of") (.node (kO P 332) .nil .nil) (.node (kO P 498) .nil .nil)) (.node (kO P 245) (.node (kO P 415) .nil .nil) .nil))))) (.node (mk2b 27 24 "earthward.errors" 194) (.node (kO P 15) (.node (mk1b "Same" 264 13 74) (.node (kO P 47) (.node (wFd (wCb 20) 0 "Feed.__init__") (.node (kO P 262) .nil .nil) (.node (wFd wTb 65 "count_in") .nil .nil)) (.node (wFd (wCb 27) 1 "Net.shut_ones") (.node (wFd (wCb 49) 0 "Board.__init__") .nil .nil) .nil)) (.node mk4b (.node (kO P 138) (.node (wFd (wCb 45) 5 "Bundle.steps_left") .nil .nil) (.node (kO P 470) .nil .nil)) (.node (kO P 217) (.node (kO P 387) .nil .nil) .nil))) (.node mk4b (.node (mk1b "NotLocked" 392 29 170) (.node (kO P 119) (.node (kO P 280) .nil .nil) (.node (kO P 453) .nil .nil)) (.node (kO P 194) (.node mk3b .nil .nil) .nil)) (.node (kO P 82) (.node (kO P 156) (.node (kO P 325) .nil .nil) (.node (kO P 492) .nil .nil)) (.node (kO P 239) (.node (wFd wTb 54 "deeds_to") .nil .nil) .nil)))) (.node mk4b (.node (kO P 31) (.node mk4b (.node mk4b (.node (kO P 273) .nil .nil) (.node (kO P 443) .nil .nil)) (.node mk3b (.node (kO P 353) .nil .nil) .nil)) (.node (mk1b "Switch" 458 38 218) (.node (kO P 144) (.node mk3b .nil .nil) (.node mk3b .nil .nil)) (.node (wFd wTb 33 "numbers_back") (.node (kO P 398) .nil .nil) .nil))) (.node (mk1b "Locked" 328 21 122) (.node (kO P 63) (.node (kO P 126) (.node (kO P 291) .nil .nil) (.node (wFd wTb 74 "wish_for") .nil .nil)) (.node (kO P 205) (.node (kO P 376) .nil .nil) .nil)) (.node (kO P 94) (.node (kO P 166) (.node (kO P 336) .nil .nil) .nil) (.node mk3b (.node (kO P 421) .nil .nil) .nil))))))) (.node (PySem.W.boot_o_6 P) (.node (PySem.W.boot_o_10 P) (.node (kO P 4) (.node (mk7b 31) (.node (kO P 21) (.node (mk7b 128) (.node mk4b (.node (kO P 255) .nil .nil) (.node mk3b .nil .nil)) (.node (mk11b 98 392 101 397 104 402 115 121 127 130) (.node mk4b .nil .nil) .nil)) (.node mk0b (.node (kO P 130) (.node mk3b .nil .nil) (.node mk0b .nil .nil)) (.node (wFd wTb 29 "earthed") (.node (kO P 380) .nil .nil) .nil))) (.node mk0b (.node (kO P 53) (.node (kO P 112) (.node m546b .nil .nil) (.node (kO P 447) .nil .nil)) (.node (kO P 187) (.node (kO P 357) .nil .nil) .nil)) (.node (wFd (wCb 19) 0 "Switch.feeds") (.node (kO P 148) (.node (kO P 318) .nil .nil) (.node (kO P 486) .nil .nil)) (.node (kO P 232) (.node mk3b .nil .nil) .nil)))) (.node mk0b (.node (mk7b 80) (.node mk0b (.node (kO P 105) (.node (kO P 266) .nil .nil) (.node (kO P 436) .nil .nil)) (.node (kO P 175) (.node (kO P 346) .nil .nil) .nil)) (.node (kO P 69) (.node mk0b (.node (kO P 307) .nil .nil) (.node (kO P 474) .nil .nil)) (.node mk3b (.node (kO P 393) .nil .nil) .nil))) (.node (kO P 37) (.node (mk7b 176) (.node (kO P 124) (.node (kO P 284) .nil .nil) (.node (kO P 457) .nil .nil)) (.node (kO P 199) (.node (kO P 369) .nil .nil) .nil)) (.node (kO P 86) (.node (kO P 159) (.node (kO P 330) .nil .nil) (.node (wFd (wCb 75) 6 "Desk.tell") .nil .nil)) (.node (kO P 243) (.node (kO P 414) .nil .nil) .nil))))) (.node mk3b (.node (kO P 13) (.node mk0b (.node (kO P 45) (.node (kO P 99) (.node mk3b .nil .nil) (.node (kO P 430) .nil .nil)) (.node (kO P 171) (.node (kO P 340) .nil .nil) .nil)) (.node (mk7b 200) (.node (kO P 136) (.node (kO P 301) .nil .nil) (.node (wFd (wCb 75) 0 "Desk.__init__") .nil .nil)) (.node (kO P 215) (.node (kO P 386) .nil .nil) .nil))) (.node (mk7b 104) (.node mk0b (.node mk3b (.node (kO P 278) .nil .nil) (.node (kO P 451) .nil .nil)) (.node mk3b (.node (kO P 363) .nil .nil) .nil)) (.node (kO P 80) (.node (kO P 154) (.node mk3b .nil .nil) (.node mk3b .nil .nil)) (.node (wFd wTb 36 "check_switch") (.node (kO P 408) .nil .nil) .nil)))) (.node (mk7b 56) (.node (kO P 29) (.node (mk7b 152) (.node (mk7b 280) (.node (kO P 272) .nil .nil) (.node (wFd wTb 67 "read") .nil .nil)) (.node (kO P 181) (.node (wFd (wCb 49) 2 "Board.locked") .nil .nil) .nil)) (.node mk0b (.node (wFd (wCb 23) 0 "Splitter.__init__") (.node (kO P 312) .nil .nil) (.node (kO P 480) .nil .nil)) (.node (kO P 226) (.node (kO P 397) .nil .nil) .nil))) (.node mk0b (.node (kO P 61) (.node (mk1b "Breaker" 570 65 312) (.node (kO P 290) .nil .nil) (.node (kO P 462) .nil .nil)) (.node (kO P 204) (.node mk3b .nil .nil) .nil)) (.node (kO P 92) (.node (kO P 165) (.node (kO P 334) .nil .nil) (.node (mk6b 887) .nil .nil)) (.node (kO P 249) (.node (kO P 419) .nil .nil) .nil)))))) (.node (mk2b 13 3 "__main__" 164) (.node (kO P 7) (.node mk0b (.node (mk7b 68) (.node mk0b (.node (mk1b "Feed" 506 51 260) (.node (wFd wTb 40 "turned") .nil .nil) (.node (kO P 427) .nil .nil)) (.node mk3b (.node (mk1b "Board" 1028 298 644) .nil .nil) .nil)) (.node (kO P 65) (.node (kO P 133) (.node (kO P 298) .nil .nil) (.node (kO P 466) .nil .nil)) (.node mk3b (.node (kO P 383) .nil .nil) .nil))) (.node (kO P 33) (.node (mk7b 164) (.node (wFd (wCb 21) 0 "Earth.__init__") (.node mk3b .nil .nil) (.node (kO P 449) .nil .nil)) (.node (wFd (wCb 27) 5 "Net.earthed_bars") (.node (kO P 360) .nil .nil) .nil)) (.node mk3b (.node (kO P 151) (.node (wFd (wCb 45) 9 "Bundle.way_by") .nil .nil) (.node (wFd (wCb 75) 4 "Desk.done") .nil .nil)) (.node (kO P 235) (.node (kO P 405) .nil .nil) .nil)))) (.node (kO P 17) (.node mk0b (.node (kO P 49) (.node (kO P 108) (.node (kO P 269) .nil .nil) (.node (kO P 439) .nil .nil)) (.node (kO P 178) (.node (kO P 349) .nil .nil) .nil)) (.node (mk7b 212) (.node (kO P 140) (.node (kO P 310) .nil .nil) (.node (kO P 477) .nil .nil)) (.node (kO P 223) (.node mk3b .nil .nil) .nil))) (.node (mk7b 116) (.node mk0b (.node mk4b (.node (kO P 287) .nil .nil) (.node (kO P 459) .nil .nil)) (.node (mk7b 434) (.node (wFd (wCb 49) 6 "Board.lock") .nil .nil) .nil)) (.node (kO P 89) (.node (kO P 162) (.node (mk7b 626) .nil .nil) (.node (kO P 500) .nil .nil)) (.node (kO P 246) (.node (kO P 417) .nil .nil) .nil))))) (.node (kO P 9) (.node (mk7b 44) (.node (kO P 25) (.node (mk7b 140) (.node (kO P 102) (.node (kO P 263) .nil .nil) (.node (kO P 433) .nil .nil)) (.node (kO P 173) (.node (kO P 343) .nil .nil) .nil)) (.node mk0b (.node (mk7b 332) (.node (kO P 304) .nil .nil) (.node mk3b .nil .nil)) (.node (wFd wTb 31 "numbers_in") (.node (kO P 389) .nil .nil) .nil))) (.node mk0b (.node (kO P 57) (.node (kO P 120) (.node (kO P 281) .nil .nil) (.node (kO P 454) .nil .nil)) (.node (kO P 195) (.node (kO P 366) .nil .nil) .nil)) (.node (kO P 83) (.node (mk6b 365) (.node (kO P 326) .nil .nil) (.node (kO P 494) .nil .nil)) (.node mk3b (.node (kO P 411) .nil .nil) .nil)))) (.node mk0b (.node (mk7b 92) (.node mk0b (.node mk0b (.node mk0b .nil .nil) (.node mk3b .nil .nil)) (.node (kO P 184) (.node mk3b .nil .nil) .nil)) (.node (kO P 72) (.node mk3b (.node (kO P 315) .nil .nil) (.node (kO P 483) .nil .nil)) (.node (kO P 229) (.node (wFd wTb 52 "layer_behind") .nil .nil) .nil))) (.node (kO P 41) (.node (mk7b 188) (.node (kO P 127) (.node (wFd (wCb 45) 3 "Bundle.steps_by") .nil .nil) (.node (kO P 465) .nil .nil)) (.node (kO P 207) (.node (kO P 377) .nil .nil) .nil)) (.node (kO P 96) (.node mk0b (.node (wFd wTb 48 "own_earths") .nil .nil) .nil) (.node (kO P 252) (.node (wFd wTb 63 "numbers_told") .nil .nil) .nil)))))))))
def Smb(w:PySem.World)(os:PySem.OsState):PySem.W.SharedT:=⟨mtb w.params,892,PySem.Life.mk [] [] [] 0 [] [] false #[] [] 0 false false false 0 [2000,10,10] false 0 true [] [] 0 false,Array.mk [],PySem.Drawn.mk 0 0 0 0,1388,os⟩
theorem run0a(w:PySem.World)(os:PySem.OsState):PySem.W.segRunT PySem.treeTable PySem.Challenge.pw_earthward_k37_rows_make_a_yard (PySem.World.withFollow w "special-get-raises" false) 11 (some (.ref 6)) 1 4353 (My.Sb (PySem.World.withFollow w "special-get-raises" false) os) (PySem.W.piecesOf ((PySem.W.behindTheImports PySem.Challenge.pw_earthward_k37_rows_make_a_yard).take 22) My.tenv (.body (PySem.W.behindTheImports PySem.Challenge.pw_earthward_k37_rows_make_a_yard) My.tenv) ⟨0,0,0,0⟩ [PySem.W.topFrame ⟨0,0,0,0⟩])=some (.next,(My.Sm (PySem.World.withFollow w "special-get-raises" false) os),.body (PySem.W.behindTheImports PySem.Challenge.pw_earthward_k37_rows_make_a_yard) My.tenv,⟨58,0,64,28⟩):=by kernel_rfl
theorem run0b(w:PySem.World)(os:PySem.OsState):PySem.W.segRunT PySem.treeTable PySem.Challenge.pw_earthward_k37_rows_make_a_yard (PySem.World.withFollow w "special-get-raises" false) 11 (some (.ref 6)) 1 3823 (My.Sm (PySem.World.withFollow w "special-get-raises" false) os) (PySem.W.piecesOf (((PySem.W.behindTheImports PySem.Challenge.pw_earthward_k37_rows_make_a_yard).drop 22).take 55) My.tenv (.body (PySem.W.behindTheImports PySem.Challenge.pw_earthward_k37_rows_make_a_yard) My.tenv) ⟨58,0,64,28⟩ [PySem.W.topFrame ⟨0,0,0,0⟩])=some (.next,(My.Smb (PySem.World.withFollow w "special-get-raises" false) os),.body (PySem.W.behindTheImports PySem.Challenge.pw_earthward_k37_rows_make_a_yard) My.tenv,⟨546,0,546,8⟩):=by kernel_rfl
theorem run0x(w:PySem.World)(os:PySem.OsState):RunA PySem.Challenge.pw_earthward_k37_rows_make_a_yard (PySem.World.withFollow w "special-get-raises" false) 11 (some (.ref 6)) My.tenv ⟨0,0,0,0⟩ ⟨546,0,546,8⟩ ⟨594,0,607,15⟩ 661 5 (My.Smb (PySem.World.withFollow w "special-get-raises" false) os) (((PySem.W.behindTheImports PySem.Challenge.pw_earthward_k37_rows_make_a_yard).drop 22).drop 55) (chkA PySem.Challenge.pw_earthward_k37_rows_make_a_yard (PySem.World.withFollow w "special-get-raises" false) (PySem.W.Hook.obs (PySem.W.kHook My.pre.heap_39 My.wAl My.wHk))) (true,PySem.W.Hook.val (PySem.W.kHook My.pre.heap_39 My.wAl My.wHk) (PySem.World.withFollow w "special-get-raises" false)):=by kernel_rfl
theorem run0y(w:PySem.World)(os:PySem.OsState):RunA PySem.Challenge.pw_earthward_k37_rows_make_a_yard (PySem.World.withFollow w "special-get-raises" false) 11 (some (.ref 6)) My.tenv ⟨0,0,0,0⟩ ⟨546,0,546,8⟩ ⟨594,0,607,15⟩ 661 5 (My.Smb (PySem.World.withFollow w "special-get-raises" false) os) (((PySem.W.behindTheImports PySem.Challenge.pw_earthward_k37_rows_make_a_yard).drop 22).drop 55) (PySem.W.openSeen My.vw [(PySem.Str.ofString "NUMBERS_BEHIND")] (PySem.importedModules PySem.Challenge.pw_earthward_k37_rows_make_a_yard.main.body) (λs=>PySem.W.xlAt My.vw [] s&&PySem.W.recOk (PySem.Challenge.rw_earthward_k37_rows_make_a_yard).row.records s) true) (PySem.W.openGood My.vw [(PySem.Str.ofString "NUMBERS_BEHIND")]):=by kernel_rfl
theorem run1a(w:PySem.World)(os:PySem.OsState):PySem.W.segRunT PySem.treeTable PySem.Challenge.pw_earthward_k37_rows_make_a_yard (PySem.World.withFollow w "special-get-raises" true) 11 (some (.ref 6)) 1 4353 (My.Sb (PySem.World.withFollow w "special-get-raises" true) os) (PySem.W.piecesOf ((PySem.W.behindTheImports PySem.Challenge.pw_earthward_k37_rows_make_a_yard).take 22) My.tenv (.body (PySem.W.behindTheImports PySem.Challenge.pw_earthward_k37_rows_make_a_yard) My.tenv) ⟨0,0,0,0⟩ [PySem.W.topFrame ⟨0,0,0,0⟩])=some (.next,(My.Sm (PySem.World.withFollow w "special-get-raises" true) os),.body (PySem.W.behindTheImports PySem.Challenge.pw_earthward_k37_rows_make_a_yard) My.tenv,⟨58,0,64,28⟩):=by kernel_rfl
theorem run1b(w:PySem.World)(os:PySem.OsState):PySem.W.segRunT PySem.treeTable PySem.Challenge.pw_earthward_k37_rows_make_a_yard (PySem.World.withFollow w "special-get-raises" true) 11 (some (.ref 6)) 1 3823 (My.Sm (PySem.World.withFollow w "special-get-raises" true) os) (PySem.W.piecesOf (((PySem.W.behindTheImports PySem.Challenge.pw_earthward_k37_rows_make_a_yard).drop 22).take 55) My.tenv (.body (PySem.W.behindTheImports PySem.Challenge.pw_earthward_k37_rows_make_a_yard) My.tenv) ⟨58,0,64,28⟩ [PySem.W.topFrame ⟨0,0,0,0⟩])=some (.next,(My.Smb (PySem.World.withFollow w "special-get-raises" true) os),.body (PySem.W.behindTheImports PySem.Challenge.pw_earthward_k37_rows_make_a_yard) My.tenv,⟨546,0,546,8⟩):=by kernel_rfl
theorem run1x(w:PySem.World)(os:PySem.OsState):RunA PySem.Challenge.pw_earthward_k37_rows_make_a_yard (PySem.World.withFollow w "special-get-raises" true) 11 (some (.ref 6)) My.tenv ⟨0,0,0,0⟩ ⟨546,0,546,8⟩ ⟨594,0,607,15⟩ 661 5 (My.Smb (PySem.World.withFollow w "special-get-raises" true) os) (((PySem.W.behindTheImports PySem.Challenge.pw_earthward_k37_rows_make_a_yard).drop 22).drop 55) (chkA PySem.Challenge.pw_earthward_k37_rows_make_a_yard (PySem.World.withFollow w "special-get-raises" true) (PySem.W.Hook.obs (PySem.W.kHook My.pre.heap_39 My.wAl My.wHk))) (true,PySem.W.Hook.val (PySem.W.kHook My.pre.heap_39 My.wAl My.wHk) (PySem.World.withFollow w "special-get-raises" true)):=by kernel_rfl
theorem run1y(w:PySem.World)(os:PySem.OsState):RunA PySem.Challenge.pw_earthward_k37_rows_make_a_yard (PySem.World.withFollow w "special-get-raises" true) 11 (some (.ref 6)) My.tenv ⟨0,0,0,0⟩ ⟨546,0,546,8⟩ ⟨594,0,607,15⟩ 661 5 (My.Smb (PySem.World.withFollow w "special-get-raises" true) os) (((PySem.W.behindTheImports PySem.Challenge.pw_earthward_k37_rows_make_a_yard).drop 22).drop 55) (PySem.W.openSeen My.vw [(PySem.Str.ofString "NUMBERS_BEHIND")] (PySem.importedModules PySem.Challenge.pw_earthward_k37_rows_make_a_yard.main.body) (λs=>PySem.W.xlAt My.vw [] s&&PySem.W.recOk (PySem.Challenge.rw_earthward_k37_rows_make_a_yard).row.records s) true) (PySem.W.openGood My.vw [(PySem.Str.ofString "NUMBERS_BEHIND")]):=by kernel_rfl
theorem left:PySem.W.LeftO PySem.Challenge.pw_earthward_k37_rows_make_a_yard My.vw [(PySem.Str.ofString "NUMBERS_BEHIND")] (λs=>PySem.W.xlAt My.vw [] s&&PySem.W.recOk (PySem.Challenge.rw_earthward_k37_rows_make_a_yard).row.records s) (PySem.W.Hook.obs (PySem.W.kHook My.pre.heap_39 My.wAl My.wHk)) (PySem.W.Hook.val (PySem.W.kHook My.pre.heap_39 My.wAl My.wHk)) 9417 true:=My.left_split "special-get-raises" (by kernel_rfl) (by kernel_rfl) (λs=>rfl) (λw os=>My.top_tree (os:=os) (m₀:=11) (ann:=some (.ref 6)) (env:=My.tenv) (qp:=⟨0,0,0,0⟩) (pp:=⟨0,0,0,0⟩) (pb:=⟨0,0,0,0⟩) (n1:=12) (n2:=1) (n3:=8842) (Sa:=My.Sa (PySem.World.withFollow w "special-get-raises" false) os) (Sb:=My.Sb (PySem.World.withFollow w "special-get-raises" false) os) (by kernel_rfl) (by kernel_rfl) (by kernel_rfl) (My.ends_cut (j:=22) (My.run0a w os) (My.ends_cut (j:=55) (My.run0b w os) (My.ends_two (My.run0x w os) (My.run0y w os)))) (by kernel_rfl)) (λw os=>My.top_tree (os:=os) (m₀:=11) (ann:=some (.ref 6)) (env:=My.tenv) (qp:=⟨0,0,0,0⟩) (pp:=⟨0,0,0,0⟩) (pb:=⟨0,0,0,0⟩) (n1:=12) (n2:=1) (n3:=8842) (Sa:=My.Sa (PySem.World.withFollow w "special-get-raises" true) os) (Sb:=My.Sb (PySem.World.withFollow w "special-get-raises" true) os) (by kernel_rfl) (by kernel_rfl) (by kernel_rfl) (My.ends_cut (j:=22) (My.run1a w os) (My.ends_cut (j:=55) (My.run1b w os) (My.ends_two (My.run1x w os) (My.run1y w os)))) (by kernel_rfl))
end My
set_option maxHeartbeats 4000000
namespace L2
open PySem PySem.Spec PyProof.Rows
abbrev Key:=Sum Int Str
def jnc:Key->Value->Bool
 | .inl k,v=>Value.isInt k v
 | .inr x,v=>Value.isStrOf x v
def keyH(w:World):Key->Int
 | .inl k=>hashInt k
 | .inr x=>hashStr w x
theorem jbs:∀{k:Key} {v:Value},jnc k v=true->(∃i t,k=Sum.inl i /\ v=Value.int i t) \/ (∃x t,k=Sum.inr x /\ v=Value.str x t)
 | .inl i,v,h=>by
  obtain⟨t,e⟩:=Value.isInt_shape (k:=i) (v:=v) h
  exact .inl ⟨i,t,rfl,e⟩
 | .inr x,v,h=>by
  obtain⟨t,e⟩:=Value.isStrOf_shape (x:=x) (v:=v) h
  exact .inr ⟨x,t,rfl,e⟩
theorem jos(i:Int)(t:Tok):jnc (.inl i) (.int i t)=true:=by simp[jnc,Value.isInt]
theorem jq2(x:Str)(t:Tok):jnc (.inr x) (.str x t)=true:=by simp[jnc,Value.isStrOf]
theorem key_ll(a b:Int):decide ((Sum.inl a:Key)=Sum.inl b)=(a==b):=by
 by_cases e:a=b
 ·subst e;simp
 ·have h:¬(Sum.inl a:Key)=Sum.inl b:=λq=>e (Sum.inl.inj q)
  rw[decide_eq_false h]
  exact(beq_eq_false_iff_ne.mpr e).symm
theorem key_rr(a b:Str):decide ((Sum.inr a:Key)=Sum.inr b)=decide (a=b):=by
 by_cases e:a=b
 ·subst e;simp
 ·have h:¬(Sum.inr a:Key)=Sum.inr b:=λq=>e (Sum.inr.inj q)
  rw[decide_eq_false h,decide_eq_false e]
theorem key_lr(a:Int)(b:Str):decide ((Sum.inl a:Key)=Sum.inr b)=false:=decide_eq_false (λq=>nomatch q)
theorem key_rl(a:Str)(b:Int):decide ((Sum.inr a:Key)=Sum.inl b)=false:=decide_eq_false (λq=>nomatch q)
def jbw(prog:Program)(w:World):PySem.KeyKind prog w Key where
 is:=jnc
 hash:=keyH w
 inj:=λv a b ha hb=>by
  rcases jbs ha with⟨i,t,rfl,rfl⟩ | ⟨x,t,rfl,rfl⟩
  ·rcases jbs hb with⟨j,u,rfl,e⟩ | ⟨y,u,rfl,e⟩
   ·injection e with e1 _;rw[e1]
   ·exact nomatch e
  ·rcases jbs hb with⟨j,u,rfl,e⟩ | ⟨y,u,rfl,e⟩
   ·exact nomatch e
   ·injection e with e1 _;rw[e1]
 byValue:=λk v h=>by
  rcases jbs h with⟨i,t,rfl,rfl⟩ | ⟨x,t,rfl,rfl⟩<;>rfl
 pyHash:=λhv h=>by
  rcases jbs hv with⟨i,t,rfl,rfl⟩ | ⟨x,t,rfl,rfl⟩
  ·exact wpAny_pyHash_int h
  ·exact wpAny_pyHash_str h
 eqBool:=λhu hv h=>by
  rcases jbs hu with⟨i,t,rfl,rfl⟩ | ⟨x,t,rfl,rfl⟩
  ·rcases jbs hv with⟨j,u,rfl,rfl⟩ | ⟨y,u,rfl,rfl⟩
   ·rw[key_ll] at h;exact wpAny_eqBool_int h
   ·rw[key_lr] at h;exact SeqAt.EqAt.int_str i t y u _ _ _ _ h
  ·rcases jbs hv with⟨j,u,rfl,rfl⟩ | ⟨y,u,rfl,rfl⟩
   ·rw[key_rl] at h;exact SeqAt.EqAt.str_int x t j u _ _ _ _ h
   ·rw[key_rr] at h;exact wpAny_eqBool_str h
 «strs»:=λk x t v h=>by
  rcases jbs h with⟨i,u,rfl,e⟩ | ⟨y,u,rfl,e⟩
  ·exact nomatch e
  ·injection e with e1 _
   subst e1
   cases v<;>rfl
theorem jki(prog:Program)(w:World)(i:Int)(t:Tok):(jbw prog w).is (.inl i) (.int i t)=true:=jos i t
theorem jej(prog:Program)(w:World)(x:Str)(t:Tok):(jbw prog w).is (.inr x) (.str x t)=true:=jq2 x t
inductive V where
 | non | bl (b:Bool) | int (i:Int) | str (x:Str) | byt (b:Array UInt8) | flt (b:UInt64) | ref (a:Addr) | ty (n:String)
 deriving DecidableEq
def RelV:V->Value->Prop
 | .non,u=>u=Value.none
 | .bl b,u=>u=Value.bool b
 | .int i,u=>∃t,u=Value.int i t
 | .str x,u=>∃t,u=Value.str x t
 | .byt b,u=>∃t,u=Value.bytes b t
 | .flt b,u=>∃t,u=Value.float b t
 | .ref a,u=>u=Value.ref a
 | .ty n,u=>u=Value.type n
abbrev Vals:List V->List Value->Prop:=Paired RelV
theorem Vals.length{xs:List V}{us:List Value}(r:Vals xs us):xs.length=us.length:=Paired.length r
theorem Vals.get:∀{xs:List V} {us:List Value} {i:Nat} {x:V},Vals xs us->xs[i]?=some x->∃u,us[i]?=some u /\ RelV x u
 | _,_,_,_,.nil,e=>by simp at e
 | _,_,0,_,.cons r _,e=>by simp at e;subst e;exact⟨_,rfl,r⟩
 | _,_,i+1,x,.cons _ t,e=>by
  obtain⟨u,h1,h2⟩:=Vals.get (i:=i) (x:=x) t (by simpa using e)
  exact⟨u,by simpa using h1,h2⟩
theorem Vals.append:∀{xs ys:List V} {us ws:List Value},Vals xs us->Vals ys ws->Vals (xs++ys) (us++ws)
 | _,_,_,_,.nil,s=>s
 | _,_,_,_,.cons r t,s=> .cons r (Vals.append t s)
theorem Vals.take:∀{xs:List V} {us:List Value} (n:Nat),Vals xs us->Vals (xs.take n) (us.take n)
 | _,_,0,_=> .nil
 | _,_,_+1,.nil=> .nil
 | _,_,n+1,.cons r t=> .cons r (Vals.take n t)
theorem Vals.drop:∀{xs:List V} {us:List Value} (n:Nat),Vals xs us->Vals (xs.drop n) (us.drop n)
 | _,_,0,r=>r
 | _,_,_+1,.nil=> .nil
 | _,_,n+1,.cons _ t=>Vals.drop n t
def RelO:Option V->Option Value->Prop
 | some v,some u=>RelV v u
 | none,none=>True
 | _,_=>False
def KV{κ:Type}:List (κ×V)->List (κ×Value)->Prop:=Paired λ(p:κ×V) (q:κ×Value)=>p.1=q.1 /\ RelV p.2 q.2
def kV:Key->V
 | .inl i=> .int i
 | .inr x=> .str x
inductive HO where
 | lst (xs:List V)
 | tup (xs:List V)
 | dK (kvs:List (Key×V)) | dT (kvs:List (List Key×V))
 | set (S:Int->Bool) (n:Nat)
 | ins (C dx:Addr) (fs:List (Str×V))
 | own (x:Addr)
 | xd (fs:List (Str×V))
 | met (f x:Addr)
 | rng (lo hi:Int)
 | frz (o:Obj) (u:HO)
 | tbl (ps:Array Value)
 | ext (φ:Heap->Prop)
abbrev Hp:=Addr->Option HO
def upd(H:Hp)(a:Addr)(o:HO):Hp:=λb=>if b=a then some o else H b
theorem jax{H:Hp}{a:Addr}{o:HO}:upd H a o a=some o:=by unfold upd;rw[if_pos rfl]
theorem jad{H:Hp}{a b:Addr}{o:HO}(h:b≠a):upd H a o b=H b:=by unfold upd;rw[if_neg h]
theorem jbf{H:Hp}{a b:Addr}{o:HO}(h:H a=some o)(h':H b=none):a≠b:=by
 intro e;subst e;rw[h] at h';cases h'
section
variable (P : Program) (w : World)
def jc6(H:Hp)(h:Heap)(a:Addr):HO->Prop
 | .lst xs=>xs.length<=sizeLine /\ ∃(its:List Value) (n:Nat),Vals xs its /\ h.get? a=some {cls:= .type "list",data:= .seq its.toArray n}
 | .tup xs=>xs.length<=sizeLine /\ ∃its:List Value,Vals xs its /\ IsTup h a its.toArray
 | .dK kvs=>kvs.length<=sizeLine /\ (a==sysModules)=false /\ ∃vs,KV kvs vs /\ h.DictOf (jbw P w) a vs
 | .dT kvs=>kvs.length<=sizeLine /\ (a==sysModules)=false /\ ∃xs:List (List Key×Addr×Value),
   Paired (λ(p:List Key×V) (q:List Key×Addr×Value)=>p.1=q.1 /\ H q.2.1=some (.tup (p.1.map kV)) /\ RelV p.2 q.2.2) kvs xs /\
   ∃o es ep,h.get? a=some o /\ o.ExactDict /\ o.data= .dict es ep /\ es.toList=xs.map (entryOfKey (tupleKind (jbw P w))) /\ (xs.map (·.1)).Nodup
 | .set S n=>h.SetOf (intKind P w) a S n
 | .ins C dx fs=>H dx=some (.own a) /\ fs.length<=1000 /\ dx≠a /\ h.get? a=some (W.instObj C dx) /\
   ∃mA,h.Ns1 dx mA /\ (∀f,RelO (fs.lookup f) (mA f)) /\ PySem.Within mA (fs.map (·.1))
 | .own _=>∃o,h.get? a=some o
 | .xd fs=>∃mA,h.Ns1 a mA /\ ∀f,RelO (fs.lookup f) (mA f)
 | .rng lo hi=>∃t u v,h.get? a=some {cls:= .type "range",data:= .fields #[.int lo t,.int hi u,.int 1 v]}
 | .frz o u=>h.get? a=some o /\ jc6 H h a u
 | .tbl ps=>h.get? a=some {cls:= .none,data:= .fields ps}
 | .met f x=>h.get? a=some (W.methodObj (.ref f) (.ref x))
 | .ext φ=>φ h /\ (∃o,h.get? a=some o) /\ ∀h1 h2:Heap,φ h1->(∀o,h1.get? a=some o->h2.get? a=some o)->φ h2
def HOk(H:Hp)(h:Heap):Prop:=∀a o,H a=some o->jc6 P w H h a o
end
section
variable {P : Program} {w : World} {H H' : Hp} {h h' : Heap} {a : Addr} {o : HO}
theorem jc6.lt(x:jc6 P w H h a o):a<h.objs.size:=by
 cases o with
 | lst xs=>obtain⟨_,_,_,_,e⟩:=x;exact Heap.lt_size e
 | tup xs=>obtain⟨_,_,_,p⟩:=x;exact p.lt
 | dK kvs=>obtain⟨_,_,_,_,o,_,_,e,_⟩:=x;exact Heap.lt_size e
 | dT kvs=>obtain⟨_,_,_,_,o,_,_,e,_⟩:=x;exact Heap.lt_size e
 | set S n=>obtain⟨o,_,_,_,e,_⟩:=x;exact Heap.lt_size e
 | ins C dx fs=>obtain⟨_,_,_,e,_⟩:=x;exact Heap.lt_size e
 | own y=>obtain⟨_,e⟩:=x;exact Heap.lt_size e
 | xd fs=>obtain⟨_,⟨_,_,_,e,_⟩,_⟩:=x;exact Heap.lt_size e
 | rng lo hi=>obtain⟨_,_,_,e⟩:=x;exact Heap.lt_size e
 | frz ob u=>obtain⟨e,_⟩:=x;exact Heap.lt_size e
 | tbl ps=>exact Heap.lt_size (show h.get? a=some _ from x)
 | met f y=>exact Heap.lt_size (show h.get? a=some _ from x)
 | ext φ=>obtain⟨_,⟨_,e⟩,_⟩:=x;exact Heap.lt_size e
theorem Paired.mapP{α β:Type}{F G:α->β->Prop}:∀{l₁:List α} {l₂:List β},Paired F l₁ l₂->(∀a b,F a b->G a b)->Paired G l₁ l₂
 | _,_,.nil,_=> .nil
 | _,_,.cons r t,f=> .cons (f _ _ r) (Paired.mapP t f)
theorem jc6.stay(x:jc6 P w H h a o)(k:∀b u,(b=a \/ H b=some (.own a))->h.get? b=some u->h'.get? b=some u)
  (ho:∀b,H b=some (.own a)->H' b=some (.own a)) (ht:∀b xs,H b=some (.tup xs)->H' b=some (.tup xs)):jc6 P w H' h' a o:=by
 induction o with
 | lst xs=>obtain⟨z,its,n,r,e⟩:=x;exact⟨z,its,n,r,k _ _ (.inl rfl) e⟩
 | tup xs=>obtain⟨z,its,r,ob,e,c⟩:=x;exact⟨z,its,r,ob,k _ _ (.inl rfl) e,c⟩
 | dK kvs=>obtain⟨z,y,vs,r,ob,es,ep,e,c⟩:=x;exact⟨z,y,vs,r,ob,es,ep,k _ _ (.inl rfl) e,c⟩
 | dT kvs=>
  obtain⟨z,y,xs,r,ob,es,ep,e,c⟩:=x
  exact⟨z,y,xs,Paired.mapP r λp q z=>⟨z.1,ht _ _ z.2.1,z.2.2⟩,ob,es,ep,k _ _ (.inl rfl) e,c⟩
 | set S n=>obtain⟨ob,es,ep,t,e,c⟩:=x;exact⟨ob,es,ep,t,k _ _ (.inl rfl) e,c⟩
 | ins C dx fs=>
  obtain⟨d,z,ne,e,mA,⟨od,es,ep,e2,c⟩,r⟩:=x
  exact⟨ho _ d,z,ne,k _ _ (.inl rfl) e,mA,⟨od,es,ep,k _ _ (.inr d) e2,c⟩,r⟩
 | own y=>obtain⟨ob,e⟩:=x;exact⟨ob,k _ _ (.inl rfl) e⟩
 | xd fs=>obtain⟨mA,⟨od,es,ep,e,c⟩,r⟩:=x;exact⟨mA,⟨od,es,ep,k _ _ (.inl rfl) e,c⟩,r⟩
 | rng lo hi=>obtain⟨t,u,v,e⟩:=x;exact⟨t,u,v,k _ _ (.inl rfl) e⟩
 | frz ob u ih=>obtain⟨e,q⟩:=x;exact⟨k _ _ (.inl rfl) e,ih q⟩
 | tbl ps=>
  have e:h.get? a=some {cls:= .none,data:= .fields ps}:=x
  show h'.get? a=some {cls:= .none,data:= .fields ps}
  exact k a _ (.inl rfl) e
 | met f y=>
  have e:h.get? a=some (W.methodObj (.ref f) (.ref y)):=x
  show h'.get? a=some (W.methodObj (.ref f) (.ref y))
  exact k a _ (.inl rfl) e
 | ext φ=>obtain⟨p,⟨o,e⟩,st⟩:=x;exact⟨st _ _ p λo q=>k _ _ (.inl rfl) q,⟨o,k _ _ (.inl rfl) e⟩,st⟩
theorem HOk.lt(x:HOk P w H h)(e:H a=some o):a<h.objs.size:=(x a o e).lt
theorem HOk.fresh(x:HOk P w H h)(e:h.objs.size<=a):H a=none:=by
 cases q:H a with
 | none=>rfl
 | some u=>exact absurd (Nat.lt_of_lt_of_le (x.lt q) e) (Nat.lt_irrefl _)
theorem HOk.kept(x:HOk P w H h)(k:∀b u,h.get? b=some u->h'.get? b=some u):HOk P w H h':=λa o e=>
 (x a o e).stay (λb u _ q=>k b u q) (λ_ q=>q) λ_ _ q=>q
theorem HOk.laid(x:HOk P w H h)(k:∀b u,h.get? b=some u->h'.get? b=some u)(hp:h.objs.size<=a)(new:jc6 P w (upd H a o) h' a o):HOk P w (upd H a o) h':=λb u e=>by
 have hn:=x.fresh hp
 by_cases hb:b=a
 ·subst hb;rw[jax] at e;cases e;exact new
 ·rw[jad hb] at e
  exact(x b u e).stay (λc v _ q=>k c v q) (λc q=>by rw[jad (jbf q hn)];exact q) λc xs q=>by rw[jad (jbf q hn)];exact q
end
def Rd(H:Hp)(a:Addr)(u:HO):Prop:=H a=some u \/ ∃o,H a=some (.frz o u)
theorem Rd.ok{P:Program}{w:World}{H:Hp}{h:Heap}{a:Addr}{u:HO}(r:Rd H a u)(x:HOk P w H h):jc6 P w H h a u:=by
 rcases r with r | ⟨o,r⟩
 ·exact x a u r
 ·obtain⟨_,q⟩:=x a _ r
  exact q
def Mut:Option HO->Prop
 | some (.lst _)=>True
 | some (.dK _)=>True
 | some (.dT _)=>True
 | some (.set _ _)=>True
 | some (.ins _ _ _)=>True
 | some (.ext _)=>True
 | _=>False
section
variable {P : Program} {w : World} {H : Hp} {h h' : Heap} {x e : Addr} {o' : HO}
theorem HOk.write(ok:HOk P w H h)(mu:Mut (H x))(he:e=x \/ H e=some (.own x))(k:∀b u,b≠e->h.get? b=some u->h'.get? b=some u)(heo:∃u,h'.get? e=some u)
  (new:jc6 P w (upd H x o') h' x o'):HOk P w (upd H x o') h':=λb u q=>by
 have nown:∀c y,H c=some (.own y)->c≠x:=λc y r z=>by subst z;rw[r] at mu;exact mu
 have ntup:∀c xs,H c=some (.tup xs)->c≠x:=λc xs r z=>by subst z;rw[r] at mu;exact mu
 by_cases hb:b=x
 ·subst hb;rw[jax] at q;cases q;exact new
 ·rw[jad hb] at q
  by_cases hbe:b=e
  ·have q':H b=some (.own x):=by
    rcases he with z | z
    ·exact absurd (hbe.trans z) hb
    ·rw[hbe];exact z
   rw[q] at q';cases q'
   obtain⟨v,hv⟩:=heo
   exact⟨v,by rw[hbe];exact hv⟩
  ·refine(ok b u q).stay (λc v hc r=>k c v ?_ r) (λc r=>by rw[jad (nown c b r)];exact r) λc xs r=>by rw[jad (ntup c xs r)];exact r
   rcases hc with rfl | hc
   ·exact hbe
   ·rintro rfl
    rcases he with z | z
    ·exact nown c b hc z
    ·rw[hc] at z;cases z;exact hb rfl
end
structure Un (fs ex:List Addr) (H H':Hp) (h h':Heap):Prop where
 keep:∀b o,h.get? b=some o->H b=none->b∉fs->b∉ex->h'.get? b=some o
 slot:∀b o,h.get? b=some o->H b=none->b∈fs->b∉ex->∃sl,h'.get? b=some {o with slots:=sl}
 free:∀b o,h.get? b=some o->H b=none->b∉ex->H' b=none
 there:∀b o,h.get? b=some o->b∉ex->∃o',h'.get? b=some o'
 tups:∀b xs,H b=some (.tup xs)->H' b=some (.tup xs)
 frzs:∀b o u,H b=some (.frz o u)->H' b=some (.frz o u)
 tbls:∀b ps,H b=some (.tbl ps)->∃more,H' b=some (.tbl (ps++more))
section
variable {fs fs' ex ex' : List Addr} {H H1 H2 : Hp} {h h1 h2 h' : Heap} {a x e : Addr} {o : HO}
theorem Un.any(u:Un fs ex H H1 h h1){b:Addr}{ob:Obj}(q:h.get? b=some ob)(n:H b=none)(hx:b∉ex):∃sl,h1.get? b=some {ob with slots:=sl}:=by
 by_cases hb:b∈fs
 ·exact u.slot b ob q n hb hx
 ·exact⟨ob.slots,u.keep b ob q n hb hx⟩
theorem Un.kept(k:∀b u,h.get? b=some u->h'.get? b=some u):Un fs ex H H h h':=
 ⟨λb ob q _ _ _=>k b ob q,λb ob q _ _ _=>⟨ob.slots,k b ob q⟩,λ_ _ _ n _=>n,λb ob q _=>⟨ob,k b ob q⟩,λ_ _ q=>q,λ_ _ _ q=>q,λ_ ps q=>⟨#[],by rw[q];simp⟩⟩
theorem Un.refl:Un fs ex H H h h:=Un.kept λ_ _ q=>q
theorem Un.laid(k:∀b u,h.get? b=some u->h'.get? b=some u)(hp:h.objs.size<=a)(hn:H a=none):Un fs ex H (upd H a o) h h' where
 keep:=λb u q _ _ _=>k b u q
 slot:=λb u q _ _ _=>⟨u.slots,k b u q⟩
 free:=λb u q n _=>by rw[jad (Nat.ne_of_lt (Nat.lt_of_lt_of_le (Heap.lt_size q) hp))];exact n
 there:=λb u q _=>⟨u,k b u q⟩
 tups:=λb xs q=>by rw[jad (jbf q hn)];exact q
 frzs:=λb u xs q=>by rw[jad (jbf q hn)];exact q
 tbls:=λb ps q=>⟨#[],by rw[jad (jbf q hn),q];simp⟩
theorem Un.write(mu:Mut (H x))(he:e=x \/ H e=some (.own x))(k:∀b u,b≠e->h.get? b=some u->h'.get? b=some u)(heo:∃u,h'.get? e=some u):Un fs ex H (upd H x o) h h':=by
 have hx:∀b,H b=none->b≠x:=λb n z=>by subst z;rw[n] at mu;exact mu
 have hb:∀b,H b=none->b≠e:=λb n z=>by
  subst z
  rcases he with r | r
  ·exact hx b n r
  ·rw[n] at r;cases r
 have hm:∀b u,H b=some u->¬Mut (some u)->b≠x:=λb u q nm z=>by subst z;rw[q] at mu;exact nm mu
 refine⟨λb u q n _ _=>k b u (hb b n) q,λb u q n _ _=>⟨u.slots,k b u (hb b n) q⟩,λb u q n _=>by rw[jad (hx b n)];exact n,λb u q _=> ?_,
  λb xs q=>by rw[jad (hm b _ q λz=>z)];exact q,λb u xs q=>by rw[jad (hm b _ q λz=>z)];exact q,λb ps q=>⟨#[],by rw[jad (hm b _ q λz=>z),q];simp⟩⟩
 by_cases hbe:b=e
 ·subst hbe;exact heo
 ·exact⟨u,k b u hbe q⟩
end
def trk(h:Heap)(H:Hp):List Addr:=(List.range h.objs.size).filter λa=>(H a).isSome
def hidT(h:Heap)(H:Hp):Heap:=W.hideAll h (trk h H)
theorem jo1(h:Heap)(H:Hp):(hidT h H).objs.size=h.objs.size:=W.hideAll_size _ _
theorem jqs{h:Heap}{H:Hp}{b:Addr}{o:Obj}(e:h.get? b=some o)(n:H b=none):(hidT h H).get? b=some o:=
 W.hideAll_get _ e λhm=>by
  have q:(H b).isSome=true:=(List.mem_filter.mp hm).2
  rw[n] at q;simp at q
theorem jww{h:Heap}{H:Hp}{b:Addr}{o:Obj}(e:(hidT h H).get? b=some o):h.get? b=some o /\ H b=none:=by
 have e':h.get? b=some o:=W.of_hideAll (trk h H) e
 refine⟨e',?_⟩
 cases q:H b with
 | none=>rfl
 | some x=>
  have hm:b∈trk h H:=List.mem_filter.mpr ⟨List.mem_range.mpr (Heap.lt_size e'),by simp[q]⟩
  have z:(hidT h H).get? b=none:=W.hideAll_none (trk h H) hm
  rw[z] at e;cases e
structure Mod (K:W.Frag) (mg:Str->Option Value) (base:Heap):Prop where
 kin:K.In base
 glob:base.Ns mainGlobals mg
 blt:∃mb,base.Ns builtinsNs mb /\ ∀x:Str,x≠"__name__"->mb x=bootBuiltins x
 nolimit:base.NoLimit
structure Cx where
 prog:Program
 w:World
 K:W.Frag
 mg:Str->Option Value
 base:Heap
 A:Around
 N:List Str
 s₀:Shared
 H₀:Hp
 env:Env
 outer:List Env
 stack:List Env
 ex:List Addr
 fn:Str->Bool
 calm:Bool
 pn:List (Addr×Obj)
 xe:Value->Shared->Prop
def frs(l:List Env):List Addr:=l.filterMap (·.frame)
abbrev Cx.fs(X:Cx):List Addr:=frs X.outer
def Vis(sc:Scope)(x:Str):Prop:=sc.names.lookup x=some .local \/ sc.names.lookup x=some .cell \/ sc.names.lookup x=some .free
def Loc(sc:Scope)(x:Str):Prop:=sc.names.lookup x=some .local \/ sc.names.lookup x=some .cell
def Look(env:Env)(h:Heap)(m:Str->Option Value)(x:Str)(u:Value):Prop:=
 (env.kindOf x=some .local /\ m x=some u) \/ ((env.kindOf x=some .cell \/ env.kindOf x=some .free) /\ ∃c,env.cells.lookup x=some c /\ h.IsCell c (some u))
structure Cx.Ok (X:Cx):Prop where
 mod:Mod X.K X.mg X.base
 kind:X.env.scope.kind= .function
 glob:X.env.globals=mainGlobals
 blt:X.env.builtins=builtinsNs
 above:X.s₀.heap.objs.size<=X.env.locals
 inj:∀x y c,X.env.cells.lookup x=some c->X.env.cells.lookup y=some c->x=y
 has:∀x,(X.env.kindOf x=some .cell \/ X.env.kindOf x=some .free)->∃c,X.env.cells.lookup x=some c
 cab:∀x c,X.fn x=true->X.env.cells.lookup x=some c->X.s₀.heap.objs.size<=c
 hd:X.calm=true->X.A.handled=none
 frames:X.A.frames=some X.stack
 stk:X.stack=X.outer \/ (X.stack=X.env::X.outer /\ X.env.frame=some X.env.locals)
 exf:∀b∈X.ex,b≠X.env.locals /\ ∀x c,X.env.cells.lookup x=some c->c≠b
 bs:∀b o,X.base.get? b=some o->X.s₀.heap.get? b=some o /\ X.H₀ b=none
 bsz:X.base.objs.size<=X.s₀.heap.objs.size
 noex:∀b o,X.base.get? b=some o->b∉X.ex
 exfs:∀b∈X.ex,b∉X.fs
 funs:X.s₀.heap.FunFrames X.base X.outer
 frf:∀b∈X.fs,X.H₀ b=none
structure Inv (X:Cx) (pins:List (Addr×Obj)) (σ:List (Option V)) (H:Hp) (s:Shared):Prop where
 ok:X.Ok
 os:s.os=X.s₀.os
 bare:AllBare s.gens
 base:Un X.fs X.ex X.H₀ H X.s₀.heap s.heap
 loc:∃m,s.heap.Ns X.env.locals m /\ ∀(i:Nat) (x:Str) (v:V),X.N[i]?=some x->σ[i]?=some (some v)->Vis X.env.scope x->∃u,RelV v u /\ Look X.env s.heap m x u
 cell:∀x c,X.env.cells.lookup x=some c->∃v,s.heap.IsCell c v
 free:H X.env.locals=none
 freeC:∀x c,X.env.cells.lookup x=some c->H c=none
 pin:∀p∈X.pn++pins,s.heap.get? p.1=some p.2 /\ H p.1=none /\ p.1≠X.env.locals /\ p.1∉X.fs /\ ∀v,p.2.data≠ .cell v
 hok:HOk X.prog X.w H s.heap
 len:σ.length=X.N.length
section
variable {X : Cx} {pins : List (Addr × Obj)} {σ : List (Option V)} {H H' : Hp} {s : Shared} {h' : Heap}
theorem Cx.Ok.nofr(ok:X.Ok){b:Addr}{o:Obj}(e:X.base.get? b=some o):b∉X.fs:=λhb=>by
 have:=(ok.funs.mem hb).1
 rw[e] at this;cases this
theorem Inv.bs(I:Inv X pins σ H s):∀b o,X.base.get? b=some o->s.heap.get? b=some o /\ H b=none:=λb o e=>
 ⟨I.base.keep b o (I.ok.bs b o e).1 (I.ok.bs b o e).2 (I.ok.nofr e) (I.ok.noex b o e),I.base.free b o (I.ok.bs b o e).1 (I.ok.bs b o e).2 (I.ok.noex b o e)⟩
theorem Inv.bk(I:Inv X pins σ H s):∀b o,X.base.get? b=some o->s.heap.get? b=some o:=λb o e=>(I.bs b o e).1
theorem Inv.mod(I:Inv X pins σ H s):Mod X.K X.mg X.base:=I.ok.mod
theorem Inv.kIn(I:Inv X pins σ H s):X.K.In s.heap:=I.ok.mod.kin.keeps I.bk
theorem Inv.lt(I:Inv X pins σ H s):X.env.locals<s.heap.objs.size:=let ⟨_,hn,_⟩:=I.loc;hn.lt
theorem Inv.sz(I:Inv X pins σ H s):X.s₀.heap.objs.size<=s.heap.objs.size:=Nat.le_trans I.ok.above (Nat.le_of_lt I.lt)
theorem Inv.nofs(I:Inv X pins σ H s){a:Addr}(h:s.heap.objs.size<=a):a∉X.fs:=λhb=>by
 obtain⟨_,o,ho,_⟩:=I.ok.funs.mem hb
 exact absurd (Nat.lt_of_lt_of_le (Heap.lt_size ho) (Nat.le_trans I.sz h)) (Nat.lt_irrefl _)
theorem Inv.cne(I:Inv X pins σ H s):∀x c,X.env.cells.lookup x=some c->c≠X.env.locals:=λx c e z=>by
 obtain⟨v,o,ho,hd⟩:=I.cell x c e
 obtain⟨m,⟨o',es,ep,ho',hd',_⟩,_⟩:=I.loc
 rw[z,ho'] at ho;cases ho;rw[hd'] at hd;cases hd
theorem Inv.funs(I:Inv X pins σ H s):s.heap.FunFrames X.base X.outer:=by
 have all:∀(l:List Env),(∀b∈frs l,b∈X.fs)->X.s₀.heap.FunFrames X.base l->s.heap.FunFrames X.base l:=by
  intro l
  induction l with
  | nil=>intro _ _;trivial
  | cons env r ih=>
   intro hs hl
   obtain⟨hk,⟨L,o,hf,hn,ho,hd⟩,hr⟩:=hl
   have hL:L∈X.fs:=hs L (by unfold frs;rw[List.filterMap_cons,hf];exact List.mem_cons_self)
   obtain⟨sl,e⟩:=I.base.slot L o ho (I.ok.frf L hL) hL λz=>I.ok.exfs L z hL
   exact⟨hk,⟨L,_,hf,hn,e,hd⟩,ih (λb hb=>hs b (by unfold frs;rw[List.filterMap_cons,hf];exact List.mem_cons_of_mem _ hb)) hr⟩
 exact all X.outer (λ_ hb=>hb) I.ok.funs
theorem Inv.stack(I:Inv X pins σ H s):s.heap.FunFrames X.base X.stack:=by
 rcases I.ok.stk with e | ⟨e,hf⟩
 ·rw[e];exact I.funs
 ·rw[e]
  obtain⟨m,hn,_⟩:=I.loc
  refine .cons (by rw[I.ok.kind];decide) hf hn ?_ I.funs
  exact Heap.get?_none_of_le (Nat.le_trans I.ok.bsz I.ok.above)
theorem Inv.stkSub(I:Inv X pins σ H s):∀b∈frs X.stack,b∈X.env.locals::X.fs:=λb hb=>by
 rcases I.ok.stk with e | ⟨e,hf⟩
 ·rw[e] at hb;exact List.mem_cons_of_mem _ hb
 ·rw[e] at hb
  unfold frs at hb
  rw[List.filterMap_cons,hf] at hb
  exact hb
theorem Inv.stkFree(I:Inv X pins σ H s):∀b∈frs X.stack,H b=none:=λb hb=>by
 rcases List.mem_cons.mp (I.stkSub b hb) with e | hb
 ·rw[e];exact I.free
 ·obtain⟨_,o,ho,_⟩:=I.ok.funs.mem hb
  exact I.base.free b o ho (I.ok.frf b hb) λz=>I.ok.exfs b z hb
theorem Inv.step{g':Array GenState}{t':Nat}{d':Drawn}{ch:List Addr}(I:Inv X pins σ H s)
  (hch:∀b∈ch,(b∈X.ex \/ X.s₀.heap.objs.size<=b) /\ b≠X.env.locals /\ (∀x c,X.env.cells.lookup x=some c->c≠b) /\ ∀p∈X.pn++pins,p.1≠b)
  (keep:∀b o,b≠X.env.locals->b∉X.fs->b∉ch->s.heap.get? b=some o->H b=none->h'.get? b=some o)
  (slot:∀b o,b≠X.env.locals->b∈X.fs->b∉ch->s.heap.get? b=some o->H b=none->∃sl,h'.get? b=some {o with slots:=sl}) (free:∀b o,b∉ch->s.heap.get? b=some o->H b=none->H' b=none)
  (there:∀b o,b∉ch->s.heap.get? b=some o->∃o',h'.get? b=some o')
  (tups:∀b xs,H b=some (.tup xs)->H' b=some (.tup xs)) (frzs:∀b o u,H b=some (.frz o u)->H' b=some (.frz o u)) (tbls:∀b ps,H b=some (.tbl ps)->∃more,H' b=some (.tbl (ps++more)))
  (ns:∀m,s.heap.Ns X.env.locals m->h'.Ns X.env.locals m) (hok:HOk X.prog X.w H' h') (hg:AllBare g'):
  Inv X pins σ H' {s with heap:=h',gens:=g',drawn:=d',toks:=t'}:=by
 have neL:∀b o,X.s₀.heap.get? b=some o->b≠X.env.locals:=λb o e=>Nat.ne_of_lt (Nat.lt_of_lt_of_le (Heap.lt_size e) I.ok.above)
 have neC:∀b o,X.s₀.heap.get? b=some o->b∉X.ex->b∉ch:=λb o e hx hb=>by
  rcases(hch b hb).1 with z | z
  ·exact hx z
  ·exact absurd (Nat.lt_of_lt_of_le (Heap.lt_size e) z) (Nat.lt_irrefl _)
 have cellK:∀x c,X.env.cells.lookup x=some c->∀v,s.heap.IsCell c v->h'.IsCell c v:=λx c e v ⟨o,ho,hd⟩=>by
  have nch:c∉ch:=λz=>(hch c z).2.2.1 x c e rfl
  by_cases hc:c∈X.fs
  ·obtain⟨sl,q⟩:=slot c o (I.cne x c e) hc nch ho (I.freeC x c e)
   exact⟨_,q,hd⟩
  ·exact⟨o,keep c o (I.cne x c e) hc nch ho (I.freeC x c e),hd⟩
 refine⟨I.ok,I.os,hg,⟨λb o e n hb hx=> ?_,λb o e n hb hx=> ?_,λb o e n hx=> ?_,λb o e hx=> ?_,λb xs e=>tups b xs (I.base.tups b xs e),λb o xs e=>frzs b o xs (I.base.frzs b o xs e),λb ps e=> ?_⟩,?_,λx c e=> ?_,?_,λx c e=> ?_,λp hp=> ?_,hok,I.len⟩
 ·exact keep b o (neL b o e) hb (neC b o e hx) (I.base.keep b o e n hb hx) (I.base.free b o e n hx)
 ·obtain⟨sl,e1⟩:=I.base.slot b o e n hb hx
  obtain⟨sl',e2⟩:=slot b _ (neL b o e) hb (neC b o e hx) e1 (I.base.free b o e n hx)
  exact⟨sl',e2⟩
 ·obtain⟨o',e1⟩:=I.base.there b o e hx
  exact free b o' (neC b o e hx) e1 (I.base.free b o e n hx)
 ·obtain⟨o',e1⟩:=I.base.there b o e hx
  exact there b o' (neC b o e hx) e1
 ·obtain⟨m1,e1⟩:=I.base.tbls b ps e
  obtain⟨m2,e2⟩:=tbls b _ e1
  exact⟨m1++m2,by rw[e2,Array.append_assoc]⟩
 ·obtain⟨m,hn,hl⟩:=I.loc
  refine⟨m,ns m hn,λi x v e1 e2 e3=> ?_⟩
  obtain⟨u,r,l⟩:=hl i x v e1 e2 e3
  refine⟨u,r,?_⟩
  rcases l with l | ⟨k,c,e,z⟩
  ·exact .inl l
  ·exact .inr ⟨k,c,e,cellK x c e _ z⟩
 ·obtain⟨v,z⟩:=I.cell x c e
  exact⟨v,cellK x c e v z⟩
 ·obtain⟨m,⟨o,_,_,ho,_⟩,_⟩:=I.loc
  exact free _ o (λz=>(hch _ z).2.1 rfl) ho I.free
 ·obtain⟨v,o,ho,hd⟩:=I.cell x c e
  exact free c o (λz=>(hch c z).2.2.1 x c e rfl) ho (I.freeC x c e)
 ·obtain⟨e,n,ne,nf,d⟩:=I.pin p hp
  have nch:p.1∉ch:=λz=>(hch p.1 z).2.2.2 p hp rfl
  exact⟨keep p.1 p.2 ne nf nch e n,free p.1 p.2 nch e n,ne,nf,d⟩
theorem Inv.un{t':Nat}(I:Inv X pins σ H s)(u:Un X.fs [] H H' s.heap h')(hok:HOk X.prog X.w H' h'):Inv X pins σ H' {s with heap:=h',toks:=t'}:=by
 obtain⟨m,⟨o,es,ep,ho,r⟩,_⟩:=id I.loc
 obtain⟨sl,hL⟩:=u.any ho I.free (by simp)
 exact I.step (g':=s.gens) (d':=s.drawn) (ch:=[]) (λ_ z=>nomatch z) (λb o _ hb _ e n=>u.keep b o e n hb (by simp)) (λb o _ hb _ e n=>u.slot b o e n hb (by simp)) (λb o _ e n=>u.free b o e n (by simp)) (λb o _ e=>u.there b o e (by simp)) u.tups u.frzs u.tbls (λm' hm=>by
  obtain⟨o',es',ep',ho',r'⟩:=hm
  rw[ho] at ho';cases ho'
  exact⟨_,es',ep',hL,r'⟩) hok I.bare
theorem Inv.call{g':Array GenState}{t':Nat}{d':Drawn}{ch:List Addr}(I:Inv X pins σ H s)(u:Un (frs X.stack) ch H H' s.heap h')(hok:HOk X.prog X.w H' h')(hg:AllBare g')
  (hch:∀b∈ch,(b∈X.ex \/ X.s₀.heap.objs.size<=b) /\ b≠X.env.locals /\ (∀x c,X.env.cells.lookup x=some c->c≠b) /\ ∀p∈X.pn++pins,p.1≠b):
  Inv X pins σ H' {s with heap:=h',gens:=g',drawn:=d',toks:=t'}:=by
 obtain⟨m,⟨o,es,ep,ho,r⟩,_⟩:=id I.loc
 obtain⟨sl,hL⟩:=u.any ho I.free λz=>(hch _ z).2.1 rfl
 exact I.step (ch:=ch) hch (λb o hL hb hc e n=>u.keep b o e n (λz=>(List.mem_cons.mp (I.stkSub b z)).elim hL hb) hc) (λb o _ _ hc e n=>u.any e n hc) (λb o hc e n=>u.free b o e n hc) (λb o hc e=>u.there b o e hc) u.tups u.frzs u.tbls (λm' hm=>by
  obtain⟨o',es',ep',ho',r'⟩:=hm
  rw[ho] at ho';cases ho'
  exact⟨_,es',ep',hL,r'⟩) hok hg
theorem Inv.turned{t':Nat}{it:Addr}(I:Inv X pins σ H s)(k:∀b o,b≠it->s.heap.get? b=some o->h'.get? b=some o)(hn:H it=none)(hL:it≠X.env.locals)
  (h1:it∈X.ex \/ X.s₀.heap.objs.size<=it) (h2:∀x c,X.env.cells.lookup x=some c->c≠it) (h3:∀p∈X.pn++pins,p.1≠it):Inv X pins σ H {s with heap:=h',toks:=t'}:=by
 have nit:∀b u,H b=some u->b≠it:=λb u e z=>by rw[z,hn] at e;cases e
 refine I.step (g':=s.gens) (d':=s.drawn) (ch:=[it]) (λb hb=> ?_) (λb o _ _ hc e _=>k b o (λz=>hc (by simp[z])) e) (λb o _ _ hc e _=>⟨o.slots,k b o (λz=>hc (by simp[z])) e⟩) (λ_ _ _ _ n=>n)
  (λb o hc e=>⟨o,k b o (λz=>hc (by simp[z])) e⟩) (λ_ _ e=>e) (λ_ _ _ e=>e) (λb ps e=>⟨#[],by rw[e];simp⟩) (λm hm=> ?_) (λb u e=> ?_) I.bare
 ·have e:b=it:=by simpa using hb
  subst e
  exact⟨h1,hL,h2,h3⟩
 ·obtain⟨o,es,ep,ho,r⟩:=hm
  exact⟨o,es,ep,k _ o (Ne.symm hL) ho,r⟩
 ·refine(I.hok b u e).stay (λc v hc q=>k c v ?_ q) (λ_ q=>q) λ_ _ q=>q
  rcases hc with z | z
  ·rw[z];exact nit b u e
  ·exact nit c _ z
theorem Inv.tok(I:Inv X pins σ H s)(t:Nat):Inv X pins σ H {s with toks:=t}:=I.un (h':=s.heap) (t':=t) Un.refl I.hok
theorem Inv.kept{t':Nat}(I:Inv X pins σ H s)(k:∀b u,s.heap.get? b=some u->h'.get? b=some u):Inv X pins σ H {s with heap:=h',toks:=t'}:=I.un (Un.kept k) (I.hok.kept k)
theorem Inv.laid{a:Addr}{o:HO}{t':Nat}(I:Inv X pins σ H s)(k:∀b u,s.heap.get? b=some u->h'.get? b=some u)(hp:s.heap.objs.size<=a)(new:jc6 X.prog X.w (upd H a o) h' a o):
  Inv X pins σ (upd H a o) {s with heap:=h',toks:=t'}:=I.un (Un.laid k hp (I.hok.fresh hp)) (I.hok.laid k hp new)
theorem Inv.write{x e:Addr}{o:HO}{t':Nat}(I:Inv X pins σ H s)(mu:Mut (H x))(he:e=x \/ H e=some (.own x))(k:∀b u,b≠e->s.heap.get? b=some u->h'.get? b=some u)(heo:∃u,h'.get? e=some u)
  (new:jc6 X.prog X.w (upd H x o) h' x o):Inv X pins σ (upd H x o) {s with heap:=h',toks:=t'}:=I.un (Un.write mu he k heo) (I.hok.write mu he k heo new)
theorem Inv.weak{σ':List (Option V)}(I:Inv X pins σ H s)(hl:σ'.length=σ.length)(w:∀(i:Nat) v,σ'[i]?=some (some v)->σ[i]?=some (some v)):Inv X pins σ' H s:=
 ⟨I.ok,I.os,I.bare,I.base,let ⟨m,hn,hl'⟩:=I.loc;⟨m,hn,λi x v e1 e2 e3=>hl' i x v e1 (w i v e2) e3⟩,I.cell,I.free,I.freeC,I.pin,I.hok,hl.trans I.len⟩
theorem Inv.pins_of{pins':List (Addr×Obj)}(I:Inv X pins σ H s)(h:∀p∈pins',s.heap.get? p.1=some p.2 /\ H p.1=none /\ p.1≠X.env.locals /\ p.1∉X.fs /\ ∀v,p.2.data≠ .cell v):Inv X pins' σ H s:=
 ⟨I.ok,I.os,I.bare,I.base,I.loc,I.cell,I.free,I.freeC,λp hp=>(List.mem_append.mp hp).elim (λz=>I.pin p (List.mem_append_left _ z)) (h p),I.hok,I.len⟩
theorem jlv{N:List Str}(hN:N.Nodup){i j:Nat}{x:Str}(a:N[i]?=some x)(b:N[j]?=some x):i=j:=by
 obtain⟨h1,e1⟩:=List.getElem?_eq_some_iff.mp a
 obtain⟨h2,e2⟩:=List.getElem?_eq_some_iff.mp b
 exact(List.getElem_inj hN).mp (e1.trans e2.symm)
theorem jio{M:Model}{A:Around}{E:Value->Shared->Prop}{i:Nat}{x:Str}{v:V}{u:Value}{Q:Unit->Shared->Prop}(I:Inv X pins σ H s)(hN:X.N.Nodup)(hi:X.N[i]?=some x)(hx:Loc X.env.scope x)(r:RelV v u)
  (h:∀s',Inv X pins (σ.set i (some v)) H s'->(∃a,Heap.SameBut a s.heap s'.heap /\ (a=X.env.locals \/ X.env.cells.lookup x=some a))->Q () s') (hf:X.fn x=true \/ X.env.scope.names.lookup x=some .local:=by first | exact .inl rfl | exact .inr rfl | assumption):wpAny M A (storeName X.env x u) Q E s:=by
 obtain⟨m,hn,hl⟩:=id I.loc
 have hcls:(X.env.scope.kind== .class||(X.env.scope.kind== .module&&X.env.locals !=X.env.globals))=false:=by rw[I.ok.kind];rfl
 have hiσ:i<σ.length:=by rw[I.len];exact(List.getElem?_eq_some_iff.mp hi).1
 have cne:=I.cne
 have tracked:∀{a:Addr} {h':Heap},(∃o,s.heap.get? a=some o /\ H a=none)->Heap.SameBut a s.heap h'->HOk X.prog X.w H h':=fun{a h'} ha hs b ob e=>by
  obtain⟨_,_,hfree⟩:=ha
  refine(I.hok b ob e).stay (λc w' hc q=>(hs.2 c ?_).trans q) (λ_ q=>q) λ_ _ q=>q
  rintro rfl
  rcases hc with rfl | hc
  ·rw[hfree] at e;cases e
  ·rw[hfree] at hc;cases hc
 rcases hx with hk | hk
 ·refine wpAny_storeName_local hk hn (λh' hn' hs=> ?_) hcls
  obtain⟨oL,_,_,hoL,_⟩:=id hn
  refine h _ ⟨I.ok,I.os,I.bare,⟨λb o e n hb hx=> ?_,λb o e n hb hx=> ?_,I.base.free,λb o e hx=> ?_,I.base.tups,I.base.frzs,I.base.tbls⟩,⟨_,hn',λj y v' e1 e2 e3=> ?_⟩,λy c e=> ?_,I.free,I.freeC,λp hp=> ?_,tracked ⟨oL,hoL,I.free⟩ hs,by simpa using I.len⟩ ⟨_,hs,.inl rfl⟩
  ·exact(hs.2 b (Nat.ne_of_lt (Nat.lt_of_lt_of_le (Heap.lt_size e) I.ok.above))).trans (I.base.keep b o e n hb hx)
  ·obtain⟨sl,e1⟩:=I.base.slot b o e n hb hx
   exact⟨sl,(hs.2 b (Nat.ne_of_lt (Nat.lt_of_lt_of_le (Heap.lt_size e) I.ok.above))).trans e1⟩
  ·obtain⟨o',e1⟩:=I.base.there b o e hx
   exact⟨o',(hs.2 b (Nat.ne_of_lt (Nat.lt_of_lt_of_le (Heap.lt_size e) I.ok.above))).trans e1⟩
  ·by_cases hj:j=i
   ·subst hj
    rw[hi] at e1;cases e1
    rw[List.getElem?_set_self hiσ] at e2
    cases e2
    exact⟨u,r,.inl ⟨hk,by simp⟩⟩
   ·rw[List.getElem?_set_ne (Ne.symm hj)] at e2
    obtain⟨u',r',q⟩:=hl j y v' e1 e2 e3
    refine⟨u',r',?_⟩
    rcases q with⟨k,e⟩ | ⟨k,c,e,z⟩
    ·refine .inl ⟨k,?_⟩
     have:y≠x:=λe=>hj (jlv hN e1 (e▸hi))
     simp[this,e]
    ·exact .inr ⟨k,c,e,z.sameBut hs (cne y c e)⟩
  ·obtain⟨w',z⟩:=I.cell y c e
   exact⟨w',z.sameBut hs (cne y c e)⟩
  ·obtain⟨e,n,ne,nf,d⟩:=I.pin p hp
   exact⟨(hs.2 p.1 ne).trans e,n,ne,nf,d⟩
 ·have hfn:X.fn x=true:=by
   rcases hf with z | z
   ·exact z
   ·rw[z] at hk;cases hk
  obtain⟨c,hc⟩:=I.ok.has x (.inl hk)
  obtain⟨w',z⟩:=I.cell x c hc
  refine wpAny_storeName_cell I.ok.kind hk hc z (λh' hc' hs=> ?_)
  obtain⟨oc,hoc,hocd⟩:=id z
  refine h {s with heap:=h'} ⟨I.ok,I.os,I.bare,⟨λb o e n hb hx=> ?_,λb o e n hb hx=> ?_,I.base.free,λb o e hx=> ?_,I.base.tups,I.base.frzs,I.base.tbls⟩,⟨m,hn.sameBut hs (Ne.symm (cne x c hc)),λj y v' e1 e2 e3=> ?_⟩,λy c' e=> ?_,I.free,I.freeC,λp hp=> ?_,tracked ⟨oc,hoc,I.freeC x c hc⟩ hs,by simpa using I.len⟩ ⟨c,hs,.inr hc⟩
  ·exact(hs.2 b (Nat.ne_of_lt (Nat.lt_of_lt_of_le (Heap.lt_size e) (I.ok.cab x c hfn hc)))).trans (I.base.keep b o e n hb hx)
  ·obtain⟨sl,e1⟩:=I.base.slot b o e n hb hx
   exact⟨sl,(hs.2 b (Nat.ne_of_lt (Nat.lt_of_lt_of_le (Heap.lt_size e) (I.ok.cab x c hfn hc)))).trans e1⟩
  ·obtain⟨o',e1⟩:=I.base.there b o e hx
   exact⟨o',(hs.2 b (Nat.ne_of_lt (Nat.lt_of_lt_of_le (Heap.lt_size e) (I.ok.cab x c hfn hc)))).trans e1⟩
  ·by_cases hj:j=i
   ·subst hj
    rw[hi] at e1;cases e1
    rw[List.getElem?_set_self hiσ] at e2
    cases e2
    exact⟨u,r,.inr ⟨.inl hk,c,hc,hc'⟩⟩
   ·rw[List.getElem?_set_ne (Ne.symm hj)] at e2
    obtain⟨u',r',q⟩:=hl j y v' e1 e2 e3
    refine⟨u',r',?_⟩
    rcases q with q | ⟨k,c',e,z'⟩
    ·exact .inl q
    ·refine .inr ⟨k,c',e,z'.sameBut hs ?_⟩
     rintro rfl
     exact hj (jlv hN e1 (I.ok.inj _ _ _ e hc▸hi))
  ·by_cases hcc:c'=c
   ·subst hcc;exact⟨_,hc'⟩
   ·obtain⟨w2,z2⟩:=I.cell y c' e
    exact⟨w2,z2.sameBut hs hcc⟩
  ·obtain⟨e,n,ne,nf,d⟩:=I.pin p hp
   refine⟨(hs.2 p.1 ?_).trans e,n,ne,nf,d⟩
   intro q
   rw[q,hoc] at e
   have q':oc=p.2:=Option.some.inj e
   exact d w' (by rw[<-q'];exact hocd)
theorem jmf{M:Model}{A:Around}{E:Value->Shared->Prop}{i:Nat}{x:Str}{v:V}{u:Value}{Q:Unit->Shared->Prop}(I:Inv X pins σ H s)(hN:X.N.Nodup)(hi:X.N[i]?=some x)(hx:Loc X.env.scope x)(r:RelV v u)
  (h:∀s',Inv X pins (σ.set i (some v)) H s'->Q () s') (hf:X.fn x=true \/ X.env.scope.names.lookup x=some .local:=by first | exact .inl rfl | exact .inr rfl | assumption):wpAny M A (storeName X.env x u) Q E s:=
 jio I hN hi hx r (λs' I' _=>h s' I') hf
theorem Inv.call'{s':Shared}{ch:List Addr}(I:Inv X pins σ H s)(ho:s'.os=s.os)(u:Un (frs X.stack) ch H H' s.heap s'.heap)(hok:HOk X.prog X.w H' s'.heap)(hg:AllBare s'.gens)
  (hch:∀b∈ch,(b∈X.ex \/ X.s₀.heap.objs.size<=b) /\ b≠X.env.locals /\ (∀x c,X.env.cells.lookup x=some c->c≠b) /\ ∀p∈X.pn++pins,p.1≠b):Inv X pins σ H' s':=by
 obtain⟨h',g',d',t',o'⟩:=s'
 have e:o'=s.os:=ho
 subst e
 exact I.call (g':=g') (t':=t') (d':=d') u hok hg hch
end
abbrev XK:=Value->Option Addr->Hp->Prop
abbrev St:=List (Option V)
abbrev VK:=V->Hp->Prop
abbrev TE:=St->Hp->VK->Prop
abbrev TT:=St->Hp->(Bool->Hp->Prop)->Prop
abbrev TA:=St->Hp->(List V->Hp->Prop)->Prop
structure Ends where
 nx:St->Hp->Prop
 rt:VK
 bk:St->Hp->Prop:=λ_ _=>False
 ct:St->Hp->Prop:=λ_ _=>False
abbrev TS:=Ends->St->Hp->Prop
def EP(X:Cx)(pins:List (Addr×Obj))(σ:St)(Q:VK)(u:Value)(s':Shared):Prop:=∃v H',Inv X pins σ H' s' /\ RelV v u /\ Q v H'
def TP(X:Cx)(pins:List (Addr×Obj))(σ:St)(Q:Bool->Hp->Prop)(b:Bool)(s':Shared):Prop:=∃H',Inv X pins σ H' s' /\ Q b H'
def AP(X:Cx)(pins:List (Addr×Obj))(σ:St)(Q:List V->Hp->Prop)(us:List Value)(s':Shared):Prop:=∃vs H',Inv X pins σ H' s' /\ Vals vs us /\ Q vs H'
def SP(X:Cx)(pins:List (Addr×Obj))(D:Ends)(f:Flow)(s':Shared):Prop:=
 match f with
 | .next=>∃σ' H',Inv X pins σ' H' s' /\ D.nx σ' H'
 | .brk=>∃σ' H',Inv X pins σ' H' s' /\ D.bk σ' H'
 | .cont=>∃σ' H',Inv X pins σ' H' s' /\ D.ct σ' H'
 | .ret u=>∃v σ' H',Inv X pins σ' H' s' /\ RelV v u /\ D.rt v H'
def PE(X:Cx)(e:Expr)(t:TE):Prop:=
 ∀(pins:List (Addr×Obj)) (s:Shared) (σ:St) (H:Hp) (Q:VK),Inv X pins σ H s->t σ H Q->wpAny (model X.prog X.w) X.A (eval e X.env) (EP X pins σ Q) X.xe s
def PT(X:Cx)(e:Expr)(t:TT):Prop:=
 ∀(pins:List (Addr×Obj)) (s:Shared) (σ:St) (H:Hp) (Q:Bool->Hp->Prop),Inv X pins σ H s->t σ H Q->wpAny (model X.prog X.w) X.A (isTrue e X.env (eval e X.env)) (TP X pins σ Q) X.xe s
def PW(X:Cx)(e:Expr)(t:TT):Prop:=
 ∀(whole:Sem Value) (pins:List (Addr×Obj)) (s:Shared) (σ:St) (H:Hp) (Q:Bool->Hp->Prop),Inv X pins σ H s->t σ H Q->wpAny (model X.prog X.w) X.A (isTrue e X.env whole) (TP X pins σ Q) X.xe s
theorem PW.pt{X:Cx}{e:Expr}{t:TT}(h:PW X e t):PT X e t:=h _
def PA(X:Cx)(es:List Expr)(t:TA):Prop:=
 ∀(pos:Pos) (pins:List (Addr×Obj)) (s:Shared) (σ:St) (H:Hp) (Q:List V->Hp->Prop),Inv X pins σ H s->t σ H Q->wpAny (model X.prog X.w) X.A (spliced (backTo pos (starEach es X.env))) (AP X pins σ Q) X.xe s
def PS(X:Cx)(st:Stmt)(t:TS):Prop:=
 ∀(pins:List (Addr×Obj)) (s:Shared) (σ:St) (H:Hp) (D:Ends),Inv X pins σ H s->t D σ H->wpAny (model X.prog X.w) X.A (exec st X.env) (SP X pins D) X.xe s
def PSs(X:Cx)(st:List Stmt)(t:TS):Prop:=
 ∀(pins:List (Addr×Obj)) (s:Shared) (σ:St) (H:Hp) (D:Ends),Inv X pins σ H s->t D σ H->wpAny (model X.prog X.w) X.A (execs st X.env) (SP X pins D) X.xe s
theorem thn{α:Type}{t:Sem α}{Q Q':α->Shared->Prop}{M:Model}{A:Around}{E:Value->Shared->Prop}{s:Shared}(h:wpAny M A t Q E s)(hQ:∀a s,Q a s->Q' a s):wpAny M A t Q' E s:=wpAny_mono h hQ λ_ _ x=>x
section
variable {X : Cx}
def tVar(i:Nat):TE:=λσ H Q=>∃v,σ[i]?=some (some v) /\ Q v H
def tC(v:V):TE:=λ_ H Q=>Q v H
theorem pe_var{i:Nat}{x:Str}{pos:Pos}(hN:X.N[i]?=some x)(hv:Vis X.env.scope x)(hd:(x==("__debug__":Str))=false:=by decide)(hcd:(x==("__classdict__":Str))=false:=by decide):PE X (.Name x pos) (tVar i):=by
 intro pins s σ H Q I h
 obtain⟨v,e,h⟩:=h
 obtain⟨m,hn,hl⟩:=I.loc
 obtain⟨u,r,l⟩:=hl i x v hN e hv
 have fin:EP X pins σ Q u s:=⟨v,H,I,r,h⟩
 rcases l with⟨hk,hm⟩ | ⟨hk,c,hc,hcell⟩
 ·exact wpAny_Name (wpAny_loadName_local I.ok.kind hk hn hm fin) hd
 ·rcases hk with hk | hk
  ·exact wpAny_Name (wpAny_loadName_cell I.ok.kind hk hc hcell fin) hd
  ·exact wpAny_Name (wpAny_loadName_free I.ok.kind hk hc hcell fin hcd) hd
theorem ja8{i j pos}:PE X (.Constant (.int i) j pos) (tC (.int i)):=λ_ _ _ H _ I h=>wpAny_Constant_int ⟨.int i,H,I.tok _,⟨_,rfl⟩,h⟩
theorem jf2{b j pos}:PE X (.Constant (.bool b) j pos) (tC (.bl b)):=λ_ _ _ H _ I h=>Constant_bool ⟨.bl b,H,I,rfl,h⟩
theorem jm1{j pos}:PE X (.Constant .none j pos) (tC .non):=λ_ _ _ H _ I h=>Constant_none ⟨.non,H,I,rfl,h⟩
theorem jaf{x j pos}:PE X (.Constant (.str x) j pos) (tC (.str x)):=λ_ _ _ H _ I h=>Calls.Constant_str ⟨.str x,H,I.tok _,⟨_,rfl⟩,h⟩
def Gl(X:Cx)(x:Str):Prop:=X.env.kindOf x=some .globalImplicit
theorem jf6{E:Value->Shared->Prop}{pins:List (Addr×Obj)}{s:Shared}{σ:St}{H:Hp}{x:Str}{u:Value}{pos:Pos}{Q:Value->Shared->Prop}(I:Inv X pins σ H s)(hg:Gl X x)(hm:X.mg x=some u)(h:Q u s)
  (hd:(x==("__debug__":Str))=false:=by decide):wpAny (model X.prog X.w) X.A (eval (.Name x pos) X.env) Q E s:=
 Calls.Name_function_global I.ok.kind hg (Calls.loadGlobal_global (by rw[I.ok.glob];exact I.mod.glob.keeps I.bk) hm h) hd
theorem jhg{E:Value->Shared->Prop}{pins:List (Addr×Obj)}{s:Shared}{σ:St}{H:Hp}{x:Str}{u:Value}{pos:Pos}{Q:Value->Shared->Prop}(I:Inv X pins σ H s)(hg:Gl X x)(hm:X.mg x=none)(hv:bootBuiltins x=some u)(h:Q u s)
  (hn:x≠"__name__":=by decide) (hd:(x==("__debug__":Str))=false:=by decide):wpAny (model X.prog X.w) X.A (eval (.Name x pos) X.env) Q E s:=by
 obtain⟨mb,h1,h2⟩:=I.mod.blt
 exact Calls.Name_function_global I.ok.kind hg (Calls.loadGlobal_builtin (by rw[I.ok.glob];exact I.mod.glob.keeps I.bk) hm (by rw[I.ok.blt];exact h1.keeps I.bk) ((h2 x hn).trans hv) h) hd
theorem jvx{x:Str}{v:V}{u:Value}{pos:Pos}(hg:Gl X x)(hm:X.mg x=some u)(r:RelV v u)(hd:(x==("__debug__":Str))=false:=by decide):PE X (.Name x pos) (tC v):=
 λ_ _ _ H _ I h=>jf6 I hg hm ⟨v,H,I,r,h⟩ hd
theorem jwg{x:Str}{v:V}{u:Value}{pos:Pos}(hg:Gl X x)(hm:X.mg x=none)(hv:bootBuiltins x=some u)(r:RelV v u)(hn:x≠"__name__":=by decide)(hd:(x==("__debug__":Str))=false:=by decide):PE X (.Name x pos) (tC v):=
 λ_ _ _ H _ I h=>jhg I hg hm hv ⟨v,H,I,r,h⟩ hn hd
variable {a b : Expr} {ta tb : TE} {pos : Pos}
def tB(t:TE):TT:=λσ H Q=>t σ H λx H1=>∃c,x= .bl c /\ Q c H1
variable {tA tB' : TT} {rest : List Expr}
def tAnd(t u:TT):TT:=λσ H Q=>t σ H λc H1=>if c=true then u σ H1 Q else Q false H1
def tOr(t u:TT):TT:=λσ H Q=>t σ H λc H1=>if c=true then Q true H1 else u σ H1 Q
def tNot(t:TT):TT:=λσ H Q=>t σ H λc H1=>Q (!c) H1
theorem ji3(ha:PT X a tA):PW X (.BoolOp .And [a] pos) tA:=by
 intro wh pins s σ H Q I h
 refine isTrue_and (thn (ha pins s σ H Q I h) λc s1 e=> ?_)
 cases c with
 | true=>exact isTrue_and_nil e
 | false=>exact e
theorem jm4(ha:PT X a tA):PW X (.BoolOp .Or [a] pos) tA:=by
 intro wh pins s σ H Q I h
 refine isTrue_or (thn (ha pins s σ H Q I h) λc s1 e=> ?_)
 cases c with
 | false=>exact isTrue_or_nil e
 | true=>exact e
theorem jla(ha:PT X a tA)(hb:PW X (.BoolOp .And (b::rest) pos) tB'):PW X (.BoolOp .And (a::b::rest) pos) (tAnd tA tB'):=by
 intro wh pins s σ H Q I h
 refine isTrue_and (thn (ha pins s σ H _ I h) λc s1 ⟨H1,I1,q1⟩=> ?_)
 cases c with
 | true=>exact hb wh pins s1 σ H1 Q I1 q1
 | false=>exact⟨H1,I1,q1⟩
theorem jru(ha:PT X a tA)(hb:PW X (.BoolOp .Or (b::rest) pos) tB'):PW X (.BoolOp .Or (a::b::rest) pos) (tOr tA tB'):=by
 intro wh pins s σ H Q I h
 refine isTrue_or (thn (ha pins s σ H _ I h) λc s1 ⟨H1,I1,q1⟩=> ?_)
 cases c with
 | true=>exact⟨H1,I1,q1⟩
 | false=>exact hb wh pins s1 σ H1 Q I1 q1
theorem jd9(ha:PT X a tA):PT X (.UnaryOp .Not a pos) (tNot tA):=by
 intro pins s σ H Q I h
 exact isTrue_not (ha pins s σ H (λc H1=>Q (!c) H1) I h)
def tAndV(ta tb:TE):TE:=λσ H Q=>ta σ H λx H1=>∃c,x= .bl c /\ if c=true then tb σ H1 Q else Q (.bl false) H1
theorem jo9{op}{t:TE}(h:PE X a t):PE X (.BoolOp op [a] pos) t:=λpins s σ H Q I hw=>BoolOp_one (h pins s σ H Q I hw)
theorem joy(ha:PE X a ta)(hb:PE X (.BoolOp .And (b::rest) pos) tb):PE X (.BoolOp .And (a::b::rest) pos) (tAndV ta tb):=by
 intro pins s σ H Q I h
 refine BoolOp_and (thn (ha pins s σ H _ I h) λv s1 ⟨x,H1,I1,r1,q1⟩=> ?_)
 obtain⟨c,rfl,q1⟩:=q1
 cases r1
 refine wpAny_truthy_bool ?_
 cases c with
 | true=>exact hb pins s1 σ H1 Q I1 q1
 | false=>exact⟨.bl false,H1,I1,rfl,q1⟩
def tIf(t:TT)(ta tb:TE):TE:=λσ H Q=>t σ H λc H1=>if c=true then ta σ H1 Q else tb σ H1 Q
theorem jrf{c:Expr}(hc:PT X c tA)(ha:PE X a ta)(hb:PE X b tb):PE X (.IfExp c a b pos) (tIf tA ta tb):=by
 intro pins s σ H Q I h
 refine wpAny_IfExp (thn (hc pins s σ H _ I h) λd s1 ⟨H1,I1,q1⟩=> ?_)
 cases d with
 | true=>exact ha pins s1 σ H1 Q I1 q1
 | false=>exact hb pins s1 σ H1 Q I1 q1
end
def SqL(K:W.Frag)(H:Hp)(a:Addr)(xs:List V):Prop:=
 Rd H a (.lst xs) \/
  ∃(o:Obj) (its:Array Value) (n:Nat),K.lookup a=some o /\ o.cls= .type "list" /\ o.dict=none /\ o.data= .seq its n /\ its.size<=sizeLine /\ Vals xs its.toList
def SqT(K:W.Frag)(H:Hp)(a:Addr)(xs:List V):Prop:=
 Rd H a (.tup xs) \/
  ∃(o:Obj) (its:Array Value) (n:Nat),K.lookup a=some o /\ o.cls= .type "tuple" /\ o.data= .seq its n /\ its.size<=sizeLine /\ Vals xs its.toList
def absV:Value->Option V
 | .none=>some .non
 | .bool b=>some (.bl b)
 | .int i _=>some (.int i)
 | .str x _=>some (.str x)
 | .bytes b _=>some (.byt b)
 | .float b _=>some (.flt b)
 | .ref a=>some (.ref a)
 | .type n=>some (.ty n)
 | _=>none
theorem RelV.abs{x:V}{u:Value}(r:RelV x u):absV u=some x:=by
 cases x with
 | non=>cases r;rfl
 | bl _=>cases r;rfl
 | int _=>obtain⟨t,rfl⟩:=r;rfl
 | str _=>obtain⟨t,rfl⟩:=r;rfl
 | byt _=>obtain⟨t,rfl⟩:=r;rfl
 | flt _=>obtain⟨t,rfl⟩:=r;rfl
 | ref _=>cases r;rfl
 | ty _=>cases r;rfl
theorem RelV.inj{x y:V}{u:Value}(r:RelV x u)(q:RelV y u):x=y:=Option.some.inj (r.abs.symm.trans q.abs)
theorem Vals.inj:∀{xs ys:List V} {us:List Value},Vals xs us->Vals ys us->xs=ys
 | _,_,_,.nil,.nil=>rfl
 | _,_,_,.cons r t,.cons r' t'=>by rw[r.inj r',Vals.inj t t']
section
variable {X : Cx} {pins : List (Addr × Obj)} {σ : St} {H : Hp} {s : Shared} {a : Addr} {xs ys : List V}
theorem SqL.of{K:W.Frag}(h:H a=some (.lst xs)):SqL K H a xs:= .inl (.inl h)
theorem SqT.of{K:W.Frag}(h:H a=some (.tup xs)):SqT K H a xs:= .inl (.inl h)
theorem Inv.list(I:Inv X pins σ H s)(h:SqL X.K H a xs):∃its:List Value,Vals xs its /\ PlainL s.heap a its.toArray /\ xs.length<=sizeLine:=by
 rcases h with h | ⟨o,its,n,hk,hc,hd,hs,hz,r⟩
 ·obtain⟨z,its,n,r,e⟩:=h.ok I.hok
  exact⟨its,r,⟨_,n,e,rfl,rfl,rfl⟩,z⟩
 ·refine⟨its.toList,r,⟨o,n,I.kIn a o hk,hc,hd,by simpa using hs⟩,?_⟩
  have e:=r.length
  simp only[Array.length_toList] at e
  omega
theorem Inv.tuple(I:Inv X pins σ H s)(h:SqT X.K H a xs):∃its:List Value,Vals xs its /\ IsTup s.heap a its.toArray /\ xs.length<=sizeLine:=by
 rcases h with h | ⟨o,its,n,hk,hc,hs,hz,r⟩
 ·obtain⟨z,its,r,p⟩:=h.ok I.hok
  exact⟨its,r,p,z⟩
 ·refine⟨its.toList,r,⟨o,I.kIn a o hk,hc,n,by simpa using hs⟩,?_⟩
  have e:=r.length
  simp only[Array.length_toList] at e
  omega
theorem Inv.list_inj(I:Inv X pins σ H s)(h:SqL X.K H a xs)(h':SqL X.K H a ys):xs=ys:=by
 obtain⟨its,r,⟨o,n,e,_,_,d⟩,_⟩:=I.list h
 obtain⟨its',r',⟨o',n',e',_,_,d'⟩,_⟩:=I.list h'
 rw[e] at e';cases e'
 rw[d] at d'
 injection d' with d1 _
 have:its=its':=by simpa using congrArg Array.toList d1
 subst this
 exact r.inj r'
theorem Inv.tuple_inj(I:Inv X pins σ H s)(h:SqT X.K H a xs)(h':SqT X.K H a ys):xs=ys:=by
 obtain⟨its,r,⟨o,e,_,n,d⟩,_⟩:=I.tuple h
 obtain⟨its',r',⟨o',e',_,n',d'⟩,_⟩:=I.tuple h'
 rw[e] at e';cases e'
 rw[d] at d'
 injection d' with d1 _
 have:its=its':=by simpa using congrArg Array.toList d1
 subst this
 exact r.inj r'
end
abbrev Cx.wish(X:Cx)(E:Value->Shared->Prop):Cx:={X with xe:=E}
abbrev Cx.nox(X:Cx):Cx:=X.wish λ_ _=>False
theorem Cx.Ok.wish{X:Cx}(ok:X.Ok)(E:Value->Shared->Prop):(X.wish E).Ok:=
 ⟨ok.mod,ok.kind,ok.glob,ok.blt,ok.above,ok.inj,ok.has,ok.cab,ok.hd,ok.frames,ok.stk,ok.exf,ok.bs,ok.bsz,ok.noex,ok.exfs,ok.funs,ok.frf⟩
theorem Cx.Ok.unwish{X:Cx}{E:Value->Shared->Prop}(ok:(X.wish E).Ok):X.Ok:=
 ⟨ok.mod,ok.kind,ok.glob,ok.blt,ok.above,ok.inj,ok.has,ok.cab,ok.hd,ok.frames,ok.stk,ok.exf,ok.bs,ok.bsz,ok.noex,ok.exfs,ok.funs,ok.frf⟩
section
variable {X : Cx} {pins : List (Addr × Obj)} {σ : St} {H : Hp} {s : Shared} {E : Value -> Shared -> Prop}
theorem Inv.wish(I:Inv X pins σ H s)(E:Value->Shared->Prop):Inv (X.wish E) pins σ H s:=⟨I.ok.wish E,I.os,I.bare,I.base,I.loc,I.cell,I.free,I.freeC,I.pin,I.hok,I.len⟩
theorem Inv.unwish(I:Inv (X.wish E) pins σ H s):Inv X pins σ H s:=⟨I.ok.unwish,I.os,I.bare,I.base,I.loc,I.cell,I.free,I.freeC,I.pin,I.hok,I.len⟩
end
section
variable {X : Cx} {st : Stmt} {rest : List Stmt} {t u : TS} {e : Expr} {te : TE} {pos : Pos}
def jrt:TS:=λD σ H=>D.nx σ H
def tSeq(t u:TS):TS:=λD σ H=>t {D with nx:=u D} σ H
theorem jal:PSs X [] jrt:=λ_ _ σ H _ I h=>wpAny_execs_nil ⟨σ,H,I,h⟩
theorem ja4(h1:PS X st t)(h2:PSs X rest u):PSs X (st::rest) (tSeq t u):=by
 intro pins s σ H D I h
 refine wpAny_execs_cons (thn (h1 pins s σ H {D with nx:=u D} I h) λf s1 q=> ?_)
 cases f with
 | next=>
  obtain⟨σ',H',I',q⟩:=q
  exact h2 pins s1 σ' H' D I' q
 | ret v=>exact q
 | brk=>exact q
 | cont=>exact q
theorem ja6(h1:PS X st t):PSs X [st] t:=by
 intro pins s σ H D I h
 refine wpAny_execs_cons (thn (h1 pins s σ H D I h) λf s1 q=> ?_)
 cases f with
 | next=>exact wpAny_execs_nil q
 | ret v=>exact q
 | brk=>exact q
 | cont=>exact q
theorem Inv.quiet{pins:List (Addr×Obj)}{σ:St}{H:Hp}{s:Shared}(I:Inv X pins σ H s):interactive X.env=false:=by simp[interactive,I.ok.kind]
def jqt(te:TE):TS:=λD σ H=>te σ H λ_ H1=>D.nx σ H1
theorem jdj(he:PE X e te)(hs:swapsWith e none pos.line X.env=pure false:=by rfl):PS X (.Expr e pos) (jqt te):=by
 intro pins s σ H D I h
 exact wpAny_Expr_any (thn (he pins s σ H _ I h) λv s1 ⟨x,H1,I1,r1,q1⟩=>⟨σ,H1,I1,q1⟩) I.quiet hs
def tRet(te:TE):TS:=λD σ H=>te σ H D.rt
theorem jag(he:PE X e te):PS X (.Return (some e) pos) (tRet te):=by
 intro pins s σ H D I h
 exact wpAny_Return_some (thn (he pins s σ H _ I h) λv s1 ⟨x,H1,I1,r1,q1⟩=>⟨x,σ,H1,I1,r1,q1⟩)
def tIfS(c:TT)(t u:TS):TS:=λD σ H=>c σ H λb H1=>if b=true then t D σ H1 else u D σ H1
theorem jb9{c:Expr}{a b:List Stmt}{tc:TT}(hc:PT X c tc)(ha:PSs X a t)(hb:PSs X b u):PS X (.If c a b pos) (tIfS tc t u):=by
 intro pins s σ H D I h
 refine wpAny_If (thn (hc pins s σ H _ I h) λd s1 ⟨H1,I1,q1⟩=> ?_)
 cases d with
 | true=>exact ha pins s1 σ H1 D I1 q1
 | false=>exact hb pins s1 σ H1 D I1 q1
end
abbrev TG:=V->St->Hp->(St->Hp->Prop)->Prop
abbrev TGs:=List V->St->Hp->(St->Hp->Prop)->Prop
def PG(X:Cx)(target:Expr)(t:TG):Prop:=
 ∀(pins:List (Addr×Obj)) (s:Shared) (σ:St) (H:Hp) (v:V) (u:Value) (Q:St->Hp->Prop),Inv X pins σ H s->RelV v u->t v σ H Q->
  wpAny (model X.prog X.w) X.A (assign target X.env u) (λ_ s'=>∃σ' H',Inv X pins σ' H' s' /\ Q σ' H') X.xe s
def PGs(X:Cx)(ts:List Expr)(t:TGs):Prop:=
 ∀(pins:List (Addr×Obj)) (s:Shared) (σ:St) (H:Hp) (vs:List V) (us:List Value) (Q:St->Hp->Prop),Inv X pins σ H s->Vals vs us->t vs σ H Q->
  wpAny (model X.prog X.w) X.A (assignInOrder ((assignEach ts X.env).map (·.2)) us) (λ_ s'=>∃σ' H',Inv X pins σ' H' s' /\ Q σ' H') X.xe s
section
variable {X : Cx} {pos : Pos}
def jab(i:Nat):TG:=λv σ H Q=>Q (σ.set i (some v)) H
theorem jbd{i:Nat}{x:Str}(hN:X.N.Nodup)(hi:X.N[i]?=some x)(hx:Loc X.env.scope x)(hf:X.fn x=true \/ X.env.scope.names.lookup x=some .local:=by first | exact .inl rfl | exact .inr rfl | assumption):PG X (.Name x pos) (jab i):=by
 intro pins s σ H v u Q I r h
 exact wpAny_assign_Name (jmf I hN hi hx r (λs' I'=>⟨_,H,I',h⟩) hf)
def gNil:TGs:=λvs σ H Q=>vs=[] /\ Q σ H
def juz(t:TG)(u:TGs):TGs:=λvs σ H Q=>∃v r,vs=v::r /\ t v σ H λσ' H'=>u r σ' H' Q
theorem jws:PGs X [] gNil:=by
 intro pins s σ H vs us Q I r h
 obtain⟨e,h⟩:=h
 subst e
 cases r
 exact assignInOrder_nil ⟨σ,H,I,h⟩
theorem jmi{e:Expr}{es:List Expr}{t:TG}{u:TGs}(h1:PG X e t)(h2:PGs X es u)
  (hs:(assignEach (e::es) X.env).map (·.2)=assign e X.env::(assignEach es X.env).map (·.2):=by rfl):PGs X (e::es) (juz t u):=by
 intro pins s σ H vs us Q I r h
 obtain⟨v,vr,e1,h⟩:=h
 subst e1
 cases r with
 | cons r rr=>
  rw[hs]
  refine assignInOrder_cons (thn (h1 pins s σ H _ _ _ I r h) λ_ s1 ⟨σ1,H1,I1,q1⟩=> ?_)
  exact h2 pins s1 σ1 H1 _ _ Q I1 rr q1
def gTup(K:W.Frag)(n:Nat)(t:TGs):TG:=λv σ H Q=>∃a xs,v= .ref a /\ SqT K H a xs /\ xs.length=n /\ t xs σ H Q
theorem pg_tup{es:List Expr}{k:Nat}{t:TGs}{n:Nat}(hc:X.calm=true)(h:PGs X es t)
  (hn:(assignEach es X.env).length=n:=by rfl) (hst:(assignEach es X.env).findIdx? (·.1)=none:=by rfl):PG X (.Tuple es k pos) (gTup X.K n t):=by
 intro pins s σ H v u Q I r hw
 obtain⟨a,xs,e1,hq,hl,hw⟩:=hw
 subst e1
 cases r
 obtain⟨its,rv,ht,hz⟩:=I.tuple hq
 refine assign_Tuple_tuple (I.ok.hd hc) ht (by simp[hn,<-hl,rv.length]) hst λh' hx=> ?_
 have I1:Inv X pins σ H {s with heap:=h'}:=I.kept (t':=s.toks) λb o e=>hx b o (Nat.ne_of_lt (Heap.lt_size e)) e
 exact h pins _ σ H xs _ Q I1 (by simpa using rv) hw
def tAsg(te:TE)(g:TG):TS:=λD σ H=>te σ H λx H1=>g x σ H1 D.nx
theorem jb0{i:Nat}{x:Str}{e:Expr}{te:TE}{pos':Pos}(hN:X.N.Nodup)(hi:X.N[i]?=some x)(hx:Loc X.env.scope x)(he:PE X e te)(hs:swapsWith e (some (.Name x pos')) pos.line X.env=pure false:=by rfl)(hf:X.fn x=true \/ X.env.scope.names.lookup x=some .local:=by first | exact .inl rfl | exact .inr rfl | assumption):
  PS X (.Assign [.Name x pos'] e pos) (tAsg te (jab i)):=by
 intro pins s σ H D I h
 refine wpAny_Assign_Name (thn (he pins s σ H _ I h) λv s1 ⟨y,H1,I1,r1,q1⟩=> ?_) hs
 exact jmf I1 hN hi hx r1 (λs2 I2=>⟨_,H1,I2,q1⟩) hf
end
section
variable {X : Cx} {pos : Pos}
def jul(c:TT)(tb:TS):TS:=λD σ H=>∃W:Nat->St->Hp->Prop,(∃m,W m σ H) /\ ∀m σ H,W m σ H->
 c σ H λb H1=>if b=true then ∃N:St->Hp->Prop,(∀σ' H',N σ' H'->∃m',m'<m /\ W m' σ' H') /\ tb {D with nx:=N,ct:=N,bk:=D.nx} σ H1 else D.nx σ H1
theorem jsp{c:Expr}{body:List Stmt}{tc:TT}{tb:TS}(hp:PassesOwn (model X.prog X.w) X.A X.env X.xe)(hc:PT X c tc)(hb:PSs X body tb):PS X (.While c body [] pos) (jul tc tb):=by
 intro pins s σ H D I h
 obtain⟨W,⟨m0,w0⟩,turn⟩:=h
 refine wpAny_While (codeAny_whileLoop (λn s'=>∃σ' H',Inv X pins σ' H' s' /\ W n σ' H') ?_ m0 ⟨σ,H,I,w0⟩)
 rintro n s1 ⟨σ1,H1,I1,w1⟩
 refine wpAny_passesOwn hp (thn (hc pins s1 σ1 H1 _ I1 (turn n σ1 H1 w1)) λb s2 ⟨H2,I2,q2⟩=> ?_)
 cases b with
 | true=>
  obtain⟨N,hN,q2⟩:=q2
  rw[if_pos rfl]
  refine wpAny_passesOwn hp (thn (hb pins s2 σ1 H2 _ I2 q2) λf s3 q3=> ?_)
  cases f with
  | next=>
   obtain⟨σ3,H3,I3,n3⟩:=q3
   obtain⟨m',hm,w3⟩:=hN σ3 H3 n3
   exact⟨m',hm,σ3,H3,I3,w3⟩
  | cont=>
   obtain⟨σ3,H3,I3,n3⟩:=q3
   obtain⟨m',hm,w3⟩:=hN σ3 H3 n3
   exact⟨m',hm,σ3,H3,I3,w3⟩
  | brk=>exact q3
  | ret v=>exact q3
 | false=>
  rw[if_neg Bool.false_ne_true]
  exact wpAny_execs_nil ⟨σ1,H2,I2,q2⟩
end
structure It where
 go:Nat->Hp->Prop
 yld:Nat->Hp->V->Hp->Prop
 stop:Nat->Hp->Prop
def FpOk(X:Cx)(pins:List (Addr×Obj))(H:Hp)(b:Addr):Prop:=
 H b=none /\ b≠X.env.locals /\ b∉X.fs /\ (b∈X.ex \/ X.s₀.heap.objs.size<=b) /\ (∀x c,X.env.cells.lookup x=some c->c≠b) /\ ∀p∈X.pn++pins,p.1≠b
theorem Inv.fpOk{X:Cx}{pins:List (Addr×Obj)}{σ:St}{H H':Hp}{s:Shared}{b:Addr}(I:Inv X pins σ H s)(hb:s.heap.objs.size<=b)(hn:H' b=none):FpOk X pins H' b:=by
 refine⟨hn,Nat.ne_of_gt (Nat.lt_of_lt_of_le I.lt hb),I.nofs hb,.inr (Nat.le_trans I.sz hb),λx c e z=> ?_,λp hp z=> ?_⟩
 ·obtain⟨v,q⟩:=I.cell x c e
  exact absurd (Nat.lt_of_lt_of_le q.lt (by rw[z];exact hb)) (Nat.lt_irrefl _)
 ·exact absurd (Nat.lt_of_lt_of_le (Heap.lt_size (I.pin p hp).1) (by rw[z];exact hb)) (Nat.lt_irrefl _)
structure Turn (P:Program) (w:World) (K:W.Frag) (tg:Expr) (J:It) (fp:List Addr) (it:Addr) (tn:Nat->Heap->Prop):Prop where
 mem:it∈fp
 obj:∀i h,tn i h->∀b∈fp,∃o,h.get? b=some o /\ ∀v,o.data≠ .cell v
 keep:∀i h h',tn i h->(∀b∈fp,∀o,h.get? b=some o->h'.get? b=some o)->tn i h'
 item:∀(X:Cx),X.prog=P->X.w=w->X.K=K->X.calm=true->∀(i:Nat) (pins:List (Addr×Obj)) (s:Shared) (σ:St) (H:Hp) (E:Value->Shared->Prop),Inv X pins σ H s->(∀b∈fp,FpOk X pins H b)->tn i s.heap->J.go i H->
  wpAny (model P w) X.A (pyNext (.ref it)) (λr s1=>∃u,r=some u /\
   wpAny (model P w) X.A (letOwnedTupleGo tg (.ref it) u) (λ_ s2=>∃x H',Inv X pins σ H' s2 /\ RelV x u /\ J.yld i H x H' /\ tn (i+1) s2.heap /\ ∀b∈fp,H' b=none) E s1) E s
 done:∀(X:Cx),X.prog=P->X.w=w->X.K=K->X.calm=true->∀(i:Nat) (pins:List (Addr×Obj)) (s:Shared) (σ:St) (H:Hp) (E:Value->Shared->Prop),Inv X pins σ H s->(∀b∈fp,FpOk X pins H b)->tn i s.heap->J.stop i H->
  wpAny (model P w) X.A (pyNext (.ref it)) (λr s1=>r=none /\ Inv X pins σ H s1) E s
 self:∀(A:Around) (i:Nat) (s:Shared) (Q:Value->Shared->Prop) (E:Value->Shared->Prop),tn i s.heap->Q (.ref it) s->wpAny (model P w) A (pyIter (.ref it)) Q E s
abbrev TI:=St->Hp->(It->Hp->Prop)->Prop
def PIE(X:Cx)(pins:List (Addr×Obj))(σ:St)(tg:Expr)(R:It->Hp->Prop)(itv:Value)(s2:Shared):Prop:=
 ∃(it:Addr) (fp:List Addr) (tn:Nat->Heap->Prop) (J:It) (H':Hp),itv= .ref it /\ Inv X pins σ H' s2 /\ Turn X.prog X.w X.K tg J fp it tn /\ tn 0 s2.heap /\ (∀b∈fp,FpOk X pins H' b) /\ R J H'
def PI(X:Cx)(tg iter:Expr)(wi:TI):Prop:=
 ∀(pins:List (Addr×Obj)) (s:Shared) (σ:St) (H:Hp) (R:It->Hp->Prop),Inv X pins σ H s->wi σ H R->
  wpAny (model X.prog X.w) X.A (eval iter X.env) (λv s1=>wpAny (model X.prog X.w) X.A (pyIter v) (PIE X pins σ tg R) X.xe s1) X.xe s
theorem jna{M:Model}{A:Around}{E:Value->Shared->Prop}{s:Shared}{tg:Expr}{it:Addr}{u:Value}{o:Obj}{n:String}{vs:Array Value}{Q:Unit->Shared->Prop}(ho:s.heap.get? it=some o)(hc:o.cls= .type n)(hd:o.data= .fields vs)
    (hn:["enumerate","zip","dict_itemiterator","dict_reverseitemiterator","odict_iterator","itertools.zip_longest","itertools.pairwise"].contains n=false) (hQ:Q () s):wpAny M A (letOwnedTupleGo tg (.ref it) u) Q E s:=by
  unfold letOwnedTupleGo
  cases tg<;>first
    | exact wpAny_pure hQ
    | (cases u<;>first
        | exact wpAny_pure hQ
        | (refine wpAny_bind (wpAny_load ho ?_)
           rw[hc,hd]
           show wpAny M A (if(["enumerate","zip","dict_itemiterator","dict_reverseitemiterator","odict_iterator","itertools.zip_longest","itertools.pairwise"].contains n&&vs[0]?==some (rawInt _))=true then _ else _) Q E s
           rw[if_neg (by intro h;rw[hn,Bool.false_and] at h;cases h)]
           exact wpAny_pure hQ))
def Itl(K:W.Frag)(a:Addr):It:=
 ⟨λi H=>∃xs x,SqL K H a xs /\ xs[i]?=some x,λi H x H'=>H'=H /\ ∀xs,SqL K H a xs->xs[i]?=some x,λi H=>∃xs,SqL K H a xs /\ xs.length<=i⟩
def Itt(K:W.Frag)(a:Addr):It:=
 ⟨λi H=>∃xs x,SqT K H a xs /\ xs[i]?=some x,λi H x H'=>H'=H /\ ∀xs,SqT K H a xs->xs[i]?=some x,λi H=>∃xs,SqT K H a xs /\ xs.length<=i⟩
def Itr(lo:Int)(n:Nat):It:=⟨λi _=>i<n,λi H x H'=>H'=H /\ x= .int (lo+i),λi _=>n<=i⟩
theorem jqc{P:Program}{w:World}{K:W.Frag}{tg:Expr}(a it:Addr):Turn P w K tg (Itl K a) [it] it (λi h=>h.IsListIter it a i) where
 mem:=by simp
 obj:=λi h st b hb=>by
  have e:b=it:=by simpa using hb
  subst e
  obtain⟨o,e,c,d⟩:=st
  exact⟨o,e,λv z=>by rw[d] at z;cases z⟩
 keep:=λi h h' st k=>st.at λo e=>k it (by simp) o e
 item:=by
  intro X hP hw hK hc i pins s σ H E I hf st hg
  subst hP hw hK
  obtain⟨xs,x,hq,hx⟩:=hg
  obtain⟨its,rv,p,hz⟩:=I.list hq
  obtain⟨u,hu,ru⟩:=rv.get hx
  obtain⟨f0,f1,f2,f3,f4,f5⟩:=hf it (by simp)
  refine wpAny_pyNext_list_item st p.isList (x:=u) (by simpa using hu) λh' st' sb=> ?_
  have I1:Inv X pins σ H {s with heap:=h'}:=I.turned (t':=s.toks) (λb o hb e=>(sb.2 b hb).trans e) f0 f1 f3 f4 f5
  obtain⟨o,e,c,d⟩:=id st'
  exact⟨u,rfl,jna (s:={s with heap:=h'}) e c d (by decide) ⟨x,H,I1,ru,⟨rfl,λys hy=>by rw[I.list_inj hy hq];exact hx⟩,st',λb hb=>(hf b hb).1⟩⟩
 done:=by
  intro X hP hw hK hc i pins s σ H E I hf st hg
  subst hP hw hK
  obtain⟨xs,hq,hx⟩:=hg
  obtain⟨its,rv,p,hz⟩:=I.list hq
  obtain⟨f0,f1,f2,f3,f4,f5⟩:=hf it (by simp)
  have hl:=rv.length
  exact wpAny_pyNext_list_end (I.ok.hd hc) st p.isList (by simp;omega) λh' eb=>⟨rfl,I.turned (t':=s.toks) (λb o hb e=>eb b o hb e) f0 f1 f3 f4 f5⟩
 self:=λ_ _ _ _ _ st h=>wpAny_pyIter_listiter st h
theorem jnn{P:Program}{w:World}{K:W.Frag}{tg:Expr}(a it:Addr):Turn P w K tg (Itt K a) [it] it (λi h=>h.IsTupleIter it a i) where
 mem:=by simp
 obj:=λi h st b hb=>by
  have e:b=it:=by simpa using hb
  subst e
  obtain⟨o,e,c,d⟩:=st
  exact⟨o,e,λv z=>by rw[d] at z;cases z⟩
 keep:=λi h h' st k=>st.at λo e=>k it (by simp) o e
 item:=by
  intro X hP hw hK hc i pins s σ H E I hf st hg
  subst hP hw hK
  obtain⟨xs,x,hq,hx⟩:=hg
  obtain⟨its,rv,p,hz⟩:=I.tuple hq
  obtain⟨u,hu,ru⟩:=rv.get hx
  obtain⟨f0,f1,f2,f3,f4,f5⟩:=hf it (by simp)
  refine wpAny_pyNext_tuple_item st (show s.heap.IsTuple a its.toArray from p) (x:=u) (by simpa using hu) λh' st' sb=> ?_
  have I1:Inv X pins σ H {s with heap:=h'}:=I.turned (t':=s.toks) (λb o hb e=>(sb.2 b hb).trans e) f0 f1 f3 f4 f5
  obtain⟨o,e,c,d⟩:=id st'
  exact⟨u,rfl,jna (s:={s with heap:=h'}) e c d (by decide) ⟨x,H,I1,ru,⟨rfl,λys hy=>by rw[I.tuple_inj hy hq];exact hx⟩,st',λb hb=>(hf b hb).1⟩⟩
 done:=by
  intro X hP hw hK hc i pins s σ H E I hf st hg
  subst hP hw hK
  obtain⟨xs,hq,hx⟩:=hg
  obtain⟨its,rv,p,hz⟩:=I.tuple hq
  obtain⟨f0,f1,f2,f3,f4,f5⟩:=hf it (by simp)
  have hl:=rv.length
  exact wpAny_pyNext_tuple_end (I.ok.hd hc) st (show s.heap.IsTuple a its.toArray from p) (by simp;omega) λh' eb=>⟨rfl,I.turned (t':=s.toks) (λb o hb e=>eb b o hb e) f0 f1 f3 f4 f5⟩
 self:=λ_ _ _ _ _ st h=>wpAny_pyIter_tupleiter st h
theorem jnf{P:Program}{w:World}{K:PySem.W.Frag}{tg:Expr}(it:Addr)(lo:Int)(n:Nat):Turn P w K tg (Itr lo n) [it] it (λi h=>IsRangeIter h it (lo+(i:Nat)*1) ((n:Int) - (i:Nat)) 1) where
 mem:=by simp
 obj:=λi h st b hb=>by
  have e:b=it:=by simpa using hb
  subst e
  exact⟨_,st,λv z=>by
   have z':Data.fields _=Data.cell v:=z
   cases z'⟩
 keep:=λi h h' st k=>k it (by simp) _ st
 item:=by
  intro X hP hw hK hc i pins s σ H E I hf st hg
  subst hP hw hK
  obtain⟨f0,f1,f2,f3,f4,f5⟩:=hf it (by simp)
  have W:=Walks.range (prog:=X.prog) (w:=X.w) (I.ok.hd hc) it lo 1 n
  refine W.item i s _ _ hg st λv h' tk hv st' kk=> ?_
  obtain⟨t,rfl⟩:=hv
  have I1:Inv X pins σ H {s with heap:=h',toks:=tk}:=I.turned (λb o hb e=>kk b o (by simpa using hb) e) f0 f1 f3 f4 f5
  refine⟨_,rfl,jna (s:={s with heap:=h',toks:=tk}) (n:="range_iterator") st' rfl rfl (by decide) ⟨.int (lo+i),H,I1,⟨t,?_⟩,⟨rfl,rfl⟩,st',λb hb=>(hf b hb).1⟩⟩
  rw[Int.mul_one]
 done:=by
  intro X hP hw hK hc i pins s σ H E I hf st hg
  subst hP hw hK
  obtain⟨f0,f1,f2,f3,f4,f5⟩:=hf it (by simp)
  exact wpAny_pyNext_range_end (I.ok.hd hc) st (by have:n<=i:=hg;omega) λh' eb=>⟨rfl,I.turned (t':=s.toks) (λb o hb e=>eb b o hb e) f0 f1 f3 f4 f5⟩
 self:=λ_ _ _ _ _ st h=>wpAny_pyIter_rangeiter st h
section
variable {X : Cx} {tg : Expr}
theorem jl9{pins:List (Addr×Obj)}{σ:St}{H:Hp}{s:Shared}{R:It->Hp->Prop}{E:Value->Shared->Prop}{lo hi:Int}{t u v:Tok}{tk:Nat}(I:Inv X pins σ H s)(h1: -(2^62)<=lo)(h2:lo<2^62)(h3: -(2^62)<=hi)(h4:hi<2^62)
  (q:R (Itr lo (hi - lo).toNat) H):wpAny (model X.prog X.w) X.A (pyIter (.ref s.heap.objs.size)) (PIE X pins σ tg R) E {s with heap:=s.heap.push {cls:= .type "range",data:= .fields #[.int lo t,.int hi u,.int 1 v]},toks:=tk}:=by
 refine wpAny_pyIter_range (IsRange.new ..) (small_one h1 h2 h3 h4) ?_
 have I1:Inv X pins σ H {s with heap:=s.heap.push {cls:= .type "range",data:= .fields #[.int lo t,.int hi u,.int 1 v]},toks:=tk}:=I.kept λb o e=>Heap.get?_push_of_some _ e
 refine⟨(s.heap.push {cls:= .type "range",data:= .fields #[.int lo t,.int hi u,.int 1 v]}).objs.size,[(s.heap.push {cls:= .type "range",data:= .fields #[.int lo t,.int hi u,.int 1 v]}).objs.size],_,_,H,rfl,
  I1.kept (t':=tk) λb o e=>Heap.get?_push_of_some _ e,jnf _ lo (hi - lo).toNat,?_,λb hb=> ?_,q⟩
 ·have e1:lo+((0:Nat):Int)*1=lo:=by simp
  have e2:(((hi - lo).toNat:Nat):Int) - ((0:Nat):Int)=Builtin.Range.rangeSize lo hi 1:=by rw[rangeSize_one];split<;>omega
  show IsRangeIter _ _ (lo+((0:Nat):Int)*1) ((((hi - lo).toNat:Nat):Int) - ((0:Nat):Int)) 1
  rw[e1,e2]
  exact Heap.get?_push_size _ rfl
 ·have e:b=(s.heap.push {cls:= .type "range",data:= .fields #[.int lo t,.int hi u,.int 1 v]}).objs.size:=by simpa using hb
  subst e
  exact I1.fpOk (Nat.le_refl _) (I1.hok.fresh (Nat.le_refl _))
def iRng1(ta:TA):TI:=λσ H R=>ta σ H λvs H1=>∃j:Int,vs=[.int j] /\ -(2^62)<=j /\ j<2^62 /\ R (Itr 0 j.toNat) H1
def iRng2(ta:TA):TI:=λσ H R=>ta σ H λvs H1=>∃i j:Int,vs=[.int i,.int j] /\ (-(2^62)<=i /\ i<2^62 /\ -(2^62)<=j /\ j<2^62) /\ R (Itr i (j - i).toNat) H1
theorem jeq{a:Expr}{ta:TA}{p pos:Pos}(hg:Gl X "range")(hm:X.mg "range"=none)(ha:PA X [a] ta)(hs:starEach [a] X.env=[(false,eval a X.env)]:=by rfl):PI X tg (.Call (.Name "range" p) [a] [] pos) (iRng1 ta):=by
 intro pins s σ H R I h
 refine Call_ (jhg I hg hm boot_range (PyProof.Rows.callWith_type1 (thn (ha pos pins s σ H _ I h) λus s1 ⟨vs,H1,I1,r1,q1⟩=> ?_) hs rfl))
 obtain⟨j,e,q1,q2,q⟩:=q1
 subst e
 cases r1 with
 | cons r rr=>
  cases rr
  obtain⟨t,rfl⟩:=r
  exact call_range_1 (jl9 I1 (by omega) (by omega) q1 q2 (by simpa using q))
theorem joi{a b:Expr}{ta:TA}{p pos:Pos}(hg:Gl X "range")(hm:X.mg "range"=none)(ha:PA X [a,b] ta)(hs:starEach [a,b] X.env=[(false,eval a X.env),(false,eval b X.env)]:=by rfl)(hs2:starEach [b] X.env=[(false,eval b X.env)]:=by rfl):
  PI X tg (.Call (.Name "range" p) [a,b] [] pos) (iRng2 ta):=by
 intro pins s σ H R I h
 refine Call_ (jhg I hg hm boot_range (PyProof.Rows.callWith_type1 (thn (ha pos pins s σ H _ I h) λus s1 ⟨vs,H1,I1,r1,q1⟩=> ?_) (by rw[hs,hs2]) (by rw[hs2];rfl)))
 obtain⟨i,j,e,⟨q1,q2,q3,q4⟩,q⟩:=q1
 subst e
 cases r1 with
 | cons r rr=>
  cases rr with
  | cons r' rr=>
   cases rr
   obtain⟨t,rfl⟩:=r
   obtain⟨t',rfl⟩:=r'
   exact call_range_2 (jl9 I1 q1 q2 q3 q4 q)
def tFor(wi:TI)(g:TG)(tb:TS):TS:=λD σ H=>wi σ H λJ H1=>∃W:Nat->Nat->St->Hp->Prop,(∃m,W 0 m σ H1) /\ ∀i m σ H,W i m σ H->
 (J.stop i H /\ D.nx σ H) \/ (J.go i H /\ ∃N:St->Hp->Prop,(∀σ' H',N σ' H'->∃m',m'<m /\ W (i+1) m' σ' H') /\ ∀x H',J.yld i H x H'->g x σ H' λσ2 H2=>tb {D with nx:=N,ct:=N,bk:=D.nx} σ2 H2)
def jim(fp:List Addr)(h:Heap):List (Addr×Obj):=fp.filterMap λb=>(h.get? b).map λo=>(b,o)
theorem je5{fp:List Addr}{h:Heap}{b:Addr}{o:Obj}(hb:b∈fp)(e:h.get? b=some o):(b,o)∈jim fp h:=List.mem_filterMap.mpr ⟨b,hb,by rw[e];rfl⟩
theorem joc{fp:List Addr}{h:Heap}{p:Addr×Obj}(hp:p∈jim fp h):p.1∈fp /\ h.get? p.1=some p.2:=by
 obtain⟨b,hb,e⟩:=List.mem_filterMap.mp hp
 cases q:h.get? b with
 | none=>rw[q] at e;cases e
 | some o=>
  rw[q] at e
  have e':(b,o)=p:=Option.some.inj e
  subst e'
  exact⟨hb,q⟩
theorem Inv.pinned{pins:List (Addr×Obj)}{σ:St}{H:Hp}{s:Shared}{fp:List Addr}(I:Inv X pins σ H s)(hf:∀b∈fp,FpOk X pins H b)(ho:∀b∈fp,∃o,s.heap.get? b=some o /\ ∀v,o.data≠ .cell v):Inv X (pins++jim fp s.heap) σ H s:=
 I.pins_of λp hp=>(List.mem_append.mp hp).elim (λz=>I.pin p (List.mem_append_right _ z)) λz=>by
  obtain⟨hb,e⟩:=joc z
  obtain⟨f0,f1,f2,_⟩:=hf p.1 hb
  obtain⟨o,e',d⟩:=ho p.1 hb
  rw[e] at e';cases e'
  exact⟨e,f0,f1,f2,d⟩
theorem Inv.unpinned{pins pl:List (Addr×Obj)}{σ:St}{H:Hp}{s:Shared}(I:Inv X (pins++pl) σ H s):Inv X pins σ H s:=I.pins_of λp hp=>I.pin p (List.mem_append_right _ (List.mem_append_left _ hp))
theorem jea{iter:Expr}{body:List Stmt}{wi:TI}{g:TG}{tb:TS}{pos:Pos}(hp:PassesOwn (model X.prog X.w) X.A X.env X.xe)(hc:X.calm=true)(hi:PI X tg iter wi)(hg:PG X tg g)(hb:PSs X body tb)
  (hs:∀x,foldedSetIterable iter X.env x=pure x:=by intro _;rfl):PS X (.For tg iter body [] pos) (tFor wi g tb):=by
 intro pins s σ H D I h
 refine wpAny_For (thn (hi pins s σ H _ I h) λv s1 h1=>thn h1 λitv s2 h2=> ?_) hs
 obtain⟨it,fp,tn,J,H2,e,I2,T,st2,f2,W,⟨m0,w0⟩,turn⟩:=h2
 subst e
 have stat:∀{H':Hp},(∀b∈fp,H' b=none)->∀b∈fp,FpOk X pins H' b:=λhn b hb=>⟨hn b hb,(f2 b hb).2⟩
 refine codeAny_forLoop_any (λn s'=>∃i σ' H',Inv X pins σ' H' s' /\ tn i s'.heap /\ (∀b∈fp,H' b=none) /\ W i n σ' H') ?_ m0 ⟨0,σ,H2,I2,st2,λb hb=>(f2 b hb).1,w0⟩
 rintro n s3 ⟨i,σ3,H3,I3,st3,fr3,w3⟩
 rcases turn i n σ3 H3 w3 with⟨stop,qn⟩ | ⟨go,N,hN,step⟩
 ·refine wpAny_passesOwn hp (thn (T.done X rfl rfl rfl hc i pins s3 σ3 H3 X.xe I3 (stat fr3) st3 stop) λr s4 ⟨hr,I4⟩=> ?_)
  subst hr
  exact wpAny_execs_nil ⟨σ3,H3,I4,qn⟩
 ·refine wpAny_passesOwn hp (thn (T.item X rfl rfl rfl hc i pins s3 σ3 H3 X.xe I3 (stat fr3) st3 go) λr s4 ⟨u,hr,h4⟩=> ?_)
  subst hr
  refine wpAny_passesOwn hp (thn h4 λ_ s5 ⟨x,H5,I5,r5,y5,st5,fr5⟩=> ?_)
  have I5':=I5.pinned (stat fr5) (T.obj _ _ st5)
  refine wpAny_passesOwn hp (thn (hg _ s5 σ3 H5 x u _ I5' r5 (step x H5 y5)) λ_ s6 ⟨σ6,H6,I6,q6⟩=> ?_)
  refine wpAny_passesOwn hp (thn (hb _ s6 σ6 H6 _ I6 q6) λf s7 q7=> ?_)
  have again:∀{σ7:St} {H7:Hp},Inv X (pins++jim fp s5.heap) σ7 H7 s7->N σ7 H7->∃m,m<n /\ ∃i σ' H',Inv X pins σ' H' s7 /\ tn i s7.heap /\ (∀b∈fp,H' b=none) /\ W i m σ' H':=fun{σ7 H7} I7 n7=>by
   obtain⟨m',hm,w7⟩:=hN σ7 H7 n7
   refine⟨m',hm,i+1,σ7,H7,I7.unpinned,T.keep _ _ _ st5 λb hb o e=>(I7.pin (b,o) (List.mem_append_right _ (List.mem_append_right _ (je5 hb e)))).1,λb hb=> ?_,w7⟩
   obtain⟨o,e,d⟩:=T.obj _ _ st5 b hb
   exact(I7.pin (b,o) (List.mem_append_right _ (List.mem_append_right _ (je5 hb e)))).2.1
  cases f with
  | next=>obtain⟨σ7,H7,I7,n7⟩:=q7;exact again I7 n7
  | cont=>obtain⟨σ7,H7,I7,n7⟩:=q7;exact again I7 n7
  | brk=>obtain⟨σ7,H7,I7,q7⟩:=q7;exact⟨σ7,H7,I7.unpinned,q7⟩
  | ret v=>obtain⟨x7,σ7,H7,I7,r7,q7⟩:=q7;exact⟨x7,σ7,H7,I7.unpinned,r7,q7⟩
end
abbrev R2:=V->V->Hp->VK->Prop
def OpR(X:Cx)(f:Value->Value->Sem Value)(r:R2):Prop:=
 ∀(pins:List (Addr×Obj)) (s:Shared) (σ:St) (H:Hp) (x y:V) (v u:Value) (Q:VK),Inv X pins σ H s->RelV x v->RelV y u->r x y H Q->
  wpAny (model X.prog X.w) X.A (f v u) (EP X pins σ Q) X.xe s
def UnR(X:Cx)(f:Value->Sem Value)(r:V->Hp->VK->Prop):Prop:=
 ∀(pins:List (Addr×Obj)) (s:Shared) (σ:St) (H:Hp) (x:V) (v:Value) (Q:VK),Inv X pins σ H s->RelV x v->r x H Q->
  wpAny (model X.prog X.w) X.A (f v) (EP X pins σ Q) X.xe s
def jc7(X:Cx)(f:Value)(r:List V->Hp->VK->Prop):Prop:=
 ∀(pins:List (Addr×Obj)) (s:Shared) (σ:St) (H:Hp) (xs:List V) (us:List Value) (Q:VK),Inv X pins σ H s->Vals xs us->r xs H Q->
  wpAny (model X.prog X.w) X.A (call f us) (EP X pins σ Q) X.xe s
def TruR(X:Cx)(r:V->Hp->(Bool->Hp->Prop)->Prop):Prop:=
 ∀(pins:List (Addr×Obj)) (s:Shared) (σ:St) (H:Hp) (x:V) (v:Value) (Q:Bool->Hp->Prop),Inv X pins σ H s->RelV x v->r x H Q->
  wpAny (model X.prog X.w) X.A (truthy v) (TP X pins σ Q) X.xe s
def tOp(r:R2)(ta tb:TE):TE:=λσ H Q=>ta σ H λx H1=>tb σ H1 λy H2=>r x y H2 Q
def tUn(r:V->Hp->VK->Prop)(ta:TE):TE:=λσ H Q=>ta σ H λx H1=>r x H1 Q
def rI(C:Int->Int->Prop)(g:Int->Int->V):R2:=λx y H Q=>∃i j,x= .int i /\ y= .int j /\ C i j /\ Q (g i j) H
def rI0(g:Int->Int->V):R2:=λx y H Q=>∃i j,x= .int i /\ y= .int j /\ Q (g i j) H
def rU(g:Int->V):V->Hp->VK->Prop:=λx H Q=>∃i,x= .int i /\ Q (g i) H
section
variable {X : Cx} {a b c : Expr} {ta tb tc : TE} {pos : Pos}
theorem binT(ha:PE X a ta)(hb:PE X b tb){pins:List (Addr×Obj)}{s:Shared}{σ:St}{H:Hp}{R:V->V->Hp->Prop}(I:Inv X pins σ H s)
  (h:ta σ H λx H1=>tb σ H1 λy H2=>R x y H2) {Q:Value->Shared->Prop} {f:Value->Value->Sem Value}
  (hf:∀v u s2 x y H2,Inv X pins σ H2 s2->RelV x v->RelV y u->R x y H2->wpAny (model X.prog X.w) X.A (f v u) Q X.xe s2):
  wpAny (model X.prog X.w) X.A (eval a X.env) (λv s₁=>wpAny (model X.prog X.w) X.A (eval b X.env) (λu s₂=>wpAny (model X.prog X.w) X.A (f v u) Q X.xe s₂) X.xe s₁) X.xe s:=by
 refine thn (ha pins s σ H _ I h) λv s1 ⟨x,H1,I1,r1,q1⟩=> ?_
 refine thn (hb pins s1 σ H1 _ I1 q1) λu s2 ⟨y,H2,I2,r2,q2⟩=> ?_
 exact hf v u s2 x y H2 I2 r1 r2 q2
theorem jat{op:Operator}{r:R2}(ho:OpR X (binaryOp op) r)(ha:PE X a ta)(hb:PE X b tb):PE X (.BinOp a op b pos) (tOp r ta tb):=by
 intro pins s σ H Q I h
 exact wpAny_BinOp (binT ha hb I h λv u s2 x y H2 I2 rx ry q=>ho pins s2 σ H2 x y v u Q I2 rx ry q)
theorem jsd{op:UnaryOp}{r:V->Hp->VK->Prop}(ho:UnR X (unaryOp op) r)(ha:PE X a ta):PE X (.UnaryOp op a pos) (tUn r ta):=by
 intro pins s σ H Q I h
 exact UnaryOp_ (thn (ha pins s σ H _ I h) λv s1 ⟨x,H1,I1,r1,q1⟩=>ho pins s1 σ H1 x v Q I1 r1 q1)
theorem opI{f:Value->Value->Sem Value}{C:Int->Int->Prop}{g:Int->Int->Int}
  (rule:∀(i j:Int) (t u:Tok) (s:Shared) (Q:Value->Shared->Prop) (E:Value->Shared->Prop),C i j->Q (.int (g i j) s.toks) {s with toks:=s.toks+1}->wpAny (model X.prog X.w) X.A (f (.int i t) (.int j u)) Q E s):
  OpR X f (rI C λi j=> .int (g i j)):=by
 intro pins s σ H x y v u Q I rx ry h
 obtain⟨i,j,rfl,rfl,hc,q⟩:=h
 obtain⟨t,rfl⟩:=rx
 obtain⟨t',rfl⟩:=ry
 exact rule i j t t' s _ _ hc ⟨.int (g i j),H,I.tok _,⟨_,rfl⟩,q⟩
theorem opI0{f:Value->Value->Sem Value}{g:Int->Int->Int}
  (rule:∀(i j:Int) (t u:Tok) (s:Shared) (Q:Value->Shared->Prop) (E:Value->Shared->Prop),Q (.int (g i j) s.toks) {s with toks:=s.toks+1}->wpAny (model X.prog X.w) X.A (f (.int i t) (.int j u)) Q E s):
  OpR X f (rI0 λi j=> .int (g i j)):=by
 intro pins s σ H x y v u Q I rx ry h
 obtain⟨i,j,rfl,rfl,q⟩:=h
 obtain⟨t,rfl⟩:=rx
 obtain⟨t',rfl⟩:=ry
 exact rule i j t t' s _ _ ⟨.int (g i j),H,I.tok _,⟨_,rfl⟩,q⟩
theorem opB0{f:Value->Value->Sem Value}{g:Int->Int->Bool}
  (rule:∀(i j:Int) (t u:Tok) (s:Shared) (Q:Value->Shared->Prop) (E:Value->Shared->Prop),Q (.bool (g i j)) s->wpAny (model X.prog X.w) X.A (f (.int i t) (.int j u)) Q E s):
  OpR X f (rI0 λi j=> .bl (g i j)):=by
 intro pins s σ H x y v u Q I rx ry h
 obtain⟨i,j,rfl,rfl,q⟩:=h
 obtain⟨t,rfl⟩:=rx
 obtain⟨t',rfl⟩:=ry
 exact rule i j t t' s _ _ ⟨.bl (g i j),H,I,rfl,q⟩
def CDiv(i j:Int):Prop:=0<j /\ j<1073741824
def CPow(i j:Int):Prop:=0<=j /\ j<=1000000 /\ i.natAbs<2^64
def CMul(i j:Int):Prop:=(-(2^64)<i /\ i<2^64) \/ (-(2^64)<j /\ j<2^64)
theorem CMul.ok{i j:Int}(h:CMul i j):IntMulOk i j:=by
 rcases h with⟨h1,h2⟩ | ⟨h1,h2⟩
 ·exact .of_left (intBits_le_64 h1 h2)
 ·exact .of_right (intBits_le_64 h1 h2)
theorem jmw(k:Nat):(0:Int)<=2^k:=by
 rw[two_pow_cast]
 exact Int.natCast_nonneg _
theorem op_add:OpR X (binaryOp .Add) (rI0 λi j=> .int (i+j)):=opI0 λ_ _ _ _ _ _ _ q=>add_int q
theorem jum:OpR X (binaryOp .Sub) (rI0 λi j=> .int (i - j)):=opI0 λ_ _ _ _ _ _ _ q=>sub_int q
theorem op_mul:OpR X (binaryOp .Mult) (rI CMul λi j=> .int (i*j)):=opI λ_ _ _ _ _ _ _ hc q=>mul_int q hc.ok
theorem jem:OpR X (binaryOp .FloorDiv) (rI CDiv λi j=> .int (i / j)):=opI λi j _ _ _ _ _ hc q=>by
 have h1:(0:Int)<j:=hc.1
 have h2:j<1073741824:=hc.2
 exact floordiv_int (by omega) (by rw[Int.fdiv_eq_ediv_of_nonneg i (by omega)];exact q) (.inl (PyProof.noPylong_small (by omega)))
theorem jd1:OpR X (binaryOp .Mod) (rI (λ_ j=>0<j) λi j=> .int (i % j)):=opI λi j _ _ _ _ _ hc q=>by
 have h1:(0:Int)<j:=hc
 exact mod_int' (by omega) (by rw[Int.fmod_eq_emod_of_nonneg i (by omega)];exact q)
theorem jfi:OpR X (binaryOp .LShift) (rI CPow λi j=> .int (i*2^j.toNat)):=opI λ_ _ _ _ _ _ _ hc q=>lshift_int_small hc.1 hc.2.1 hc.2.2 q
theorem op_shr:OpR X (binaryOp .RShift) (rI (λ_ j=>0<=j) λi j=> .int (i / 2^j.toNat)):=opI λi j _ _ _ _ _ hc q=>
 rshift_int hc (by rw[Int.fdiv_eq_ediv_of_nonneg i (jmw _)];exact q)
theorem jgb:OpR X (binaryOp .BitAnd) (rI0 λi j=> .int (Builtin.bitAnd i j)):=opI0 λ_ _ _ _ _ _ _ q=>and_int q
theorem jnm:OpR X (binaryOp .BitOr) (rI0 λi j=> .int (Builtin.bitOr i j)):=opI0 λ_ _ _ _ _ _ _ q=>or_int q
theorem op_xor:OpR X (binaryOp .BitXor) (rI0 λi j=> .int (Builtin.bitXor i j)):=opI0 λ_ _ _ _ _ _ _ q=>xor_int q
theorem unI{f:Value->Sem Value}{g:Int->Int}
  (rule:∀(i:Int) (t:Tok) (s:Shared) (Q:Value->Shared->Prop) (E:Value->Shared->Prop),Q (.int (g i) s.toks) {s with toks:=s.toks+1}->wpAny (model X.prog X.w) X.A (f (.int i t)) Q E s):
  UnR X f (rU λi=> .int (g i)):=by
 intro pins s σ H x v Q I rx h
 obtain⟨i,rfl,q⟩:=h
 obtain⟨t,rfl⟩:=rx
 exact rule i t s _ _ ⟨.int (g i),H,I.tok _,⟨_,rfl⟩,q⟩
theorem jtx:UnR X (unaryOp .USub) (rU λi=> .int (-i)):=unI λ_ _ _ _ _ q=>neg_int q
theorem jtv:UnR X (unaryOp .Invert) (rU λi=> .int (Builtin.bitNot i)):=unI λ_ _ _ _ _ q=>invert_int q
end
def scal:V->V->Bool
 | .non,.non=>true | .non,.int _=>true | .int _,.non=>true | .non,.bl _=>true | .bl _,.non=>true | .non,.str _=>true | .str _,.non=>true
 | .int _,.int _=>true | .bl _,.bl _=>true | .str _,.str _=>true | .byt _,.byt _=>true
 | .int _,.str _=>true | .str _,.int _=>true | .bl _,.str _=>true | .str _,.bl _=>true
 | _,_=>false
def rEq:R2:=λx y H Q=>scal x y=true /\ Q (.bl (decide (x=y))) H
def rNe:R2:=λx y H Q=>scal x y=true /\ Q (.bl (!decide (x=y))) H
theorem jov{i j:Int}:decide (V.int i=V.int j)=(i==j):=by
 rw[Bool.eq_iff_iff]
 simp
theorem jq3{i j:Bool}:decide (V.bl i=V.bl j)=(i==j):=by
 rw[Bool.eq_iff_iff]
 simp
theorem jp5{i j:Str}:decide (V.str i=V.str j)=(i==j):=by
 rw[Bool.eq_iff_iff]
 simp
theorem jqg{i j:Array UInt8}:decide (V.byt i=V.byt j)=(i.toList==j.toList):=by
 rw[Bool.eq_iff_iff]
 cases i
 cases j
 simp
section
variable {X : Cx} {a b c : Expr} {ta tb tc : TE} {pos : Pos}
theorem jba{pins:List (Addr×Obj)}{σ:St}{H:Hp}{s:Shared}{Q:VK}{k k':Bool}(I:Inv X pins σ H s)(q:Q (.bl k) H)(e:k=k'):EP X pins σ Q (.bool k') s:=by
 subst e
 exact⟨.bl k,H,I,rfl,q⟩
theorem op_eq:OpR X (compareOp .Eq) rEq:=by
 intro pins s σ H x y v u Q I rx ry h
 obtain⟨hs,q⟩:=h
 cases x with
 | non=>
  cases rx
  cases y with
  | non=>cases ry;exact PySem.EqNone.eq_none_none (jba I q (by simp))
  | bl j=>cases ry;exact PySem.EqNone.eq_none_bool (jba I q (by simp))
  | int j=>obtain⟨t',rfl⟩:=ry;exact PySem.EqNone.eq_none_int (jba I q (by simp))
  | str j=>obtain⟨t',rfl⟩:=ry;exact PySem.EqNone.eq_none_str (jba I q (by simp))
  | _=>exact absurd (show false=true from hs) Bool.false_ne_true
 | bl i=>
  cases rx
  cases y with
  | non=>cases ry;exact PySem.EqNone.eq_bool_none (jba I q (by simp))
  | bl j=>cases ry;exact eq_bool (jba I q jq3)
  | str j=>obtain⟨t',rfl⟩:=ry;exact PySem.EqMixed.eq_bool_str (jba I q (by simp))
  | _=>exact absurd (show false=true from hs) Bool.false_ne_true
 | int i=>
  obtain⟨t,rfl⟩:=rx
  cases y with
  | non=>cases ry;exact PySem.EqNone.eq_int_none (jba I q (by simp))
  | int j=>obtain⟨t',rfl⟩:=ry;exact eq_int (jba I q jov)
  | str j=>obtain⟨t',rfl⟩:=ry;exact PySem.EqMixed.eq_int_str (jba I q (by simp))
  | _=>exact absurd (show false=true from hs) Bool.false_ne_true
 | str i=>
  obtain⟨t,rfl⟩:=rx
  cases y with
  | non=>cases ry;exact PySem.EqNone.eq_str_none (jba I q (by simp))
  | bl j=>cases ry;exact PySem.EqMixed.eq_str_bool (jba I q (by simp))
  | int j=>obtain⟨t',rfl⟩:=ry;exact PySem.EqMixed.eq_str_int (jba I q (by simp))
  | str j=>obtain⟨t',rfl⟩:=ry;exact eq_str (jba I q jp5)
  | _=>exact absurd (show false=true from hs) Bool.false_ne_true
 | byt i=>
  obtain⟨t,rfl⟩:=rx
  cases y with
  | byt j=>obtain⟨t',rfl⟩:=ry;exact W.eq_bytes (jba I q jqg)
  | _=>exact absurd (show false=true from hs) Bool.false_ne_true
 | _=>cases y<;>exact absurd (show false=true from hs) Bool.false_ne_true
theorem op_ne:OpR X (compareOp .NotEq) rNe:=by
 intro pins s σ H x y v u Q I rx ry h
 obtain⟨hs,q⟩:=h
 cases x with
 | non=>
  cases rx
  cases y with
  | non=>cases ry;exact PySem.EqNone.ne_none_none (jba I q (by simp))
  | bl j=>cases ry;exact PySem.EqNone.ne_none_bool (jba I q (by simp))
  | int j=>obtain⟨t',rfl⟩:=ry;exact PySem.EqNone.ne_none_int (jba I q (by simp))
  | str j=>obtain⟨t',rfl⟩:=ry;exact PySem.EqNone.ne_none_str (jba I q (by simp))
  | _=>exact absurd (show false=true from hs) Bool.false_ne_true
 | bl i=>
  cases rx
  cases y with
  | non=>cases ry;exact PySem.EqNone.ne_bool_none (jba I q (by simp))
  | bl j=>cases ry;exact ne_bool (jba I q (congrArg not jq3))
  | str j=>obtain⟨t',rfl⟩:=ry;exact PySem.EqMixed.ne_bool_str (jba I q (by simp))
  | _=>exact absurd (show false=true from hs) Bool.false_ne_true
 | int i=>
  obtain⟨t,rfl⟩:=rx
  cases y with
  | non=>cases ry;exact PySem.EqNone.ne_int_none (jba I q (by simp))
  | int j=>obtain⟨t',rfl⟩:=ry;exact ne_int (jba I q (congrArg not jov))
  | str j=>obtain⟨t',rfl⟩:=ry;exact PySem.EqMixed.ne_int_str (jba I q (by simp))
  | _=>exact absurd (show false=true from hs) Bool.false_ne_true
 | str i=>
  obtain⟨t,rfl⟩:=rx
  cases y with
  | non=>cases ry;exact PySem.EqNone.ne_str_none (jba I q (by simp))
  | bl j=>cases ry;exact PySem.EqMixed.ne_str_bool (jba I q (by simp))
  | int j=>obtain⟨t',rfl⟩:=ry;exact PySem.EqMixed.ne_str_int (jba I q (by simp))
  | str j=>obtain⟨t',rfl⟩:=ry;exact ne_str (jba I q (congrArg not jp5))
  | _=>exact absurd (show false=true from hs) Bool.false_ne_true
 | byt i=>
  obtain⟨t,rfl⟩:=rx
  cases y with
  | byt j=>obtain⟨t',rfl⟩:=ry;exact W.ne_bytes (jba I q (congrArg not jqg))
  | _=>exact absurd (show false=true from hs) Bool.false_ne_true
 | _=>cases y<;>exact absurd (show false=true from hs) Bool.false_ne_true
theorem op_lt:OpR X (compareOp .Lt) (rI0 λi j=> .bl (decide (i<j))):=opB0 λ_ _ _ _ _ _ _ q=>lt_int q
theorem joj:OpR X (compareOp .LtE) (rI0 λi j=> .bl (decide (i<=j))):=opB0 λ_ _ _ _ _ _ _ q=>le_int q
theorem op_gt:OpR X (compareOp .Gt) (rI0 λi j=> .bl (decide (j<i))):=opB0 λ_ _ _ _ _ _ _ q=>gt_int q
theorem jrh:OpR X (compareOp .GtE) (rI0 λi j=> .bl (decide (j<=i))):=opB0 λ_ _ _ _ _ _ _ q=>ge_int q
theorem jpc:OpR X (compareOp .In) (λx y H Q=>∃i j,x= .str i /\ y= .str j /\ Q (.bl (!(Builtin.Str.occurrences j i 0 j.length 1).isEmpty)) H):=by
 intro pins s σ H x y v u Q I rx ry h
 obtain⟨i,j,rfl,rfl,q⟩:=h
 obtain⟨t,rfl⟩:=rx
 obtain⟨t',rfl⟩:=ry
 exact in_str (jba I q rfl)
theorem op_isN:OpR X (compareOp .Is) (λx y H Q=>y= .non /\ Q (.bl (decide (x= .non))) H):=by
  intro pins s σ H x y v u Q I rx ry h
  obtain⟨rfl,q⟩:=h
  cases ry
  refine is_none_gen (jba I q ?_)
  cases x<;>first
    | (cases rx;rfl)
    | (obtain⟨t,rfl⟩:=rx;rfl)
theorem jb1(b:Expr){op:CmpOp}(h:op≠ .In:=by decide)(h2:op≠ .NotIn:=by decide):behindInMarks op b=false:=by
 have e1:(op==CmpOp.In)=false:=by cases op<;>first | rfl | exact absurd rfl h
 have e2:(op==CmpOp.NotIn)=false:=by cases op<;>first | rfl | exact absurd rfl h2
 cases b<;>simp[behindInMarks,e1,e2]
theorem jgw{op:CmpOp}{r:R2}(ho:OpR X (compareOp op) r)(ha:PE X a ta)(hb:PE X b tb)(hm:behindInMarks op b=false):PE X (.Compare a [op] [b] pos) (tOp r ta tb):=by
 intro pins s σ H Q I h
 exact wpAny_Compare1 (binT ha hb I h λv u s2 x y H2 I2 rx ry q=>ho pins s2 σ H2 x y v u Q I2 rx ry q) hm
def jwz(t:TE):TT:=λσ H Q=>t σ H λx H'=>∃k,x= .bl k /\ Q k H'
theorem jar{op:CmpOp}{r:R2}(ho:OpR X (compareOp op) r)(ha:PE X a ta)(hb:PE X b tb)(hm:behindInMarks op b=false):PT X (.Compare a [op] [b] pos) (jwz (tOp r ta tb)):=by
 intro pins s σ H Q I h
 refine wpAny_isTrue_Compare1 (thn (ha pins s σ H _ I h) λv s1 ⟨x,H1,I1,r1,q1⟩=>thn (hb pins s1 σ H1 _ I1 q1) λu s2 ⟨y,H2,I2,r2,q2⟩=>
  thn (ho pins s2 σ H2 x y v u _ I2 r1 r2 q2) λc s3 ⟨z,H3,I3,r3,k,e,q3⟩=> ?_) hm
 subst e
 cases r3
 exact wpAny_truthy_bool ⟨H3,I3,q3⟩
def jtk(r r':R2)(ta tb tc:TE):TE:=λσ H Q=>ta σ H λx H1=>tb σ H1 λy H2=>r x y H2 λz H3=>∃k,z= .bl k /\
 (if k=true then tc σ H3 λw' H4=>r' y w' H4 Q else Q (.bl false) H3)
theorem ji0{op op':CmpOp}{r r':R2}(ho:OpR X (compareOp op) r)(ho':OpR X (compareOp op') r')(ha:PE X a ta)(hb:PE X b tb)(hc:PE X c tc)
  (hm:lastMarks [op,op'] [b,c]=false:=by with_unfolding_all rfl):PT X (.Compare a [op,op'] [b,c] pos) (jwz (jtk r r' ta tb tc)):=by
 intro pins s σ H Q I h
 refine isTrue_chain (thn (ha pins s σ H _ I h) λv s1 ⟨x,H1,I1,r1,q1⟩=>test_link (thn (hb pins s1 σ H1 _ I1 q1) λu s2 ⟨y,H2,I2,r2,q2⟩=>
  thn (ho pins s2 σ H2 x y v u _ I2 r1 r2 q2) λd s3 ⟨z,H3,I3,r3,k,e,q3⟩=> ?_)) hm
 subst e
 cases r3
 refine wpAny_truthy_bool ?_
 cases k with
 | false=>
  obtain⟨k',e',q'⟩:=q3
  cases e'
  exact ite_ff ⟨H3,I3,q'⟩
 | true=>
  refine ite_tt (test_last (thn (hc pins s3 σ H3 _ I3 q3) λw' s4 ⟨z',H4,I4,r4,q4⟩=>thn (ho' pins s4 σ H4 y z' u w' _ I4 r2 r4 q4) λd' s5 ⟨z2,H5,I5,r5,k2,e2,q5⟩=> ?_))
  subst e2
  cases r5
  exact wpAny_truthy_bool ⟨H5,I5,q5⟩
def TruV(K:W.Frag)(x:V)(H:Hp)(k:Bool):Prop:=
 match x with
 | .non=>k=false
 | .bl b=>k=b
 | .int i=>k=(i !=0)
 | .str y=>y.length<=sizeLine /\ k=((y.length:Int)!=0)
 | .byt y=>y.size<=sizeLine /\ k=((y.size:Int)!=0)
 | .ref p=>(∃xs,SqL K H p xs /\ k= !xs.isEmpty) \/ (∃xs,SqT K H p xs /\ k= !xs.isEmpty) \/ ∃kvs,H p=some (.dK kvs) /\ k= !kvs.isEmpty
 | _=>False
theorem jmt{κ:Type}{kvs:List (κ×V)}{vs:List (κ×Value)}(r:KV kvs vs):(!vs.isEmpty)= !kvs.isEmpty:=by
 cases r<;>rfl
theorem jht{xs:List V}{its:List Value}(r:Vals xs its):(!its.toArray.isEmpty)= !xs.isEmpty:=by
 cases r<;>simp
theorem jhr:(sizeLine:Nat)<2^63:=by rw[sizeLine_eq];decide
theorem jui:TruR X (λx H Q=>∃k,TruV X.K x H k /\ Q k H):=by
 intro pins s σ H x v Q I rx h
 obtain⟨k,e,q⟩:=h
 have hl:=jhr
 have hs:sizeLine=16777216:=sizeLine_eq
 cases x with
 | non=>
  cases rx
  have e':k=false:=e
  subst e'
  exact truthy_none ⟨H,I,q⟩
 | bl b=>
  cases rx
  have e':k=b:=e
  subst e'
  exact wpAny_truthy_bool ⟨H,I,q⟩
 | int i=>
  obtain⟨t,rfl⟩:=rx
  have e':k=(i !=0):=e
  subst e'
  exact PySem.P.truthy_int ⟨H,I,q⟩
 | str y=>
  obtain⟨t,rfl⟩:=rx
  obtain⟨hy,e'⟩:y.length<=sizeLine /\ k=((y.length:Int)!=0):=e
  subst e'
  exact PySem.P.truthy_str (by omega) ⟨H,I.tok _,q⟩
 | byt y=>
  obtain⟨t,rfl⟩:=rx
  obtain⟨hy,e'⟩:y.size<=sizeLine /\ k=((y.size:Int)!=0):=e
  subst e'
  exact W.truthy_bytes (by omega) ⟨H,I.tok _,q⟩
 | ref p=>
  cases rx
  have e':(∃xs,SqL X.K H p xs /\ k= !xs.isEmpty) \/ (∃xs,SqT X.K H p xs /\ k= !xs.isEmpty) \/ ∃kvs,H p=some (.dK kvs) /\ k= !kvs.isEmpty:=e
  rcases e' with⟨xs,hx,e'⟩ | ⟨xs,hx,e'⟩ | ⟨kvs,hx,e'⟩
  ·subst e'
   obtain⟨its,r,pl,hz⟩:=I.list hx
   have hlen:=r.length
   exact wpAny_truthy_list pl.isList (by simp only[List.size_toArray];omega) ⟨H,I.tok _,by rw[jht r];exact q⟩
  ·subst e'
   obtain⟨its,r,pl,hz⟩:=I.tuple hx
   have hlen:=r.length
   exact truthy_tuple pl (by simp only[List.size_toArray];omega) ⟨H,I.tok _,by rw[jht r];exact q⟩
  ·subst e'
   obtain⟨hz,hS,vs,r,m⟩:kvs.length<=sizeLine /\ (p==sysModules)=false /\ ∃vs,KV kvs vs /\ s.heap.DictOf (jbw X.prog X.w) p vs:=I.hok p _ hx
   have hlen:kvs.length=vs.length:=Paired.length r
   exact wpAny_truthy_dict hS m (by omega) ⟨H,I.tok _,by rw[jmt r];exact q⟩
 | _=>exact(show False from e).elim
theorem jre(ha:PE X a ta)(he:∀whole,isTrue a X.env whole=(do let v<-whole;standAt a.pos;holding [v] (truthy v))):
  PT X a (λσ H Q=>ta σ H λx H'=>∃k,TruV X.K x H' k /\ Q k H'):=by
 intro pins s σ H Q I h
 exact isTrue_plain (thn (ha pins s σ H _ I h) λv s1 ⟨x,H1,I1,r1,q1⟩=>jui pins s1 σ H1 x v Q I1 r1 q1) (he _)
theorem jnh:OpR X (binaryOp .Add) (λx y H Q=>∃i j,x= .str i /\ y= .str j /\ i.length+j.length<=sizeLine /\ Q (.str (i++j)) H):=by
 intro pins s σ H x y v u Q I rx ry h
 obtain⟨i,j,rfl,rfl,hz,q⟩:=h
 obtain⟨t,rfl⟩:=rx
 obtain⟨t',rfl⟩:=ry
 exact add_str (λt' tk=>⟨.str (i++j),H,I.tok _,⟨_,rfl⟩,q⟩) hz
theorem jgt{x:V}{us:List Value}(r:Vals [x] us):∃u,us=[u] /\ RelV x u:=by
 cases r with
 | cons r1 r2=>cases r2;exact⟨_,rfl,r1⟩
theorem vals2{x y:V}{us:List Value}(r:Vals [x,y] us):∃u w',us=[u,w'] /\ RelV x u /\ RelV y w':=by
 cases r with
 | cons r1 r2=>
  cases r2 with
  | cons r3 r4=>cases r4;exact⟨_,_,rfl,r1,r3⟩
theorem jqe(hc:X.calm=true):jc7 X (.builtin "max") (λxs H Q=>∃i j,xs=[.int i,.int j] /\ Q (.int (if j>i then j else i)) H):=by
 intro pins s σ H xs us Q I r h
 obtain⟨i,j,rfl,q⟩:=h
 obtain⟨u,w',rfl,⟨t,rfl⟩,⟨t',rfl⟩⟩:=vals2 r
 refine max_two_ints (I.ok.hd hc) λh' tk k=>⟨_,H,I.kept k,?_,q⟩
 by_cases hj:j>i
 ·rw[if_pos hj,if_pos hj];exact⟨_,rfl⟩
 ·rw[if_neg hj,if_neg hj];exact⟨_,rfl⟩
theorem joz:jc7 X (.type "int") (λxs H Q=>(∃i,xs=[.int i] /\ Q (.int i) H) \/ ∃k,xs=[.bl k] /\ Q (.int (if k then 1 else 0)) H):=by
 intro pins s σ H xs us Q I r h
 rcases h with⟨i,rfl,q⟩ | ⟨k,rfl,q⟩
 ·obtain⟨u,rfl,t,rfl⟩:=jgt r
  exact call_int_int ⟨.int i,H,I,⟨_,rfl⟩,q⟩
 ·obtain⟨u,rfl,r1⟩:=jgt r
  cases r1
  exact call_int_bool ⟨.int (if k then 1 else 0),H,I.tok _,⟨_,rfl⟩,q⟩
theorem jiy:jc7 X (.type "str") (λxs H Q=>∃i,xs=[.int i] /\ i.natAbs.log2<1920 /\ Q (.str (toString i)) H):=by
 intro pins s σ H xs us Q I r h
 obtain⟨i,rfl,hz,q⟩:=h
 obtain⟨u,rfl,t,rfl⟩:=jgt r
 exact PySem.P.str_of_int hz ⟨.str _,H,I.tok _,⟨_,rfl⟩,q⟩
end
structure ObjM (h:Heap) (x dx C:Addr) (mA:Str->Option Value):Prop where
 obj:h.get? x=some (W.instObj C dx)
 ns:h.Ns1 dx mA
 ne:dx≠x
theorem jpd{h:Heap}{dx:Addr}{mA:Str->Option Value}(n:h.Ns1 dx mA):∃od,h.get? dx=some od /\ ∀name,W.lookIn name od=some (mA name):=by
 obtain⟨o,es,ep,ho,hd,hk,_,hm⟩:=n
 refine⟨o,ho,λname=> ?_⟩
 have e:=hm name
 unfold nsFind findBy at e
 rw[<-Array.find?_toList] at e
 unfold W.lookIn
 rw[hd]
 dsimp only
 split
 ·rename_i y q
  rw[q] at e
  exact congrArg some e
 ·rename_i q
  rw[q] at e
  have a:es.toList.any (·.refKey)=false:=by
   rw[List.any_eq_false]
   intro y hy
   obtain⟨z,t,hkey⟩:=hk y (Array.mem_toList_iff.mp hy)
   simp[DictEntry.refKey,hkey]
  have a':¬es.toList.any (·.refKey)=true:=by rw[a];exact Bool.false_ne_true
  rw[if_neg a']
  exact congrArg some e
theorem ObjM.look{h:Heap}{x dx C:Addr}{mA:Str->Option Value}(I:ObjM h x dx C mA):∃od,W.InstAt h x (W.instObj C dx) C (some od) /\ ∀name,W.lookIn name od=some (mA name):=
 let ⟨od,ho,hl⟩:=jpd I.ns
 ⟨od,⟨I.obj,rfl,rfl,ho⟩,hl⟩
section
variable {prog : Program} {w : World} {A : Around} {E : Value -> Shared -> Prop} {s : Shared} {K : W.Frag} {x dx C f : Addr} {mA : Str -> Option Value} {name : Str} {v : Value}
theorem jwa{expr:Bool}{Q:Value->Shared->Prop}(X:K.In s.heap)(I:ObjM s.heap x dx C mA)(hg:W.plainGet K C name=true)(hh:W.hasDictIn K C=true)
  (ha:W.findIn K (.ref C) name=some none) (hv:mA name=some v) (hv':W.handedIn v=true) (h:Q v {s with toks:=s.toks+1}):
  wpAny (model prog w) A (getAttr (.ref x) name expr) Q E s:=by
 obtain⟨od,J,hl⟩:=I.look
 exact W.get_value X J (W.plainGet_of hg).1 (W.findObj_own hh ha rfl (by rw[hl,hv])) hv' h
theorem jrp{pl:Sem Bool}{Q:Value×List Value->Shared->Prop}(X:K.In s.heap)(I:ObjM s.heap x dx C mA)(hg:W.plainGet K C name=true)
  (hf:W.findIn K (.ref C) name=some (some (.ref f))) (ht:W.isFn K (.ref f)=true) (hv:mA name=none) (h:Q (.ref f,[.ref x]) s):
  wpAny (model prog w) A (getMethod (.ref x) name pl) Q E s:=by
 obtain⟨od,J,hl⟩:=I.look
 exact W.method_fn X J (W.plainGet_of hg).1 (W.plainGet_of hg).2 hf (beq_iff_eq.mp ht) (by show(W.lookIn name od).map (·.isSome)=some false;rw[hl,hv];rfl) h
theorem juw{ns:List Str}{Q:Unit->Shared->Prop}(X:K.In s.heap)(I:ObjM s.heap x dx C mA)
  (hs:W.findIn K (.ref C) "__setattr__"=some (some (.builtin "object.__setattr__"))) (hp:W.plainOver K C=true) (ht:W.takerIn K C name=some none) (hh:W.hasDictIn K C=true)
  (hw:PySem.Within mA ns) (hsz:ns.length<=sizeLine)
  (h:∀h',ObjM h' x dx C (λy=>if y=name then some v else mA y)->Heap.SameBut dx s.heap h'->Q () {s with heap:=h',toks:=s.toks+2}):
  wpAny (model prog w) A (setAttr (.ref x) name v) Q E s:=by
 obtain⟨od,J,hl⟩:=I.look
 refine W.set_plain X J hs (W.osa_open (s:={s with toks:=s.toks+1}) (r:=none) X J hp ht λb=> ?_)
 obtain⟨cd,hc,hd'⟩:=W.any_some hh
 have hx:s.heap.get? x=some ⟨.ref C,some dx,.plain,#[]⟩:=I.obj
 refine wpAny_bind (wpAny_pure (wpAny_bind (wpAny_bind (wpAny_loadPart hx (wpAny_bind (W.Looks.here (s:={s with toks:=s.toks+1}) (W.looks_clsIn X hc) ?_))))))
 rw[hd']
 refine wpAny_pure (a:=some dx) (wpAny_bind (wpAny_pure (wpAny_bind ?_)))
 refine wpAny_nsSet1 (s:={s with toks:=s.toks+1}) I.ns λh' hn2 hs2=> ?_
 obtain⟨oD,esD,epD,hoD,hdD,hcD⟩:=hn2.count (PySem.Within.cons name v hw)
 refine wpAny_bind (wpAny_lookBehind hoD (by rw[hdD];exact pastItsLine_dict (Nat.le_trans hcD (by rw[List.length_cons];omega))) ?_)
 exact wpAny_pure (h _ ⟨(hs2.2 _ (Ne.symm I.ne)).trans I.obj,hn2,I.ne⟩ hs2)
theorem jsx{R:Result->Shared->Prop}{vs:List Value}{kw:List (Str×Value)}(X:K.In s.heap)(hm:W.makesIn K C=true)
    (hi:W.findIn K (.ref C) "__init__"=some (some (.ref f))) (hf:W.typeIn K (.ref f)=some (.type "function"))
    (h:codeAny (model prog w) (A.under (.builtin "type.__call__" ⟨.ref C::vs,kw⟩)) (.call (.ref f) ⟨.ref (s.heap.objs.size+1)::vs,kw⟩) (W.InitBack (s.heap.objs.size+1) R)
      {s with heap:=(s.heap.push W.emptyDict).push (W.instObj C s.heap.objs.size)}):
    codeAny (model prog w) A (.call (.ref C) ⟨vs,kw⟩) R s:=by
  obtain⟨hh,g,d,t,os⟩:=s
  exact W.make_core (W.makes_of X hm) (W.looks_findIn X hi) (λself=>W.bind_fn X self hf) (.inl rfl) h
end
def putF(f:Str)(v:V):List (Str×V)->List (Str×V)
  | []=>[(f,v)]
  | (g,x)::r=>if g=f then(g,v)::r else(g,x)::putF f v r
theorem jge(f g:Str)(v:V):∀fs:List (Str×V),(putF f v fs).lookup g=if g=f then some v else fs.lookup g
  | []=>by
    show List.lookup g [(f,v)]=_
    by_cases h:g=f
    · have hb:(g==f)=true:=beq_iff_eq.mpr h
      simp only[List.lookup,hb,if_pos h]
    · have hb:(g==f)=false:=beq_eq_false_iff_ne.mpr h
      simp only[List.lookup,hb,if_neg h]
  | (k,x)::r=>by
    have ih:=jge f g v r
    rw[show putF f v ((k,x)::r)=(if k=f then(k,v)::r else(k,x)::putF f v r) from rfl]
    by_cases hk:k=f
    · rw[if_pos hk]
      by_cases h:g=k
      · have hb:(g==k)=true:=beq_iff_eq.mpr h
        simp only[List.lookup,hb,if_pos (h.trans hk)]
      · have hb:(g==k)=false:=beq_eq_false_iff_ne.mpr h
        simp only[List.lookup,hb,if_neg (λe:g=f=>h (e.trans hk.symm))]
    · rw[if_neg hk]
      by_cases h:g=k
      · have hb:(g==k)=true:=beq_iff_eq.mpr h
        simp only[List.lookup,hb,if_neg (λe:g=f=>hk (h.symm.trans e))]
      · have hb:(g==k)=false:=beq_eq_false_iff_ne.mpr h
        simp only[List.lookup,hb]
        exact ih
theorem jgo(f:Str)(v:V):∀fs:List (Str×V),f∈(putF f v fs).map (·.1) /\ ∀g,g∈fs.map (·.1)->g∈(putF f v fs).map (·.1)
  | []=>⟨by simp[putF],λg h=>by simp at h⟩
  | (k,x)::r=>by
    obtain⟨i1,i2⟩:=jgo f v r
    rw[show putF f v ((k,x)::r)=(if k=f then(k,v)::r else(k,x)::putF f v r) from rfl]
    by_cases hk:k=f
    · rw[if_pos hk]
      subst hk
      exact⟨by simp,λg h=>by simpa using h⟩
    · rw[if_neg hk]
      refine⟨?_,λg h=> ?_⟩
      · rw[List.map_cons]
        exact List.mem_cons_of_mem _ i1
      · rw[List.map_cons] at h ⊢
        rcases List.mem_cons.mp h with e | e
        · exact List.mem_cons.mpr (.inl e)
        · exact List.mem_cons_of_mem _ (i2 g e)
theorem jgl(f:Str)(v:V):∀fs:List (Str×V),(putF f v fs).length<=fs.length+1
  | []=>by simp[putF]
  | (k,x)::r=>by
    have ih:=jgl f v r
    rw[show putF f v ((k,x)::r)=(if k=f then(k,v)::r else(k,x)::putF f v r) from rfl]
    by_cases hk:k=f
    · rw[if_pos hk,List.length_cons,List.length_cons];omega
    · rw[if_neg hk,List.length_cons,List.length_cons];omega
theorem RelO.some_of{v:V}{o:Option Value}(r:RelO (some v) o):∃u,o=some u /\ RelV v u:=by
 cases o with
 | none=>exact(show False from r).elim
 | some u=>exact⟨u,rfl,r⟩
theorem RelO.none_of{o:Option Value}(r:RelO none o):o=none:=by
 cases o with
 | none=>rfl
 | some u=>exact(show False from r).elim
theorem jof{v:V}{u:Value}(r:RelV v u):W.handedIn u=true:=by
 cases v with
 | non=>cases (show u=Value.none from r);rfl
 | bl b=>cases (show u=Value.bool b from r);rfl
 | int i=>obtain⟨t,e⟩:=(show ∃t,u=Value.int i t from r);cases e;rfl
 | str x=>obtain⟨t,e⟩:=(show ∃t,u=Value.str x t from r);cases e;rfl
 | byt b=>obtain⟨t,e⟩:=(show ∃t,u=Value.bytes b t from r);cases e;rfl
 | flt b=>obtain⟨t,e⟩:=(show ∃t,u=Value.float b t from r);cases e;rfl
 | ref a=>cases (show u=Value.ref a from r);rfl
 | ty n=>cases (show u=Value.type n from r);rfl
section
variable {P : Program} {w : World} {H H' : Hp} {h h' : Heap} {a C dx : Addr} {fs fs' : List (Str × V)}
theorem jhx(hok:HOk P w H h)(e:H a=some (.ins C dx fs)):∃mA,ObjM h a dx C mA /\ (∀f,RelO (fs.lookup f) (mA f)) /\ PySem.Within mA (fs.map (·.1)) /\ fs.length<=1000 /\ H dx=some (.own a):=by
 obtain⟨d,z,ne,ob,mA,n,r,q⟩:=(show jc6 P w H h a (.ins C dx fs) from hok a _ e)
 exact⟨mA,⟨ob,n,ne⟩,r,q,z,d⟩
end
structure Cls (K:W.Frag) (C:Addr):Prop where
 pg:W.plainGet K C Str.empty=true
 hd:W.hasDictIn K C=true
 po:W.plainOver K C=true
 sa:W.findIn K (.ref C) "__setattr__"=some (some (.builtin "object.__setattr__"))
theorem Cls.get{K:W.Frag}{C:Addr}(c:Cls K C)(f:Str):W.plainGet K C f=true:=c.pg
def jbb(K:W.Frag)(C:Addr)(f:Str):Prop:=W.findIn K (.ref C) f=some none
theorem jbb.taker{K:W.Frag}{C:Addr}{f:Str}(n:jbb K C f):W.takerIn K C f=some none:=by
 unfold W.takerIn
 rw[show W.findIn K (.ref C) f=some none from n]
 rfl
structure Meth (K:W.Frag) (C:Addr) (m:Str) (f:Addr):Prop where
 at_:W.findIn K (.ref C) m=some (some (.ref f))
 fn:W.isFn K (.ref f)=true
 kp:W.keepIn K (.ref f)=true
section
variable {X : Cx} {pins : List (Addr × Obj)} {σ : St} {H : Hp} {s : Shared} {a C dx : Addr} {fs : List (Str × V)} {f : Str} {v : V} {A : Around} {E : Value -> Shared -> Prop}
theorem jmm{b:Bool}{Q:Value->Shared->Prop}(I:Inv X pins σ H s)(e:H a=some (.ins C dx fs))(c:Cls X.K C)(n:jbb X.K C f)(l:fs.lookup f=some v)
  (h:∀u s',Inv X pins σ H s'->RelV v u->Q u s'):wpAny (model X.prog X.w) A (getAttr (.ref a) f b) Q E s:=by
 obtain⟨mA,O,r,_,_,_⟩:=jhx I.hok e
 obtain⟨u,hu,ru⟩:=RelO.some_of (v:=v) (o:=mA f) (by rw[<-l];exact r f)
 exact jwa I.kIn O (c.get f) c.hd n hu (jof ru) (h u _ (I.tok _) ru)
theorem jf4{m:Str}{g:Addr}{pl:Sem Bool}{Q:Value×List Value->Shared->Prop}(I:Inv X pins σ H s)(e:H a=some (.ins C dx fs))(c:Cls X.K C)(k:Meth X.K C m g)(l:fs.lookup m=none)
  (h:Q (.ref g,[.ref a]) s):wpAny (model X.prog X.w) A (getMethod (.ref a) m pl) Q E s:=by
 obtain⟨mA,O,r,_,_,_⟩:=jhx I.hok e
 have hn:mA m=none:=RelO.none_of (by rw[<-l];exact r m)
 exact jrp I.kIn O (c.get m) k.at_ k.fn hn h
theorem jnd{y:V}{u:Value}{Q:Unit->Shared->Prop}(I:Inv X pins σ H s)(e:H a=some (.ins C dx fs))(c:Cls X.K C)(n:jbb X.K C f)(hl:fs.length<1000)(ry:RelV y u)
  (h:∀s',Inv X pins σ (upd H a (.ins C dx (putF f y fs))) s'->Q () s'):wpAny (model X.prog X.w) A (setAttr (.ref a) f u) Q E s:=by
 obtain⟨mA,O,r,wi,_,ho⟩:=jhx I.hok e
 have hz:(fs.map (·.1)).length<=sizeLine:=by rw[List.length_map,sizeLine_eq];omega
 refine juw I.kIn O c.sa c.po n.taker c.hd wi hz λh' O' sb=>h _ ?_
 have hd:∃o,h'.get? dx=some o:=let ⟨o,_,_,e',_⟩:=O'.ns;⟨o,e'⟩
 refine I.write (x:=a) (e:=dx) (by rw[e];exact True.intro) (.inr ho) (λb q hb z=>(sb.2 b hb).trans z) hd ?_
 refine⟨by rw[jad O.ne];exact ho,?_,O.ne,O'.obj,_,O'.ns,λg=> ?_,λg hg=> ?_⟩
 ·have:=jgl f y fs;omega
 ·show RelO ((putF f y fs).lookup g) (if g=f then some u else mA g)
  rw[jge]
  by_cases q:g=f
  ·rw[if_pos q,if_pos q];exact ry
  ·rw[if_neg q,if_neg q];exact r g
 ·by_cases q:g=f
  ·rw[q];exact(jgo f y fs).1
  ·refine(jgo f y fs).2 g (wi g λz=>hg ?_)
   show(if g=f then some u else mA g)=none
   rw[if_neg q];exact z
theorem Inv.made(I:Inv X pins σ H s):Inv X pins σ (upd (upd H s.heap.objs.size (.own (s.heap.objs.size+1))) (s.heap.objs.size+1) (.ins C s.heap.objs.size []))
    {s with heap:=(s.heap.push W.emptyDict).push (W.instObj C s.heap.objs.size)}:=by
  have e1:(s.heap.push W.emptyDict).get? s.heap.objs.size=some W.emptyDict:=Heap.get?_push_size s.heap rfl
  have e2:((s.heap.push W.emptyDict).push (W.instObj C s.heap.objs.size)).get? (s.heap.objs.size+1)=some (W.instObj C s.heap.objs.size):=by
    have:=Heap.get?_push_size (s.heap.push W.emptyDict) (o:=W.instObj C s.heap.objs.size) rfl
    rwa [Heap.size_push] at this
  have e3:(s.heap.push W.emptyDict).Ns s.heap.objs.size (λ_=>none):=⟨W.emptyDict,#[],_,e1,rfl,(λe he=>absurd he (by simp)),λ_=>rfl⟩
  have I1:=I.laid (a:=s.heap.objs.size) (o:= .own (s.heap.objs.size+1)) (h':=s.heap.push W.emptyDict) (t':=s.toks) (λb u q=>Heap.get?_push_of_some _ q) (Nat.le_refl _) ⟨_,e1⟩
  refine I1.laid (a:=s.heap.objs.size+1) (o:= .ins C s.heap.objs.size []) (t':=s.toks) (λb u q=>Heap.get?_push_of_some _ q) (Nat.le_of_eq (Heap.size_push _ _)) ?_
  have ne:s.heap.objs.size≠s.heap.objs.size+1:=Nat.ne_of_lt (Nat.lt_succ_self _)
  refine⟨by rw[jad ne,jax],Nat.zero_le _,ne,e2,λ_=>none,(Heap.Ns1.of_empty e3).at λo q=>Heap.get?_push_of_some _ q,λ_=>True.intro,λy hy=>absurd rfl hy⟩
theorem jv2{prog:Program}{w:World}{env:Env}{e:Expr}{f:Str}{pos:Pos}{s:Shared}{Q:Value->Shared->Prop}(hb:attributeBase e f env (eval e env)=eval e env)
  (h:wpAny (model prog w) A (eval e env) (λo s₁=>wpAny (model prog w) A (getAttr o f true) Q E s₁) E s):wpAny (model prog w) A (eval (.Attribute e f pos) env) Q E s:=
 Attribute_any_ h (by rw[arm_eval_Attribute,hb])
end
def tFld(K:W.Frag)(ta:TE)(f:Str):TE:=λσ H Q=>ta σ H λx H1=>∃a C dx fs v,x= .ref a /\ H1 a=some (.ins C dx fs) /\ Cls K C /\ jbb K C f /\ fs.lookup f=some v /\ Q v H1
def sFld(K:W.Frag)(ta tv:TE)(f:Str):TS:=λD σ H=>tv σ H λy H1=>ta σ H1 λx H2=>∃a C dx fs,x= .ref a /\ H2 a=some (.ins C dx fs) /\ Cls K C /\ jbb K C f /\ fs.length<1000 /\
 D.nx σ (upd H2 a (.ins C dx (putF f y fs)))
section
variable {X : Cx} {o e value : Expr} {f : Str} {pos pos' tpos : Pos} {ta tv : TE}
theorem jb5(he:PE X e ta)(hb:attributeBase e f X.env (eval e X.env)=eval e X.env):PE X (.Attribute e f pos) (tFld X.K ta f):=by
 intro pins s σ H Q I h
 refine jv2 hb (thn (he pins s σ H _ I h) λu s1 ⟨x,H1,I1,rx,a,C,dx,fs,v,ex,ea,c,n,l,q⟩=> ?_)
 subst ex
 obtain rfl:u=Value.ref a:=rx
 exact jmm I1 ea c n l λu' s2 I2 ru=>⟨v,H1,I2,ru,q⟩
theorem jcp(ha:PE X o ta)(hv:PE X value tv)(hs:swapsWith value (some (.Attribute o f pos')) pos.line X.env=pure false):PS X (.Assign [.Attribute o f pos'] value pos) (sFld X.K ta tv f):=by
 intro pins s σ H D I h
 refine plainObj_wpAny_Assign_Attribute (thn (hv pins s σ H _ I h) λu s1 ⟨y,H1,I1,ry,q⟩=>thn (ha pins s1 σ H1 _ I1 q) λov s2 ⟨x,H2,I2,rx,a,C,dx,fs,ex,ea,c,n,l,q2⟩=> ?_) hs
 subst ex
 obtain rfl:ov=Value.ref a:=rx
 exact jnd I2 ea c n l ry λs3 I3=>⟨σ,_,I3,q2⟩
end
section
variable {X : Cx} {pins : List (Addr × Obj)} {σ : St} {H : Hp} {s : Shared} {A : Around} {E : Value -> Shared -> Prop} {Q : Value -> Shared -> Prop} {c : Value} {b : Bool}
inductive TyOf (K:W.Frag) (H:Hp):V->Value->Prop where
 | non:TyOf K H .non (.type "NoneType")
 | bl (x:Bool):TyOf K H (.bl x) (.type "bool")
 | int (i:Int):TyOf K H (.int i) (.type "int")
 | str (x:Str):TyOf K H (.str x) (.type "str")
 | flt (x:UInt64):TyOf K H (.flt x) (.type "float")
 | lst {a:Addr} {xs:List V} (e:H a=some (.lst xs)):TyOf K H (.ref a) (.type "list")
 | frz {a:Addr} {o:Obj} {xs:List V} (e:H a=some (.frz o (.lst xs))):TyOf K H (.ref a) (.type "list")
 | tup {a:Addr} {xs:List V} (e:H a=some (.tup xs)):TyOf K H (.ref a) (.type "tuple")
 | dK {a:Addr} {kvs:List (Key×V)} (e:H a=some (.dK kvs)):TyOf K H (.ref a) (.type "dict")
 | dT {a:Addr} {kvs:List (List Key×V)} (e:H a=some (.dT kvs)):TyOf K H (.ref a) (.type "dict")
 | ins {a C dx:Addr} {fs:List (Str×V)} (e:H a=some (.ins C dx fs)) (cl:Cls K C) (ha:W.findIn K (.ref C) "__class__"=some (some (.builtin "object.__class__")))
   (hn:W.specialIn K (.builtin "object.__class__") "__get__"=some (some (.builtin "getset_descriptor.__get__"))) (htk:W.takesIn K (.builtin "object.__class__")=some true)
   (hm:W.mroIn K C (.type "object")=some true):TyOf K H (.ref a) (.ref C)
theorem jp3{x:V}{u t:Value}(I:Inv X pins σ H s)(rx:RelV x u)(ty:TyOf X.K H x t)(e:W.kitOne X.K t c=some b)(h:∀tk,Q (.bool b) {s with toks:=tk}):
  wpAny (model X.prog X.w) A (call (.builtin "isinstance") [u,c]) Q E s:=by
 cases ty with
 | non=>cases (show u=Value.none from rx);exact W.kia_one W.kitx_none I.kIn True.intro e (λz=>nomatch z) h
 | bl y=>cases (show u=Value.bool y from rx);exact W.kia_one W.kitx_bool I.kIn True.intro e (λz=>nomatch z) h
 | int i=>obtain⟨t,q⟩:=(show ∃t,u=Value.int i t from rx);cases q;exact W.kia_one W.kitx_int I.kIn True.intro e (λz=>nomatch z) h
 | str y=>obtain⟨t,q⟩:=(show ∃t,u=Value.str y t from rx);cases q;exact W.kia_one W.kitx_str I.kIn True.intro e (λz=>nomatch z) h
 | flt y=>obtain⟨t,q⟩:=(show ∃t,u=Value.float y t from rx);cases q;exact W.kia_one W.kitx_float I.kIn True.intro e (λz=>nomatch z) h
 | @lst a xs ea=>
  cases (show u=Value.ref a from rx)
  obtain⟨_,_,n,_,h1⟩:=(show jc6 X.prog X.w H s.heap a (.lst xs) from I.hok a _ ea)
  exact W.kia_one W.kitx_list I.kIn ⟨_,h1,rfl⟩ e (λz=>nomatch z) h
 | @frz a ob xs ea=>
  cases (show u=Value.ref a from rx)
  obtain⟨_,_,_,n,_,h1⟩:=(show jc6 X.prog X.w H s.heap a (.frz ob (.lst xs)) from I.hok a _ ea)
  exact W.kia_one W.kitx_list I.kIn ⟨_,h1,rfl⟩ e (λz=>nomatch z) h
 | @tup a xs ea=>
  cases (show u=Value.ref a from rx)
  obtain⟨_,_,_,p⟩:=(show jc6 X.prog X.w H s.heap a (.tup xs) from I.hok a _ ea)
  obtain⟨o,h1,h2,_⟩:=p
  exact W.kia_one W.kitx_tuple I.kIn ⟨o,h1,h2⟩ e (λz=>nomatch z) h
 | @dK a kvs ea=>
  cases (show u=Value.ref a from rx)
  obtain⟨_,_,vs,_,p⟩:=(show jc6 X.prog X.w H s.heap a (.dK kvs) from I.hok a _ ea)
  obtain⟨o,es,ep,h1,h2,_⟩:=p
  exact W.kia_one W.kitx_dict I.kIn ⟨o,h1,h2.1⟩ e (λz=>nomatch z) h
 | @dT a kvs ea=>
  cases (show u=Value.ref a from rx)
  obtain⟨_,_,xs,_,o,es,ep,h1,h2,_⟩:=(show jc6 X.prog X.w H s.heap a (.dT kvs) from I.hok a _ ea)
  exact W.kia_one W.kitx_dict I.kIn ⟨o,h1,h2.1⟩ e (λz=>nomatch z) h
 | @ins a C dx fs ea cl ha hn htk hm=>
  cases (show u=Value.ref a from rx)
  obtain⟨mA,O,_⟩:=jhx I.hok ea
  obtain⟨od,J,_⟩:=O.look
  exact W.kia_one (W.kitx_own (cl.get _) cl.hd ha hn htk hm) I.kIn J e (λz=>nomatch z) h
end
structure Room (k:Nat) (A:Around):Prop where
 hd:A.handled=none
 dp:A.depth+3*k+5<recursionLimit
 un:A.units+16*k+200<cLine
theorem Room.mono{j k:Nat}{A:Around}(r:Room k A)(h:j<=k):Room j A:=⟨r.hd,by have:=r.dp;omega,by have:=r.un;omega⟩
theorem Room.deeper{k:Nat}{A:Around}(r:Room (k+1) A)(env:Env):Room k (A.deeper env):=
 ⟨r.hd,by have:=r.dp;show A.depth+1+3*k+5<_;omega,by have:=r.un;show A.units+3+16*k+200<_;omega⟩
theorem jn8{A:Around}{C:Addr}{us:List Value}{kw:List (Str×Value)}:(A.under (.builtin "type.__call__" ⟨.ref C::us,kw⟩)).depth=A.depth+1:=by
 first | rfl | simp[Around.under,Code.weight,Code.isCreation,Code.isGuard,Code.isCaller,Code.frames,Code.isFrame,guardIds]
theorem jng{A:Around}{C:Addr}{us:List Value}{kw:List (Str×Value)}:(A.under (.builtin "type.__call__" ⟨.ref C::us,kw⟩)).units=A.units+1:=by
 first | rfl | simp[Around.under,Code.cUnits,Code.frames,Code.isFrame]
theorem Room.make{k:Nat}{A:Around}(r:Room (k+1) A)(C:Addr)(us:List Value)(kw:List (Str×Value)):Room k (A.under (.builtin "type.__call__" ⟨.ref C::us,kw⟩)):=
 ⟨r.hd,by have:=r.dp;rw[jn8];omega,by have:=r.un;rw[jng];omega⟩
theorem Room.depth{k:Nat}{A:Around}(r:Room k A):A.depth<recursionLimit:=by have:=r.dp;omega
theorem Room.units{k:Nat}{A:Around}(r:Room k A):A.units+64<cLine:=by have:=r.un;omega
def tNil:TA:=λ_ H Q=>Q [] H
def jus(ta:TE)(tr:TA):TA:=λσ H Q=>ta σ H λx H1=>tr σ H1 λxs H2=>Q (x::xs) H2
section
variable {X : Cx} {e : Expr} {es : List Expr} {te : TE} {t : TA} {pos : Pos}
theorem ja5:PA X [] tNil:=λ_ _ _ _ H Q I h=>Calls.spliced_nil ⟨[],H,I,.nil,h⟩
theorem ja0(ha:PE X e te)(hr:PA X es t)(hs:starEach (e::es) X.env=(false,eval e X.env)::starEach es X.env:=by rfl):PA X (e::es) (jus te t):=by
 intro pos pins s σ H Q I h
 rw[hs]
 show wpAny _ _ (spliced ((false,eval e X.env)::backTo pos (starEach es X.env))) _ _ s
 refine Calls.spliced_cons (thn (ha pins s σ H _ I h) λu s1 ⟨x,H1,I1,r1,q1⟩=> ?_)
 exact thn (hr pos pins s1 σ H1 _ I1 q1) λus s2 ⟨xs,H2,I2,r2,q2⟩=>⟨x::xs,H2,I2,.cons r1 r2,q2⟩
def tTup(t:TA):TE:=λσ H Q=>t σ H λxs H1=>xs.length<=sizeLine /\ ∀p,H1 p=none->Q (.ref p) (upd H1 p (.tup xs))
def tLst(t:TA):TE:=λσ H Q=>t σ H λxs H1=>xs.length<=sizeLine /\ ∀p,H1 p=none->Q (.ref p) (upd H1 p (.lst xs))
theorem jhk{x1}(h:PA X es t):PE X (.Tuple es x1 pos) (tTup t):=by
 intro pins s σ H Q I hq
 refine wpAny_Tuple_spliced (thn (h pos pins s σ H _ I hq) λus s1 ⟨xs,H1,I1,r,z,q⟩=>⟨by rw[<-r.length];exact z,?_⟩)
 have hf:H1 s1.heap.objs.size=none:=I1.hok.fresh (Nat.le_refl _)
 refine⟨.ref s1.heap.objs.size,upd H1 s1.heap.objs.size (.tup xs),I1.laid (t':=s1.toks) (λb u e=>Heap.get?_push_of_some _ e) (Nat.le_refl _) ?_,rfl,q _ hf⟩
 exact⟨z,us,r,⟨_,Heap.get?_push_size _ rfl,rfl,_,rfl⟩⟩
theorem je7(h:PA X es t):PE X (.List es pos) (tLst t):=by
 intro pins s σ H Q I hq
 refine wpAny_List_spliced (thn (h pos pins s σ H _ I hq) λus s1 ⟨xs,H1,I1,r,z,q⟩=>⟨by rw[<-r.length];exact z,?_⟩)
 have hf:H1 s1.heap.objs.size=none:=I1.hok.fresh (Nat.le_refl _)
 refine⟨.ref s1.heap.objs.size,upd H1 s1.heap.objs.size (.lst xs),I1.laid (t':=s1.toks) (λb u e=>Heap.get?_push_of_some _ e) (Nat.le_refl _) ?_,rfl,q _ hf⟩
 exact⟨z,us,0,r,Heap.get?_push_size _ rfl⟩
end
abbrev Sp:=List V->Hp->VK->XK->Prop
abbrev CXT:=List Env->Hp->Shared->XK->Value->Shared->Prop
structure Env0 (P:Program) (w:World) (K:W.Frag) (mg:Str->Option Value) (base:Heap) (A:Around) (outer:List Env) (s:Shared) (H:Hp):Prop where
 frames:A.frames=some outer
 mod:Mod K mg base
 bs:∀b o,base.get? b=some o->s.heap.get? b=some o /\ H b=none
 bsz:base.objs.size<=s.heap.objs.size
 funs:s.heap.FunFrames base outer
 frf:∀b∈frs outer,H b=none
 hok:HOk P w H s.heap
 bare:AllBare s.gens
def CE(outer:List Env)(P:Program)(w:World)(H:Hp)(s:Shared)(Q:VK)(u:Value)(s':Shared):Prop:=
 ∃v H',s'.os=s.os /\ AllBare s'.gens /\ Un (frs outer) [] H H' s.heap s'.heap /\ HOk P w H' s'.heap /\ RelV v u /\ Q v H'
def CR(CX:CXT)(outer:List Env)(P:Program)(w:World)(H:Hp)(s:Shared)(Q:VK)(E:XK)(r:Result)(s':Shared):Prop:=
 match r with
 | .ok (.ret u)=>CE outer P w H s Q u s'
 | .ok _=>False
 | .error e=>CX outer H s E e s'
structure FnOk (P:Program) (w:World) (K:W.Frag) (mg:Str->Option Value) (base:Heap) (CX:CXT) (k:Nat) (f:Addr) (fd:FuncData) (ps:List Str) (sp:Sp):Prop where
 len:∀vs H Q E,sp vs H Q E->vs.length=ps.length
 run:∀(A:Around) (outer:List Env) (s:Shared) (H:Hp) (args:Args) (us:List Value) (vs:List V) (Q:VK) (E:XK),Room k A->Env0 P w K mg base A outer s H->BindsTo s fd args (ps.zip us)->Vals vs us->sp vs H Q E->
  codeAny (model P w) A (.call (.ref f) args) (CR CX outer P w H s Q E) s
theorem FnOk.mono{P:Program}{w:World}{K:W.Frag}{mg:Str->Option Value}{base:Heap}{CX:CXT}{j k:Nat}{f:Addr}{fd:FuncData}{ps:List Str}{sp:Sp}(F:FnOk P w K mg base CX j f fd ps sp)(h:j<=k):
  FnOk P w K mg base CX k f fd ps sp:=⟨F.len,λA outer s H args us vs Q E hr=>F.run A outer s H args us vs Q E (hr.mono h)⟩
theorem FnOk.imp{P:Program}{w:World}{K:W.Frag}{mg:Str->Option Value}{base:Heap}{CX:CXT}{k:Nat}{f:Addr}{fd:FuncData}{ps:List Str}{sp sp':Sp}(F:FnOk P w K mg base CX k f fd ps sp)
  (h:∀vs H Q E,sp' vs H Q E->sp vs H Q E):FnOk P w K mg base CX k f fd ps sp':=
 ⟨λvs H Q E q=>F.len vs H Q E (h _ _ _ _ q),λA outer s H args us vs Q E hr he hb hv hs=>F.run A outer s H args us vs Q E hr he hb hv (h _ _ _ _ hs)⟩
theorem Env0.make{P:Program}{w:World}{K:W.Frag}{mg:Str->Option Value}{base:Heap}{A:Around}{outer:List Env}{s:Shared}{H:Hp}(e:Env0 P w K mg base A outer s H)(C:Addr)(us:List Value)(kw:List (Str×Value)):
  Env0 P w K mg base (A.under (.builtin "type.__call__" ⟨.ref C::us,kw⟩)) outer s H:=⟨by first | exact e.frames | (simpa [Around.under,Code.envs,Code.isFrame,pushEnvs] using e.frames),e.mod,e.bs,e.bsz,e.funs,e.frf,e.hok,e.bare⟩
section
variable {X : Cx} {pins : List (Addr × Obj)} {σ : St} {H : Hp} {s s' : Shared}
theorem Inv.env0(I:Inv X pins σ H s):Env0 X.prog X.w X.K X.mg X.base X.A X.stack s H:=
 ⟨I.ok.frames,I.ok.mod,I.bs,Nat.le_trans I.ok.bsz I.sz,I.stack,I.stkFree,I.hok,I.bare⟩
theorem Inv.after{Q:VK}{u:Value}(I:Inv X pins σ H s)(h:CE X.stack X.prog X.w H s Q u s'):EP X pins σ Q u s':=by
 obtain⟨v,H',os,bare,un,hok,r,q⟩:=h
 obtain⟨hh,g,d,t,os'⟩:=s'
 obtain rfl:os'=s.os:=os
 exact⟨v,H',I.call (h':=hh) (g':=g) (d':=d) (t':=t) (ch:=[]) un hok bare (λb z=>absurd z (by simp)),r,q⟩
end
def jwu(sp:Sp)(dvs:List V)(E:XK)(t:TA):TE:=λσ H Q=>t σ H λvs H1=>sp (vs++dvs) H1 Q E
def jn0(C:Addr)(sp:Sp)(dvs:List V)(E:XK)(t:TA):TE:=λσ H Q=>t σ H λvs H1=>∀x dx,H1 x=none->H1 dx=none->dx≠x->
 sp (.ref x::(vs++dvs)) (upd (upd H1 dx (.own x)) x (.ins C dx [])) (λv H2=>v= .non /\ Q (.ref x) H2) E
def je6(K:W.Frag)(fd:FuncData)(ps:List Str)(ds:List Value):Prop:=
 ∀(s:Shared) (us:List Value),K.In s.heap->(us++ds).length=ps.length->BindsTo s fd ⟨us,[]⟩ (ps.zip (us++ds))
theorem je6.all{K:W.Frag}{fd:FuncData}{ps:List Str}(h:∀us:List Value,us.length=ps.length->bindArgs fd ⟨us,[]⟩=pure (ps.zip us)):je6 K fd ps []:=λs us _ hl=>by
 rw[List.append_nil] at hl ⊢
 exact .of_eq (h us hl)
def jds(CX:CXT)(X:Cx)(E:XK):Prop:=∀(pins:List (Addr×Obj)) (σ:St) (H:Hp) (s:Shared) (e:Value) (s':Shared),Inv X pins σ H s->CX X.stack H s E e s'->X.xe e s'
section
variable {X : Cx} {CX : CXT} {k : Nat} {f C : Addr} {fd : FuncData} {ps : List Str} {sp : Sp} {dvs : List V} {ds : List Value} {E : XK} {x m : Str} {p pos apos : Pos} {e o : Expr} {es : List Expr} {ta : TE} {t : TA}
theorem jnq{pins:List (Addr×Obj)}{σ:St}{H:Hp}{s:Shared}{Q:VK}{us:List Value}{vs:List V}(F:FnOk X.prog X.w X.K X.mg X.base CX k f fd ps sp)(hr:Room k X.A)(hb:je6 X.K fd ps ds)(hd:Vals dvs ds)(hx:jds CX X E)
  (I:Inv X pins σ H s) (r:Vals vs us) (h:sp (vs++dvs) H Q E):wpAny (model X.prog X.w) X.A (call (.ref f) us) (EP X pins σ Q) X.xe s:=by
 have r2:Vals (vs++dvs) (us++ds):=r.append hd
 have hl:(us++ds).length=ps.length:=by rw[<-r2.length];exact F.len _ _ _ _ h
 refine wpAny_call (codeAny_mono (F.run X.A X.stack s H ⟨us,[]⟩ (us++ds) (vs++dvs) Q E hr I.env0 (hb s us I.kIn hl) r2 h) λr s' hq=> ?_)
 cases r with
 | error e=>exact hx pins σ H s e s' I hq
 | ok fl=>
  cases fl with
  | ret u=>exact I.after hq
  | next=>exact False.elim hq
  | brk=>exact False.elim hq
  | cont=>exact False.elim hq
theorem jwt(F:FnOk X.prog X.w X.K X.mg X.base CX k f fd ps sp)(hr:Room k X.A)(hg:Gl X x)(hm:X.mg x=some (.ref f))(hk:W.keepIn X.K (.ref f)=true)(hb:je6 X.K fd ps ds)(hd:Vals dvs ds)(hx:jds CX X E)
  (ha:PA X (e::es) t) (hdb:(x==("__debug__":Str))=false:=by decide) (he:starEach (e::es) X.env=(false,eval e X.env)::starEach es X.env:=by rfl) (hpl:(backTo pos (starEach es X.env)).any (·.1)=false:=by rfl):
  PE X (.Call (.Name x p) (e::es) [] pos) (jwu sp dvs E t):=by
 intro pins s σ H Q I h
 refine wpAny_Call_Name_kw (jf6 I hg hm ?_ hdb)
 refine W.callWith_K (h₀:=X.base) I.ok.mod.kin hk (thn (ha pos pins s σ H _ I h) λus s1 ⟨vs,H1,I1,r,q⟩=>⟨I1.kIn,?_⟩) he hpl
 exact jnq F hr hb hd hx I1 r q
structure Mk (K:W.Frag) (C f:Addr):Prop where
 makes:W.makesIn K C=true
 init:W.findIn K (.ref C) "__init__"=some (some (.ref f))
 fn:W.isFn K (.ref f)=true
 kp:W.keepIn K (.ref C)=true
theorem jle{pins:List (Addr×Obj)}{σ:St}{H:Hp}{s:Shared}{Q:VK}{us:List Value}{vs:List V}(M:Mk X.K C f)(F:FnOk X.prog X.w X.K X.mg X.base CX k f fd ps sp)(hr:Room (k+1) X.A)(hb:je6 X.K fd ps ds)(hd:Vals dvs ds)
  (hx:jds CX X E) (I:Inv X pins σ H s) (r:Vals vs us)
  (h:∀x dx,H x=none->H dx=none->dx≠x->sp (.ref x::(vs++dvs)) (upd (upd H dx (.own x)) x (.ins C dx [])) (λv H2=>v= .non /\ Q (.ref x) H2) E):
  wpAny (model X.prog X.w) X.A (call (.ref C) us) (EP X pins σ Q) X.xe s:=by
 have hq:=h (s.heap.objs.size+1) s.heap.objs.size (I.hok.fresh (Nat.le_succ _)) (I.hok.fresh (Nat.le_refl _)) (Nat.ne_of_lt (Nat.lt_succ_self _))
 have I2:=Inv.made (C:=C) I
 have r2:Vals (V.ref (s.heap.objs.size+1)::(vs++dvs)) (Value.ref (s.heap.objs.size+1)::(us++ds)):= .cons rfl (r.append hd)
 have hl:(Value.ref (s.heap.objs.size+1)::us++ds).length=ps.length:=by
  have e:=r2.length
  rw[F.len _ _ _ _ hq] at e
  exact e.symm
 refine wpAny_call (jsx (f:=f) I.kIn M.makes M.init (beq_iff_eq.mp M.fn) (codeAny_mono (F.run _ X.stack _ _ ⟨Value.ref (s.heap.objs.size+1)::us,[]⟩ (Value.ref (s.heap.objs.size+1)::(us++ds)) _ _ E (hr.make C us [])
  (I2.env0.make C us []) (hb _ (Value.ref (s.heap.objs.size+1)::us) I2.kIn hl) r2 hq) λr s' hq'=> ?_))
 cases r with
 | error e=>exact hx pins σ _ _ e s' I2 hq'
 | ok fl=>
  cases fl with
  | ret u=>
   obtain⟨v,H',I3,rv,ev,q3⟩:=I2.after hq'
   subst ev
   exact⟨rv,⟨V.ref (s.heap.objs.size+1),H',I3,rfl,q3⟩⟩
  | next=>exact False.elim hq'
  | brk=>exact False.elim hq'
  | cont=>exact False.elim hq'
theorem jx8(M:Mk X.K C f)(F:FnOk X.prog X.w X.K X.mg X.base CX k f fd ps sp)(hr:Room (k+1) X.A)(hg:Gl X x)(hm:X.mg x=some (.ref C))(hb:je6 X.K fd ps ds)(hd:Vals dvs ds)(hx:jds CX X E)
  (ha:PA X (e::es) t) (hdb:(x==("__debug__":Str))=false:=by decide) (he:starEach (e::es) X.env=(false,eval e X.env)::starEach es X.env:=by rfl) (hpl:(backTo pos (starEach es X.env)).any (·.1)=false:=by rfl):
  PE X (.Call (.Name x p) (e::es) [] pos) (jn0 C sp dvs E t):=by
 intro pins s σ H Q I h
 refine wpAny_Call_Name_kw (jf6 I hg hm ?_ hdb)
 refine W.callWith_K (h₀:=X.base) I.ok.mod.kin M.kp (thn (ha pos pins s σ H _ I h) λus s1 ⟨vs,H1,I1,r,q⟩=>⟨I1.kIn,?_⟩) he hpl
 exact jle M F hr hb hd hx I1 r q
theorem jsj(M:Mk X.K C f)(F:FnOk X.prog X.w X.K X.mg X.base CX k f fd ps sp)(hr:Room (k+1) X.A)(hg:Gl X x)(hm:X.mg x=some (.ref C))(hb:je6 X.K fd ps ds)(hd:Vals dvs ds)(hx:jds CX X E)
  (hdb:(x==("__debug__":Str))=false:=by decide):PE X (.Call (.Name x p) [] [] pos) (jn0 C sp dvs E tNil):=by
 intro pins s σ H Q I h
 refine wpAny_Call_Name_kw (jf6 I hg hm ?_ hdb)
 exact W.callWith_K0 I.kIn M.kp (jle (us:=[]) M F hr hb hd hx I .nil h)
end
structure FnScope (N P:List Str) (sc:Scope):Prop where
 kind:sc.kind= .function
 co:sc.isCoroutine=false
 gen:sc.isGenerator=false
 nd:N.Nodup
 pre:N.take P.length=P
 par:∀x∈P,sc.names.lookup x=some .local \/ sc.names.lookup x=some .cell
 nofree:∀y∈sc.names,y.2≠ .free
theorem jis{kindOf:Str->Option NameKind}{x:Str}:∀{binds:List (Str×Value)} {m:Str->Option Value},(∀v,(x,v)∉binds)->bindL kindOf binds m x=m x
  | [],_,_=>rfl
  | (n,v)::r,m,h=>by
    unfold bindL
    rw[jis λw hw=>h w (List.mem_cons_of_mem _ hw)]
    split
    · have:x≠n:=by rintro rfl;exact h v List.mem_cons_self
      simp[this]
    · rfl
theorem jj3{kindOf:Str->Option NameKind}{x:Str}:∀{binds:List (Str×Value)} {m:Str->Option Value},(∀v,(x,v)∉binds)->bindC kindOf binds m x=m x
  | [],_,_=>rfl
  | (n,v)::r,m,h=>by
    unfold bindC
    rw[jj3 λw hw=>h w (List.mem_cons_of_mem _ hw)]
    split
    · rfl
    · have:x≠n:=by rintro rfl;exact h v List.mem_cons_self
      simp[this]
theorem jj0{kindOf:Str->Option NameKind}{x:Str}{v:Value}:∀{P:List Str} {vs:List Value} {i:Nat} {m:Str->Option Value},P.Nodup->P[i]?=some x->vs[i]?=some v->kindOf x=some .local->
  bindL kindOf (P.zip vs) m x=some v
 | [],_,_,_,_,h,_,_=>by simp at h
 | _::_,[],_,_,_,_,h,_=>by simp at h
 | p::P,w::vs,0,m,nd,h1,h2,hk=>by
  simp at h1 h2;subst h1;subst h2
  show bindL kindOf ((p,w)::P.zip vs) m p=_
  unfold bindL
  rw[jis λv hv=>(List.nodup_cons.mp nd).1 (List.of_mem_zip hv).1,if_pos hk]
  simp
 | p::P,w::vs,i+1,m,nd,h1,h2,hk=>by
  show bindL kindOf ((p,w)::P.zip vs) m x=_
  unfold bindL
  exact jj0 (i:=i) (List.nodup_cons.mp nd).2 (by simpa using h1) (by simpa using h2) hk
theorem jjq{kindOf:Str->Option NameKind}{x:Str}{v:Value}:∀{P:List Str} {vs:List Value} {i:Nat} {m:Str->Option Value},P.Nodup->P[i]?=some x->vs[i]?=some v->kindOf x≠some .local->
  bindC kindOf (P.zip vs) m x=some v
 | [],_,_,_,_,h,_,_=>by simp at h
 | _::_,[],_,_,_,_,h,_=>by simp at h
 | p::P,w::vs,0,m,nd,h1,h2,hk=>by
  simp at h1 h2;subst h1;subst h2
  show bindC kindOf ((p,w)::P.zip vs) m p=_
  unfold bindC
  rw[jj3 λv hv=>(List.nodup_cons.mp nd).1 (List.of_mem_zip hv).1,if_neg hk]
  simp
 | p::P,w::vs,i+1,m,nd,h1,h2,hk=>by
  show bindC kindOf ((p,w)::P.zip vs) m x=_
  unfold bindC
  exact jjq (i:=i) (List.nodup_cons.mp nd).2 (by simpa using h1) (by simpa using h2) hk
def start(N:List Str)(vs:List V):St:=vs.map some++List.replicate (N.length - vs.length) none
def cxOf(CX:CXT)(P:Program)(w:World)(K:W.Frag)(mg:Str->Option Value)(base:Heap)(N:List Str)(qual:Str)(scope:Scope)(f:Addr)(cd:Value)(A:Around)(outer:List Env)(s:Shared)(H:Hp)(E:XK):Cx where
 prog:=P
 w:=w
 K:=K
 mg:=mg
 base:=base
 A:=A.deeper (envOfC qual scope s.heap.objs.size f cd)
 N:=N
 s₀:=s
 H₀:=H
 env:=envOfC qual scope s.heap.objs.size f cd
 outer:=outer
 stack:=envOfC qual scope s.heap.objs.size f cd::outer
 ex:=[]
 calm:=true
 fn:=λ_=>true
 pn:=[]
 xe:=λe s'=>wpAny (model P w) (A.deeper (envOfC qual scope s.heap.objs.size f cd)) (leaving (envOfC qual scope s.heap.objs.size f cd) e) (λ_ s''=>CX outer H s E e s'') (λe' s''=>CX outer H s E e' s'') s'
theorem jme{sc:Scope}{n:Nat}{x:Str}(h:sc.names.lookup x=some .cell):∃c,(cellsFrom n sc.names []).lookup x=some c:=by
 have q:=W.cellsFrom_some sc.names n [] (.inl h)
 exact Option.isSome_iff_exists.mp q
theorem jnw{CX:CXT}{P:Program}{w:World}{K:W.Frag}{mg:Str->Option Value}{base:Heap}{N ps:List Str}{qual:Str}{scope:Scope}{f:Addr}{cd:Value}{A:Around}{outer:List Env}{s s1:Shared}{H:Hp}{E:XK}{us:List Value}{vs:List V}
  (S:FnScope N ps scope) (hd:A.handled=none) (e0:Env0 P w K mg base A outer s H) (hl:vs.length=ps.length) (r:Vals vs us)
  (x:InCallC s s.heap.objs.size (bindL (envOfC qual scope s.heap.objs.size f cd).kindOf (ps.zip us) λ_=>none) (cellsFrom (s.heap.objs.size+1) scope.names []) (bindC (envOfC qual scope s.heap.objs.size f cd).kindOf (ps.zip us) λ_=>none) s1):
  Inv (cxOf CX P w K mg base N qual scope f cd A outer s H E) [] (start N vs) H s1:=by
 have hpl:ps.length<=N.length:=by have:=congrArg List.length S.pre;rw[List.length_take] at this;omega
 obtain⟨h1,tk,rfl,hk⟩:=x.done
 have noA:∀b:Addr,b∉(cxOf CX P w K mg base N qual scope f cd A outer s H E).ex:=λb z=>absurd (show b∈([]:List Addr) from z) (by simp)
 refine⟨⟨e0.mod,S.kind,rfl,rfl,Nat.le_refl _,λy z c h1 h2=> ?_,λy hy=> ?_,λy c _ h=> ?_,λ_=>hd,Around.frames_deeper e0.frames,.inr ⟨rfl,rfl⟩,λb z=>absurd z (noA b),e0.bs,e0.bsz,λb _ _=>noA b,λb z=>absurd z (noA b),e0.funs,e0.frf⟩,
  rfl,e0.bare,Un.kept hk,⟨_,x.toInCall.ns,λi y v h1 h2 h3=> ?_⟩,λy c h=>⟨_,x.cell y c h⟩,e0.hok.fresh (Nat.le_refl _),λy c h=> ?_,λp hp=>absurd (show p∈([]:List (Addr×Obj)) from hp) (by simp),e0.hok.kept hk,?_⟩
 ·exact name_of_addr x.apart (PySem.mem_of_lookup h1) (PySem.mem_of_lookup h2)
 ·have hy:scope.names.lookup y=some .cell \/ scope.names.lookup y=some .free:=hy
  rcases hy with hy | hy
  ·exact jme hy
  ·exact absurd rfl (S.nofree _ (PySem.mem_of_lookup hy))
 ·exact Nat.le_of_lt (x.above y c (PySem.mem_of_lookup h))
 ·have hi:i<vs.length:=by
   unfold start at h2
   by_cases hi:i<vs.length
   ·exact hi
   ·rw[List.getElem?_append_right (by simpa using hi)] at h2
    rw[List.getElem?_replicate] at h2
    split at h2<;>cases h2
  have ha:vs[i]?=some v:=by
   unfold start at h2
   rw[List.getElem?_append_left (by simpa using hi),List.getElem?_map] at h2
   cases e:vs[i]? with
   | none=>rw[e] at h2;cases h2
   | some a=>rw[e] at h2;cases h2;rfl
  obtain⟨u,hu,rv⟩:=r.get ha
  have hp:ps[i]?=some y:=by
   rw[<-S.pre,List.getElem?_take_of_lt (by omega)];exact h1
  have ndP:ps.Nodup:=by rw[<-S.pre];exact S.nd.sublist (List.take_sublist _ _)
  refine⟨u,rv,?_⟩
  rcases S.par y (List.mem_of_getElem? hp) with k | k
  ·exact .inl ⟨k,jj0 ndP hp hu k⟩
  ·obtain⟨c,e⟩:=jme (n:=s.heap.objs.size+1) k
   refine .inr ⟨.inl k,c,e,?_⟩
   have q:=x.cell y c e
   rw[jjq ndP hp hu (by show scope.names.lookup y≠_;rw[k];decide)] at q
   exact q
 ·exact e0.hok.fresh (Nat.le_of_lt (x.above y c (PySem.mem_of_lookup h)))
 ·unfold start
  show _=N.length
  rw[List.length_append,List.length_map,List.length_replicate]
  omega
theorem fn_of{CX:CXT}{P:Program}{w:World}{K:W.Frag}{mg:Str->Option Value}{base:Heap}{k:Nat}{f:Addr}{name qual:Str}{params:Arguments}{body:List Stmt}{scope:Scope}{dV kV doc pm cdv ct oc:Value}{an od:Option Addr}
  {osl:Array (Option Value)} {N ps:List Str} {sp:Sp} (lk:K.lookup f=some ⟨oc,od,.func (W.fnOf name qual params body scope dV kV doc pm an cdv ct),osl⟩) (hcd:W.codeIn K cdv qual=true) (S:FnScope N ps scope)
  (len:∀vs H Q E,sp vs H Q E->vs.length=ps.length)
  (hbody:∀(A:Around) (outer:List Env) (s:Shared) (H:Hp) (vs:List V) (Q:VK) (E:XK),Room k (A.deeper (envOfC qual scope s.heap.objs.size f cdv))->sp vs H Q E->
   ∃t,PSs (cxOf CX P w K mg base N qual scope f cdv A outer s H E) body t /\ t {nx:=λ_ H'=>Q .non H',rt:=Q} (start N vs) H):
  FnOk P w K mg base CX (k+1) f (W.fnOf name qual params body scope dV kV doc pm an cdv ct) ps sp:=by
 refine⟨len,λA outer s H args us vs Q E hr e0 hb r hsp=> ?_⟩
 have hl:=len _ _ _ _ hsp
 have KX:K.In s.heap:=e0.mod.kin.keeps λb o e=>(e0.bs b o e).1
 have lim:s.heap.NoLimit:=e0.mod.nolimit.keeps λb o e=>(e0.bs b o e).1
 have hkind:∀y∈ps.zip us,scope.names.lookup y.1=some .local \/ (scope.names.lookup y.1=some .cell /\ ((cellsFrom (s.heap.objs.size+1) scope.names []).lookup y.1).isSome=true):=λ⟨n,v⟩ hy=>by
  rcases S.par n (List.of_mem_zip hy).1 with q | q
  ·exact .inl q
  ·exact .inr ⟨q,W.cellsFrom_some _ _ _ (.inl q)⟩
 refine codeAny_call_function hr.depth (KX _ _ lk) rfl S.co S.gen rfl (W.codeRec_of KX hcd) (hb _ _ _ _ ?_)
 refine wpAny_newFunctionEnv_cells S.kind hkind λenv he s1 x=> ?_
 subst he
 refine⟨lim.keeps x.toInCall.keep,codeAny_func ?_⟩
 obtain⟨t,ht,hq⟩:=hbody A outer s H vs Q E (hr.deeper _) hsp
 have I:Inv (cxOf CX P w K mg base N qual scope f cdv A outer s H E) [] (start N vs) H s1:=jnw S hr.hd e0 hl r x
 refine wpAny_mono (ht [] s1 (start N vs) H _ I hq) (λfl s' hs=> ?_) λe s' hs=>hs
 have fin:∀{σ':St} {H':Hp} {v:V} {u:Value},Inv (cxOf CX P w K mg base N qual scope f cdv A outer s H E) [] σ' H' s'->RelV v u->Q v H'->CE outer P w H s Q u s':=
  fun{σ' H' v u} J rv q=>⟨v,H',J.os,J.bare,J.base,J.hok,rv,q⟩
 cases fl with
 | ret u=>
  obtain⟨v,σ',H',J,rv,q⟩:=hs
  exact fin J rv q
 | next=>
  obtain⟨σ',H',J,q⟩:=hs
  exact fin (v:=V.non) (u:=Value.none) J rfl q
 | brk=>
  obtain⟨_,_,_,q⟩:=hs
  exact False.elim q
 | cont=>
  obtain⟨_,_,_,q⟩:=hs
  exact False.elim q
section
variable {X : Cx} {x : Str} {p pos : Pos} {e : Expr} {es : List Expr} {t : TA} {id T : String} {r : List V -> Hp -> VK -> Prop}
def tCB(r:List V->Hp->VK->Prop)(t:TA):TE:=λσ H Q=>t σ H λvs H1=>r vs H1 Q
theorem jbn(hc:jc7 X (.builtin id) r)(hg:Gl X x)(hm:X.mg x=none)(hv:bootBuiltins x=some (.builtin id))(ha:PA X (e::es) t)(hn:x≠"__name__":=by decide)(hdb:(x==("__debug__":Str))=false:=by decide)
  (he:starEach (e::es) X.env=(false,eval e X.env)::starEach es X.env:=by rfl) (hpl:(backTo pos (starEach es X.env)).any (·.1)=false:=by rfl):PE X (.Call (.Name x p) (e::es) [] pos) (tCB r t):=by
 intro pins s σ H Q I h
 refine wpAny_Call_Name_kw (jhg I hg hm hv ?_ hn hdb)
 exact PyProof.Rows.callWith_builtin1 (thn (ha pos pins s σ H _ I h) λus s1 ⟨vs,H1,I1,r1,q1⟩=>hc pins s1 σ H1 vs us Q I1 r1 q1) he hpl
theorem jbo(hc:jc7 X (.type T) r)(hg:Gl X x)(hm:X.mg x=none)(hv:bootBuiltins x=some (.type T))(ha:PA X (e::es) t)(hn:x≠"__name__":=by decide)(hdb:(x==("__debug__":Str))=false:=by decide)
  (he:starEach (e::es) X.env=(false,eval e X.env)::starEach es X.env:=by rfl) (hpl:(backTo pos (starEach es X.env)).any (·.1)=false:=by rfl):PE X (.Call (.Name x p) (e::es) [] pos) (tCB r t):=by
 intro pins s σ H Q I h
 refine wpAny_Call_Name_kw (jhg I hg hm hv ?_ hn hdb)
 exact PyProof.Rows.callWith_type1 (thn (ha pos pins s σ H _ I h) λus s1 ⟨vs,H1,I1,r1,q1⟩=>hc pins s1 σ H1 vs us Q I1 r1 q1) he hpl
end
end L2
namespace HT
open PySem PyProof.Rows
section
variable {prog : Program} {w : World} {A : Around} {E : Value -> Shared -> Prop} {s : Shared}
theorem jw3{t b:Addr}{vs ws:List Value}{Q:Value->Shared->Prop}(ht:IsTup s.heap t vs.toArray)(hb:IsTup s.heap b ws.toArray)(hv:vs≠[])
  (h1:ws=[]->Q (.ref t) s) (h2:ws≠[]->Q (.ref s.heap.objs.size) {s with heap:=s.heap.push {cls:= .type "tuple",data:= .seq (vs++ws).toArray}})
  (hsz:vs.length+ws.length<=sizeLine):wpAny (model prog w) A (binaryOp .Add (.ref t) (.ref b)) Q E s:=by
 obtain⟨⟨cls,dd,data,sl⟩,ho,hc,n,hd⟩:=id ht
 obtain⟨⟨cls2,dd2,data2,sl2⟩,ho2,hc2,n2,hd2⟩:=id hb
 simp only at hc hd hc2 hd2
 subst hc hd hc2 hd2
 have e:vs.toArray++ws.toArray=(vs++ws).toArray:=by simp
 by_cases hw:ws=[]
 ·exact concat_meets ⟨_,ho,rfl⟩ ⟨_,ho2,rfl⟩ noFill_tuple_add seq_tuple_add PySem.F.slot_tuple_add PySem.F.entry_tuple_add (PySem.F.args_tuple_add_2 _ _)
   (tuple_addW1 t b vs.toArray ws.toArray n n2 dd dd2 sl sl2 (by simpa using hv) (by simp[hw])) ⟨ho,ho2,h1 hw⟩
 ·refine concat_meets ⟨_,ho,rfl⟩ ⟨_,ho2,rfl⟩ noFill_tuple_add seq_tuple_add PySem.F.slot_tuple_add PySem.F.entry_tuple_add (PySem.F.args_tuple_add_2 _ _)
   (tuple_addW2 t b vs.toArray ws.toArray n n2 dd dd2 sl sl2 (by simpa using hv) (by simpa using hw) (by rw[List.size_toArray,List.size_toArray];exact hsz)) ⟨ho,ho2,?_⟩
  rw[e]
  exact h2 hw
def sIx(n d:Nat):Option Int->Nat
 | none=>d
 | some v=>if v<0 then(v+(n:Int)).toNat else min v.toNat n
theorem sIx_le(n d:Nat)(hd:d<=n)(o:Option Int):sIx n d o<=n:=by
 cases o with
 | none=>exact hd
 | some v=>
  show(if v<0 then(v+(n:Int)).toNat else min v.toNat n)<=n
  by_cases hv:v<0
  ·rw[if_pos hv];omega
  ·rw[if_neg hv];exact Nat.min_le_right _ _
theorem jnr(v:Int)(n d:Nat):(if v<0 then max (v+(n:Int)) 0 else min v (n:Int))=((sIx n d (some v):Nat):Int):=by
 show(if v<0 then max (v+(n:Int)) 0 else min v (n:Int))=(((if v<0 then(v+(n:Int)).toNat else min v.toNat n):Nat):Int)
 by_cases hv:v<0
 ·simp only[if_pos hv];omega
 ·simp only[if_neg hv];omega
theorem jn4(lo hi:Option Int)(n:Nat):Builtin.Slice.sliceAdjust lo hi 1 (n:Int)=(((sIx n 0 lo:Nat):Int),((sIx n n hi:Nat):Int)):=by
 have h1:¬((1:Int)<0):=by omega
 unfold Builtin.Slice.sliceAdjust
 simp only[h1,if_false]
 refine Prod.ext ?_ ?_
 ·cases lo with
  | none=>rfl
  | some v=>exact jnr v n 0
 ·cases hi with
  | none=>rfl
  | some v=>exact jnr v n n
theorem jn9(i j:Nat):Builtin.Slice.slicePlaces (i:Int) (j:Int) 1=j - i:=by
 unfold Builtin.Slice.slicePlaces
 have h1:(1:Int)>0:=by omega
 simp only[h1,if_true,Int.ediv_one]
 split<;>omega
theorem jhh{v:Value}{o:Option Int}{Q:Option Int->Shared->Prop}(p:IsPart v o)(h:Q o s):wpAny (model prog w) A (Builtin.Slice.slicePartIndex v) Q E s:=by
 cases p with
 | none=>exact slicePart_none h
 | int i t=>exact slicePart_int h
theorem jfs{sl:Addr}{vl vu:Value}{lo hi:Option Int}{n:Nat}{Q:Int×Int×Nat->Shared->Prop}(hs:s.heap.IsSliceOf sl vl vu .none)(pl:IsPart vl lo)(pu:IsPart vu hi)
  (h:Q (((sIx n 0 lo:Nat):Int),1,sIx n n hi - sIx n 0 lo) s):wpAny (model prog w) A (Builtin.Slice.sliceApplied (.ref sl) (pure (n:Int))) Q E s:=by
 obtain⟨os,hos,hcs,hds⟩:=id hs
 unfold Builtin.Slice.sliceApplied Builtin.Slice.sliceFields
 refine wpAny_bind (wpAny_bind (wpAny_field hos hds (x:=vl) rfl (wpAny_bind (wpAny_field hos hds (x:=vu) rfl (wpAny_bind (wpAny_field hos hds (x:= .none) rfl (wpAny_pure ?_)))))))
 refine wpAny_bind (slicePart_none ?_)
 show wpAny _ _ (if((1:Int)==0)=true then _ else _) _ _ s
 rw[if_neg (by decide)]
 refine wpAny_bind (jhh pl (wpAny_bind (jhh pu (wpAny_bind (wpAny_pure ?_)))))
 show wpAny _ _ (match Builtin.Slice.sliceAdjust lo hi 1 (n:Int) with | (lo,hi)=>pure (lo,(1:Int),Builtin.Slice.slicePlaces lo hi 1)) _ _ s
 rw[jn4 lo hi n]
 show wpAny _ _ (pure (((sIx n 0 lo:Nat):Int),(1:Int),Builtin.Slice.slicePlaces ((sIx n 0 lo:Nat):Int) ((sIx n n hi:Nat):Int) 1)) _ _ s
 rw[jn9]
 exact wpAny_pure h
theorem jsg(xs:Array Value)(i k:Nat):((List.range k).filterMap λ(m:Nat)=>xs[((i:Int)+(m:Int)*1).toNat]?).toArray=((xs.toList.drop i).take k).toArray:=by
 have e:(λ(m:Nat)=>xs[((i:Int)+(m:Int)*1).toNat]?)=λm=>xs[i+m]?:=by
  funext m
  have:((i:Int)+(m:Int)*1).toNat=i+m:=by omega
  rw[this]
 rw[e]
 have:=pick_run xs i k
 rw[List.filterMap_map] at this
 have e2:((λx=>xs[x]?)∘λx=>i+x)=λm=>xs[i+m]?:=rfl
 rw[e2] at this
 rw[this]
theorem jfd{t sl:Addr}{items:Array Value}{vl vu:Value}{lo hi:Option Int}{Q:Value->Shared->Prop}(ht:IsTup s.heap t items)(hs:s.heap.IsSliceOf sl vl vu .none)(pl:IsPart vl lo)(pu:IsPart vu hi)
  (hw:¬(sIx items.size 0 lo=0 /\ sIx items.size items.size hi=items.size))
  (h:Q (.ref s.heap.objs.size) {s with heap:=s.heap.push {cls:= .type "tuple",data:= .seq ((items.toList.drop (sIx items.size 0 lo)).take (sIx items.size items.size hi - sIx items.size 0 lo)).toArray}})
  (hsz:items.size<=sizeLine):wpAny (model prog w) A (getItem (.ref t) (.ref sl)) Q E s:=by
 have htake:sizeOk (.seq ((items.toList.drop (sIx items.size 0 lo)).take (sIx items.size items.size hi - sIx items.size 0 lo)).toArray):=by
  show((items.toList.drop (sIx items.size 0 lo)).take (sIx items.size items.size hi - sIx items.size 0 lo)).toArray.size<=sizeLine
  rw[List.size_toArray,List.length_take,List.length_drop,Array.length_toList]
  omega
 have hj:sIx items.size items.size hi<=items.size:=sIx_le _ _ (Nat.le_refl _) hi
 obtain⟨os,hos,hcs,hds⟩:=id hs
 have hTs:s.TypeIs (.ref sl) "slice":=⟨os,hos,hcs⟩
 unfold getItem
 try with_reducible refine wpAny_holding ?_
 first | refine wpAny_bind (wpAny_pure ?_) | skip
 refine wpAny_bind (wpAny_sequenceKey ht.typeIs (by decide) ?_)
 refine wpAny_bind (wpAny_callSpecial?_slot (name:=Str.ofString "__getitem__") ht.typeIs PyProof.Rows.slot_tuple_getitem
  (wpAny_call_entry PyProof.Rows.slot_tuple_getitem ht.typeIs entry_tuple_getitem ?_ (args_tuple_getitem _ _)))
 show wpAny _ _ (Builtin.Tuple.tupleItemsOf (.ref t) >>= _) _ _ s
 refine wpAny_bind (tupleItemsOf_ ht ?_)
 refine wpAny_bind (wpAny_typeOf hTs ?_)
 rw[if_pos (by decide)]
 refine wpAny_bind (jfs hs pl pu ?_)
 have hno:¬((((sIx items.size 0 lo:Nat):Int)==0&&(1:Int)==1&&(sIx items.size items.size hi - sIx items.size 0 lo)==items.size)=true):=by
  intro q
  rw[Bool.and_eq_true,Bool.and_eq_true] at q
  have q1:((sIx items.size 0 lo:Nat):Int)=0:=eq_of_beq q.1.1
  have q2:sIx items.size items.size hi - sIx items.size 0 lo=items.size:=eq_of_beq q.2
  exact hw ⟨by omega,by omega⟩
 show wpAny _ _ (if(((sIx items.size 0 lo:Nat):Int)==0&&(1:Int)==1&&(sIx items.size items.size hi - sIx items.size 0 lo)==items.size)=true then _ else _) _ _ s
 rw[if_neg hno,jsg]
 first
  | exact wpAny_bind (m:=Builtin.Tuple.tupleExact _) (wpAny_newObj_type (wpAny_pure ⟨_,rfl,wpAny_pure h⟩) htake)
  | exact wpAny_bind (m:=Builtin.Tuple.tupleExact _) (wpAny_newObj_type (wpAny_bind (wpAny_pure (wpAny_pure ⟨_,rfl,wpAny_pure h⟩))) htake)
  | exact wpAny_bind (wpAny_bind (m:=Builtin.Tuple.tupleExact _) (wpAny_newObj_type (wpAny_pure (wpAny_pure ⟨_,rfl,wpAny_pure h⟩)) htake))
  | exact wpAny_bind (wpAny_bind (m:=Builtin.Tuple.tupleExact _) (wpAny_newObj_type (wpAny_pure ⟨_,rfl,wpAny_pure h⟩) htake))
end
end HT
namespace L2
open PySem PySem.Spec PyProof.Rows
abbrev TO:=St->Hp->(Option Int->Hp->Prop)->Prop
def PO(X:Cx)(e:Option Expr)(t:TO):Prop:=
 ∀(pins:List (Addr×Obj)) (s:Shared) (σ:St) (H:Hp) (Q:Option Int->Hp->Prop),Inv X pins σ H s->t σ H Q->
  wpAny (model X.prog X.w) X.A (evalPart e X.env) (λu s'=>∃o H',Inv X pins σ H' s' /\ IsPart u o /\ Q o H') X.xe s
def jo8:TO:=λ_ H Q=>Q none H
def tPart(t:TE):TO:=λσ H Q=>t σ H λx H1=>∃i,x= .int i /\ Q (some i) H1
section
variable {X : Cx} {e : Expr} {te : TE} {lo hi : Option Expr} {tl th : TO} {pos p2 : Pos}
theorem jcy:PO X none jo8:=by
 intro pins s σ H Q I h
 rw[evalPart_none]
 exact wpAny_pure ⟨none,H,I,.none,h⟩
theorem jcq(h:PE X e te):PO X (some e) (tPart te):=by
 intro pins s σ H Q I hw
 rw[evalPart_some]
 refine thn (h pins s σ H _ I hw) λu s1 ⟨x,H1,I1,r1,q1⟩=> ?_
 obtain⟨i,rfl,q⟩:=q1
 obtain⟨t,rfl⟩:=r1
 exact⟨some i,H1,I1,.int i t,q⟩
def SlR(X:Cx)(r:V->Option Int->Option Int->Hp->VK->Prop):Prop:=
 ∀(pins:List (Addr×Obj)) (s:Shared) (σ:St) (H:Hp) (x:V) (v vl vu:Value) (lo hi:Option Int) (sl:Addr) (Q:VK),Inv X pins σ H s->RelV x v->s.heap.IsSliceOf sl vl vu .none->IsPart vl lo->IsPart vu hi->r x lo hi H Q->
  ∃T id,typeLookup (.type T) "__getitem__"=pure (some (.builtin id)) /\ s.TypeIs v T /\ wpAny (model X.prog X.w) X.A (getItem v (.ref sl)) (EP X pins σ Q) X.xe s
theorem SlR.or{r r':V->Option Int->Option Int->Hp->VK->Prop}(h:SlR X r)(h':SlR X r'):SlR X (λx lo hi H Q=>r x lo hi H Q \/ r' x lo hi H Q):=by
 intro pins s σ H x v vl vu lo hi sl Q I rx hs pl pu q
 rcases q with q | q
 ·exact h pins s σ H x v vl vu lo hi sl Q I rx hs pl pu q
 ·exact h' pins s σ H x v vl vu lo hi sl Q I rx hs pl pu q
def tSl(r:V->Option Int->Option Int->Hp->VK->Prop)(te:TE)(tl th:TO):TE:=λσ H Q=>te σ H λx H1=>tl σ H1 λl H2=>th σ H2 λu H3=>r x l u H3 Q
theorem jcl{r:V->Option Int->Option Int->Hp->VK->Prop}(hr:SlR X r)(he:PE X e te)(hl:PO X lo tl)(hu:PO X hi th):PE X (.Subscript e (.Slice lo hi none p2) pos) (tSl r te tl th):=by
 intro pins s σ H Q I h
 refine Subscript_ (thn (he pins s σ H _ I h) λv s1 ⟨x,H1,I1,r1,q1⟩=> ?_)
 refine wpAny_Slice (thn (hl pins s1 σ H1 _ I1 q1) λvl s2 ⟨l,H2,I2,pl,q2⟩=>thn (hu pins s2 σ H2 _ I2 q2) λvu s3 ⟨u,H3,I3,pu,q3⟩=> ?_)
 rw[evalPart_none]
 refine wpAny_pure ?_
 have I4:Inv X pins σ H3 {s3 with heap:=s3.heap.push {cls:= .type "slice",data:= .fields #[vl,vu,.none]}}:=I3.kept (t':=s3.toks) λb ob q=>Heap.get?_push_of_some _ q
 obtain⟨T,id,hT,ht,hg⟩:=hr pins {s3 with heap:=s3.heap.push {cls:= .type "slice",data:= .fields #[vl,vu,.none]}} σ H3 x v vl vu l u s3.heap.objs.size Q I4 r1 (Heap.IsSliceOf.new ..) pl pu q3
 show wpAny (model X.prog X.w) X.A (subscriptTail e (.Slice lo hi none p2) v (.ref s3.heap.objs.size)) (EP X pins σ Q) X.xe {s3 with heap:=s3.heap.push {cls:= .type "slice",data:= .fields #[vl,vu,.none]}}
 exact tail_any (ops:=[.ref s3.heap.objs.size,v]) ht hT hg (by with_unfolding_all rfl)
def cutV(xs:List V)(lo hi:Option Int):List V:=(xs.drop (HT.sIx xs.length 0 lo)).take (HT.sIx xs.length xs.length hi - HT.sIx xs.length 0 lo)
theorem jgu(xs:List V)(lo hi:Option Int):(cutV xs lo hi).length<=xs.length:=by
 unfold cutV
 rw[List.length_take,List.length_drop]
 omega
def rSlT(K:W.Frag):V->Option Int->Option Int->Hp->VK->Prop:=λx lo hi H Q=>∃a xs,x= .ref a /\ SqT K H a xs /\
 ¬(HT.sIx xs.length 0 lo=0 /\ HT.sIx xs.length xs.length hi=xs.length) /\ ∀p,H p=none->Q (.ref p) (upd H p (.tup (cutV xs lo hi)))
theorem sl_tup:SlR X (rSlT X.K):=by
 intro pins s σ H x v vl vu lo hi sl Q I rx hs pl pu h
 obtain⟨a,xs,rfl,hx,hw,q⟩:=h
 cases rx
 obtain⟨its,r,ht,hz⟩:=I.tuple hx
 have hlen:its.toArray.size=xs.length:=by rw[List.size_toArray];exact r.length.symm
 refine⟨"tuple",_,PyProof.Rows.slot_tuple_getitem.lookup,ht.typeIs,?_⟩
 refine HT.jfd ht hs pl pu (by rw[hlen];exact hw) ?_ (by rw[hlen];exact hz)
 rw[hlen]
 refine⟨.ref s.heap.objs.size,_,I.laid (t':=s.toks) (o:= .tup (cutV xs lo hi)) (λb ob q=>Heap.get?_push_of_some _ q) (Nat.le_refl _) ?_,rfl,q _ (I.hok.fresh (Nat.le_refl _))⟩
 exact⟨Nat.le_trans (jgu xs lo hi) hz,_,(r.drop (HT.sIx xs.length 0 lo)).take (HT.sIx xs.length xs.length hi - HT.sIx xs.length 0 lo),IsTup.new _ _⟩
def rCatT(K:W.Frag):R2:=λx y H Q=>∃a b xs ys,x= .ref a /\ y= .ref b /\ SqT K H a xs /\ SqT K H b ys /\ xs≠[] /\ xs.length+ys.length<=sizeLine /\
 (ys=[]->Q (.ref a) H) /\ (ys≠[]->∀p,H p=none->Q (.ref p) (upd H p (.tup (xs++ys))))
theorem Vals.nil_iff{xs:List V}{us:List Value}(r:Vals xs us):us=[]↔xs=[]:=by
 cases r with
 | nil=>simp
 | cons _ _=>simp
theorem jvo:OpR X (binaryOp .Add) (rCatT X.K):=by
 intro pins s σ H x y v u Q I rx ry h
 obtain⟨a,b,xs,ys,rfl,rfl,ha,hb,hx,hz,q1,q2⟩:=h
 cases rx
 cases ry
 obtain⟨its,r1,p1,_⟩:=I.tuple ha
 obtain⟨its2,r2,p2,_⟩:=I.tuple hb
 refine HT.jw3 p1 p2 (λz=>hx (r1.nil_iff.mp z)) (λz=>⟨.ref a,H,I,rfl,q1 (r2.nil_iff.mp z)⟩) (λz=> ?_) (by rw[<-r1.length,<-r2.length];exact hz)
 refine⟨.ref s.heap.objs.size,_,I.laid (t':=s.toks) (o:= .tup (xs++ys)) (λb ob q=>Heap.get?_push_of_some _ q) (Nat.le_refl _) ?_,rfl,q2 (λw=>z (r2.nil_iff.mpr w)) _ (I.hok.fresh (Nat.le_refl _))⟩
 exact⟨by rw[List.length_append];exact hz,_,r1.append r2,IsTup.new _ _⟩
end
def ixN(n:Nat)(i:Int):Option Nat:=if 0<=i then(if i<n then some i.toNat else none) else if -(n:Int)<=i then some (i+n).toNat else none
def atI{α:Type}(xs:List α)(i:Int):Option α:=(ixN xs.length i).bind λj=>xs[j]?
theorem jwo{n:Nat}{i:Int}{j:Nat}(h:ixN n i=some j):seqIndex? i n=some j /\ j<n /\ -(n:Int)<=i /\ i<n:=by
 unfold ixN at h
 by_cases h0:0<=i
 ·rw[if_pos h0] at h
  by_cases h1:i<n
  ·rw[if_pos h1] at h
   have e:i.toNat=j:=Option.some.inj h
   exact⟨by rw[seqIndex_of h0 h1,e],by omega,by omega,h1⟩
  ·rw[if_neg h1] at h;cases h
 ·rw[if_neg h0] at h
  by_cases h1: -(n:Int)<=i
  ·rw[if_pos h1] at h
   have e:(i+n).toNat=j:=Option.some.inj h
   exact⟨by rw[seqIndex_neg (by omega) h1,e],by omega,h1,by omega⟩
  ·rw[if_neg h1] at h;cases h
theorem jk3{α:Type}{xs:List α}{i:Int}{v:α}(h:atI xs i=some v):∃j,seqIndex? i xs.length=some j /\ xs[j]?=some v /\ j<xs.length /\ -(xs.length:Int)<=i /\ i<xs.length:=by
 unfold atI at h
 cases e:ixN xs.length i with
 | none=>rw[e] at h;cases h
 | some j=>
  rw[e] at h
  obtain⟨h1,h2,h3,h4⟩:=jwo e
  exact⟨j,h1,h,h2,h3,h4⟩
def jny(b:Expr):Prop:=∀o i,subscripted b false o i=operate [o,i] (getItem o i)
def IxR(X:Cx)(r:R2):Prop:=
 ∀(value slice:Expr) (pins:List (Addr×Obj)) (s:Shared) (σ:St) (H:Hp) (x y:V) (v u:Value) (Q:VK),Inv X pins σ H s->RelV x v->RelV y u->r x y H Q->
  subscripted slice false v u=operate [v,u] (getItem v u)->wpAny (model X.prog X.w) X.A (subscriptTail value slice v u) (EP X pins σ Q) X.xe s
def MtR(X:Cx)(id:String)(r:V->List V->Hp->VK->Prop):Prop:=
 ∀(pins:List (Addr×Obj)) (s:Shared) (σ:St) (H:Hp) (x:V) (xs:List V) (v:Value) (us:List Value) (Q:VK),Inv X pins σ H s->RelV x v->Vals xs us->r x xs H Q->
  wpAny (model X.prog X.w) X.A (call (.builtin id) (v::us)) (EP X pins σ Q) X.xe s
section
variable {X : Cx} {a b : Expr} {ta tb : TE} {pos : Pos}
theorem IxR.or{r r':R2}(h:IxR X r)(h':IxR X r'):IxR X (λx y H Q=>r x y H Q \/ r' x y H Q):=by
 intro value slice pins s σ H x y v u Q I rx ry q hs
 rcases q with q | q
 ·exact h value slice pins s σ H x y v u Q I rx ry q hs
 ·exact h' value slice pins s σ H x y v u Q I rx ry q hs
theorem pe_ix{r:R2}(hr:IxR X r)(ha:PE X a ta)(hb:PE X b tb)(hs:jny b):PE X (.Subscript a b pos) (tOp r ta tb):=by
 intro pins s σ H Q I h
 exact Subscript_ (binT ha hb I h λv u s2 x y H2 I2 rx ry q=>hr a b pins s2 σ H2 x y v u Q I2 rx ry q (hs _ _))
def rIxL(K:W.Frag):R2:=λx y H Q=>∃p xs i v,x= .ref p /\ y= .int i /\ SqL K H p xs /\ atI xs i=some v /\ Q v H
def rIxT(K:W.Frag):R2:=λx y H Q=>∃p xs i v,x= .ref p /\ y= .int i /\ SqT K H p xs /\ atI xs i=some v /\ Q v H
def rIxS:R2:=λx y H Q=>∃z i c,x= .str z /\ y= .int i /\ z.length<=sizeLine /\ atI z.cps.toList i=some c /\ Q (.str ⟨#[c]⟩) H
theorem jwv:IxR X (rIxL X.K):=by
 intro value slice pins s σ H x y v u Q I rx ry h hs
 obtain⟨p,xs,i,z,rfl,rfl,hq,he,q⟩:=h
 cases rx
 obtain⟨t,rfl⟩:=ry
 obtain⟨its,r,pl,hz⟩:=I.list hq
 obtain⟨j,h1,h2,h3,h4,h5⟩:=jk3 he
 obtain⟨w,ew,rw'⟩:=r.get h2
 have hl:=r.length
 have hn:=jhr
 have fin:EP X pins σ Q w s:=⟨z,H,I,rw',q⟩
 by_cases h0:0<=i
 ·have hj:i.toNat=j:=by
   rw[seqIndex_of h0 h5] at h1
   exact Option.some.inj h1
  exact item_listR pl.isList h0 (by omega) (by rw[hj];simpa using ew) fin hs
 ·have hj:(i+(its.toArray.size:Int)).toNat=j:=by
   rw[seqIndex_neg (by omega) h4] at h1
   rw[List.size_toArray,<-hl]
   exact Option.some.inj h1
  exact subscriptTail_builtinR (x:=w) pl.isList.typeIs slot_list_getitem.lookup
   (wpAny_getItem_list_neg (Q:=λr s'=>r=w /\ EP X pins σ Q r s') pl.isList (by omega) (by rw[List.size_toArray]<;>omega) (by omega) (by rw[hj];simpa using ew) ⟨rfl,fin⟩) hs
theorem ix_tup:IxR X (rIxT X.K):=by
 intro value slice pins s σ H x y v u Q I rx ry h hs
 obtain⟨p,xs,i,z,rfl,rfl,hq,he,q⟩:=h
 cases rx
 obtain⟨t,rfl⟩:=ry
 obtain⟨its,r,pl,hz⟩:=I.tuple hq
 obtain⟨j,h1,h2,h3,h4,h5⟩:=jk3 he
 obtain⟨w,ew,rw'⟩:=r.get h2
 have hl:=r.length
 have hn:=jhr
 have fin:EP X pins σ Q w s:=⟨z,H,I,rw',q⟩
 exact subscriptTail_builtinR (x:=w) pl.typeIs slot_tuple_getitem.lookup
  (getItem_tuple (j:=j) (Q:=λr s'=>r=w /\ EP X pins σ Q r s') pl (by omega) (by omega) (by rw[List.size_toArray,<-hl];exact h1) (by simpa using ew) ⟨rfl,fin⟩) hs
theorem ix_str:IxR X rIxS:=by
 intro value slice pins s σ H x y v u Q I rx ry h hs
 obtain⟨z,i,c,rfl,rfl,hz,he,q⟩:=h
 obtain⟨t,rfl⟩:=rx
 obtain⟨t',rfl⟩:=ry
 obtain⟨j,h1,h2,h3,h4,h5⟩:=jk3 he
 have hl:z.cps.toList.length=z.length:=by simp[Str.length]
 rw[hl] at h1 h4 h5
 have hn:=jhr
 exact tail_any (typeIs_str s z t) slot_str_getitem.lookup (getItem_str (c:=c) (by
  have e1:decide (i< -(2^63:Int))=false:=decide_eq_false (by omega)
  have e2:decide (i>=2^63)=false:=decide_eq_false (by omega)
  rw[e1,e2,Bool.or_false]) (by rw[h1];simpa using h2) ⟨.str ⟨#[c]⟩,H,I.tok _,⟨_,rfl⟩,q⟩) hs
def rIx(K:W.Frag):R2:=λx y H Q=>rIxL K x y H Q \/ rIxT K x y H Q \/ rIxS x y H Q
theorem ix_seq:IxR X (rIx X.K):=jwv.or (ix_tup.or ix_str)
theorem jiq(lo hi:Option Int)(n:Nat):(sliceBounds lo hi none n).1=((HT.sIx n 0 lo:Nat):Int) /\ (sliceBounds lo hi none n).2.1=((HT.sIx n n hi:Nat):Int) /\ (sliceBounds lo hi none n).2.2=1:=by
 refine⟨?_,?_,rfl⟩
 ·cases lo with
  | none=>simp[sliceBounds,HT.sIx]
  | some i=>
   simp only[sliceBounds,HT.sIx,Option.getD_none,show(1:Int)>0 by decide,if_true]
   by_cases h:i<0
   ·simp only[h,if_true]<;>omega
   ·simp only[h,if_false]<;>omega
 ·cases hi with
  | none=>simp[sliceBounds,HT.sIx]
  | some i=>
   simp only[sliceBounds,HT.sIx,Option.getD_none,show(1:Int)>0 by decide,if_true]
   by_cases h:i<0
   ·simp only[h,if_true]<;>omega
   ·simp only[h,if_false]<;>omega
theorem jib(its:List Value)(lo hi:Option Int):slicePick its.toArray lo hi none=((its.drop (HT.sIx its.length 0 lo)).take (HT.sIx its.length its.length hi - HT.sIx its.length 0 lo)).toArray:=by
 obtain⟨h1,h2,h3⟩:=jiq lo hi its.toArray.size
 unfold slicePick
 rw[h1,h2,h3]
 simp only[sliceRange_one,pick_run,List.size_toArray]<;>rfl
def rSlL(K:W.Frag):V->Option Int->Option Int->Hp->VK->Prop:=λx lo hi H Q=>∃a xs,x= .ref a /\ SqL K H a xs /\ ∀p,H p=none->Q (.ref p) (upd H p (.lst (cutV xs lo hi)))
theorem jv7:SlR X (rSlL X.K):=by
 intro pins s σ H x v vl vu lo hi sl Q I rx hs pl pu h
 obtain⟨a,xs,rfl,hx,q⟩:=h
 cases rx
 obtain⟨its,r,ht,hz⟩:=I.list hx
 have hlen:=r.length
 refine⟨"list",_,slot_list_getitem.lookup,ht.isList.typeIs,?_⟩
 refine wpAny_getItem_list_slice ht.isList hs pl pu .none (by simp) ?_ (by rw[List.size_toArray]<;>omega)
 rw[jib,<-hlen]
 refine⟨.ref s.heap.objs.size,_,I.laid (t':=s.toks) (o:= .lst (cutV xs lo hi)) (λb ob q=>Heap.get?_push_of_some _ q) (Nat.le_refl _) ?_,rfl,q _ (I.hok.fresh (Nat.le_refl _))⟩
 exact⟨Nat.le_trans (jgu xs lo hi) hz,_,0,(r.drop (HT.sIx xs.length 0 lo)).take (HT.sIx xs.length xs.length hi - HT.sIx xs.length 0 lo),Heap.get?_push_size _ rfl⟩
def jh8:V->Bool
 | .non=>true
 | .bl _=>true
 | .int _=>true
 | .str _=>true
 | _=>false
def eqV:V->V->Bool
 | .non,.non=>true
 | .bl a,.bl b=>a==b
 | .bl a,.int b=>(if a then 1 else 0)==b
 | .int a,.bl b=>a==(if b then 1 else 0)
 | .int a,.int b=>a==b
 | .str a,.str b=>a==b
 | _,_=>false
theorem eqAt_V{A:Around}{s:Shared}{y x:V}{u v:Value}(ry:RelV y u)(rx:RelV x v)(fy:jh8 y=true)(fx:jh8 x=true):SeqAt.EqAt A s u v (eqV y x):=by
 cases y with
 | non=>
  cases ry
  cases x with
  | non=>cases rx;exact SeqAt.EqAt.same _
  | bl b=>cases rx;exact SeqAt.EqAt.none_bool b
  | int b=>obtain⟨t,rfl⟩:=rx;exact SeqAt.EqAt.none_int b t
  | str b=>obtain⟨t,rfl⟩:=rx;exact SeqAt.EqAt.none_str b t
  | _=>exact absurd (show false=true from fx) Bool.false_ne_true
 | bl a=>
  cases ry
  cases x with
  | non=>cases rx;exact SeqAt.EqAt.bool_none a
  | bl b=>cases rx;exact SeqAt.EqAt.bool_bool a b
  | int b=>obtain⟨t,rfl⟩:=rx;exact SeqAt.EqAt.bool_int a b t
  | str b=>obtain⟨t,rfl⟩:=rx;exact SeqAt.EqAt.bool_str a b t
  | _=>exact absurd (show false=true from fx) Bool.false_ne_true
 | int a=>
  obtain⟨t',rfl⟩:=ry
  cases x with
  | non=>cases rx;exact SeqAt.EqAt.int_none a t'
  | bl b=>cases rx;exact SeqAt.EqAt.int_bool a t' b
  | int b=>obtain⟨t,rfl⟩:=rx;exact SeqAt.EqAt.int_int a t' b t
  | str b=>obtain⟨t,rfl⟩:=rx;exact SeqAt.EqAt.int_str a t' b t
  | _=>exact absurd (show false=true from fx) Bool.false_ne_true
 | str a=>
  obtain⟨t',rfl⟩:=ry
  cases x with
  | non=>cases rx;exact SeqAt.EqAt.str_none a t'
  | bl b=>cases rx;exact SeqAt.EqAt.str_bool a t' b
  | int b=>obtain⟨t,rfl⟩:=rx;exact SeqAt.EqAt.str_int a t' b t
  | str b=>obtain⟨t,rfl⟩:=rx;exact SeqAt.EqAt.str_str a t' b t
  | _=>exact absurd (show false=true from fx) Bool.false_ne_true
 | _=>exact absurd (show false=true from fy) Bool.false_ne_true
def eqU(x:V)(u:Value):Bool:=match u with
 | .none=>eqV .non x
 | .bool b=>eqV (.bl b) x
 | .int i _=>eqV (.int i) x
 | .str z _=>eqV (.str z) x
 | _=>false
theorem ju3{x y:V}{u:Value}(r:RelV y u)(f:jh8 y=true):eqU x u=eqV y x:=by
 cases y with
 | non=>cases r;rfl
 | bl b=>cases r;rfl
 | int i=>obtain⟨t,rfl⟩:=r;rfl
 | str z=>obtain⟨t,rfl⟩:=r;rfl
 | _=>exact absurd (show false=true from f) Bool.false_ne_true
theorem jgs{x:V}:∀{xs:List V} {us:List Value},Vals xs us->xs.all jh8=true->us.any (eqU x)=xs.any λy=>eqV y x
 | _,_,.nil,_=>rfl
 | y::xs,u::us,.cons r t,f=>by
  rw[List.all_cons,Bool.and_eq_true] at f
  rw[List.any_cons,List.any_cons,ju3 r f.1,jgs t f.2]
theorem jex{A:Around}{s:Shared}{x:V}{v:Value}(rx:RelV x v)(fx:jh8 x=true):∀{xs:List V} {us:List Value},Vals xs us->xs.all jh8=true->∀u∈us,SeqAt.EqAt A s u v (eqU x u)
 | _,_,.nil,_=>λu hu=>by cases hu
 | y::xs,u::us,.cons r t,f=>λu' hu=>by
  rw[List.all_cons,Bool.and_eq_true] at f
  rcases List.mem_cons.mp hu with rfl | hu
  ·rw[ju3 r f.1];exact eqAt_V r rx f.1 fx
  ·exact jex rx fx t f.2 u' hu
def inV(x:V)(xs:List V):Bool:=xs.any λy=>eqV y x
def rIn(K:W.Frag)(neg:Bool):R2:=λx y H Q=>∃p xs,y= .ref p /\ (SqL K H p xs \/ SqT K H p xs) /\ jh8 x=true /\ xs.all jh8=true /\ Q (.bl (if neg then !inV x xs else inV x xs)) H
theorem jqo:OpR X (compareOp .In) (rIn X.K false):=by
 intro pins s σ H x y v u Q I rx ry h
 obtain⟨p,xs,rfl,hq,fx,fs,q⟩:=h
 cases ry
 rcases hq with hq | hq
 ·obtain⟨its,r,pl,hz⟩:=I.list hq
  refine SeqAt.in_listAt (eqU x) pl.isList (λw hw=>jex rx fx r fs w (by simpa using hw)) ⟨.bl _,H,I,rfl,?_⟩
  rw[show its.toArray.any (eqU x)=its.any (eqU x) by simp,jgs r fs]
  exact q
 ·obtain⟨its,r,pl,hz⟩:=I.tuple hq
  refine SeqAt.in_tupleAt (eqU x) pl (λw hw=>jex rx fx r fs w (by simpa using hw)) ⟨.bl _,H,I,rfl,?_⟩
  rw[show its.toArray.any (eqU x)=its.any (eqU x) by simp,jgs r fs]
  exact q
theorem jjn:OpR X (compareOp .NotIn) (rIn X.K true):=by
 intro pins s σ H x y v u Q I rx ry h
 obtain⟨p,xs,rfl,hq,fx,fs,q⟩:=h
 cases ry
 rcases hq with hq | hq
 ·obtain⟨its,r,pl,hz⟩:=I.list hq
  refine SeqAt.notIn_listAt (eqU x) pl.isList (λw hw=>jex rx fx r fs w (by simpa using hw)) ⟨.bl _,H,I,rfl,?_⟩
  rw[show its.toArray.any (eqU x)=its.any (eqU x) by simp,jgs r fs]
  exact q
 ·obtain⟨its,r,pl,hz⟩:=I.tuple hq
  refine SeqAt.notIn_tupleAt (eqU x) pl (λw hw=>jex rx fx r fs w (by simpa using hw)) ⟨.bl _,H,I,rfl,?_⟩
  rw[show its.toArray.any (eqU x)=its.any (eqU x) by simp,jgs r fs]
  exact q
theorem jjc:OpR X (compareOp .NotIn) (λx y H Q=>∃i j,x= .str i /\ y= .str j /\ Q (.bl (!(!(Builtin.Str.occurrences j i 0 j.length 1).isEmpty))) H):=by
 intro pins s σ H x y v u Q I rx ry h
 obtain⟨i,j,rfl,rfl,q⟩:=h
 obtain⟨t,rfl⟩:=rx
 obtain⟨t',rfl⟩:=ry
 exact notIn_str ⟨.bl _,H,I,rfl,q⟩
theorem jir:jc7 X (.builtin "len") (λxs H Q=>∃p ys,xs=[.ref p] /\ (SqL X.K H p ys \/ SqT X.K H p ys) /\ Q (.int ys.length) H):=by
 intro pins s σ H xs us Q I r h
 obtain⟨p,ys,rfl,hq,q⟩:=h
 obtain⟨u,rfl,rx⟩:=jgt r
 cases rx
 have hn:=jhr
 rcases hq with hq | hq
 ·obtain⟨its,r',pl,hz⟩:=I.list hq
  have hlen:=r'.length
  exact Calls.call_len_list pl.isList (by simp only[List.size_toArray]<;>omega) ⟨.int ys.length,H,I.tok _,⟨s.toks+1,by rw[List.size_toArray,hlen]⟩,q⟩
 ·obtain⟨its,r',pl,hz⟩:=I.tuple hq
  have hlen:=r'.length
  exact len_tuple pl (by simp only[List.size_toArray]<;>omega) ⟨.int ys.length,H,I.tok _,⟨s.toks+1,by rw[List.size_toArray,hlen]⟩,q⟩
theorem jil:jc7 X (.builtin "len") (λxs H Q=>∃z,xs=[.str z] /\ z.length<=sizeLine /\ Q (.int z.length) H):=by
 intro pins s σ H xs us Q I r h
 obtain⟨z,rfl,hz,q⟩:=h
 obtain⟨u,rfl,t,rfl⟩:=jgt r
 have hn:=jhr
 exact len_str (by omega) ⟨.int z.length,H,I.tok _,⟨_,rfl⟩,q⟩
theorem jc7.or{f:Value}{r r':List V->Hp->VK->Prop}(h:jc7 X f r)(h':jc7 X f r'):jc7 X f (λxs H Q=>r xs H Q \/ r' xs H Q):=by
 intro pins s σ H xs us Q I rs q
 rcases q with q | q
 ·exact h pins s σ H xs us Q I rs q
 ·exact h' pins s σ H xs us Q I rs q
theorem jiv:jc7 X (.type "list") (λxs H Q=>∃p ys,xs=[.ref p] /\ (SqL X.K H p ys \/ SqT X.K H p ys) /\ ∀l,H l=none->Q (.ref l) (upd H l (.lst ys))):=by
 intro pins s σ H xs us Q I r h
 obtain⟨p,ys,rfl,hq,q⟩:=h
 obtain⟨u,rfl,rx⟩:=jgt r
 cases rx
 have fin:∀(its:List Value),Vals ys its->ys.length<=sizeLine->∀(h':Heap) (c':Nat),(∀b o',s.heap.get? b=some o'->h'.get? b=some o')->
   h'.get? s.heap.objs.size=some {cls:= .type "list",dict:=none,data:= .seq its.toArray c',slots:=#[]}->EP X pins σ Q (.ref s.heap.objs.size) {s with heap:=h'}:=λits r' hz h' c' kp e=>
  ⟨.ref s.heap.objs.size,_,I.laid (t':=s.toks) kp (Nat.le_refl _) (show jc6 X.prog X.w _ h' _ (.lst ys) from⟨hz,its,c',r',e⟩),rfl,q _ (I.hok.fresh (Nat.le_refl _))⟩
 rcases hq with hq | hq
 ·obtain⟨its,r',pl,hz⟩:=I.list hq
  have hlen:=r'.length
  obtain⟨o,ho,hc,n,hd⟩:=pl.isList
  exact call_list_seq p (.inl rfl) ho hc hd (λh' c' kp e=>fin its r' hz h' c' kp e) (by simp only[List.size_toArray]<;>omega)
 ·obtain⟨its,r',pl,hz⟩:=I.tuple hq
  have hlen:=r'.length
  obtain⟨o,ho,hc,n,hd⟩:=pl
  exact call_list_seq p (.inr rfl) ho hc hd (λh' c' kp e=>fin its r' hz h' c' kp e) (by simp only[List.size_toArray]<;>omega)
theorem jhz:jc7 X (.type "tuple") (λxs H Q=>∃p ys,xs=[.ref p] /\ ((SqL X.K H p ys /\ ∀l,H l=none->Q (.ref l) (upd H l (.tup ys))) \/ (SqT X.K H p ys /\ Q (.ref p) H))):=by
 intro pins s σ H xs us Q I r h
 obtain⟨p,ys,rfl,h⟩:=h
 obtain⟨u,rfl,rx⟩:=jgt r
 cases rx
 rcases h with⟨hq,q⟩ | ⟨hq,q⟩
 ·obtain⟨its,r',pl,hz⟩:=I.list hq
  have hlen:=r'.length
  refine call_tuple_list pl.isList (λh' kp=> ?_) (by simp only[List.size_toArray]<;>omega)
  have I1:Inv X pins σ H {s with heap:=h'}:=I.kept (t':=s.toks) kp
  have I2:Inv X pins σ (upd H h'.objs.size (.tup ys)) {s with heap:=h'.push {cls:= .type "tuple",data:= .seq its.toArray}}:=
   I1.laid (t':=s.toks) (λb o e=>Heap.get?_push_of_some _ e) (Nat.le_refl _) (show jc6 X.prog X.w _ _ _ (.tup ys) from⟨hz,its,r',IsTup.new _ _⟩)
  exact⟨.ref h'.objs.size,_,I2,rfl,q _ (I1.hok.fresh (Nat.le_refl _))⟩
 ·obtain⟨its,r',pl,hz⟩:=I.tuple hq
  exact call_tuple_same pl ⟨.ref p,H,I,rfl,q⟩
def tyV(K:W.Frag)(T:String)(x:V)(H:Hp):Prop:=match x with
 | .str _=>T="str"
 | .int _=>T="int"
 | .ref p=>(T="list" /\ ∃xs,SqL K H p xs) \/ (T="tuple" /\ ∃o,K.lookup p=some o /\ o.cls= .type "tuple" /\ o.dict=none) \/
   (T="dict" /\ ((∃kvs,H p=some (.dK kvs)) \/ ∃kvs,H p=some (.dT kvs))) \/ (T="set" /\ ∃S n,H p=some (.set S n))
 | _=>False
theorem jqm{pins:List (Addr×Obj)}{σ:St}{H:Hp}{s:Shared}{T:String}{x:V}{v:Value}(I:Inv X pins σ H s)(r:RelV x v)(ty:tyV X.K T x H):
  s.TypeIs v T /\ ∀a,v= .ref a->∃ob,s.heap.get? a=some ob /\ ob.dict=none:=by
 cases x with
 | str z=>
  obtain⟨t,rfl⟩:=r
  cases (show T="str" from ty)
  exact⟨typeIs_str s z t,λ_ e=>nomatch e⟩
 | int i=>
  obtain⟨t,rfl⟩:=r
  cases (show T="int" from ty)
  exact⟨typeIs_int s i t,λ_ e=>nomatch e⟩
 | ref p=>
  cases r
  rcases ty with⟨rfl,xs,hq⟩ | ⟨rfl,o,hk,hc,hd⟩ | ⟨rfl,hk⟩ | ⟨rfl,S,n,hk⟩
  ·obtain⟨its,_,pl,_⟩:=I.list hq
   refine⟨pl.isList.typeIs,λa e=> ?_⟩
   cases e
   obtain⟨o,n,e,c,hd,_⟩:=pl
   exact⟨o,e,hd⟩
  ·refine⟨⟨o,I.kIn p o hk,hc⟩,λa e=> ?_⟩
   cases e
   exact⟨o,I.kIn _ o hk,hd⟩
  ·have z:∃o,s.heap.get? p=some o /\ o.ExactDict:=by
    rcases hk with⟨kvs,hk⟩ | ⟨kvs,hk⟩
    ·obtain⟨_,_,_,_,o,_,_,e,ex,_⟩:=I.hok p _ hk
     exact⟨o,e,ex⟩
    ·obtain⟨_,_,_,_,o,_,_,e,ex,_⟩:=I.hok p _ hk
     exact⟨o,e,ex⟩
   obtain⟨o,e,ex⟩:=z
   refine⟨⟨o,e,ex.1⟩,λa e2=> ?_⟩
   cases e2
   exact⟨o,e,ex.2.1⟩
  ·obtain⟨o,_,_,_,e,ex,_⟩:=I.hok p _ hk
   refine⟨⟨o,e,ex.1⟩,λa e2=> ?_⟩
   cases e2
   exact⟨o,e,ex.2.1⟩
 | _=>exact False.elim ty
def tBM0(K:W.Frag)(T:String)(r:V->List V->Hp->VK->Prop)(to:TE):TE:=λσ H Q=>to σ H λx H1=>tyV K T x H1 /\ r x [] H1 Q
def tBM(K:W.Frag)(T:String)(r:V->List V->Hp->VK->Prop)(to:TE)(t:TA):TE:=λσ H Q=>to σ H λx H1=>tyV K T x H1 /\ t σ H1 λxs H2=>r x xs H2 Q
variable {o e : Expr} {es : List Expr} {to : TE} {t : TA} {name : Str} {apos cpos : Pos} {T id : String} {r : V -> List V -> Hp -> VK -> Prop}
theorem jup(pa:PlainAttrs T)(slot:Slot T name id)(hty:typeOf (.builtin id)=pure (.type "method_descriptor"))(hm:MtR X id r)(ho:PE X o to)
  (hbase:attributeBase o name X.env (eval o X.env)=eval o X.env:=by rfl) (hline:(apos.endLine==cpos.line)=true:=by rfl):PE X (.Call (.Attribute o name apos) [] [] cpos) (tBM0 X.K T r to):=by
 intro pins s σ H Q I h
 refine wpAny_Call_method0_late hbase hline (thn (ho pins s σ H _ I h) λv s1 ⟨x,H1,I1,r1,ty,q1⟩=> ?_)
 obtain⟨h1,h2⟩:=jqm I1 r1 ty
 exact⟨T,id,pa,slot,hty,h1,h2,Calls.callWith_builtin rfl (PySem.evalArgs_none (hm pins s1 σ H1 x [] v [] Q I1 r1 .nil q1))⟩
theorem jgf(pa:PlainAttrs T)(slot:Slot T name id)(hty:typeOf (.builtin id)=pure (.type "method_descriptor"))(hm:MtR X id r)(ho:PE X o to)(ha:PA X (e::es) t)
  (hbase:attributeBase o name X.env (eval o X.env)=eval o X.env:=by rfl)
  (hfew:((backTo cpos (starEach (e::es) X.env)).all (λx=> !x.1)&&(backToKw cpos (keywordEach [] X.env)).all (λx=>x.1.isSome)
   &&decide ((e::es).length+([]:List Keyword).length+(if([]:List Keyword).isEmpty then 0 else 1)<30))=true:=by rfl)
  (hline:(apos.endLine==cpos.line)=true:=by rfl) (hs:starEach (e::es) X.env=(false,eval e X.env)::starEach es X.env:=by rfl) (hplain:(backTo cpos (starEach es X.env)).any (·.1)=false:=by rfl):
  PE X (.Call (.Attribute o name apos) (e::es) [] cpos) (tBM X.K T r to t):=by
 intro pins s σ H Q I h
 refine wpAny_Call_method_late hbase hfew hline rfl (thn (ho pins s σ H _ I h) λv s1 ⟨x,H1,I1,r1,ty,q1⟩=> ?_)
 obtain⟨h1,h2⟩:=jqm I1 r1 ty
 refine⟨T,id,pa,slot,hty,h1,h2,?_⟩
 have hA:=ha cpos pins s1 σ H1 _ I1 q1
 rw[hs] at hA ⊢
 refine Calls.callWith_builtin (by show(false||(backTo cpos (starEach es X.env)).any (·.1))=false;rw[hplain]<;>rfl) (Calls.evalArgs_plain ?_)
 exact thn hA λus s2 ⟨vs,H2,I2,r2,q2⟩=>hm pins s2 σ H2 x vs v us Q I2 r1 r2 q2
/- xs.append(e),list.index on a module's tuple .. are MtR facts of 06m -/
end
def MtM(X:Cx)(id:String)(r:V->List V->Hp->VK->Prop):Prop:=
 ∀(pins:List (Addr×Obj)) (s:Shared) (σ:St) (H:Hp) (x:V) (xs:List V) (v:Value) (us:List Value) (Q:VK),Inv X pins σ H s->RelV x v->Vals xs us->r x xs H Q->
  wpAny (model X.prog X.w) X.A (call (.builtin id) (v::us)) (EP X pins σ Q) X.xe s
theorem Vals.one:∀{x:V} {us:List Value},Vals [x] us->∃u,us=[u] /\ RelV x u
 | _,_,.cons r .nil=>⟨_,rfl,r⟩
theorem Vals.zero:∀{us:List Value},Vals [] us->us=[]
 | _,.nil=>rfl
theorem Vals.rep{xs:List V}{us:List Value}(h:Vals xs us):∀k:Nat,Vals (List.replicate k xs).flatten (List.replicate k us).flatten
 | 0=> .nil
 | k+1=>by
  rw[List.replicate_succ,List.replicate_succ,List.flatten_cons,List.flatten_cons]
  exact Vals.append h (Vals.rep h k)
theorem jjd(its:List Value):∀(k:Nat) (acc:List Value),
  List.foldl (λx1 x2=>x1++x2) acc.toArray (List.replicate k its.toArray)=(acc++(List.replicate k its).flatten).toArray
 | 0,acc=>by simp
 | k+1,acc=>by
  have e:acc.toArray++its.toArray=(acc++its).toArray:=by simp
  have e2:(acc++its)++(List.replicate k its).flatten=acc++(List.replicate (k+1) its).flatten:=by
   rw[List.replicate_succ,List.flatten_cons,List.append_assoc]
  rw[<-e2,<-jjd its k (acc++its),<-e,List.replicate_succ,List.foldl_cons]
section
variable {X : Cx} {pins : List (Addr × Obj)} {σ : St} {H : Hp} {s : Shared} {l b : Addr} {xs ys zs : List V}
theorem Inv.lset{its its':List Value}{n:Nat}{f:Array Value->Array Value}{t':Nat}(I:Inv X pins σ H s)(hH:H l=some (.lst xs))
  (e:s.heap.get? l=some {cls:= .type "list",data:= .seq its.toArray n}) (hf:f its.toArray=its'.toArray) (hv:Vals ys its') (hz:ys.length<=sizeLine):
  Inv X pins σ (upd H l (.lst ys)) {s with heap:=s.heap.update l (Obj.mapSeq f),toks:=t'}:=by
 have q:=PySem.IsL.update e f
 rw[hf] at q
 refine I.write (x:=l) (e:=l) (by rw[hH];exact trivial) (.inl rfl) (λb' u hb hu=>(Heap.get?_update_other s.heap (Obj.mapSeq f) (Ne.symm hb)).trans hu) ⟨_,q⟩ ?_
 exact⟨hz,its',_,hv,q⟩
theorem Inv.lnew{its:List Value}{t':Nat}(I:Inv X pins σ H s)(hv:Vals ys its)(hz:ys.length<=sizeLine):
  Inv X pins σ (upd H s.heap.objs.size (.lst ys)) {s with heap:=s.heap.push {cls:= .type "list",data:= .seq its.toArray},toks:=t'}:=
 I.laid (λ_ _ q=>Heap.get?_push_of_some _ q) (Nat.le_refl _) ⟨hz,its,0,hv,Heap.get?_push_size _ rfl⟩
theorem Inv.fresh(I:Inv X pins σ H s):H s.heap.objs.size=none:=I.hok.fresh (Nat.le_refl _)
theorem Inv.lstM(I:Inv X pins σ H s)(hH:H l=some (.lst xs)):xs.length<=sizeLine /\ ∃(its:List Value) (n:Nat),Vals xs its /\ xs.length=its.length /\ s.heap.get? l=some {cls:= .type "list",data:= .seq its.toArray n}:=by
 obtain⟨z,its,n,r,e⟩:=I.hok l _ hH
 exact⟨z,its,n,r,r.length,e⟩
theorem jsz{n:Nat}(h:n<=sizeLine):Builtin.List.listTooLong n=false:=by
 unfold Builtin.List.listTooLong
 exact decide_eq_false (by omega)
end
section
variable {X : Cx}
def jq0:V->List V->Hp->VK->Prop:=λx vs H Q=>∃l xs y,x= .ref l /\ vs=[y] /\ H l=some (.lst xs) /\ xs.length<sizeLine /\ Q .non (upd H l (.lst (xs++[y])))
theorem jew:MtM X "list.append" jq0:=by
 intro pins s σ H x vs v us Q I rx rv h
 obtain⟨l,xs,y,rfl,rfl,hH,hz,q⟩:=h
 cases rx
 obtain⟨u,rfl,ru⟩:=rv.one
 obtain⟨z,its,n,r,hl,e⟩:=I.lstM hH
 refine call_meets F.slot_list_append ⟨_,e,rfl⟩ F.entry_list_append (F.args_list_append_2 _ _) (PySem.list_append l its.toArray n u (by rw[List.size_toArray];omega)) ⟨e,?_⟩
 refine⟨.non,_,I.lset (its':=its++[u]) hH e (by simp) (r.append (.cons ru .nil)) ?_,rfl,q⟩
 rw[List.length_append,List.length_singleton]
 omega
def jts:V->List V->Hp->VK->Prop:=λx vs H Q=>∃l xs,x= .ref l /\ vs=[] /\ H l=some (.lst xs) /\ Q .non (upd H l (.lst []))
theorem jso:MtM X "list.clear" jts:=by
 intro pins s σ H x vs v us Q I rx rv h
 obtain⟨l,xs,rfl,rfl,hH,q⟩:=h
 cases rx
 have hus:=rv.zero
 subst hus
 obtain⟨z,its,n,r,hl,e⟩:=I.lstM hH
 refine call_meets F.slot_list_clear ⟨_,e,rfl⟩ F.entry_list_clear (F.args_list_clear_1 _) (AutoSeq1.list_clear_list_0 l its.toArray n (by rw[List.size_toArray];omega)) ⟨e,?_⟩
 exact⟨.non,_,I.lset (its':=[]) (ys:=[]) hH e rfl .nil (Nat.zero_le _),rfl,q⟩
def rCat:R2:=λx y H Q=>∃l b xs zs,x= .ref l /\ y= .ref b /\ H l=some (.lst xs) /\ H b=some (.lst zs) /\ xs.length+zs.length<=sizeLine /\ ∀p,H p=none->Q (.ref p) (upd H p (.lst (xs++zs)))
theorem op_cat:OpR X (binaryOp .Add) rCat:=by
 intro pins s σ H x y v u Q I rx ry h
 obtain⟨l,b,xs,zs,rfl,rfl,hH,hB,hz,q⟩:=h
 cases rx
 cases ry
 obtain⟨z,its,n,r,hl,e⟩:=I.lstM hH
 obtain⟨z2,its2,n2,r2,hl2,e2⟩:=I.lstM hB
 refine PySem.P.add_list e e2 ?_ (by rw[List.size_toArray,List.size_toArray];omega)
 have ea:its.toArray++its2.toArray=(its++its2).toArray:=by simp
 rw[ea]
 exact⟨.ref _,_,I.lnew (t':=s.toks) (r.append r2) (by rw[List.length_append];omega),rfl,q _ I.fresh⟩
def rRep:R2:=λx y H Q=>∃l k xs,x= .ref l /\ y= .int k /\ H l=some (.lst xs) /\ -(2^63)<=k /\ k<2^63 /\ xs.length*k.toNat<=sizeLine /\
 ∀p,H p=none->Q (.ref p) (upd H p (.lst (List.replicate k.toNat xs).flatten))
theorem jx4{α:Type}(xs:List α)(k:Nat):(List.replicate k xs).flatten.length=k*xs.length:=by
 induction k with
 | zero=>simp
 | succ k ih=>rw[List.replicate_succ,List.flatten_cons,List.length_append,ih,Nat.succ_mul,Nat.add_comm]
theorem op_rep:OpR X (binaryOp .Mult) rRep:=by
 intro pins s σ H x y v u Q I rx ry h
 obtain⟨l,k,xs,rfl,rfl,hH,h1,h2,hz,q⟩:=h
 cases rx
 obtain⟨t,rfl⟩:=ry
 obtain⟨z,its,n,r,hl,e⟩:=I.lstM hH
 have hlen:its.toArray.size*k.toNat<=sizeLine:=by rw[List.size_toArray,<-hl];exact hz
 have hcap:¬its.toArray.size*k.toNat>(2^63 - 1) / 8:=by
  have:(sizeLine:Nat)<=(2^63 - 1) / 8:=by decide
  omega
 have hfit:¬(!Builtin.List.listFitsIndex k)=true:=by
  rw[fitsIndex_both h1 h2]
  exact Bool.false_ne_true
 have hlong:¬Builtin.List.listTooLong (its.toArray.size*k.toNat)=true:=by
  rw[jsz hlen]
  exact Bool.false_ne_true
 have hnew:List.foldl (λx1 x2=>x1++x2) #[] (List.replicate (if its.toArray.isEmpty=true then 0 else k.toNat) its.toArray)=(List.replicate k.toNat its).flatten.toArray:=by
  have f0:∀m:Nat,List.foldl (λx1 x2=>x1++x2) #[] (List.replicate m its.toArray)=(List.replicate m its).flatten.toArray:=λm=>by
   have:=jjd its m []
   rw[List.nil_append] at this
   exact this
  rw[f0]
  cases its with
  | nil=>simp
  | cons a r'=>rw[if_neg (by simp)]
 refine wpAny_binaryOp_repeat_ref (T:="list") (U:="int") (by decide) ⟨_,e,rfl⟩ (λs'=>typeIs_int s' k t) noFill_list_mul F.fills_int_mul F.slot_int_rmul repeat_list F.slot_int_index.lookup
  (call_meets F.slot_int_rmul (typeIs_int s k t) F.entry_int_rmul (F.args_int_rmul_2 _ _) (int___rmul___int_list k t l its.toArray n)
   ⟨e,rfl,⟨_,e,rfl⟩,call_meets F.slot_list_mul ⟨_,e,rfl⟩ F.entry_list_mul (F.args_list_mul_2 _ _) (AutoListH.list___mul___list_int_3 l its.toArray n k t hfit hcap hlong) ⟨e,?_⟩⟩)
 rw[hnew]
 exact⟨.ref _,_,I.lnew (t':=s.toks) (r.rep k.toNat) (by rw[jx4,Nat.mul_comm];exact hz),rfl,q _ I.fresh⟩
end
section
variable {κ : Type} [DecidableEq κ]
def valV(kvs:List (κ×V))(k:κ):Option V:=(kvs.find? λkv=>decide (kv.1=k)).map (·.2)
theorem jm8{p:κ×V}{r:List (κ×V)}{k:κ}(e:p.1=k):valV (p::r) k=some p.2:=by simp[valV,List.find?_cons,e]
theorem jlo{p:κ×V}{r:List (κ×V)}{k:κ}(e:¬p.1=k):valV (p::r) k=valV r k:=by simp[valV,List.find?_cons,e]
theorem RelO.isSome_eq{o:Option V}{u:Option Value}(r:RelO o u):o.isSome=u.isSome:=by
 cases o with
 | none=>cases u with
  | none=>rfl
  | some _=>exact(show False from r).elim
 | some _=>cases u with
  | none=>exact(show False from r).elim
  | some _=>rfl
theorem KV.val{kvs:List (κ×V)}{vs:List (κ×Value)}(r:KV kvs vs)(k:κ):RelO (valV kvs k) (valueAt vs k):=by
 unfold KV at r
 induction r with
 | nil=>exact True.intro
 | @cons p q ps qs h t ih=>
  obtain⟨h1,h2⟩:=h
  by_cases e:p.1=k
  ·have e':q.1=k:=h1.symm.trans e
   have b:valueAt (q::qs) k=some q.2:=by simp[valueAt,List.find?_cons,e']
   rw[jm8 e,b];exact h2
  ·have e':¬q.1=k:=λz=>e (h1.trans z)
   have b:valueAt (q::qs) k=valueAt qs k:=by simp[valueAt,List.find?_cons,e']
   rw[jlo e,b];exact ih
theorem KV.length{kvs:List (κ×V)}{vs:List (κ×Value)}(r:KV kvs vs):kvs.length=vs.length:=Paired.length r
end
theorem jh9{P:Program}{w:World}{k:Key}{u:Value}(r:RelV (kV k) u):(jbw P w).is k u=true:=by
 cases k with
 | inl i=>obtain⟨t,e⟩:=(show ∃t,u=Value.int i t from r);subst e;exact jki P w i t
 | inr x=>obtain⟨t,e⟩:=(show ∃t,u=Value.str x t from r);subst e;exact jej P w x t
theorem jj6{P:Program}{w:World}:∀{ks:List Key} {us:List Value},Vals (ks.map kV) us->ItemsAre (jbw P w) ks us
 | [],_,r=>by rw[List.map_nil] at r;cases r;exact .nil
 | k::ks,_,r=>by
  rw[List.map_cons] at r
  cases r with
  | cons h t=>exact .cons (jh9 h) (jj6 t)
abbrev KT(H:Hp):List (List Key×V)->List (List Key×Addr×Value)->Prop:=Paired λp q=>p.1=q.1 /\ H q.2.1=some (.tup (p.1.map kV)) /\ RelV p.2 q.2.2
theorem KT.val{H:Hp}{kvs:List (List Key×V)}{xs:List (List Key×Addr×Value)}(r:KT H kvs xs)(k:List Key):RelO (valV kvs k) ((atKey xs k).map (·.2)):=by
 induction r with
 | nil=>exact True.intro
 | @cons p q ps qs h t ih=>
  obtain⟨h1,_,h2⟩:=h
  by_cases e:p.1=k
  ·have e':q.1=k:=h1.symm.trans e
   have b:atKey (q::qs) k=some q.2:=by simp[atKey,List.find?_cons,e']
   rw[jm8 e,b];exact h2
  ·have e':¬q.1=k:=λz=>e (h1.trans z)
   have b:atKey (q::qs) k=atKey qs k:=by simp[atKey,List.find?_cons,e']
   rw[jlo e,b];exact ih
section
variable {P : Program} {w : World} {H : Hp} {h : Heap} {a : Addr}
theorem rd_of{u:HO}(ok:HOk P w H h)(e:Rd H a u):jc6 P w H h a u:=e.ok ok
theorem jmp{kvs:List (Key×V)}(ok:HOk P w H h)(e:Rd H a (.dK kvs)):kvs.length<=sizeLine /\ (a==sysModules)=false /\ ∃vs,KV kvs vs /\ h.DictOf (jbw P w) a vs:=
 show jc6 P w H h a (.dK kvs) from rd_of ok e
theorem dk_of{kvs:List (Key×V)}(ok:HOk P w H h)(e:H a=some (.dK kvs)):kvs.length<=sizeLine /\ (a==sysModules)=false /\ ∃vs,KV kvs vs /\ h.DictOf (jbw P w) a vs:=jmp ok (.inl e)
theorem jl7{ks:List Key}(ok:HOk P w H h)(e:H a=some (.tup (ks.map kV))):(tupleKind (jbw P w)).is h ks a:=by
 obtain⟨_,its,r,o,h1,h2,n,h3⟩:=(show jc6 P w H h a (.tup (ks.map kV)) from ok a _ e)
 exact⟨o,its.toArray,n,h1,h2,h3,by simpa using jj6 r⟩
theorem jrk{kvs:List (List Key×V)}(ok:HOk P w H h)(e:Rd H a (.dT kvs)):kvs.length<=sizeLine /\ (a==sysModules)=false /\
  ∃xs,KT H kvs xs /\ h.DictOfH (tupleKind (jbw P w)) a xs:=by
 obtain⟨z,y,xs,r,o,es,ep,h1,h2,h3,h4,h5⟩:=(show jc6 P w H h a (.dT kvs) from rd_of ok e)
 refine⟨z,y,xs,r,o,es,ep,h1,h2,h3,h4,λx hx=> ?_,h5⟩
 have all:∀{l:List (List Key×V)} {m:List (List Key×Addr×Value)},KT H l m->∀x∈m,(tupleKind (jbw P w)).is h x.1 x.2.1:=by
  intro l m q
  induction q with
  | nil=>intro x hx;exact nomatch hx
  | @cons p q ps qs hq t ih=>
   intro x hx
   rcases List.mem_cons.mp hx with e | hx
   ·subst e
    exact jl7 ok (by rw[<-hq.1];exact hq.2.1)
   ·exact ih x hx
 exact all r x hx
end
def DGet(H:Hp)(a:Addr)(y:V)(r:Option V):Prop:=
 (∃kvs k,Rd H a (.dK kvs) /\ y=kV k /\ r=valV kvs k) \/ ∃kvs k b,Rd H a (.dT kvs) /\ y= .ref b /\ H b=some (.tup (k.map kV)) /\ r=valV kvs k
theorem DGet.k{H:Hp}{a:Addr}{kvs:List (Key×V)}{k:Key}(e:H a=some (.dK kvs)):DGet H a (kV k) (valV kvs k):= .inl ⟨kvs,k,.inl e,rfl,rfl⟩
section
variable {X : Cx} {pins : List (Addr × Obj)} {σ : St} {H : Hp} {s : Shared} {a : Addr} {y v : V} {u r : Value} {o : Option V} {A : Around} {E : Value -> Shared -> Prop}
theorem Inv.big(I:Inv X pins σ H s):sysModules<s.heap.objs.size:=by
 have h:mainGlobals<s.heap.objs.size:=(I.mod.glob.keeps I.bk).lt
 exact Nat.lt_trans (by decide) h
theorem jor{Q:Value->Shared->Prop}(hu:A.units+1<cLine)(I:Inv X pins σ H s)(g:DGet H a y (some v))(ry:RelV y u)(h:∀w' s',Inv X pins σ H s'->RelV v w'->Q w' s'):
  wpAny (model X.prog X.w) A (getItem (.ref a) u) Q E s:=by
 rcases g with⟨kvs,k,e,ey,l⟩ | ⟨kvs,k,b,e,ey,eb,l⟩
 ·subst ey
  obtain⟨z,hd,vs,rel,dd⟩:=jmp I.hok e
  obtain⟨w',hw,rw'⟩:=RelO.some_of (v:=v) (o:=valueAt vs k) (by rw[l];exact rel.val k)
  exact wpAny_getItem_of (jh9 ry) dd.mapOf hw (h w' _ (I.tok _) rw')
 ·subst ey
  cases (show u=Value.ref b from ry)
  obtain⟨z,hd,xs,rel,dd⟩:=jrk I.hok e
  obtain⟨w',hw,rw'⟩:=RelO.some_of (v:=v) (o:=(atKey xs k).map (·.2)) (by rw[l];exact rel.val k)
  obtain⟨p,hp,hp2⟩:=Option.map_eq_some_iff.mp hw
  refine wpAny_getItem_heap (tupleKind_room_in1 hu) (jl7 I.hok eb) dd hp ?_
  rw[hp2]
  exact h w' _ (I.tok _) rw'
theorem d_in{Q:Value->Shared->Prop}(hu:A.units+1<cLine)(I:Inv X pins σ H s)(g:DGet H a y o)(ry:RelV y u)(h:∀s',Inv X pins σ H s'->Q (.bool o.isSome) s'):
  wpAny (model X.prog X.w) A (compareOp .In u (.ref a)) Q E s:=by
 rcases g with⟨kvs,k,e,ey,l⟩ | ⟨kvs,k,b,e,ey,eb,l⟩
 ·subst ey
  obtain⟨z,hd,vs,rel,dd⟩:=jmp I.hok e
  refine wpAny_in_of (jh9 ry) hd dd.mapOf ?_
  rw[<-(rel.val k).isSome_eq,<-l]
  exact h _ (I.tok _)
 ·subst ey
  cases (show u=Value.ref b from ry)
  obtain⟨z,hd,xs,rel,dd⟩:=jrk I.hok e
  refine wpAny_in_heap (tupleKind_room_in1 hu) (jl7 I.hok eb) hd dd ?_
  have q:=(rel.val k).isSome_eq
  rw[Option.isSome_map] at q
  rw[<-q,<-l]
  exact h _ (I.tok _)
theorem jv8{Q:Value->Shared->Prop}(hu:A.units+1<cLine)(I:Inv X pins σ H s)(g:DGet H a y o)(ry:RelV y u)(h:∀s',Inv X pins σ H s'->Q (.bool (!o.isSome)) s'):
  wpAny (model X.prog X.w) A (compareOp .NotIn u (.ref a)) Q E s:=by
 rcases g with⟨kvs,k,e,ey,l⟩ | ⟨kvs,k,b,e,ey,eb,l⟩
 ·subst ey
  obtain⟨z,hd,vs,rel,dd⟩:=jmp I.hok e
  refine wpAny_notIn_of (jh9 ry) hd dd.mapOf ?_
  rw[<-(rel.val k).isSome_eq,<-l]
  exact h _ (I.tok _)
 ·subst ey
  cases (show u=Value.ref b from ry)
  obtain⟨z,hd,xs,rel,dd⟩:=jrk I.hok e
  refine wpAny_notIn_heap (tupleKind_room_in1 hu) (jl7 I.hok eb) hd dd ?_
  have q:=(rel.val k).isSome_eq
  rw[Option.isSome_map] at q
  rw[<-q,<-l]
  exact h _ (I.tok _)
end
section
variable {X : Cx} {pins : List (Addr × Obj)} {σ : St} {H : Hp} {s : Shared} {a : Addr} {kvs : List (Key × V)} {k : Key} {u : Value} {A : Around} {E : Value -> Shared -> Prop}
theorem d_len{Q:Value->Shared->Prop}(I:Inv X pins σ H s)(e:Rd H a (.dK kvs))(h:∀t s',Inv X pins σ H s'->Q (.int kvs.length t) s'):wpAny (model X.prog X.w) A (call (.builtin "len") [.ref a]) Q E s:=by
 obtain⟨z,hd,vs,rel,dd⟩:=jmp I.hok e
 refine call_len_dict hd dd (by rw[<-rel.length];rw[sizeLine_eq] at z;omega) ?_
 rw[<-rel.length]
 exact h _ _ (I.tok _)
end
theorem jl3{X:Cx}{pins:List (Addr×Obj)}{σ:St}{H:Hp}{s:Shared}{a:Addr}{y:V}{o:Option V}(I:Inv X pins σ H s)(g:DGet H a y o):s.TypeIs (.ref a) "dict":=by
 rcases g with⟨kvs,k,e,_,_⟩ | ⟨kvs,k,b,e,_,_,_⟩
 ·obtain⟨_,_,vs,_,dd⟩:=jmp I.hok e
  exact dd.typeIs
 ·obtain⟨_,_,xs,_,dd⟩:=jrk I.hok e
  exact dd.typeIs
theorem jrj{P:Program}{w:World}{H:Hp}(h:Heap)(hb:sysModules<h.objs.size):jc6 P w H (h.push {cls:= .type "dict",data:= .dict #[]}) h.objs.size (.dK []):=
 ⟨Nat.zero_le _,beq_eq_false_iff_ne.mpr (Ne.symm (Nat.ne_of_lt hb)),[],.nil,Heap.DictOf.new h⟩
def ju1:TE:=λ_ H Q=>∀p,H p=none->Q (.ref p) (upd H p (.dK []))
section
variable {X : Cx} {pos : Pos}
theorem jr6:PE X (.Dict [] [] pos) ju1:=λpins s σ H Q I h=>
 wpAny_Dict_empty ⟨.ref s.heap.objs.size,_,I.laid (a:=s.heap.objs.size) (o:= .dK []) (t':=s.toks) (λ_ _ q=>Heap.get?_push_of_some _ q) (Nat.le_refl _) (jrj s.heap I.big),rfl,h _ (I.hok.fresh (Nat.le_refl _))⟩
end
end L2
namespace Att
open PySem PySem.W PySem.Calls PyProof.Rows
theorem jgz{P:Params}{h:Heap}:∀(ns:List Int) (vs:List Value),WellAll P h vs (ns.map WData.int)->IntsAre vs ns:=by
 intro ns
 induction ns with
 | nil=>
  intro vs w
  rw[List.map_nil] at w
  cases w
  exact .nil
 | cons n ns ih=>
  intro vs w
  rw[List.map_cons] at w
  cases w with
  | cons a b=>
   cases a
   exact .cons _ _ (ih _ b)
theorem jql{l:OpenLaw}{n:Nat}(hn:l.most=some n){P:Params}{h:Heap}{args:List WData}{vals:List Value}
    (hpre:l.row.toRowW.claim.pre args=true) (hwl:WellAll P h vals args):
    ∃a vs ns,vals=[Value.ref a] /\ args=[WData.list (ns.map WData.int)] /\ h.get? a=some {cls:= .type "list",data:= .seq vs.toArray} /\ IntsAre vs ns /\ ns.length<=n:=by
  have hsh:WShape.hasAll [] args [.list .int]=true:=(pre_splitW hpre).1
  have hc:l.pre.holds [] {args:=args}=true:=(pre_splitW hpre).2
  obtain⟨d,r,rfl,h1,h2⟩:=hasAllW_cons hsh
  obtain rfl:=hasAllW_nil h2
  obtain⟨xs,rfl,h3⟩:=hasW_list h1
  obtain⟨ns,rfl⟩:=items_int h3
  have hlen:ns.length<=n:=by
    unfold OpenLaw.pre at hc
    have h4:(WTm.not (.lt (.lit (.int (n:Int))) (.len (.arg 0)))).holds [] {args:=[.list (ns.map .int)]}=true:=by
      have h4:=(holds_andW hc).1
      rw[hn] at h4
      exact h4
    have h5:=condW_of h4 (w_not (w_lt w_lit (w_len_list (w_arg rfl))))
    rw[List.length_map] at h5
    refine Nat.le_of_not_lt λq=> ?_
    have q':(n:Int)<((ns.length:Nat):Int):=by omega
    first
      | (rw[decide_eq_true q'] at h5;exact absurd h5 (by decide))
      | (simp at h5;omega)
  cases hwl with
  | cons w1 w2=>
    cases w2
    cases w1 with
    | list ho hall=>exact⟨_,_,ns,rfl,rfl,ho,jgz ns _ hall,hlen⟩
theorem jok(l:OpenLaw)(args:List WData):l.row.toRowW.claim.post args (.bool true) args=true:=
 postW_of (r:=l.row.toRowW) (X:=(true==true))
  (show WShape.has [] (.bool true) .bool=true by first | rfl | decide | simp[WShape.has,WShape.arms,WShape.armsAll])
  (show(WTm.eq .res (.lit (.bool true))).value [] {args:=args,res:=some (.bool true),after:=args}=some (.bool (true==true)) from w_eq_bool (w_res rfl) w_lit) rfl
theorem attach_call{l:OpenLaw}{n:Nat}{q:Program}{loose:List Str}{XP:(Str->Option Value)->Heap->Prop}{YP:World->Heap->Prop}{d:DefRec}
  (hn:l.most=some n) (hdf:d.params.defaults=[])
  (call:∀(w:World) (s₀ s₁:Shared) (mg mb:Str->Option Value) (fa:Addr) (o:Obj) (pm cd doc:Value) (a:Addr) (vs:List Value) (ns:List Int),
   Ground q loose [] XP w s₀ mg mb s₁.heap->YP w s₁.heap->
   s₁.heap.get? fa=some o->o.data= .func (docDef d.name d.params d.body d.scope pm cd doc)->s₁.heap.CodeRec cd d.name->mg d.name=some (.ref fa)->
   s₁.heap.get? a=some {cls:= .type "list",data:= .seq vs.toArray}->IntsAre vs ns->ns.length<=n->s₁.gens=#[]->
   codeAny (model l.prog w) callerA (.call (.ref fa) ⟨[.ref a],[]⟩) (λr s'=>r= .ok (.ret (.bool true)) /\ OldK s₁.heap s'.heap /\ s'.os=s₁.os /\ AllBare s'.gens) s₁):
  WalkO q loose XP YP l.row.toRowW d [] (λf vs=>PySem.call f vs):=by
 intro w s₀ s₁ mg mb G Y fa o pm cd doc dV kV ho hd hcd hD hmg hg args vals as hpre hlay hrd hwl hlo
 obtain rfl:dV= .none:=Dflts.none hD hdf
 obtain rfl:kV= .none:=Dflts.noKw hD
 obtain⟨a,vs,ns,rfl,rfl,hobj,hints,hlen⟩:=jql hn hpre hwl
 refine enter_call (codeAny_mono (call w s₀ s₁ mg mb fa o pm cd doc a vs ns G Y ho (fd_plain hd) hcd hmg hobj hints hlen hg) λr s' hq=> ?_)
 obtain⟨rfl,h2,h3,h4⟩:=hq
 exact⟨.inl ⟨.bool true,.bool true,[],rfl,λ_=>rfl,.bool true,jok l _,λ_=>⟨List.Pairwise.nil,λ_ hm=>(nomatch hm)⟩⟩,h2,h3,h4⟩
end Att
namespace L2
open PySem PySem.Spec PyProof.Rows
theorem jju:∀{vs:List Value} {ns:List Int},IntsAre vs ns->Vals (ns.map V.int) vs
 | _,_,.nil=> .nil
 | _,_,.cons n t h=> .cons ⟨t,rfl⟩ (jju h)
def Only(H:Hp):Prop:=∀b,H b=none \/ ∃o xs,H b=some (.frz o (.lst xs))
theorem js8{P:Program}{w:World}{K:W.Frag}{mg mb:Str->Option Value}{CX:CXT}{k:Nat}{fa a:Addr}{fd:FuncData}{x:Str}{sp:Sp}{s₁:Shared}{vs:List Value}{ns:List Int}
  (KX:K.In s₁.heap) (hns:s₁.heap.Ns mainGlobals mg) (hb:s₁.heap.Ns builtinsNs mb) (hbb:∀x:Str,x≠"__name__"->mb x=bootBuiltins x) (hlim:s₁.heap.NoLimit) (hg:s₁.gens=#[])
  (ha:s₁.heap.get? a=some {cls:= .type "list",data:= .seq vs.toArray}) (hi:IntsAre vs ns) (hl:ns.length<=sizeLine) (hr:Room k callerA)
  (F:∀base:Heap,K.In base->base.Ns mainGlobals mg->FnOk P w K mg base CX k fa fd [x] sp) (hbind:∀(s:Shared) (u:Value),BindsTo s fd ⟨[u],[]⟩ [(x,u)])
  (hsp:∀H:Hp,Only H->SqL K H a (ns.map V.int)->sp [.ref a] H (λv _=>v= .bl true) λ_ _ _=>False)
  (hCX:∀H e s',CX [] H s₁ (λ_ _ _=>False) e s'->False):
  codeAny (model P w) callerA (.call (.ref fa) ⟨[.ref a],[]⟩) (λr s'=>r= .ok (.ret (.bool true)) /\ OldK s₁.heap s'.heap /\ s'.os=s₁.os /\ AllBare s'.gens) s₁:=by
 have rv:=jju hi
 have lenV:=hi.length
 have core:∀H:Hp,Only H->SqL K H a (ns.map V.int)->HOk P w H s₁.heap->(∀b,H b≠none->b=a)->(H a≠none->K.lookup a=none)->
   codeAny (model P w) callerA (.call (.ref fa) ⟨[.ref a],[]⟩) (λr s'=>r= .ok (.ret (.bool true)) /\ OldK s₁.heap s'.heap /\ s'.os=s₁.os /\ AllBare s'.gens) s₁:=by
  intro H hO hS hok hA hK
  have base_of:∀{b:Addr} {o:Obj},s₁.heap.get? b=some o->H b=none->(hidT s₁.heap H).get? b=some o:=λe n=>jqs e n
  have noA:∀{b:Addr} {o:Obj} {es:Array DictEntry} {ep:Nat},s₁.heap.get? b=some o->o.data= .dict es ep->H b=none:=fun{b o es ep} e d=>by
   cases q:H b with
   | none=>rfl
   | some u=>
    have e':b=a:=hA b (by rw[q];simp)
    subst e'
    rw[ha] at e;cases e
    have d':Data.seq vs.toArray _=Data.dict es ep:=d
    cases d'
  have nsK:∀{b:Addr} {m:Str->Option Value},s₁.heap.Ns b m->(hidT s₁.heap H).Ns b m:=fun{b m} ⟨o,es,ep,e,d,r⟩=>⟨o,es,ep,base_of e (noA e d),d,r⟩
  have hKb:K.In (hidT s₁.heap H):=λb o e=>base_of (KX b o e) (by
   cases q:H b with
   | none=>rfl
   | some u=>
    have e':b=a:=hA b (by rw[q];simp)
    subst e'
    rw[hK (by rw[q];simp)] at e;cases e)
  have hM:Mod K mg (hidT s₁.heap H):=⟨hKb,nsK hns,⟨mb,nsK hb,hbb⟩,let ⟨mc,h1,h2⟩:=hlim;⟨mc,nsK h1,h2⟩⟩
  have e0:Env0 P w K mg (hidT s₁.heap H) callerA [] s₁ H:=⟨rfl,hM,λb o e=>jww e,Nat.le_of_eq (jo1 _ _),trivial,λb hb=>absurd (show b∈([]:List Addr) from hb) (by simp),hok,.of_eq hg⟩
  refine codeAny_mono ((F _ hKb (nsK hns)).run callerA [] s₁ H ⟨[.ref a],[]⟩ [.ref a] [.ref a] _ _ hr e0 (hbind s₁ (.ref a)) (.cons rfl .nil) (hsp H hO hS)) λr s' h=> ?_
  cases r with
  | error e=>exact(hCX H e s' h).elim
  | ok fl=>
   cases fl with
   | next=>exact False.elim h
   | brk=>exact False.elim h
   | cont=>exact False.elim h
   | ret u=>
    obtain⟨v,H',os,bare,un,hok',r',q⟩:=h
    have q':v= .bl true:=q
    subst q'
    obtain rfl:u=Value.bool true:=r'
    refine⟨rfl,OldK.of_keep λb o e=> ?_,os,bare⟩
    cases q:H b with
    | none=>exact un.keep b o e q (by intro z;exact absurd (show b∈([]:List Addr) from z) (by simp)) (by simp)
    | some u=>
     rcases hO b with z | ⟨ob,xs,z⟩
     ·rw[q] at z;cases z
     ·have z2:=un.frzs b ob _ z
      obtain⟨e1,_⟩:=hok b _ z
      obtain⟨e2,_⟩:=hok' b _ z2
      rw[e] at e1;cases e1
      exact e2
 cases hk:K.lookup a with
 | some o=>
  have e:=KX a o hk
  rw[ha] at e
  cases e
  refine core (λ_=>none) (λ_=> .inl rfl) (.inr ⟨_,vs.toArray,_,hk,rfl,rfl,rfl,by rw[List.size_toArray,lenV];exact hl,by simpa using rv⟩) (λb u z=>by have z':(none:Option HO)=some u:=z;cases z') (λb z=>absurd rfl z) λz=>absurd rfl z
 | none=>
  refine core (λb=>if b=a then some (.frz {cls:= .type "list",data:= .seq vs.toArray} (.lst (ns.map V.int))) else none) (λb=> ?_) (.inl (.inr ⟨{cls:= .type "list",data:= .seq vs.toArray},if_pos rfl⟩)) (λb u z=> ?_) (λb z=> ?_) λ_=>hk
  ·by_cases hb:b=a
   ·exact .inr ⟨_,_,if_pos hb⟩
   ·exact .inl (if_neg hb)
  ·by_cases hb:b=a
   ·have z':=(if_pos hb).symm.trans z
    cases z'
    subst hb
    exact⟨ha,by rw[List.length_map];exact hl,vs,_,rv,ha⟩
   ·have z':=(if_neg hb).symm.trans z
    cases z'
  ·by_cases hb:b=a
   ·exact hb
   ·exact absurd (if_neg hb) z
abbrev KOf{K:W.Frag}{h:Heap}(_:K.In h):W.Frag:=K
theorem jvz{l:W.OpenLaw}{n k:Nat}{q:Program}{loose:List Str}{XP:(Str->Option Value)->Heap->Prop}{YP:World->Heap->Prop}{d:DefRec}{K:Params->W.Frag}{CX:World->CXT}{sp:World->Sp}{x:Str}
  (hn:l.most=some n) (hn2:n<=sizeLine) (hdf:d.params.defaults=[]) (hr:Room k callerA)
  (hY:∀(w:World) (h:Heap),YP w h->(K w.params).In h)
  (F:∀(w:World) (mg:Str->Option Value) (fa:Addr) (h:Heap),(K w.params).In h->h.Ns mainGlobals mg->mg d.name=some (.ref fa)->
   ∃fd:FuncData,(∀(s:Shared) (u:Value),BindsTo s fd ⟨[u],[]⟩ [(x,u)]) /\
    ∀base:Heap,(K w.params).In base->base.Ns mainGlobals mg->FnOk l.prog w (K w.params) mg base (CX w) k fa fd [x] (sp w))
  (hsp:∀(w:World) (H:Hp) (a:Addr) (ns:List Int),ns.length<=n->Only H->SqL (K w.params) H a (ns.map V.int)->sp w [.ref a] H (λv _=>v= .bl true) λ_ _ _=>False)
  (hCX:∀(w:World) (H:Hp) (s:Shared) (e:Value) (s':Shared),CX w [] H s (λ_ _ _=>False) e s'->False):
  W.WalkO q loose XP YP l.row.toRowW d [] (λf vs=>PySem.call f vs):=by
 refine Att.attach_call hn hdf λw s₀ s₁ mg mb fa o pm cd doc a vs ns G Y ho hd hcd hmg hobj hints hlen hg=> ?_
 have KX:=hY w _ Y
 obtain⟨fd,hb,hF⟩:=F w mg fa _ KX G.T.g hmg
 exact js8 KX G.T.g G.T.b G.T.builtins G.T.nolimit hg hobj hints (Nat.le_trans hlen hn2) hr hF hb (λH hO hS=>hsp w H a ns hlen hO hS) λH e s'=>hCX w H s₁ e s'
def jau(s:Stmt)(j:Nat):Stmt:=match s with
 | .ClassDef _ _ _ body _ _ _ _ _ _ _=>body.getD j (.Pass ⟨0,0,0,0⟩)
 | _=> .Pass ⟨0,0,0,0⟩
def jdk(s:Stmt):Arguments:=match s with
 | .FunctionDef _ a _ _ _ _ _ _ _ _=>a
 | _=>{posonlyargs:=[],args:=[],vararg:=none,kwonlyargs:=[],kw_defaults:=[],kwarg:=none,defaults:=[]}
def jcx(s:Stmt):List Stmt:=match s with
 | .FunctionDef _ _ b _ _ _ _ _ _ _=>b
 | _=>[]
def ja7(s:Stmt):Scope:=match s with
 | .FunctionDef _ _ _ _ _ _ sc _ _ _=>sc
 | _=>{kind:= .function,names:=[],isGenerator:=false,isCoroutine:=false}
abbrev E0:XK:=λ_ _ _=>False
structure Fun (K:W.Frag) (x qual:Str) (st:Stmt) (f:Addr) (fd:FuncData):Prop where
 ex:∃(oc:Value) (od:Option Addr) (kV doc pm:Value) (an:Option Addr) (cdv ct:Value) (osl:Array (Option Value)),
  fd=W.fnOf x qual (jdk st) (jcx st) (ja7 st) .none kV doc pm an cdv ct /\ K.lookup f=some ⟨oc,od,.func fd,osl⟩ /\ W.codeIn K cdv qual=true
 kp:W.keepIn K (.ref f)=true
section
variable {P : Program} {w : World} {K : W.Frag} {mg : Str -> Option Value} {base : Heap}
theorem Fun.binds{x qual:Str}{st:Stmt}{f:Addr}{fd:FuncData}{ps:List Str}(F:Fun K x qual st f fd)
  (h:∀(kV doc pm:Value) (an:Option Addr) (cdv ct:Value) (us:List Value),us.length=ps.length->bindArgs (W.fnOf x qual (jdk st) (jcx st) (ja7 st) .none kV doc pm an cdv ct) ⟨us,[]⟩=pure (ps.zip us)):je6 K fd ps []:=by
 obtain⟨oc,od,kV,doc,pm,an,cdv,ct,osl,rfl,lk,hcd⟩:=F.ex
 exact .all (h kV doc pm an cdv ct)
theorem jtr{x qual:Str}{st:Stmt}{f:Addr}{oc:Value}{od an:Option Addr}{osl:Array (Option Value)}{kV doc pm cdv ct:Value}(l:K.lookup f=some ⟨oc,od,.func (W.fnOf x qual (jdk st) (jcx st) (ja7 st) .none kV doc pm an cdv ct),osl⟩)
  (c:W.codeIn K cdv qual=true) (k:W.keepIn K (.ref f)=true):Fun K x qual st f (W.fnOf x qual (jdk st) (jcx st) (ja7 st) .none kV doc pm an cdv ct):=⟨⟨oc,od,kV,doc,pm,an,cdv,ct,osl,rfl,l,c⟩,k⟩
end
section
variable {X : Cx}
theorem pv(i:Nat){x:Str}{pos:Pos}(hN:X.N[i]?=some x:=by rfl)(hv:Vis X.env.scope x:=by first | exact Or.inl rfl | exact Or.inr (Or.inl rfl) | exact Or.inr (Or.inr rfl))(hd:(x==("__debug__":Str))=false:=by decide)
  (hcd:(x==("__classdict__":Str))=false:=by decide):PE X (.Name x pos) (tVar i):=pe_var hN hv hd hcd
theorem jot:jc7 X (.builtin "len") (λxs H Q=>∃a kvs,xs=[V.ref a] /\ H a=some (.dK kvs) /\ Q (.int kvs.length) H):=by
 intro pins s σ H xs us Q I r h
 obtain⟨a,kvs,rfl,ha,q⟩:=h
 obtain⟨u,rfl,ru⟩:=jgt r
 cases ru
 exact d_len I (.inl ha) λt s' I'=>⟨.int kvs.length,H,I',⟨t,rfl⟩,q⟩
end
def Same(H H':Hp):Prop:=∀b o,H b=some o->H' b=some o
theorem Same.refl(H:Hp):Same H H:=λ_ _ h=>h
theorem Same.trans{H H1 H2:Hp}(a:Same H H1)(b:Same H1 H2):Same H H2:=λc o h=>b c o (a c o h)
theorem jj9{prog:Program}{w:World}{A:Around}{R:Result->Shared->Prop}{s:Shared}{elt target iter:Expr}{ifs:List Expr}{scope:Scope}{pos:Pos}{it acc:Value}{env:Env}(I:Nat->Shared->Prop)
  (turn:∀n s,I n s->wpAny (model prog w) A (pyNext it) (λr s₁=>match r with
   | none=>R (.ok .next) s₁
   | some v=>wpAny (model prog w) A (letOwnedTupleGo target it v) (λ_ s₁'=>wpAny (model prog w) A (assign target env v) (λ_ s₂=>
     wpAny (model prog w) A (forIn ifs true λc r=>if r=true then do let ok<-isTrue c env (eval c env);pure (ForInStep.yield ok) else pure (ForInStep.yield r)) (λok s₃=>
      if ok=true then wpAny (model prog w) A (eval elt env) (λx s₄=>
       wpAny (model prog w) A (call (.builtin "list.append") [acc,x]) (λ_ s₅=>∃m,m<n /\ I m s₅) (λ_ _=>False) s₄) (λ_ _=>False) s₃
      else ∃m,m<n /\ I m s₃) (λ_ _=>False) s₂) (λ_ _=>False) s₁') (λ_ _=>False) s₁) (λ_ _=>False) s)
  (n:Nat) (h:I n s):
  codeAny (model prog w) A (.compLoop (.ListComp elt [⟨target,iter,ifs,0⟩] scope pos) 0 it acc env) R s:=by
 refine codeAny_loop rfl I (λn s hI=> ?_) n h
 show wpAny _ A ((compTurn (.ListComp elt [⟨target,iter,ifs,0⟩] scope pos) 0 it acc env).onRaise (λx=>do noteFrame x env;theTreesLotGoes x)) _ _ s
 refine wpAny_noted ?_
 rw[compTurn_list]
 refine wpAny_bind (wpAny_standAt (wpAny_bind (wpAny_mono (turn n s hI) (λr s₁ h₁=> ?_) λ_ _ f=>f.elim)))
 cases r with
 | none=>exact wpAny_pure h₁
 | some v=>
  refine wpAny_bind (wpAny_mono h₁ (λ_ s₁' h₁'=>wpAny_bind (wpAny_mono h₁' (λ_ s₂ h₂=>wpAny_bind (wpAny_mono h₂ (λok s₃ h₃=> ?_) λ_ _ f=>f.elim)) λ_ _ f=>f.elim)) λ_ _ f=>f.elim)
  cases ok with
  | false=>exact wpAny_pure ⟨rfl,h₃⟩
  | true=>
   exact wpAny_bind (wpAny_bind (wpAny_mono h₃ (λx s₄ h₄=>wpAny_bind (wpAny_mono h₄ (λ_ s₅ h₅=>wpAny_pure (wpAny_pure ⟨rfl,h₅⟩)) λ_ _ f=>f.elim)) λ_ _ f=>f.elim))
def PF(X:Cx)(ifs:List Expr)(t:TT):Prop:=
 ∀(pins:List (Addr×Obj)) (s:Shared) (σ:St) (H:Hp) (Q:Bool->Hp->Prop),Inv X pins σ H s->t σ H Q->
  wpAny (model X.prog X.w) X.A (forIn ifs true λc r=>if r=true then do let ok<-isTrue c X.env (eval c X.env);pure (ForInStep.yield ok) else pure (ForInStep.yield r)) (TP X pins σ Q) X.xe s
def tYes:TT:=λ_ H Q=>Q true H
theorem jes{X:Cx}:PF X [] tYes:=λ_ s _ H _ I q=>wpAny_tests_nil ⟨H,I,q⟩
theorem ju7{X:Cx}{c:Expr}{t:TT}(h:PT X c t):PF X [c] t:=λpins s σ H Q I q=>wpAny_tests_one (h pins s σ H Q I q)
def cxC(X:Cx)(N':List Str)(scope:Scope)(cl:List (Str×Addr))(C:Addr)(s₂:Shared)(H₂:Hp)(fp:List Addr):Cx:=
  {prog:=X.prog,w:=X.w,K:=X.K,mg:=X.mg,base:=X.base,A:=X.A,N:=N',s₀:=s₂,H₀:=H₂,env:=compEnvC scope cl C X.env,outer:=X.stack,stack:=X.stack,ex:=fp,
    fn:=λ_=>false,calm:=X.calm,pn:=[],xe:=λ_ _=>False}
inductive Caps (X:Cx) (scope:Scope) (cl:List (Str×Addr)):List Str->List Nat->Prop
 | nil:Caps X scope cl [] []
 | cons {n:Str} {j:Nat} {ns:List Str} {js:List Nat} {c:Addr}:X.N[j]?=some n->(X.env.kindOf n=some .cell \/ X.env.kindOf n=some .free)->((relabel scope X.env).names.lookup n=some .cell \/ (relabel scope X.env).names.lookup n=some .free)->
   X.env.cells.lookup n=some c->cl.lookup n=some c->Caps X scope cl ns js->Caps X scope cl (n::ns) (j::js)
theorem Caps.len{X:Cx}{scope:Scope}{cl:List (Str×Addr)}:∀{ns:List Str} {js:List Nat},Caps X scope cl ns js->ns.length=js.length
 | _,_,.nil=>rfl
 | _,_,.cons _ _ _ _ _ r=>by simp[r.len]
theorem Caps.get{X:Cx}{scope:Scope}{cl:List (Str×Addr)}:∀{ns:List Str} {js:List Nat},Caps X scope cl ns js->∀(i:Nat) (n:Str),ns[i]?=some n->
  ∃j c,js[i]?=some j /\ X.N[j]?=some n /\ (X.env.kindOf n=some .cell \/ X.env.kindOf n=some .free) /\ ((relabel scope X.env).names.lookup n=some .cell \/ (relabel scope X.env).names.lookup n=some .free) /\ X.env.cells.lookup n=some c /\ cl.lookup n=some c
 | _,_,.nil,i,n,h=>by simp at h
 | _,_,.cons a b c d e r,0,n,h=>by
  simp at h;subst h;exact⟨_,_,rfl,a,b,c,d,e⟩
 | _,_,.cons a b c d e r,i+1,n,h=>by
  obtain⟨j,c',h1,h2⟩:=r.get i n (by simpa using h)
  exact⟨j,c',by simpa using h1,h2⟩
def jdx(idx:List Nat)(σ:St):St:=idx.map λj=>(σ[j]?).getD none
def jvr(nt:Nat)(idx:List Nat)(wi:TI)(g:TG)(tc:TT)(te:TE):TE:=λσ H Q=>wi σ H λJ H1=>∀l,H1 l=none->
 ∃W:Nat->Nat->List V->Hp->Prop,(∃m,W 0 m [] (upd H1 l (.lst []))) /\ ∀i m ys H2,W i m ys H2->H2 l=some (.lst ys) /\ ys.length<sizeLine /\
  ((J.stop i H2 /\ Q (.ref l) H2) \/ (J.go i H2 /\ ∀x H3,J.yld i H2 x H3->g x (List.replicate nt none++jdx idx σ) H3 λσ4 H4=>tc σ4 H4 λc H5=>
   if c=true then te σ4 H5 λy H6=>H6 l=some (.lst ys) /\ ∃m',m'<m /\ W (i+1) m' (ys++[y]) (upd H6 l (.lst (ys++[y]))) else ∃m',m'<m /\ W (i+1) m' ys H5))
theorem cl_sub{X:Cx}{cl:List (Str×Addr)}(hsub:∀p∈cl,X.env.cells.lookup p.1=some p.2):∀x c,cl.lookup x=some c->X.env.cells.lookup x=some c:=by
 intro x c h
 induction cl with
 | nil=>simp at h
 | cons p r ih=>
  obtain⟨y,d⟩:=p
  rw[List.lookup_cons] at h
  cases e:x==y with
  | true=>
   rw[e] at h
   simp at h;subst h
   have:=hsub (y,d) (by simp)
   rw[eq_of_beq e];exact this
  | false=>
   rw[e] at h
   exact ih (λp hp=>hsub p (by simp[hp])) (by simpa using h)
theorem Un.sameBut{fs ex:List Addr}{H₂ H₅:Hp}{h₂ h₅ h':Heap}{C:Addr}(u:Un fs ex H₂ H₅ h₂ h₅)(hC:h₂.objs.size<=C)(sb:Heap.SameBut C h₅ h'):Un fs ex H₂ H₅ h₂ h':=by
 have lt:∀{b o},h₂.get? b=some o->b≠C:=fun{b o} e q=>by
  have:=Heap.lt_size e
  rw[q] at this
  exact absurd this (Nat.not_lt.mpr hC)
 exact⟨λb o e n f x=>sb.extBut b _ (lt e) (u.keep b o e n f x),λb o e n f x=>by
   obtain⟨sl,q⟩:=u.slot b o e n f x
   exact⟨sl,sb.extBut b _ (lt e) q⟩,u.free,λb o e x=>by
   obtain⟨o',q⟩:=u.there b o e x
   exact⟨o',sb.extBut b _ (lt e) q⟩,u.tups,u.frzs,u.tbls⟩
theorem HOk.sameBut{P:Program}{w:World}{H:Hp}{h h':Heap}{C:Addr}(x:HOk P w H h)(hC:H C=none)(sb:Heap.SameBut C h h'):HOk P w H h':=λa o e=>
 (x a o e).stay (λb u hb q=>sb.extBut b u (by
  rintro rfl
  rcases hb with rfl | hb
  ·rw[hC] at e;cases e
  ·rw[hC] at hb;cases hb) q) (λ_ q=>q) λ_ _ q=>q
theorem Un.but{fs:List Addr}{H:Hp}{h h':Heap}{C:Addr}(sb:Heap.SameBut C h h'):Un fs [C] H H h h':=
 ⟨λb o e _ _ x=>sb.extBut b o (by simpa using x) e,λb o e _ _ x=>⟨o.slots,sb.extBut b o (by simpa using x) e⟩,λ_ _ _ n _=>n,λb o e x=>⟨o,sb.extBut b o (by simpa using x) e⟩,λ_ _ q=>q,λ_ _ _ q=>q,
  λ_ ps q=>⟨#[],by simpa using q⟩⟩
def GOk(nt:Nat)(g:TG):Prop:=∀x σ H Q,g x σ H Q->g x σ H λσ' H'=>Q σ' H' /\ σ'.length=σ.length /\ ∀i,nt<=i->σ'[i]?=σ[i]?
theorem jct{nt i:Nat}(h:i<nt):GOk nt (jab i):=λx σ H Q q=>⟨q,by simp,λj hj=>by rw[List.getElem?_set_ne (by omega)]⟩
section
variable {X : Cx} {elt target iter : Expr} {ifs : List Expr} {scope : Scope} {pos : Pos} {cl : List (Str × Addr)} {nt : Nat} {tgs cap : List Str} {idx : List Nat} {wi : TI} {g : TG} {tc : TT} {te : TE}
structure CompOk (X:Cx) (scope:Scope) (cl:List (Str×Addr)) (tgs cap:List Str) (idx:List Nat):Prop where
 clos:closureFor scope X.env=pure cl
 kind:scope.kind= .function
 cell:∀y∈scope.names,y.2≠ .cell
 names:∀y∈scope.names,y.2= .local->scope.names.lookup y.1=some .local
 sub:∀p∈cl,X.env.cells.lookup p.1=some p.2
 has:((relabel scope X.env).names.all λy=> !(y.2== .cell||y.2== .free)||(cl.lookup y.1).isSome)=true
 caps:Caps X scope cl cap idx
theorem has_of{names:List (Str×NameKind)}{cl:List (Str×Addr)}(h:(names.all λy=> !(y.2== .cell||y.2== .free)||(cl.lookup y.1).isSome)=true):
  ∀x,(names.lookup x=some .cell \/ names.lookup x=some .free)->∃c,cl.lookup x=some c:=by
 induction names with
 | nil=>intro x hx;simp at hx
 | cons p r ih=>
  obtain⟨y,k⟩:=p
  rw[List.all_cons,Bool.and_eq_true] at h
  intro x hx
  rw[List.lookup_cons] at hx
  cases e:x==y with
  | true=>
   rw[e] at hx
   have ey:=eq_of_beq e
   subst ey
   have h1:=h.1
   rcases hx with hx | hx<;>(simp at hx;subst hx;exact Option.isSome_iff_exists.mp (by simpa using h1))
  | false=>
   rw[e] at hx
   exact ih h.2 x (by simpa using hx)
theorem jmq{pins:List (Addr×Obj)}{s₂:Shared}{σ:St}{H₂:Hp}{fp:List Addr}{h₁:Heap}{tk:Nat}{C:Addr}(eC:C=s₂.heap.objs.size+1)(O:CompOk X scope cl tgs cap idx)(I:Inv X pins σ H₂ s₂)(hfp:∀b∈fp,FpOk X pins H₂ b)(hfo:∀b∈fp,b<s₂.heap.objs.size)
  (hns:h₁.Ns C (λx=>([]:List (Str×Value)).reverse.lookup x))
  (hsb:Heap.SameBut C ((s₂.heap.push {cls:= .type "list",dict:=none,data:= .seq ([]:List Value).toArray}).push {cls:= .type "dict",data:= .dict #[]}) h₁):
  Inv (cxC X (tgs++cap) scope cl C s₂ H₂ fp) [] (List.replicate tgs.length none++jdx idx σ) (upd H₂ s₂.heap.objs.size (.lst [])) {s₂ with heap:=h₁,toks:=tk}:=by
 have ltC:∀{b:Addr},b<s₂.heap.objs.size->b≠C:=fun{b} lt=>by rw[eC];exact Nat.ne_of_lt (Nat.lt_succ_of_lt lt)
 have kp:∀b o,s₂.heap.get? b=some o->h₁.get? b=some o:=λb o e=>by
  have lt:=Heap.lt_size e
  exact hsb.extBut b o (ltC lt) (Heap.get?_push_of_some _ (Heap.get?_push_of_some _ e))
 have hD:h₁.get? s₂.heap.objs.size=some {cls:= .type "list",dict:=none,data:= .seq ([]:List Value).toArray}:=
  hsb.extBut _ _ (by rw[eC];exact Nat.ne_of_lt (Nat.lt_succ_self _)) (Heap.get?_push_of_some _ (Heap.get?_push_size _ rfl))
 have fresh:∀a,s₂.heap.objs.size<=a->H₂ a=none:=λa ha=>I.hok.fresh ha
 have stk:=I.stkSub
 have nf:∀b∈fp,b∉frs X.stack:=λb hb hm=>by
  rcases List.mem_cons.mp (stk b hm) with e | e
  ·exact(hfp b hb).2.1 e
  ·exact(hfp b hb).2.2.1 e
 have sub:=cl_sub O.sub
 have clt:∀x c,cl.lookup x=some c->c<s₂.heap.objs.size:=λx c e=>by
  obtain⟨v,o,e',_⟩:=I.cell x c (sub x c e)
  exact Heap.lt_size e'
 refine⟨⟨I.ok.mod,?_,I.ok.glob,I.ok.blt,(by show s₂.heap.objs.size<=C;rw[eC];exact Nat.le_succ _),?_,?_,?_,I.ok.hd,I.ok.frames,.inl rfl,?_,?_,?_,?_,nf,I.stack,I.stkFree⟩,rfl,I.bare,?_,?_,?_,?_,?_,?_,?_,?_⟩
 ·exact O.kind
 ·intro x y c h1 h2;exact I.ok.inj x y c (sub _ _ h1) (sub _ _ h2)
 ·exact has_of O.has
 ·intro x c h;cases h
 ·intro b hb
  have lt:=hfo b hb
  exact⟨ltC lt,λx c h=>(hfp b hb).2.2.2.2.1 x c (sub _ _ h)⟩
 ·exact I.bs
 ·exact Nat.le_trans I.ok.bsz I.sz
 ·intro b o e hb
  rcases(hfp b hb).2.2.2.1 with h | h
  ·exact I.ok.noex b o e h
  ·exact absurd (Heap.lt_size e) (Nat.not_lt.mpr (Nat.le_trans I.ok.bsz h))
 ·exact(Un.laid (a:=s₂.heap.objs.size) kp (Nat.le_refl _) (fresh _ (Nat.le_refl _)))
 ·refine⟨_,hns,λi x v hN hv hvis=> ?_⟩
  by_cases hi:i<tgs.length
  ·rw[List.getElem?_append_left (by simpa using hi)] at hv
   rw[List.getElem?_replicate] at hv
   simp[hi] at hv
  ·have hi':tgs.length<=i:=Nat.not_lt.mp hi
   have hN':(tgs++cap)[i]?=some x:=hN
   rw[List.getElem?_append_right hi'] at hN'
   rw[List.getElem?_append_right (by simpa using hi')] at hv
   simp only[List.length_replicate] at hv
   obtain⟨j,c,h1,h2,h3,h4,h5,h6⟩:=O.caps.get _ _ hN'
   unfold jdx at hv
   rw[List.getElem?_map,h1] at hv
   simp at hv
   have hv':σ[j]?=some (some v):=by
    cases e:σ[j]? with
    | none=>rw[e] at hv;cases hv
    | some z=>rw[e] at hv;simp at hv;rw[hv]
   obtain⟨m,hm,lk⟩:=I.loc
   obtain⟨u,ru,lk⟩:=lk j x v h2 hv' (by rcases h3 with h3 | h3;exact .inr (.inl h3);exact .inr (.inr h3))
   refine⟨u,ru,.inr ⟨h4,?_⟩⟩
   rcases lk with⟨k1,_⟩ | ⟨_,c',k2,k3⟩
   ·rcases h3 with h3 | h3<;>(rw[h3] at k1;cases k1)
   ·rw[h5] at k2;cases k2
    obtain⟨o,k4,k5⟩:=k3
    exact⟨c,h6,o,kp _ _ k4,k5⟩
 ·intro x c e
  obtain⟨v,o,e',q⟩:=I.cell x c (sub x c e)
  exact⟨v,o,kp _ _ e',q⟩
 ·show(upd H₂ s₂.heap.objs.size (.lst [])) C=none
  rw[eC,jad (Nat.ne_of_gt (Nat.lt_succ_self _))];exact fresh _ (Nat.le_succ _)
 ·intro x c e
  have:=clt x c e
  rw[jad (Nat.ne_of_lt this)];exact I.freeC x c (sub x c e)
 ·intro p hp;cases hp
 ·exact I.hok.laid kp (Nat.le_refl _) ⟨Nat.zero_le _,[],0,.nil,hD⟩
 ·have:=O.caps.len
  simp[jdx,cxC,this]
theorem jhs{RR:Value->Addr->Result->Shared->Prop}{E₀:Value->Shared->Prop}{pins:List (Addr×Obj)}{s₂:Shared}{σ:St}{H₂:Hp}{it:Addr}{fp:List Addr}{tn:Nat->Heap->Prop}{J:It}{Fin:Addr->Hp->Prop}
  (O:CompOk X scope cl tgs cap idx) (hc:X.calm=true) (hgo:GOk tgs.length g)
  (hg:∀C s₂ H₂ fp,PG (cxC X (tgs++cap) scope cl C s₂ H₂ fp) target g) (ht:∀C s₂ H₂ fp,PF (cxC X (tgs++cap) scope cl C s₂ H₂ fp) ifs tc) (he:∀C s₂ H₂ fp,PE (cxC X (tgs++cap) scope cl C s₂ H₂ fp) elt te)
  (I:Inv X pins σ H₂ s₂) (T:Turn X.prog X.w X.K target J fp it tn) (st:tn 0 s₂.heap) (hfp:∀b∈fp,FpOk X pins H₂ b)
  (rd:∀l,H₂ l=none->∃W:Nat->Nat->List V->Hp->Prop,(∃m,W 0 m [] (upd H₂ l (.lst []))) /\ ∀i m ys H2,W i m ys H2->H2 l=some (.lst ys) /\ ys.length<sizeLine /\
   ((J.stop i H2 /\ Fin l H2) \/ (J.go i H2 /\ ∀x H3,J.yld i H2 x H3->g x (List.replicate tgs.length none++jdx idx σ) H3 λσ4 H4=>tc σ4 H4 λc H5=>
    if c=true then te σ4 H5 λy H6=>H6 l=some (.lst ys) /\ ∃m',m'<m /\ W (i+1) m' (ys++[y]) (upd H6 l (.lst (ys++[y]))) else ∃m',m'<m /\ W (i+1) m' ys H5)))
  (fin:∀C σ5 H5 s5,s₂.heap.objs.size<=C->s₂.heap.objs.size≠C->Inv (cxC X (tgs++cap) scope cl C s₂ H₂ fp) [] σ5 H5 s5->Fin s₂.heap.objs.size H5->RR (.ref s₂.heap.objs.size) C (.ok .next) s5):
  wpAny (model X.prog X.w) X.A (newList []) (λacc s₃=>wpAny (model X.prog X.w) X.A (newFunctionEnv scope X.env.globals cl [] X.env.qual none .none (some X.env)) (λcenv s₄=>
   codeAny (model X.prog X.w) X.A (.compStart (.ListComp elt [⟨target,iter,ifs,0⟩] scope pos) 0 (.ref it) acc {cenv with scope:=relabel scope X.env}) (RR acc cenv.locals) s₄) E₀ s₃) E₀ s₂:=by
 have hfo:∀b∈fp,b<s₂.heap.objs.size:=λb hb=>by
  obtain⟨o,e,_⟩:=T.obj 0 _ st b hb
  exact Heap.lt_size e
 refine wpAny_newObj_type (wpAny_newFunctionEnv O.cell (by intro y hy;simp at hy) (λh₁ hns₁ hsb₁=> ?_) O.kind)
 have eC:(s₂.heap.push {cls:= .type "list",dict:=none,data:= .seq ([]:List Value).toArray}).objs.size=s₂.heap.objs.size+1:=Heap.size_push ..
 dsimp only at hns₁ hsb₁ ⊢
 generalize (s₂.heap.push {cls:= .type "list",dict:=none,data:= .seq ([]:List Value).toArray}).objs.size=C at eC hns₁ hsb₁ ⊢
 have ltC:∀{b:Addr},b<s₂.heap.objs.size->b≠C:=fun{b} lt=>by rw[eC];exact Nat.ne_of_lt (Nat.lt_succ_of_lt lt)
 have IC:=jmq (tk:=s₂.toks+([]:List (Str×Value)).length) eC O I hfp hfo hns₁ hsb₁
 have kp:∀b o,s₂.heap.get? b=some o->h₁.get? b=some o:=λb o e=>by
  have lt:=Heap.lt_size e
  exact hsb₁.extBut b o (ltC lt) (Heap.get?_push_of_some _ (Heap.get?_push_of_some _ e))
 have st₁:tn 0 h₁:=T.keep 0 _ _ st λb _ o e=>kp b o e
 obtain⟨W,⟨m₀,w₀⟩,step⟩:=rd s₂.heap.objs.size (I.hok.fresh (Nat.le_refl _))
 have fp0:∀b∈fp,(upd H₂ s₂.heap.objs.size (.lst [])) b=none:=λb hb=>by
  rw[jad (Nat.ne_of_lt (hfo b hb))];exact(hfp b hb).1
 have stat:∀{pl:List (Addr×Obj)} {H':Hp},(∀b∈fp,H' b=none)->pl=[]->∀b∈fp,FpOk (cxC X (tgs++cap) scope cl C s₂ H₂ fp) pl H' b:=fun{pl H'} hn hp b hb=>by
  subst hp
  have lt:=hfo b hb
  refine⟨hn b hb,ltC lt,IC.ok.exfs b hb,.inl hb,λx c h=>(IC.ok.exf b hb).2 x c h,λp hp=>by cases hp⟩
 have loop:codeAny (model X.prog X.w) X.A (.compLoop (.ListComp elt [⟨target,iter,ifs,0⟩] scope pos) 0 (.ref it) (.ref s₂.heap.objs.size) (compEnvC scope cl C X.env))
   (RR (.ref s₂.heap.objs.size) C) {s₂ with heap:=h₁,toks:=s₂.toks+([]:List (Str×Value)).length}:=by
  refine jj9 (λn s'=>∃i ys H',Inv (cxC X (tgs++cap) scope cl C s₂ H₂ fp) [] (List.replicate tgs.length none++jdx idx σ) H' s' /\ tn i s'.heap /\ (∀b∈fp,H' b=none) /\ W i n ys H') ?_ m₀
   ⟨0,[],_,IC,st₁,fp0,w₀⟩
  rintro n s3 ⟨i,ys,H3,I3,st3,fr3,w3⟩
  obtain⟨hl,hz,w3⟩:=step i n ys H3 w3
  rcases w3 with⟨stop,q⟩ | ⟨go,w3⟩
  ·refine thn (T.done (cxC X (tgs++cap) scope cl C s₂ H₂ fp) rfl rfl rfl hc i [] s3 _ H3 _ I3 (stat fr3 rfl) st3 stop) λr s4 ⟨hr,I4⟩=> ?_
   subst hr
   exact fin C _ H3 s4 (by rw[eC];exact Nat.le_succ _) (by rw[eC];exact Nat.ne_of_lt (Nat.lt_succ_self _)) I4 q
  ·refine thn (T.item (cxC X (tgs++cap) scope cl C s₂ H₂ fp) rfl rfl rfl hc i [] s3 _ H3 _ I3 (stat fr3 rfl) st3 go) λr s4 ⟨u,hr,h4⟩=> ?_
   subst hr
   refine thn h4 λ_ s5 ⟨x,H5,I5,r5,y5,st5,fr5⟩=> ?_
   have I5':=I5.pinned (stat fr5 rfl) (T.obj _ _ st5)
   refine thn (hg _ _ _ _ _ s5 _ H5 x u _ I5' r5 (hgo _ _ _ _ (w3 x H5 y5))) λ_ s6 ⟨σ6,H6,I6,q6,len6,same6⟩=> ?_
   refine thn (ht _ _ _ _ _ s6 σ6 H6 _ I6 q6) λok s7 ⟨H7,I7,q7⟩=> ?_
   have again:∀{H8:Hp} {s8:Shared},Inv (cxC X (tgs++cap) scope cl C s₂ H₂ fp) ([]++jim fp s5.heap) σ6 H8 s8->
     Inv (cxC X (tgs++cap) scope cl C s₂ H₂ fp) [] (List.replicate tgs.length none++jdx idx σ) H8 s8 /\ tn (i+1) s8.heap /\ ∀b∈fp,H8 b=none:=fun{H8 s8} I8=>by
    refine⟨?_,T.keep _ _ _ st5 λb hb o e=>(I8.pin (b,o) (List.mem_append_right _ (List.mem_append_right _ (je5 hb e)))).1,λb hb=> ?_⟩
    ·refine I8.unpinned.weak len6.symm λj v hv=> ?_
     by_cases hj:tgs.length<=j
     ·rw[same6 j hj];exact hv
     ·rw[List.getElem?_append_left (by simp;omega),List.getElem?_replicate] at hv
      simp[Nat.not_le.mp hj] at hv
    ·obtain⟨o,e,d⟩:=T.obj _ _ st5 b hb
     exact(I8.pin (b,o) (List.mem_append_right _ (List.mem_append_right _ (je5 hb e)))).2.1
   cases ok with
   | false=>
    rw[if_neg Bool.false_ne_true] at q7 ⊢
    obtain⟨m',hm,w8⟩:=q7
    obtain⟨a1,a2,a3⟩:=again I7
    exact⟨m',hm,i+1,ys,H7,a1,a2,a3,w8⟩
   | true=>
    rw[if_pos rfl] at q7 ⊢
    refine thn (he _ _ _ _ _ s7 σ6 H7 _ I7 q7) λy s8 ⟨v,H8,I8,r8,hl8,m',hm,w8⟩=> ?_
    refine thn (jew _ s8 σ6 H8 (.ref s₂.heap.objs.size) [v] (.ref s₂.heap.objs.size) [y] (λ_ H9=>H9=upd H8 s₂.heap.objs.size (.lst (ys++[v]))) I8 rfl (.cons r8 .nil) ⟨_,ys,v,rfl,rfl,hl8,hz,rfl⟩) λz s9 ⟨v9,H9,I9,_,e9⟩=> ?_
    subst e9
    obtain⟨a1,a2,a3⟩:=again I9
    exact⟨m',hm,i+1,_,_,a1,a2,a3,w8⟩
 exact codeAny_compStart_list loop (T.self _ 0 _ _ _ st₁ loop)
theorem jhm{pins:List (Addr×Obj)}{s₂ s5:Shared}{σ σ5:St}{H₂ H5:Hp}{fp:List Addr}{C:Addr}{h':Heap}(I:Inv X pins σ H₂ s₂)(hfp:∀b∈fp,FpOk X pins H₂ b)(hC:s₂.heap.objs.size<=C)
  (I5:Inv (cxC X (tgs++cap) scope cl C s₂ H₂ fp) [] σ5 H5 s5) (sb:Heap.SameBut C s5.heap h'):Inv X pins σ H5 {s5 with heap:=h'}:=
 I.call' (ch:=fp) I5.os (Un.sameBut I5.base hC sb) (HOk.sameBut I5.hok I5.free sb) I5.bare λb hb=>⟨(hfp b hb).2.2.2.1,(hfp b hb).2.1,(hfp b hb).2.2.2.2.1,(hfp b hb).2.2.2.2.2⟩
theorem jhy(O:CompOk X scope cl tgs cap idx)(hc:X.calm=true)(hi:PI X target iter wi)(hgo:GOk tgs.length g)
  (hg:∀C s₂ H₂ fp,PG (cxC X (tgs++cap) scope cl C s₂ H₂ fp) target g) (ht:∀C s₂ H₂ fp,PF (cxC X (tgs++cap) scope cl C s₂ H₂ fp) ifs tc) (he:∀C s₂ H₂ fp,PE (cxC X (tgs++cap) scope cl C s₂ H₂ fp) elt te)
  (hs:∀x,foldedSetIterable iter X.env x=pure x:=by intro _;rfl):
  PE X (.ListComp elt [⟨target,iter,ifs,0⟩] scope pos) (jvr tgs.length idx wi g tc te):=by
 intro pins s σ H Q I h
 rw[eval_ListComp]
 refine wpAny_comprehension_free (use:=none) rfl hs O.clos O.kind O.names (wpAny_mono (hi pins s σ H _ I h) (λxv s₁ h₁=>wpAny_mono h₁ (λitv s₂ h₂=> ?_) λ_ _ e=>e) λ_ _ e=>e)
 obtain⟨it,fp,tn,J,H₂,rfl,I₂,T,st,hfp,rd⟩:=h₂
 refine jhs (RR:=λacc C=>compPost (model X.prog X.w) X.A X.xe none (EP X pins σ Q) acc C) (Fin:=λl H=>Q (.ref l) H) O hc hgo hg ht he I₂ T st hfp rd ?_
 intro C σ5 H5 s5 hC _ I5 q
 obtain⟨m,hn,_⟩:=I5.loc
 exact⟨m,hn,λh' sb=>⟨.ref _,H5,jhm I₂ hfp hC I5 sb,rfl,q⟩⟩
theorem jm5{i:Nat}{y:Str}{py spos:Pos}(hN:X.N.Nodup)(hy:X.N[i]?=some y)(hly:Loc X.env.scope y)(O:CompOk X scope cl tgs cap idx)(hc:X.calm=true)(hi:PI X target iter wi)(hgo:GOk tgs.length g)
  (hg:∀C s₂ H₂ fp,PG (cxC X (tgs++cap) scope cl C s₂ H₂ fp) target g) (ht:∀C s₂ H₂ fp,PF (cxC X (tgs++cap) scope cl C s₂ H₂ fp) ifs tc) (he:∀C s₂ H₂ fp,PE (cxC X (tgs++cap) scope cl C s₂ H₂ fp) elt te)
  (hsw:swapsWith (.ListComp elt [⟨target,iter,ifs,0⟩] scope pos) (some (.Name y py)) spos.line X.env=pure true:=by rfl)
  (hs:∀x,foldedSetIterable iter X.env x=pure x:=by intro _;rfl) (hf:X.fn y=true \/ X.env.scope.names.lookup y=some .local:=by first | exact .inl rfl | exact .inr rfl | assumption):
  PS X (.Assign [.Name y py] (.ListComp elt [⟨target,iter,ifs,0⟩] scope pos) spos) (λD σ H=>jvr tgs.length idx wi g tc te σ H λx H1=>D.nx (σ.set i (some x)) H1):=by
 intro pins s σ H D I h
 rw[exec_Assign_Name_used _ _ _ _ hsw]
 refine wpAny_bind (wpAny_standAt (wpAny_bind ?_))
 show wpAny _ X.A (do let _<-comprehension (.ListComp elt [⟨target,iter,ifs,0⟩] scope pos) scope X.env _ (newList []) false (eval iter X.env) (some (assign (.Name y py) X.env))) _ _ s
 refine wpAny_bind (wpAny_mono (wpAny_comprehension_free (use:=some (assign (.Name y py) X.env)) (Q:=λ_ s'=>SP X pins D .next s') rfl hs O.clos O.kind O.names
  (wpAny_mono (hi pins s σ H _ I h) (λxv s₁ h₁=>wpAny_mono h₁ (λitv s₂ h₂=> ?_) λ_ _ e=>e) λ_ _ e=>e)) (λ_ s' hq=>wpAny_pure (wpAny_pure hq)) λ_ _ e=>e)
 obtain⟨it,fp,tn,J,H₂,rfl,I₂,T,st,hfp,rd⟩:=h₂
 refine jhs (RR:=λacc C=>compPost (model X.prog X.w) X.A X.xe (some (assign (.Name y py) X.env)) (λ_ s'=>SP X pins D .next s') acc C) (Fin:=λl H=>D.nx (σ.set i (some (.ref l))) H) O hc hgo hg ht he I₂ T st hfp rd ?_
 intro C σ5 H5 s5 hC hDC I5 q
 obtain⟨m,hn,_⟩:=I5.loc
 have I6:Inv X pins σ H5 s5:=jhm I₂ hfp hC I5 (Heap.SameBut.refl _ _)
 show wpAny _ X.A (assign (.Name y py) X.env (.ref s₂.heap.objs.size)) _ _ _
 refine wpAny_assign_Name (jio I6 hN hy hly (v:= .ref s₂.heap.objs.size) rfl (λs7 I7 ⟨a,sb,ha⟩=> ?_) hf)
 have haC:C≠a:=by
  rcases ha with rfl | ha
  ·exact Nat.ne_of_gt (Nat.lt_of_lt_of_le I₂.lt hC)
  ·obtain⟨v,o,e,_⟩:=I₂.cell _ _ ha
   exact Nat.ne_of_gt (Nat.lt_of_lt_of_le (Heap.lt_size e) hC)
 refine⟨m,hn.sameBut sb haC,λh' sb'=>⟨_,H5,?_,q⟩⟩
 have hCn:H5 C=none:=I5.free
 refine I7.call' (ch:=[C]) rfl (Un.but sb') (HOk.sameBut I7.hok hCn sb') I7.bare λb hb=> ?_
 have eb:b=C:=by simpa using hb
 subst eb
 refine⟨.inr (Nat.le_trans I₂.sz hC),?_,λx c e=> ?_,λp hp=> ?_⟩
 ·exact Nat.ne_of_gt (Nat.lt_of_lt_of_le I₂.lt hC)
 ·obtain⟨v,o,e',_⟩:=I₂.cell _ _ e
  exact Nat.ne_of_lt (Nat.lt_of_lt_of_le (Heap.lt_size e') hC)
 ·exact Nat.ne_of_lt (Nat.lt_of_lt_of_le (Heap.lt_size (I₂.pin p hp).1) hC)
end
def FnG(P:Program)(w:World)(K:W.Frag)(mg:Str->Option Value)(base:Heap)(CX:CXT)(k:Nat)(x:Str)(sp:Sp):Prop:=
 ∃f fd ps,FnOk P w K mg base CX k f fd ps sp /\ mg x=some (.ref f) /\ W.keepIn K (.ref f)=true /\ je6 K fd ps []
def MethG(P:Program)(w:World)(K:W.Frag)(mg:Str->Option Value)(base:Heap)(CX:CXT)(k:Nat)(C:Addr)(m:Str)(sp:Sp):Prop:=
 ∃f fd ps,Meth K C m f /\ FnOk P w K mg base CX k f fd ps sp /\ je6 K fd ps []
def jw2(P:Program)(w:World)(K:W.Frag)(mg:Str->Option Value)(base:Heap)(CX:CXT)(k:Nat)(x:Str)(C:Addr)(sp:Sp):Prop:=
 ∃f fd ps,Mk K C f /\ FnOk P w K mg base CX k f fd ps sp /\ mg x=some (.ref C) /\ je6 K fd ps []
section
variable {X : Cx} {CX : CXT} {k : Nat} {C : Addr} {sp : Sp} {E : XK} {x m : Str} {p pos apos : Pos} {e o : Expr} {es : List Expr} {ta : TE} {t : TA}
theorem pe_g(G:FnG X.prog X.w X.K X.mg X.base CX k x sp)(hr:Room k X.A)(hx:jds CX X E)(ha:PA X (e::es) t)(hg:Gl X x:=by rfl)(hdb:(x==("__debug__":Str))=false:=by decide)
  (he:starEach (e::es) X.env=(false,eval e X.env)::starEach es X.env:=by rfl) (hpl:(backTo pos (starEach es X.env)).any (·.1)=false:=by rfl):
  PE X (.Call (.Name x p) (e::es) [] pos) (jwu sp [] E t):=by
 obtain⟨f,fd,ps,F,hm,hk,hb⟩:=G
 exact jwt F hr hg hm hk hb .nil hx ha hdb he hpl
theorem jk1(G:jw2 X.prog X.w X.K X.mg X.base CX k x C sp)(hr:Room (k+1) X.A)(hx:jds CX X E)(ha:PA X (e::es) t)(hg:Gl X x:=by rfl)(hdb:(x==("__debug__":Str))=false:=by decide)
  (he:starEach (e::es) X.env=(false,eval e X.env)::starEach es X.env:=by rfl) (hpl:(backTo pos (starEach es X.env)).any (·.1)=false:=by rfl):
  PE X (.Call (.Name x p) (e::es) [] pos) (jn0 C sp [] E t):=by
 obtain⟨f,fd,ps,M,F,hm,hb⟩:=G
 exact jx8 M F hr hg hm hb .nil hx ha hdb he hpl
theorem jte(G:jw2 X.prog X.w X.K X.mg X.base CX k x C sp)(hr:Room (k+1) X.A)(hx:jds CX X E)(hg:Gl X x:=by rfl)(hdb:(x==("__debug__":Str))=false:=by decide):
  PE X (.Call (.Name x p) [] [] pos) (jn0 C sp [] E tNil):=by
 obtain⟨f,fd,ps,M,F,hm,hb⟩:=G
 exact jsj M F hr hg hm hb .nil hx hdb
def jfk(P:Program)(w:World)(K:W.Frag)(mg:Str->Option Value)(base:Heap)(CX:CXT)(k:Nat)(m:Str)(E:XK)(ta:TE)(t:TA):TE:=λσ H Q=>ta σ H λx H1=>
 ∃a C dx fs sp,x= .ref a /\ H1 a=some (.ins C dx fs) /\ Cls K C /\ MethG P w K mg base CX k C m sp /\ fs.lookup m=none /\ t σ H1 λvs H2=>sp (x::vs) H2 Q E
theorem jc9{pl:Sem Bool}(he:PE X o ta)(hr:Room k X.A)(hx:jds CX X E)(ha:PA X (e::es) t)
  (hst:starEach (e::es) X.env=(false,eval e X.env)::starEach es X.env:=by rfl) (hpl:(backTo pos (starEach es X.env)).any (·.1)=false:=by rfl)
  (ht:eval (.Call (.Attribute o m apos) (e::es) [] pos) X.env=(do
   let ov<-eval o X.env
   standAt apos.atName
   let (f,first)<-holding [ov] (getMethod ov m pl)
   callWith pos f first (backTo pos (starEach (e::es) X.env)) (backToKw pos (keywordEach [] X.env))):=by rfl):
  PE X (.Call (.Attribute o m apos) (e::es) [] pos) (jfk X.prog X.w X.K X.mg X.base CX k m E ta t):=by
 intro pins s σ H Q I h
 refine W.methodCall_KW (pl:=pl) (thn (he pins s σ H _ I h) λu s1 ⟨x,H1,I1,rx,a,C,dx,fs,sp,ex,ea,c,⟨f,fd,ps,hm,F,hb⟩,l,q⟩=> ?_) ht
 subst ex
 obtain rfl:u=Value.ref a:=rx
 refine jf4 I1 ea c hm l ?_
 refine W.callWith_K (first:=[.ref a]) (h₀:=X.base) I.ok.mod.kin hm.kp (thn (ha pos pins s1 σ H1 _ I1 q) λus s2 ⟨vs,H2,I2,r,q2⟩=>⟨I2.kIn,?_⟩) hst hpl
 exact jnq (us:= .ref a::us) (vs:= .ref a::vs) (dvs:=[]) (ds:=[]) F hr hb .nil hx I2 (.cons rfl r) (by simpa using q2)
theorem jec{pl:Sem Bool}(he:PE X o ta)(hr:Room k X.A)(hx:jds CX X E)
  (ht:eval (.Call (.Attribute o m apos) [] [] pos) X.env=(do
   let ov<-eval o X.env
   standAt apos.atName
   let (f,first)<-holding [ov] (getMethod ov m pl)
   callWith pos f first (backTo pos (starEach [] X.env)) (backToKw pos (keywordEach [] X.env))):=by rfl):
  PE X (.Call (.Attribute o m apos) [] [] pos) (jfk X.prog X.w X.K X.mg X.base CX k m E ta tNil):=by
 intro pins s σ H Q I h
 refine W.methodCall_KW (pl:=pl) (thn (he pins s σ H _ I h) λu s1 ⟨x,H1,I1,rx,a,C,dx,fs,sp,ex,ea,c,⟨f,fd,ps,hm,F,hb⟩,l,q⟩=> ?_) ht
 subst ex
 obtain rfl:u=Value.ref a:=rx
 refine jf4 I1 ea c hm l ?_
 exact W.callWith_K0 (first:=[.ref a]) I1.kIn hm.kp (jnq (us:=[.ref a]) (vs:=[.ref a]) (dvs:=[]) (ds:=[]) F hr hb .nil hx I1 (.cons rfl .nil) q)
end
abbrev RU:=V->V->Hp->VK->Prop
def uAdd(K:W.Frag):RU:=λx y H Q=>match x,y with
 | .int i,.int j=>Q (.int (i+j)) H
 | .str a,.str b=>a.length+b.length<=sizeLine /\ Q (.str (a++b)) H
 | .ref a,.ref b=>rCat (.ref a) (.ref b) H Q \/ rCatT K (.ref a) (.ref b) H Q
 | _,_=>False
theorem jv3{X:Cx}:OpR X (binaryOp .Add) (uAdd X.K):=by
 intro pins s σ H x y v u Q I rx ry h
 cases x<;>cases y<;>first | exact h.elim | skip
 ·exact op_add pins s σ H _ _ v u Q I rx ry ⟨_,_,rfl,rfl,h⟩
 ·exact jnh pins s σ H _ _ v u Q I rx ry ⟨_,_,rfl,rfl,h.1,h.2⟩
 ·rcases h with h | h
  ·exact op_cat pins s σ H _ _ v u Q I rx ry h
  ·exact jvo pins s σ H _ _ v u Q I rx ry h
mutual
def Rep(H:Hp):V->PyData->Prop
 | v,.none=>v= .non
 | v,.bool b=>v= .bl b
 | v,.int i=>v= .int i
 | v,.str x=>v= .str x
 | v,.list ds=>∃a vs,v= .ref a /\ H a=some (.lst vs) /\ Reps H vs ds
 | v,.tuple ds=>∃a vs,v= .ref a /\ H a=some (.tup vs) /\ Reps H vs ds
 | _,.dict _=>False
def Reps(H:Hp):List V->List PyData->Prop
 | [],[]=>True
 | v::vs,d::ds=>Rep H v d /\ Reps H vs ds
 | _,_=>False
end
mutual
theorem Rep.same{H H':Hp}(e:Same H H'):∀{v:V} {d:PyData},Rep H v d->Rep H' v d
 | v,.none,h=>h
 | v,.bool b,h=>h
 | v,.int i,h=>h
 | v,.str x,h=>h
 | v,.list ds,h=>by
  simp only[Rep] at h ⊢
  obtain⟨a,vs,h1,h2,h3⟩:=h
  exact⟨a,vs,h1,e _ _ h2,Reps.same e h3⟩
 | v,.tuple ds,h=>by
  simp only[Rep] at h ⊢
  obtain⟨a,vs,h1,h2,h3⟩:=h
  exact⟨a,vs,h1,e _ _ h2,Reps.same e h3⟩
 | _,.dict _,h=>by simp only[Rep] at h
theorem Reps.same{H H':Hp}(e:Same H H'):∀{vs:List V} {ds:List PyData},Reps H vs ds->Reps H' vs ds
 | [],[],_=>by simp only[Reps]
 | v::vs,d::ds,h=>by
  simp only[Reps] at h ⊢
  exact⟨Rep.same e h.1,Reps.same e h.2⟩
 | [],_::_,h=>by simp only[Reps] at h
 | _::_,[],h=>by simp only[Reps] at h
end
mutual
theorem jet{P:Program}{w:World}{H:Hp}{h:Heap}(hk:HOk P w H h):∀{x:V} {v:Value} {d:PyData},RelV x v->Rep H x d->∃as,Reads h v d as
 | x,v,.none,r,q=>by simp only[Rep] at q;subst q;cases r;exact⟨_,.none⟩
 | x,v,.bool b,r,q=>by simp only[Rep] at q;subst q;cases r;exact⟨_,.bool b⟩
 | x,v,.int i,r,q=>by simp only[Rep] at q;subst q;obtain⟨t,rfl⟩:=r;exact⟨_,.int i t⟩
 | x,v,.str y,r,q=>by simp only[Rep] at q;subst q;obtain⟨t,rfl⟩:=r;exact⟨_,.str y t⟩
 | x,v,.list ds,r,q=>by
  simp only[Rep] at q
  obtain⟨a,vs,rfl,e,q⟩:=q
  cases r
  obtain⟨_,its,n,rv,g⟩:=hk a _ e
  obtain⟨as,z⟩:=jgh hk rv q
  exact⟨_,.list g rfl rfl (by simpa using z)⟩
 | x,v,.tuple ds,r,q=>by
  simp only[Rep] at q
  obtain⟨a,vs,rfl,e,q⟩:=q
  cases r
  obtain⟨_,its,rv,o,g,hc,n,hd⟩:=hk a _ e
  obtain⟨as,z⟩:=jgh hk rv q
  exact⟨_,.tuple g hc hd (by simpa using z)⟩
 | _,_,.dict _,_,q=>by simp only[Rep] at q
theorem jgh{P:Program}{w:World}{H:Hp}{h:Heap}(hk:HOk P w H h):∀{xs:List V} {us:List Value} {ds:List PyData},Vals xs us->Reps H xs ds->∃as,ReadsAll h us ds as
 | _,_,[],.nil,_=>⟨_,.nil⟩
 | _,_,d::ds,.cons r rs,q=>by
  simp only[Reps] at q
  obtain⟨as,z⟩:=jet hk r q.1
  obtain⟨bs,y⟩:=jgh hk rs q.2
  exact⟨_,.cons z y⟩
 | _,_,_::_,.nil,q=>by simp only[Reps] at q
 | _,_,[],.cons _ _,q=>by simp only[Reps] at q
end
def jfo(d:PyData):Prop:=SeqAt.shaped d=true
def uEq:RU:=λx y H Q=>(scal x y=true /\ Q (.bl (decide (x=y))) H) \/ ∃d e,Rep H x d /\ Rep H y e /\ jfo d /\ jfo e /\ Q (.bl (PyData.eqv d e)) H
def uNe:RU:=λx y H Q=>(scal x y=true /\ Q (.bl (!decide (x=y))) H) \/ ∃d e,Rep H x d /\ Rep H y e /\ jfo d /\ jfo e /\ Q (.bl (!PyData.eqv d e)) H
section
variable {X : Cx}
theorem jbp(hu:X.A.units+64<cLine):OpR X (compareOp .Eq) uEq:=by
 intro pins s σ H x y v u Q I rx ry h
 rcases h with h | ⟨d,e,hd,he,sd,se,q⟩
 ·exact op_eq pins s σ H x y v u Q I rx ry h
 ·obtain⟨as,ra⟩:=jet I.hok rx hd
  obtain⟨bs,rb⟩:=jet I.hok ry he
  exact eq_dataH ra rb sd se hu ⟨.bl _,H,I,rfl,q⟩
theorem jho(hu:X.A.units+64<cLine):OpR X (compareOp .NotEq) uNe:=by
 intro pins s σ H x y v u Q I rx ry h
 rcases h with h | ⟨d,e,hd,he,sd,se,q⟩
 ·exact op_ne pins s σ H x y v u Q I rx ry h
 ·obtain⟨as,ra⟩:=jet I.hok rx hd
  obtain⟨bs,rb⟩:=jet I.hok ry he
  exact ne_dataH ra rb sd se hu ⟨.bl _,H,I,rfl,q⟩
def jsc(P:Program)(w:World)(K:W.Frag)(a:Addr)(kvs:List (Key×V)):Prop:=
 ∀h:Heap,K.In h->(a==sysModules)=false /\ ∃vs,KV kvs vs /\ h.DictOf (jbw P w) a vs
def jst(P:Program)(w:World)(K:W.Frag)(H:Hp)(a:Addr)(y:V)(r:Option V):Prop:=
 DGet H a y r \/ (∃kvs k,jsc P w K a kvs /\ y=kV k /\ r=valV kvs k) \/ ∃o kvs k,H a=some (.frz o (.dK kvs)) /\ y=kV k /\ r=valV kvs k
def rIxD(P:Program)(w:World)(K:W.Frag):R2:=λx y H Q=>∃a v,x= .ref a /\ jst P w K H a y (some v) /\ Q v H
theorem jw7(hu:X.A.units+64<cLine):IxR X (rIxD X.prog X.w X.K):=by
 intro value slice pins s σ H x y v u Q I rx ry h hs
 obtain⟨a,z,rfl,g,q⟩:=h
 cases rx
 rcases g with g | ⟨kvs,k,kd,rfl,e⟩ | ⟨o,kvs,k,kd,rfl,e⟩
 ·exact tail_any (jl3 I g) PySem.F.slot_dict_getitem.lookup (jor (by omega) I g ry λw' s3 I3 rw'=>⟨z,H,I3,rw',q⟩) hs
 ·obtain⟨hd,vs,rel,dd⟩:=kd _ I.kIn
  obtain⟨w',hw,rw'⟩:=RelO.some_of (v:=z) (o:=valueAt vs k) (by rw[e];exact rel.val k)
  exact tail_any dd.typeIs PySem.F.slot_dict_getitem.lookup (wpAny_getItem_of (jh9 ry) dd.mapOf hw ⟨z,H,I.tok _,rw',q⟩) hs
 ·obtain⟨_,_,hd,vs,rel,dd⟩:=(show jc6 X.prog X.w H s.heap a (.frz o (.dK kvs)) from I.hok a _ kd)
  obtain⟨w',hw,rw'⟩:=RelO.some_of (v:=z) (o:=valueAt vs k) (by rw[e];exact rel.val k)
  exact tail_any dd.typeIs PySem.F.slot_dict_getitem.lookup (wpAny_getItem_of (jh9 ry) dd.mapOf hw ⟨z,H,I.tok _,rw',q⟩) hs
def uIx(P:Program)(w:World)(K:W.Frag):R2:=λx y H Q=>rIx K x y H Q \/ rIxD P w K x y H Q
theorem ix_U(hu:X.A.units+64<cLine):IxR X (uIx X.prog X.w X.K):=IxR.or ix_seq (jw7 hu)
def uIn(P:Program)(w:World)(K:W.Frag)(neg:Bool):RU:=λx y H Q=>
 rIn K neg x y H Q \/ (∃i j,x= .str i /\ y= .str j /\ Q (.bl (if neg then !(!(Builtin.Str.occurrences j i 0 j.length 1).isEmpty) else !(Builtin.Str.occurrences j i 0 j.length 1).isEmpty)) H) \/
 ∃a o,y= .ref a /\ jst P w K H a x o /\ Q (.bl (if neg then !o.isSome else o.isSome)) H
theorem op_inU(hu:X.A.units+64<cLine):OpR X (compareOp .In) (uIn X.prog X.w X.K false):=by
 intro pins s σ H x y v u Q I rx ry h
 rcases h with h | h | ⟨a,o,rfl,g,q⟩
 ·exact jqo pins s σ H x y v u Q I rx ry h
 ·exact jpc pins s σ H x y v u Q I rx ry h
 ·cases ry
  rcases g with g | ⟨kvs,k,kd,rfl,e⟩ | ⟨o',kvs,k,kd,rfl,e⟩
  ·exact d_in (by omega) I g rx λs' I'=>⟨.bl _,H,I',rfl,q⟩
  ·obtain⟨hd,vs,rel,dd⟩:=kd _ I.kIn
   refine wpAny_in_of (jh9 rx) hd dd.mapOf ?_
   rw[<-(rel.val k).isSome_eq,<-e]
   exact⟨.bl _,H,I.tok _,rfl,q⟩
  ·obtain⟨_,_,hd,vs,rel,dd⟩:=(show jc6 X.prog X.w H s.heap a (.frz o' (.dK kvs)) from I.hok a _ kd)
   refine wpAny_in_of (jh9 rx) hd dd.mapOf ?_
   rw[<-(rel.val k).isSome_eq,<-e]
   exact⟨.bl _,H,I.tok _,rfl,q⟩
theorem jq6(hu:X.A.units+64<cLine):OpR X (compareOp .NotIn) (uIn X.prog X.w X.K true):=by
 intro pins s σ H x y v u Q I rx ry h
 rcases h with h | h | ⟨a,o,rfl,g,q⟩
 ·exact jjn pins s σ H x y v u Q I rx ry h
 ·exact jjc pins s σ H x y v u Q I rx ry h
 ·cases ry
  rcases g with g | ⟨kvs,k,kd,rfl,e⟩ | ⟨o',kvs,k,kd,rfl,e⟩
  ·exact jv8 (by omega) I g rx λs' I'=>⟨.bl _,H,I',rfl,q⟩
  ·obtain⟨hd,vs,rel,dd⟩:=kd _ I.kIn
   refine wpAny_notIn_of (jh9 rx) hd dd.mapOf ?_
   rw[<-(rel.val k).isSome_eq,<-e]
   exact⟨.bl _,H,I.tok _,rfl,q⟩
  ·obtain⟨_,_,hd,vs,rel,dd⟩:=(show jc6 X.prog X.w H s.heap a (.frz o' (.dK kvs)) from I.hok a _ kd)
   refine wpAny_notIn_of (jh9 rx) hd dd.mapOf ?_
   rw[<-(rel.val k).isSome_eq,<-e]
   exact⟨.bl _,H,I.tok _,rfl,q⟩
def rSlS:V->Option Int->Option Int->Hp->VK->Prop:=λx lo hi H Q=>∃z,x= .str z /\ z.length<=sizeLine /\ Q (.str (Txt.slice z lo hi)) H
def uSl(K:W.Frag):V->Option Int->Option Int->Hp->VK->Prop:=λx lo hi H Q=>rSlL K x lo hi H Q \/ rSlT K x lo hi H Q
theorem sl_U:SlR X (uSl X.K):=SlR.or jv7 sl_tup
def rLenU(P:Program)(w:World)(K:W.Frag):List V->Hp->VK->Prop:=λxs H Q=>(∃p ys,xs=[.ref p] /\ (SqL K H p ys \/ SqT K H p ys) /\ Q (.int ys.length) H) \/ ∃z,xs=[.str z] /\ z.length<=sizeLine /\ Q (.int z.length) H
theorem jpj:jc7 X (.builtin "len") (rLenU X.prog X.w X.K):=jc7.or jir jil
def rAll(K:W.Frag):List V->Hp->VK->Prop:=λxs H Q=>∃(p:Addr) (bs:List Bool),xs=[.ref p] /\ SqL K H p (bs.map V.bl) /\ Q (.bl (bs.all id)) H
def tyVal:V->Value
 | .ty n=> .type n
 | .ref a=> .ref a
 | _=> .none
def rIsi(K:W.Frag):List V->Hp->VK->Prop:=λxs H Q=>∃x c t b,xs=[x,c] /\ ((∃n,c= .ty n) \/ ∃a,c= .ref a) /\ TyOf K H x t /\ W.kitOne K t (tyVal c)=some b /\ Q (.bl b) H
theorem jrw:jc7 X (.builtin "isinstance") (rIsi X.K):=by
 intro pins s σ H xs us Q I r h
 obtain⟨x,c,t,b,rfl,hc,ty,e,q⟩:=h
 obtain⟨u,w',rfl,rx,rc⟩:=vals2 r
 have ec:w'=tyVal c:=by
  rcases hc with⟨n,rfl⟩ | ⟨a,rfl⟩<;>exact rc
 subst ec
 exact jp3 I rx ty e λtk=>⟨.bl b,H,I.tok tk,rfl,q⟩
def GV(mg:Str->Option Value)(x:Str)(v:V):Prop:=∃u,mg x=some u /\ RelV v u
theorem jmx{x:Str}{v:V}{pos:Pos}(h:GV X.mg x v)(hg:Gl X x:=by rfl)(hd:(x==("__debug__":Str))=false:=by decide):PE X (.Name x pos) (tC v):=by
 obtain⟨u,hm,r⟩:=h
 exact jvx hg hm r hd
theorem jvh{a:Expr}{ta:TE}{pos:Pos}(ha:PE X a ta):PE X (.UnaryOp .Not a pos) (λσ H Q=>ta σ H λx H1=>∃k,TruV X.K x H1 k /\ Q (.bl (!k)) H1):=by
 intro pins s σ H Q I h
 refine UnaryOp_ (thn (ha pins s σ H _ I h) λv s1 ⟨x,H1,I1,r1,q1⟩=> ?_)
 exact not_of (thn (jui pins s1 σ H1 x v (λk H2=>Q (.bl (!k)) H2) I1 r1 q1) λk s2 ⟨H2,I2,q2⟩=>⟨.bl (!k),H2,I2,rfl,q2⟩)
end
theorem jdq:bootBuiltins "len"=some (.builtin "len"):=by decide+kernel
theorem juo:bootBuiltins "all"=some (.builtin "all"):=by decide+kernel
theorem jid:bootBuiltins "isinstance"=some (.builtin "isinstance"):=by decide+kernel
theorem bt_max:bootBuiltins "max"=some (.builtin "max"):=by decide+kernel
theorem ju0:bootBuiltins "int"=some (.type "int"):=by decide+kernel
theorem jed:bootBuiltins "str"=some (.type "str"):=by decide+kernel
theorem jvt:bootBuiltins "list"=some (.type "list"):=by decide+kernel
theorem jrb:bootBuiltins "tuple"=some (.type "tuple"):=by decide+kernel
theorem pe_ty{X:Cx}{x:Str}{n:String}{pos:Pos}(hm:X.mg x=none)(hv:bootBuiltins x=some (.type n))(hg:Gl X x:=by rfl)(hn:x≠"__name__":=by decide)(hd:(x==("__debug__":Str))=false:=by decide):PE X (.Name x pos) (tC (.ty n)):=jwg hg hm hv rfl hn hd
def CXE(P:Program)(w:World):CXT:=λouter H s E e s'=>
 ∃(ea C:Addr) (a0:Value) (B:Heap) (H':Hp),e= .ref ea /\ s'.os=s.os /\ AllBare s'.gens /\ Un (frs outer) [] H H' s.heap s'.heap /\ HOk P w H' B /\ Heap.FlyingW B outer ea (.ref C) a0 s'.heap /\
  (∀b o,s.heap.get? b=some o->b∉frs outer->∃o',B.get? b=some o') /\ (∀b o,s.heap.get? b=some o->H b=none->b∉frs outer->B.get? b=some o) /\ E (.ref C) none H'
theorem jgm{P:Program}{w:World}{X:Cx}:jds (CXE P w) X E0:=λ_ _ _ _ _ _ _ ⟨_,_,_,_,_,_,_,_,_,_,_,_,_,h⟩=>h.elim
section
variable {P : Program} {w : World} {K : W.Frag} {mg : Str -> Option Value} {base : Heap} {N : List Str} {qual : Str} {scope : Scope} {f : Addr} {cd : Value} {A : Around} {outer : List Env} {s₀ : Shared} {H₀ : Hp} {E : XK}
theorem jak:jds (CXE P w) (cxOf (CXE P w) P w K mg base N qual scope f cd A outer s₀ H₀ E) E:=by
 intro pins σ H s e s' I h
 obtain⟨ea,C,a0,B,H',rfl,hos,hg,u,hok,fl,hB,hBk,hE⟩:=h
 have fsE:frs (cxOf (CXE P w) P w K mg base N qual scope f cd A outer s₀ H₀ E).stack=s₀.heap.objs.size::frs outer:=rfl
 have ltL:∀{b o},s₀.heap.get? b=some o->b≠s₀.heap.objs.size:=fun{b o} q=>Nat.ne_of_lt (Heap.lt_size q)
 have nst:∀{b o},s₀.heap.get? b=some o->b∉frs outer->b∉frs (cxOf (CXE P w) P w K mg base N qual scope f cd A outer s₀ H₀ E).stack:=fun{b o} q n hm=>by
  rw[fsE] at hm
  rcases List.mem_cons.mp hm with z | z
  ·exact ltL q z
  ·exact n z
 have bu:=I.base
 refine wpAny_leaves_onW (env:=envOfC qual scope s₀.heap.objs.size f cd) (outer:=outer) (L:=s₀.heap.objs.size) I.ok.frames rfl fl λh'' fl'' sm=> ?_
 have nf:∀{b},b∈frs (cxOf (CXE P w) P w K mg base N qual scope f cd A outer s₀ H₀ E).stack->∀o,s'.heap.get? b=some o->∀vs,o.data≠ .fields vs:=fun{b} hb o ho=>by
  obtain⟨_,o',ho',hd⟩:=fl.2.2.1.mem (b:=b) hb
  rw[ho] at ho';cases ho';exact hd
 refine⟨ea,C,a0,B,H',rfl,hos.trans I.os,hg,⟨?_,?_,?_,?_,?_,?_,?_⟩,hok,fl'',?_,?_,hE⟩
 ·intro b o q n nm _
  have q1:=bu.keep b o q n nm (by simp[cxOf])
  have n1:=bu.free b o q n (by simp[cxOf])
  exact fl''.1 b o (hBk b o q1 n1 (nst q nm))
 ·intro b o q n hm _
  obtain⟨sl,q1⟩:=bu.slot b o q n hm (by simp[cxOf])
  have n1:=bu.free b o q n (by simp[cxOf])
  have hm':b∈frs (cxOf (CXE P w) P w K mg base N qual scope f cd A outer s₀ H₀ E).stack:=by rw[fsE];exact List.mem_cons_of_mem _ hm
  obtain⟨sl2,q2⟩:=u.slot b _ q1 n1 hm' (by simp)
  obtain⟨sl3,q3⟩:=sm b _ q2 (nf hm' _ q2)
  exact⟨sl3,q3⟩
 ·intro b o q n _
  have n1:=bu.free b o q n (by simp[cxOf])
  obtain⟨o1,q1⟩:=bu.there b o q (by simp[cxOf])
  exact u.free b o1 q1 n1 (by simp)
 ·intro b o q _
  obtain⟨o1,q1⟩:=bu.there b o q (by simp[cxOf])
  by_cases hm:b∈frs outer
  ·have hm':b∈frs (cxOf (CXE P w) P w K mg base N qual scope f cd A outer s₀ H₀ E).stack:=by rw[fsE];exact List.mem_cons_of_mem _ hm
   obtain⟨o2,q2⟩:=u.there b o1 q1 (by simp)
   obtain⟨sl3,q3⟩:=sm b _ q2 (nf hm' _ q2)
   exact⟨_,q3⟩
  ·obtain⟨o2,q2⟩:=hB b o1 q1 (nst q hm)
   exact⟨o2,fl''.1 b o2 q2⟩
 ·intro b xs q;exact u.tups b xs (bu.tups b xs q)
 ·intro b o v q;exact u.frzs b o v (bu.frzs b o v q)
 ·intro b ps q
  obtain⟨m1,q1⟩:=bu.tbls b ps q
  obtain⟨m2,q2⟩:=u.tbls b _ q1
  exact⟨m1++m2,by rw[q2,Array.append_assoc]⟩
 ·intro b o q nm
  obtain⟨o1,q1⟩:=bu.there b o q (by simp[cxOf])
  exact hB b o1 q1 (nst q nm)
 ·intro b o q n nm
  have q1:=bu.keep b o q n nm (by simp[cxOf])
  have n1:=bu.free b o q n (by simp[cxOf])
  exact hBk b o q1 n1 (nst q nm)
theorem raiseE{pins:List (Addr×Obj)}{σ:St}{H:Hp}{s:Shared}{h':Heap}{e C:Addr}{vs:List Value}(I:Inv (cxOf (CXE P w) P w K mg base N qual scope f cd A outer s₀ H₀ E) pins σ H s)
  (hx:Heap.MadeExcOf s.heap h' e (.ref C) vs) (hE:E (.ref C) none H):(cxOf (CXE P w) P w K mg base N qual scope f cd A outer s₀ H₀ E).xe (.ref e) {s with heap:=h'}:=by
 have fsE:frs (cxOf (CXE P w) P w K mg base N qual scope f cd A outer s₀ H₀ E).stack=s₀.heap.objs.size::frs outer:=rfl
 have bu:=I.base
 have ltL:∀{b o},s₀.heap.get? b=some o->b≠s₀.heap.objs.size:=fun{b o} q=>Nat.ne_of_lt (Heap.lt_size q)
 have nst:∀{b o},s₀.heap.get? b=some o->b∉frs outer->b∉(s₀.heap.objs.size::frs outer):=fun{b o} q n hm=>by
  rcases List.mem_cons.mp hm with z | z
  ·exact ltL q z
  ·exact n z
 have hin:∀env∈(envOfC qual scope s₀.heap.objs.size f cd::outer),∀a,env.frame=some a->a∈(s₀.heap.objs.size::frs outer):=λenv he b hb=>by
  rcases List.mem_cons.mp he with rfl | he
  ·have:s₀.heap.objs.size=b:=Option.some.inj hb
   subst this;exact List.mem_cons_self ..
  ·exact List.mem_cons_of_mem _ (List.mem_filterMap.mpr ⟨env,he,hb⟩)
 have stk:s.heap.FunFrames base (envOfC qual scope s₀.heap.objs.size f cd::outer):=I.stack
 have hl:=W.funFrames_hide (as:=s₀.heap.objs.size::frs outer) stk hin
 refine wpAny_leaves_madeW (base:=W.hideAll s.heap (s₀.heap.objs.size::frs outer)) (h:=s.heap) (env:=envOfC qual scope s₀.heap.objs.size f cd) (outer:=outer) (L:=s₀.heap.objs.size) I.ok.frames rfl
  (λb o q=>W.of_hideAll _ q) hl hx λh'' t fl _ _ sm=> ?_
 have hide:∀{b o},s.heap.get? b=some o->b∉(s₀.heap.objs.size::frs outer)->(W.hideAll s.heap (s₀.heap.objs.size::frs outer)).get? b=some o:=fun{b o} q n=>W.hideAll_get _ q n
 have nf:∀{b},b∈frs outer->∀o,s.heap.get? b=some o->∀vs,o.data≠ .fields vs:=fun{b} hb o ho=>by
  obtain⟨_,o',ho',hd⟩:=stk.mem (b:=b) (by rw[show List.filterMap (·.frame) (envOfC qual scope s₀.heap.objs.size f cd::outer)=s₀.heap.objs.size::frs outer from rfl];exact List.mem_cons_of_mem _ hb)
  rw[ho] at ho';cases ho';exact hd
 have thr:∀b o,s₀.heap.get? b=some o->b∉frs outer->∃o',(W.hideAll s.heap (s₀.heap.objs.size::frs outer)).get? b=some o':=λb o q nm=>by
  obtain⟨o1,q1⟩:=bu.there b o q (by simp[cxOf])
  exact⟨o1,hide q1 (nst q nm)⟩
 have kpt:∀b o,s₀.heap.get? b=some o->H₀ b=none->b∉frs outer->(W.hideAll s.heap (s₀.heap.objs.size::frs outer)).get? b=some o:=λb o q n nm=>
  hide (bu.keep b o q n nm (by simp[cxOf])) (nst q nm)
 refine⟨e,C,.ref t,_,H,rfl,I.os,I.bare,⟨?_,?_,?_,?_,bu.tups,bu.frzs,bu.tbls⟩,?_,fl,thr,kpt,hE⟩
 ·intro b o q n nm _
  exact fl.1 b o (kpt b o q n nm)
 ·intro b o q n hm _
  obtain⟨sl,q1⟩:=bu.slot b o q n hm (by simp[cxOf])
  obtain⟨sl3,q3⟩:=sm b _ (hx.keeps b _ q1) (nf hm _ q1)
  exact⟨sl3,q3⟩
 ·intro b o q n _;exact bu.free b o q n (by simp[cxOf])
 ·intro b o q _
  by_cases hm:b∈frs outer
  ·obtain⟨o1,q1⟩:=bu.there b o q (by simp[cxOf])
   obtain⟨sl3,q3⟩:=sm b _ (hx.keeps b _ q1) (nf hm _ q1)
   exact⟨_,q3⟩
  ·obtain⟨o2,q2⟩:=thr b o q hm
   exact⟨o2,fl.1 b o2 q2⟩
 ·intro a o q
  have frn:=I.stkFree
  rw[fsE] at frn
  refine(I.hok a o q).stay (λb u hb q'=>hide q' λhm=> ?_) (λ_ z=>z) λ_ _ z=>z
  have n:=frn b hm
  rcases hb with rfl | hb
  ·rw[q] at n;cases n
  ·rw[hb] at n;cases n
structure Exc (K:W.Frag) (mg:Str->Option Value) (x:Str) (C:Addr):Prop where
 at_:W.nsIn K mainGlobals x=some (some (.ref C))
 ex:∃bmB newId B initId,W.excIn K C bmB newId=true /\ ExcBaseFacts B newId initId bmB
 mg_:mg x=some (.ref C)
def RaiseK(C:Addr)(E:XK)(v:V)(H:Hp):Prop:=∃v',[v]=[v'] /\ E (.ref C) none H
def ju6(C:Addr)(E:XK)(te:TE):TS:=λ_ σ H=>te σ H λv H1=>RaiseK C E v H1
theorem jbi{x:Str}{C:Addr}{e₀:Expr}{te:TE}{np cpos pos:Pos}(O:Exc K mg x C)
  (he:PE (cxOf (CXE P w) P w K mg base N qual scope f cd A outer s₀ H₀ E) e₀ te) (hh:Room 0 (A.deeper (envOfC qual scope s₀.heap.objs.size f cd)))
  (hg:Gl (cxOf (CXE P w) P w K mg base N qual scope f cd A outer s₀ H₀ E) x:=by rfl) (hdb:(x==("__debug__":Str))=false:=by decide)
  (hst:starEach [e₀] (envOfC qual scope s₀.heap.objs.size f cd)=[(false,eval e₀ (envOfC qual scope s₀.heap.objs.size f cd))]:=by rfl):
  PS (cxOf (CXE P w) P w K mg base N qual scope f cd A outer s₀ H₀ E) (.Raise (some (.Call (.Name x np) [e₀] [] cpos)) none pos) (ju6 C E te):=by
 intro pins s σ H D I h
 obtain⟨bmB,newId,B,initId,q,FB⟩:=O.ex
 have hC0:W.excIn K C bmB newId=true:=q
 have cls:∀{h:Heap},K.In h->∃bm N nm q bs hdct sn sub ab col dd k0 k1 k2 k3 k5 mN,h.get? C=some (excClassObj nm q C N bs bm hdct sn sub ab col dd k0 k1 k2 k3 k5 newId) /\ h.Ns N mN /\ mN "__init__"=none /\ OwnTail h bmB bm:=fun{h} X=>by
  unfold W.excIn at q
  split at q
  ·rename_i dd cd sl ho
   split at q
   ·rename_i C' bm k0 k1 k2 k3 n k5 hm hs
    simp only[Bool.and_eq_true,beq_iff_eq,Bool.not_eq_true'] at q
    obtain⟨⟨⟨⟨⟨rfl,rfl⟩,hdel⟩,ht⟩,hok⟩,hni⟩:=q
    obtain⟨nm,bs,mro,ns,qn,hd,sn,sub,ab,col,del⟩:=cd
    dsimp only at hm hdel hok hni
    subst hm hdel
    have hsl:sl=#[k0,k1,k2,k3,some (.builtin n),k5]:=by
     obtain⟨l⟩:=sl
     simp only at hs
     rw[hs]
    subst hsl
    exact⟨bm,ns,nm,qn,bs,hd,sn,sub,ab,col,dd,k0,k1,k2,k3,k5,_,X _ _ ho,.of_isNs (W.isNs_of_in X hok),W.nsMap_none_of_in X hok hni,W.tail_of_in X ht⟩
   ·cases q
  ·cases q
 obtain⟨tl,Nc,nm,qn,bs,hdct,sn,sub,ab,col,dd,k0,k1,k2,k3,k5,mN,hC,hN,hni,T⟩:=cls I.ok.mod.kin
 refine wpAny_Raise_call_subT (C:=C) (nm:=nm) (q:=qn) (N:=Nc) (bs:=bs) (bm:=tl) (hdct:=hdct) (sn:=sn) (sub:=sub) (ab:=ab) (col:=col) (dd:=dd) (k0:=k0) (k1:=k1) (k2:=k2) (k3:=k3) (k5:=k5)
  FB (mN:=mN) (T.hasType FB.hasBase) hh.hd (by show(backTo cpos (starEach [e₀] (envOfC qual scope s₀.heap.objs.size f cd))).any (·.1)=false;rw[hst];rfl) hni (jf6 I hg O.mg_ ⟨rfl,?_⟩ hdb)
 show wpAny _ _ (evalArgs (.ref C) true (backTo cpos (starEach [e₀] (envOfC qual scope s₀.heap.objs.size f cd))) []) _ _ s
 have hA:=(ja0 he ja5 (by show starEach [e₀] (envOfC qual scope s₀.heap.objs.size f cd)=_;rw[hst];rfl)) cpos pins s σ H (λvs H1=>∃v,vs=[v] /\ E (.ref C) none H1) I h
 rw[show starEach [e₀] (cxOf (CXE P w) P w K mg base N qual scope f cd A outer s₀ H₀ E).env=[(false,eval e₀ (envOfC qual scope s₀.heap.objs.size f cd))] from hst] at hA
 rw[hst]
 refine Calls.evalArgs_plain (wpAny_mono hA (λus s₂ ⟨vs,H1,I1,r,⟨v,hl,q1⟩⟩=> ?_) λ_ _ y=>y)
 have kb:=I1.bk
 refine⟨rfl,by show us.length<=sizeLine;rw[<-r.length,hl];exact(by decide:1<=sizeLine),kb _ _ hC,hN.keeps kb,T.keeps kb,λh' e hm=>raiseE I1 hm q1⟩
theorem Fun.okE{x qual:Str}{st:Stmt}{f:Addr}{fd:FuncData}{N ps:List Str}{k:Nat}{sp:Sp}(F:Fun K x qual st f fd)(S:FnScope N ps (ja7 st))(len:∀vs H Q E,sp vs H Q E->vs.length=ps.length)
  (hbody:∀(cdv:Value) (A:Around) (outer:List Env) (s:Shared) (H:Hp) (vs:List V) (Q:VK) (E:XK),Room k (A.deeper (envOfC qual (ja7 st) s.heap.objs.size f cdv))->sp vs H Q E->
   ∃t,PSs (cxOf (CXE P w) P w K mg base N qual (ja7 st) f cdv A outer s H E) (jcx st) t /\ t {nx:=λ_ H'=>Q .non H',rt:=Q} (start N vs) H):FnOk P w K mg base (CXE P w) (k+1) f fd ps sp:=by
 obtain⟨oc,od,kV,doc,pm,an,cdv,ct,osl,rfl,lk,hcd⟩:=F.ex
 exact fn_of lk hcd S len λA outer s H vs Q E hr hsp=>hbody cdv A outer s H vs Q E hr hsp
theorem ownE:PassesOwn (model P w) (A.deeper (envOfC qual scope s₀.heap.objs.size f cd)) (envOfC qual scope s₀.heap.objs.size f cd) (cxOf (CXE P w) P w K mg base N qual scope f cd A outer s₀ H₀ E).xe:=PassesOwn.leaving
theorem cxe_out{H:Hp}{s:Shared}{e:Value}{s':Shared}(h:CXE P w [] H s (λ_ _ _=>False) e s'):False:=by
 obtain⟨_,_,_,_,_,_,_,_,_,_,_,_,_,h⟩:=h;exact h
end
def Its(z:Str):It:=⟨λi _=>i<z.length,λi H x H'=>H'=H /\ ∃c,z.cps[i]?=some c /\ x= .str ⟨#[c]⟩,λi _=>z.length<=i⟩
theorem jpe{P:Program}{w:World}{K:W.Frag}{tg:Expr}(z:Str)(t:Tok)(it:Addr):Turn P w K tg (Its z) [it] it (λi h=>h.IsStrIter it "str_ascii_iterator" z t i) where
 mem:=by simp
 obj:=λi h st b hb=>by
  have e:b=it:=by simpa using hb
  subst e
  obtain⟨o,e,c,d⟩:=st
  exact⟨o,e,λv z=>by rw[d] at z;cases z⟩
 keep:=λi h h' st k=>let ⟨o,ho,r⟩:=st;⟨o,k it (by simp) o ho,r⟩
 item:=by
  intro X hP hw hK hc i pins s σ H E I hf st hg
  subst hP hw hK
  obtain⟨f0,f1,f2,f3,f4,f5⟩:=hf it (by simp)
  have hi:i<z.cps.size:=hg
  refine wpAny_pyNext_ascii_item st (c:=z.cps[i]) (by simp[hi]) λh' st' sb=> ?_
  have I1:Inv X pins σ H {s with heap:=h',toks:=s.toks+1}:=I.turned (t':=s.toks+1) (λb o hb e=>(sb.2 b hb).trans e) f0 f1 f3 f4 f5
  obtain⟨o,e,c,d⟩:=id st'
  exact⟨_,rfl,jna (s:={s with heap:=h',toks:=s.toks+1}) e c d (by decide) ⟨.str ⟨#[z.cps[i]]⟩,H,I1,⟨_,rfl⟩,⟨rfl,z.cps[i],by simp[hi],rfl⟩,st',λb hb=>(hf b hb).1⟩⟩
 done:=by
  intro X hP hw hK hc i pins s σ H E I hf st hg
  subst hP hw hK
  obtain⟨f0,f1,f2,f3,f4,f5⟩:=hf it (by simp)
  have hi:z.cps.size<=i:=hg
  exact wpAny_pyNext_ascii_end (I.ok.hd hc) st (by simp;omega) λh' eb=>⟨rfl,I.turned (t':=s.toks) (λb o hb e=>eb b o hb e) f0 f1 f3 f4 f5⟩
 self:=λ_ _ _ _ _ st h=>wpAny_pyIter_striter_ascii st h
theorem jow{P:Program}{w:World}{K:W.Frag}{tg:Expr}(z:Str)(t:Tok)(it:Addr):Turn P w K tg (Its z) [it] it (λi h=>h.IsStrIter it "str_iterator" z t i) where
 mem:=by simp
 obj:=λi h st b hb=>by
  have e:b=it:=by simpa using hb
  subst e
  obtain⟨o,e,c,d⟩:=st
  exact⟨o,e,λv z=>by rw[d] at z;cases z⟩
 keep:=λi h h' st k=>let ⟨o,ho,r⟩:=st;⟨o,k it (by simp) o ho,r⟩
 item:=by
  intro X hP hw hK hc i pins s σ H E I hf st hg
  subst hP hw hK
  obtain⟨f0,f1,f2,f3,f4,f5⟩:=hf it (by simp)
  have hi:i<z.cps.size:=hg
  refine wpAny_pyNext_wide_item st (c:=z.cps[i]) (by simp[hi]) λh' st' sb=> ?_
  have I1:Inv X pins σ H {s with heap:=h',toks:=s.toks+1}:=I.turned (t':=s.toks+1) (λb o hb e=>(sb.2 b hb).trans e) f0 f1 f3 f4 f5
  obtain⟨o,e,c,d⟩:=id st'
  exact⟨_,rfl,jna (s:={s with heap:=h',toks:=s.toks+1}) e c d (by decide) ⟨.str ⟨#[z.cps[i]]⟩,H,I1,⟨_,rfl⟩,⟨rfl,z.cps[i],by simp[hi],rfl⟩,st',λb hb=>(hf b hb).1⟩⟩
 done:=by
  intro X hP hw hK hc i pins s σ H E I hf st hg
  subst hP hw hK
  obtain⟨f0,f1,f2,f3,f4,f5⟩:=hf it (by simp)
  have hi:z.cps.size<=i:=hg
  exact wpAny_pyNext_wide_end (I.ok.hd hc) st (by simp;omega) λh' eb=>⟨rfl,I.turned (t':=s.toks) (λb o hb e=>eb b o hb e) f0 f1 f3 f4 f5⟩
 self:=λ_ _ _ _ _ st h=>wpAny_pyIter_striter_wide st h
def iV(K:W.Frag)(tl:TE):TI:=λσ H R=>tl σ H λx H1=>(∃a,x= .ref a /\ (((∃xs,SqL K H1 a xs) /\ R (Itl K a) H1) \/ ((∃xs,SqT K H1 a xs) /\ R (Itt K a) H1))) \/ ∃z,x= .str z /\ R (Its z) H1
section
variable {X : Cx}
theorem pi_V{tg l:Expr}{tl:TE}(hl:PE X l tl):PI X tg l (iV X.K tl):=by
 intro pins s σ H R I h
 refine thn (hl pins s σ H _ I h) λv s1 ⟨x,H1,I1,r1,q1⟩=> ?_
 have fp:∀b∈[s1.heap.objs.size],FpOk X pins H1 b:=λb hb=>by
  have e:b=s1.heap.objs.size:=by simpa using hb
  subst e
  exact I1.fpOk (Nat.le_refl _) (I1.hok.fresh (Nat.le_refl _))
 rcases q1 with⟨a,e,q⟩ | ⟨z,e,q⟩
 ·subst e
  cases r1
  rcases q with⟨⟨xs,hq⟩,q⟩ | ⟨⟨xs,hq⟩,q⟩
  ·obtain⟨its,rv,p,hz⟩:=I1.list hq
   refine wpAny_pyIter_list p.isList ?_
   exact⟨s1.heap.objs.size,[s1.heap.objs.size],_,_,H1,rfl,I1.kept (t':=s1.toks) λb o e=>Heap.get?_push_of_some _ e,jqc a _,⟨_,Heap.get?_push_size _ rfl,rfl,rfl⟩,fp,q⟩
  ·obtain⟨its,rv,p,hz⟩:=I1.tuple hq
   refine wpAny_pyIter_tuple (show s1.heap.IsTuple a its.toArray from p) ?_
   exact⟨s1.heap.objs.size,[s1.heap.objs.size],_,_,H1,rfl,I1.kept (t':=s1.toks) λb o e=>Heap.get?_push_of_some _ e,jnn a _,⟨_,Heap.get?_push_size _ rfl,rfl,rfl⟩,fp,q⟩
 ·subst e
  obtain⟨t,rfl⟩:=r1
  cases ha:z.cps.all (·<128)
  ·exact wpAny_pyIter_wide ha ⟨s1.heap.objs.size,[s1.heap.objs.size],_,_,H1,rfl,I1.kept (t':=s1.toks) λb o e=>Heap.get?_push_of_some _ e,jow z t _,⟨_,Heap.get?_push_size _ rfl,rfl,rfl⟩,fp,q⟩
  ·exact wpAny_pyIter_ascii ha ⟨s1.heap.objs.size,[s1.heap.objs.size],_,_,H1,rfl,I1.kept (t':=s1.toks) λb o e=>Heap.get?_push_of_some _ e,jpe z t _,⟨_,Heap.get?_push_size _ rfl,rfl,rfl⟩,fp,q⟩
theorem juq:∀{bs:List Bool} {its:List Value},Vals (bs.map V.bl) its->its=bs.map Value.bool
 | [],_,.nil=>rfl
 | b::bs,_,.cons r rr=>by rw[List.map_cons,<-juq rr];cases r;rfl
theorem jsb(hc:X.calm=true):jc7 X (.builtin "all") (rAll X.K):=by
 intro pins s σ H xs us Q I r h
 obtain⟨p,bs,rfl,hq,q⟩:=h
 obtain⟨u,rfl,rx⟩:=jgt r
 cases rx
 obtain⟨its,r',pl,hz⟩:=I.list hq
 have e:=juq r'
 have hh:X.A.in1.handled=none:=I.ok.hd hc
 refine call_all_walk (wpAny_pyIter_list pl.isList ?_)
 have hne:p≠s.heap.objs.size:=by
  obtain⟨o,ho,_⟩:=pl.isList
  exact Nat.ne_of_lt (Heap.lt_size ho)
 refine⟨s.heap.objs.size,_,_,_,_,_,λi=>bs.getD i false,rfl,Walks.list hh _ p hne its.toArray,?_,?_,λh' tk hk=> ?_⟩
 ·exact⟨⟨_,Heap.get?_push_size _ rfl,rfl,rfl⟩,pl.isList.at λo e=>Heap.get?_push_of_some _ e⟩
 ·intro i v s' Q' E' hP hQ
  have hv:its[i]?=some v:=by simpa using hP
  rw[e,List.getElem?_map] at hv
  obtain⟨b,hb,rfl⟩:=Option.map_eq_some_iff.mp hv
  have:bs.getD i false=b:=by simp[List.getD,hb]
  have hQ':Q' (bs.getD i false) s':=hQ
  rw[this] at hQ'
  exact wpAny_truthy_bool hQ'
 ·have k:∀b o,s.heap.get? b=some o->h'.get? b=some o:=λb o e=>hk b o (by
   intro hm
   have:b=s.heap.objs.size:=by simpa using hm
   exact absurd (Heap.lt_size e) (by rw[this];exact Nat.lt_irrefl _)) (Heap.get?_push_of_some _ e)
  refine⟨.bl (bs.all id),H,I.kept (t':=tk) k,?_,q⟩
  have hl:=r'.length
  simp only[List.length_map] at hl
  have e2:(List.range its.toArray.size).all (λi=>bs.getD i false)=bs.all id:=by
   rw[List.size_toArray,<-hl]
   rw[Bool.eq_iff_iff,List.all_eq_true,List.all_eq_true]
   constructor
   ·intro hh x hx
    obtain⟨i,hi,rfl⟩:=List.getElem_of_mem hx
    have:=hh i (List.mem_range.mpr hi)
    simpa [List.getD,hi] using this
   ·intro hh i hi
    have hi':=List.mem_range.mp hi
    have:=hh bs[i] (List.getElem_mem hi')
    simpa [List.getD,hi'] using this
  rw[e2];rfl
theorem jhp:∀{ys:List Str} {its:List Value},Vals (ys.map V.str) its->StrsAre its ys
 | [],_,.nil=> .nil
 | y::ys,_,.cons r rr=>by obtain⟨t,rfl⟩:=r;exact .cons y t (jhp rr)
def jva(K:W.Frag):V->List V->Hp->VK->Prop:=λx vs H Q=>∃(z:Str) (p:Addr) (ys:List Str),x= .str z /\ vs=[.ref p] /\ SqL K H p (ys.map V.str) /\ (ys.map (·.length)).sum+ys.length*z.length<=16777216 /\ Q (.str (Txt.join z ys)) H
theorem jx2:MtR X "str.join" (jva X.K):=by
 intro pins s σ H x xs v us Q I rx rv h
 obtain⟨z,p,ys,rfl,rfl,hq,hz,q⟩:=h
 obtain⟨t,rfl⟩:=rx
 obtain⟨u,rfl,ru⟩:=rv.one
 cases ru
 obtain⟨its,r',pl,_⟩:=I.list hq
 exact join_list pl.isList (by simpa using jhp r') hz λt' k=>⟨.str _,H,I.tok k,⟨t',rfl⟩,q⟩
theorem jjr:∀(l:List (Str×Tok)),Vals ((l.map (·.1)).map V.str) (strValues l)
  | []=> .nil
  | (x,t)::r=> .cons ⟨t,rfl⟩ (jjr r)
def jtt:V->List V->Hp->VK->Prop:=λx vs H Q=>∃(z y:Str),x= .str z /\ vs=[.str y] /\ y.length≠0 /\ z.length<=sizeLine /\ (Txt.split z y).length<=sizeLine /\ ∀p H',H p=none->H' p=some (.lst ((Txt.split z y).map V.str))->Same H H'->Q (.ref p) H'
open Builtin Builtin.Str in
theorem jic:MtR X "str.split" jtt:=by
 intro pins s σ H x xs v us Q I rx rv h
 obtain⟨z,y,rfl,rfl,hy,hz,hl,q⟩:=h
 obtain⟨t,rfl⟩:=rx
 obtain⟨w',rfl,u,rfl⟩:=rv.one
 have hy':(y.length==0)=false:=by simpa using hy
 have fin:∀(l:List (Str×Tok)) (tk:Nat),l.map (·.1)=Txt.split z y->EP X pins σ Q (.ref s.heap.objs.size) {s with heap:=s.heap.push {cls:= .type "list",data:= .seq (strValues l).toArray},toks:=tk}:=λl tk e=>
  ⟨.ref s.heap.objs.size,_,I.lnew (t':=tk) (ys:=(Txt.split z y).map V.str) (by rw[<-e];exact jjr l) (by rw[List.length_map];exact hl),rfl,q _ _ I.fresh jax λb o e=>by rw[jad (jbf e I.fresh)];exact e⟩
 cases h1:(decide (z.length<y.length)||decide (strKind z<strKind y))
 ·cases hf:(occurrences z y 0 z.length (z.length+1)).isEmpty
  ·have e0:Txt.split z y=partsBetween z (occurrences z y 0 z.length (z.length+1)) y.length:=(if_neg (ne_true_of_eq_false h1)).trans (if_neg (ne_true_of_eq_false hf))
   refine call_meets F.slot_str_split (typeIs_str _ _ _) F.entry_str_split (F.args_str_split_2 _ _) (meets_str_split_sep z y t u h1 hy' hf hz (by rw[<-e0];exact hl)) ?_
   show wants (EP X pins σ Q) X.xe _ {s with toks:=_,heap:=s.heap.push {cls:= .type "list",data:= .seq (strsFrom s.toks (partsBetween z (occurrences z y 0 z.length (z.length+1)) y.length)).toArray}}
   rw[strsFrom_eq]
   exact fin (numbered s.toks _) _ ((numbered_texts _ _).trans e0.symm)
  ·exact call_meets F.slot_str_split (typeIs_str _ _ _) F.entry_str_split (F.args_str_split_2 _ _) (meets_str_split_not_found z y t u h1 hy' hf)
    (fin [(z,t)] s.toks ((if_neg (ne_true_of_eq_false h1)).trans (if_pos hf)).symm)
 ·exact call_meets F.slot_str_split (typeIs_str _ _ _) F.entry_str_split (F.args_str_split_2 _ _) (meets_str_split_cannot_occur z y t u h1)
   (fin [(z,t)] s.toks (if_pos h1).symm)
def rInt:List V->Hp->VK->Prop:=λxs H Q=>((∃i,xs=[.int i] /\ Q (.int i) H) \/ ∃k,xs=[.bl k] /\ Q (.int (if k then 1 else 0)) H) \/ ∃z n,xs=[.str z] /\ z.length<=640 /\ intText? z=some n /\ Q (.int n) H
theorem jin:jc7 X (.type "int") rInt:=by
 refine jc7.or joz ?_
 intro pins s σ H xs us Q I r h
 obtain⟨z,n,rfl,hl,hn,q⟩:=h
 obtain⟨u,rfl,t,rfl⟩:=jgt r
 exact W.KIN.call_text hn hl ⟨.int n,H,I.tok _,⟨_,rfl⟩,q⟩
def rStr:List V->Hp->VK->Prop:=λxs H Q=>∃i,xs=[.int i] /\ i.natAbs.log2<1920 /\ Q (.str (toString i)) H
theorem jck:jc7 X (.type "str") rStr:=jiy
/-! ### f"..{x}.." -/
abbrev TJ:=Str->St->Hp->(Str->Hp->Prop)->Prop
def PJ(X:Cx)(es:List Expr)(t:TJ):Prop:=∀(out:Str) (pins:List (Addr×Obj)) (s:Shared) (σ:St) (H:Hp) (Q:VK),Inv X pins σ H s->t out σ H (λz H'=>z.length<=sizeLine /\ Q (.str z) H')->
 wpAny (model X.prog X.w) X.A (joinParts out (evalEach es X.env)) (EP X pins σ Q) X.xe s
def tJnil:TJ:=λout _ H Q=>Q out H
def jtp(te:TE)(t:TJ):TJ:=λout σ H Q=>te σ H λx H1=>∃y,x= .str y /\ (out++y).length<=sizeLine /\ t (out++y) σ H1 Q
theorem jtj:PJ X [] tJnil:=λout pins s σ H Q I h=>joinParts_nil ⟨.str out,H,I.tok _,⟨_,rfl⟩,h.2⟩ h.1
theorem ji7{e:Expr}{es:List Expr}{te:TE}{t:TJ}(he:PE X e te)(hr:PJ X es t):PJ X (e::es) (jtp te t):=by
 intro out pins s σ H Q I h
 show wpAny _ _ (joinParts out (eval e X.env::evalEach es X.env)) _ _ s
 refine joinParts_cons (thn (he pins s σ H _ I h) λv s1 ⟨x,H1,I1,r1,y,ex,hz,q⟩=> ?_)
 subst ex
 obtain⟨t,rfl⟩:=r1
 exact⟨hz,hr (out++y) pins s1 σ H1 Q I1 q⟩
def tJs(t:TJ):TE:=λσ H Q=>t Str.empty σ H λz H'=>z.length<=sizeLine /\ Q (.str z) H'
theorem pe_js{v₁ v₂:Expr}{rest:List Expr}{t:TJ}{pos:Pos}(h:PJ X (v₁::v₂::rest) t):PE X (.JoinedStr (v₁::v₂::rest) pos) (tJs t):=by
 intro pins s σ H Q I q
 exact JoinedStr_many (h Str.empty pins s σ H Q I q)
def tFmt(te:TE):TE:=λσ H Q=>te σ H λx H1=>(∃i,x= .int i /\ i.natAbs.log2<1920 /\ Q (.str (toString i)) H1) \/ ∃z,x= .str z /\ z.length<=sizeLine /\ Q (.str z) H1
theorem jti{e:Expr}{te:TE}{pos:Pos}(he:PE X e te):PE X (.FormattedValue e (-1) none pos) (tFmt te):=by
 intro pins s σ H Q I h
 refine FormattedValue_plain (thn (he pins s σ H _ I h) λv s1 ⟨x,H1,I1,r1,q⟩=> ?_)
 rcases q with⟨i,rfl,hd,q⟩ | ⟨z,rfl,hz,q⟩
 ·obtain⟨t,rfl⟩:=r1
  exact wpAny_formatField_int hd ⟨.str _,H1,I1.tok _,⟨_,rfl⟩,q⟩
 ·obtain⟨t,rfl⟩:=r1
  exact wpAny_formatField_str ⟨.str z,H1,I1,⟨_,rfl⟩,q⟩ ⟨.str z,H1,I1.tok _,⟨_,rfl⟩,q⟩ hz
end
section
variable {X : Cx}
theorem jg9{ns:List Int}{its:List Value}(r:Vals (ns.map V.int) its){i:Nat}{v:Value}(h:its[i]?=some v):∃t,v= .int (ns.getD i 0) t /\ i<ns.length:=by
 have hl:=r.length
 rw[List.length_map] at hl
 have hi:i<its.length:=(List.getElem?_eq_some_iff.mp h).1
 have hx:(ns.map V.int)[i]?=some (.int ns[i]):=by simp[List.getElem?_map,List.getElem?_eq_getElem (show i<ns.length by omega)]
 obtain⟨u,hu,⟨t,rfl⟩⟩:=r.get hx
 rw[h] at hu
 refine⟨t,?_,by omega⟩
 have:ns.getD i 0=ns[i]:=by simp[List.getD,List.getElem?_eq_getElem (show i<ns.length by omega)]
 rw[this];exact Option.some.inj hu
theorem jvf{ns:List Int}{i:Nat}(h:i<ns.length):ns.getD i 0∈ns:=by
 have:ns.getD i 0=ns[i]:=by simp[List.getD,List.getElem?_eq_getElem h]
 rw[this];exact List.getElem_mem _
def rMaxT(K:W.Frag):List V->Hp->VK->Prop:=λxs H Q=>∃(p:Addr) (ns:List Int),xs=[.ref p] /\ SqT K H p (ns.map V.int) /\ 0<ns.length /\ ∀M,M∈ns->(∀a∈ns,a<=M)->Q (.int M) H
theorem jnt(hc:X.calm=true):jc7 X (.builtin "max") (rMaxT X.K):=by
 intro pins s σ H xs us Q I r h
 obtain⟨p,ns,rfl,hq,hn,q⟩:=h
 obtain⟨u,rfl,rx⟩:=jgt r
 cases rx
 obtain⟨its,r',pl,hz⟩:=I.tuple hq
 have hl:=r'.length
 rw[List.length_map] at hl
 have hh:X.A.in1.handled=none:=I.ok.hd hc
 refine call_max_walk (wpAny_pyIter_tuple (show s.heap.IsTuple p its.toArray from pl) ?_)
 have hne:p≠s.heap.objs.size:=by
  obtain⟨o,ho,_⟩:=pl
  exact Nat.ne_of_lt (Heap.lt_size ho)
 have pl':s.heap.IsTuple p its.toArray:=pl
 have hfp:∀b∈[s.heap.objs.size,p],b<(s.heap.push {cls:= .type "tuple_iterator",data:= .fields #[.ref p,rawInt 0]}).objs.size:=λb hb=>by
  rw[Heap.size_push]
  obtain⟨o,ho,_⟩:=pl
  have:=Heap.lt_size ho
  rcases List.mem_cons.mp hb with rfl | hb
  ·exact Nat.lt_succ_self _
  ·have e:b=p:=by simpa using hb
   subst e;exact Nat.lt_succ_of_lt this
 refine⟨s.heap.objs.size,_,_,_,_,_,λi j=>decide (ns.getD i 0>ns.getD j 0),rfl,Walks.tuple hh _ p hne its.toArray,⟨⟨_,Heap.get?_push_size _ rfl,rfl,rfl⟩,pl'.at λo e=>Heap.get?_push_of_some _ e⟩,hfp,by rw[List.size_toArray];omega,
  CmpOf.ints_gt (λi=>ns.getD i 0) (λi v hv=>by obtain⟨t,e,_⟩:=jg9 r' (by simpa using hv);exact⟨t,e⟩),λv h' tk hP hk=> ?_⟩
 have k:∀b o,s.heap.get? b=some o->h'.get? b=some o:=λb o e=>hk b o (by
  intro hm
  have:b=s.heap.objs.size:=by simpa using hm
  exact absurd (Heap.lt_size e) (by rw[this];exact Nat.lt_irrefl _)) (Heap.get?_push_of_some _ e)
 obtain⟨t,e,hlt⟩:=jg9 r' (by simpa using hP)
 subst e
 obtain⟨h1,h2⟩:=argBest_gt (λi=>ns.getD i 0) (its.toArray.size - 1)
 refine⟨.int _,H,I.kept (t':=tk) k,⟨t,rfl⟩,q _ ?_ λa ha=> ?_⟩
 ·exact jvf hlt
 ·obtain⟨j,hj,rfl⟩:=List.getElem_of_mem ha
  have:=h2 j (by rw[List.size_toArray];omega)
  simpa [List.getD,List.getElem?_eq_getElem hj] using this
def rMax(K:W.Frag):List V->Hp->VK->Prop:=λxs H Q=>(∃i j,xs=[.int i,.int j] /\ Q (.int (if j>i then j else i)) H) \/ rMaxT K xs H Q
theorem joa(hc:X.calm=true):jc7 X (.builtin "max") (rMax X.K):=jc7.or (jqe hc) (jnt hc)
end
def Fly(X:Cx)(pins:List (Addr×Obj))(σ:St)(H':Hp)(ea C:Addr)(s':Shared):Prop:=
 ∃(a0:Value) (B:Heap) (H:Hp) (s:Shared),Inv X pins σ H s /\ s'.os=s.os /\ AllBare s'.gens /\ Un (frs X.stack) [] H H' s.heap s'.heap /\ HOk X.prog X.w H' B /\ Heap.FlyingW B X.stack ea (.ref C) a0 s'.heap /\
  (∀b o,s.heap.get? b=some o->b∉frs X.stack->∃o',B.get? b=some o') /\ (∀b o,s.heap.get? b=some o->H b=none->b∉frs X.stack->B.get? b=some o)
abbrev FK:=St->Addr->Hp->Prop
def XP(X:Cx)(pins:List (Addr×Obj))(σ:St)(F:Addr->Hp->Prop)(e:Value)(s':Shared):Prop:=
 ∃ea C H',e= .ref ea /\ Fly X pins σ H' ea C s' /\ F C H'
section
variable {X : Cx} {pins : List (Addr × Obj)} {σ : St} {H H' : Hp} {s s' : Shared} {ea C : Addr}
theorem Fly.inv(F:Fly X pins σ H' ea C s'):Inv X pins σ H' s':=by
 obtain⟨a0,B,H,s,I,ho,hg,u,hok,fl,_,_⟩:=F
 exact I.call' ho u (hok.kept fl.1) hg λb z=>absurd z (by simp)
theorem Fly.there(F:Fly X pins σ H' ea C s'):∃o,s'.heap.get? ea=some o /\ o.cls= .ref C:=by
 obtain⟨a0,B,H,s,I,ho,hg,u,hok,fl,_,_⟩:=F
 exact fl.there
theorem Fly.step{B:Heap}{a0:Value}{h:Heap}(I:Inv X pins σ H s)(ho:s'.os=s.os)(hg:AllBare s'.gens)(u:Un (frs X.stack) [] H H' s.heap s'.heap)(hok:HOk X.prog X.w H' B)
  (hB:∀b o,s.heap.get? b=some o->b∉frs X.stack->∃o',B.get? b=some o') (hBk:∀b o,s.heap.get? b=some o->H b=none->b∉frs X.stack->B.get? b=some o)
  (sm:s'.heap.UpToSlots h) (ff:s'.heap.FunFrames B X.stack) (fl:Heap.FlyingW B X.stack ea (.ref C) a0 h):Fly X pins σ H' ea C {s' with heap:=h}:=by
 have nf:∀{b},b∈frs X.stack->∀o,s'.heap.get? b=some o->∀vs,o.data≠ .fields vs:=fun{b} hb o ho=>by
  obtain⟨_,o',ho',hd⟩:=ff.mem (b:=b) hb
  rw[ho] at ho';cases ho';exact hd
 refine⟨a0,B,H,s,I,ho,hg,⟨?_,?_,u.free,?_,u.tups,u.frzs,u.tbls⟩,hok,fl,hB,hBk⟩
 ·intro b o q n nm _
  exact fl.1 b o (hBk b o q n nm)
 ·intro b o q n hm _
  obtain⟨sl2,q2⟩:=u.slot b _ q n hm (by simp)
  obtain⟨sl3,q3⟩:=sm b _ q2 (nf hm _ q2)
  exact⟨sl3,q3⟩
 ·intro b o q _
  by_cases hm:b∈frs X.stack
  ·obtain⟨o2,q2⟩:=u.there b o q (by simp)
   obtain⟨sl3,q3⟩:=sm b _ q2 (nf hm _ q2)
   exact⟨_,q3⟩
  ·obtain⟨o2,q2⟩:=hB b o q hm
   exact⟨o2,fl.1 b o2 q2⟩
theorem Fly.lands{M:Model}{A:Around}{E:Value->Shared->Prop}{Q:Unit->Shared->Prop}(F:Fly X pins σ H' ea C s')(hst:X.stack=X.env::X.outer)(hfr:X.env.frame=some X.env.locals)(hA:A.frames=some X.stack)
  (k:∀s2,Fly X pins σ H' ea C s2->Q () s2):wpAny M A (noteFrame (.ref ea) X.env) (λ_ s2=>wpAny M A (setFlight (.ref ea) none) Q E s2) E s':=by
 obtain⟨a0,B,H,s,I,ho,hg,u,hok,fl,hB,hBk⟩:=F
 have ff:=fl.2.2.1
 refine wpAny_looks_onW (env:=X.env) (outer:=X.outer) (L:=X.env.locals) (by rw[hA,hst]) hfr (by rw[<-hst];exact fl) λh₄ hheld₄ hsm₄=> ?_
 refine wpAny_landsW hheld₄ λh₅ hheld hsm₅=> ?_
 rw[<-hst] at hheld
 exact k _ (Fly.step (s':=s') I ho hg u hok hB hBk (hsm₄.trans hsm₅) ff hheld)
theorem Fly.again{M:Model}{A:Around}{E:Value->Shared->Prop}{Q:Unit->Shared->Prop}(F:Fly X pins σ H' ea C s')(k:∀s2,Fly X pins σ H' ea C s2->Q () s2):wpAny M A (setFlight (.ref ea) none) Q E s':=by
 obtain⟨a0,B,H,s,I,ho,hg,u,hok,fl,hB,hBk⟩:=F
 exact lands_againW fl λh₅ hheld hsm=>k _ (Fly.step (s':=s') I ho hg u hok hB hBk hsm fl.2.2.1 hheld)
abbrev Cx.mkd(X:Cx)(ea:Addr):Cx:={X with A:=X.A.mark (some (.ref ea)),calm:=false,xe:=λ_ _=>False}
theorem Inv.mkd(I:Inv X pins σ H s)(ea:Addr):Inv (X.mkd ea) pins σ H s:=
 ⟨⟨I.ok.mod,I.ok.kind,I.ok.glob,I.ok.blt,I.ok.above,I.ok.inj,I.ok.has,I.ok.cab,(λz=>nomatch z),I.ok.frames,I.ok.stk,I.ok.exf,I.ok.bs,I.ok.bsz,I.ok.noex,I.ok.exfs,I.ok.funs,I.ok.frf⟩,I.os,I.bare,I.base,I.loc,I.cell,I.free,I.freeC,I.pin,I.hok,I.len⟩
theorem Inv.unmkd(ok:X.Ok)(I:Inv (X.mkd ea) pins σ H s):Inv X pins σ H s:=⟨ok,I.os,I.bare,I.base,I.loc,I.cell,I.free,I.freeC,I.pin,I.hok,I.len⟩
end
structure Clause (K:PySem.W.Frag) (W:Addr):Prop where
 nt:PySem.W.instIn K (.ref W) (.type "tuple")=some false
 cl:PySem.W.hasDictIn K W=true
 ex:PySem.W.subIn K (.ref W) (.type "BaseException")=some true
theorem jiw{M:Model}{A:Around}{E:Value->Shared->Prop}{K:PySem.W.Frag}{s:Shared}{ea C W:Addr}{oe:Obj}{b:Bool}{Q:Bool->Shared->Prop}(k:K.In s.heap)(c:Clause K W)(he:s.heap.get? ea=some oe)(hc:oe.cls= .ref C)
  (hs:PySem.W.subIn K (.ref C) (.ref W)=some b) (h:Q b s):wpAny M A (excMatches (.ref ea) (.ref W)) Q E s:=by
 obtain⟨hh,g,d,tk,os⟩:=s
 have k':K.In hh:=k
 have L1:PySem.W.Looks M hh (isInstance (.ref W) (.type "tuple")) false:=PySem.W.looks_instIn k' c.nt
 have L2:PySem.W.Looks M hh (isType (.ref W)) true:=by
  have z0:(PySem.W.clsIn K W).isSome=true:=by obtain⟨cd,hc,_⟩:=PySem.W.any_some c.cl;rw[hc];rfl
  unfold PySem.W.clsIn at z0
  split at z0
  ·rename_i c' d' cd' sl' ho
   intro A' Q' E' s' kk q
   unfold isType loadHead
   exact wpAny_bind (wpAny_loadPart (kk _ _ (k' _ _ ho)) (wpAny_pure q))
  ·cases z0
 have L3:PySem.W.Looks M hh (isSubtype (.ref W) (.type "BaseException")) true:=PySem.W.looks_subIn k' c.ex
 have L4:PySem.W.Looks M hh (isSubtype (.ref C) (.ref W)) b:=PySem.W.looks_subIn k' hs
 have L5:PySem.W.Looks M hh (typeOf (.ref ea)) (.ref C):=hc▸(PySem.W.Looks.ld (h:=hh) he).andThen .now
 unfold excMatches isExcClass
 repeat (first | (with_reducible refine L1.at ?_) | (with_reducible refine L2.at ?_) | (with_reducible refine L3.at ?_) | (with_reducible refine L4.at ?_) | (with_reducible refine L5.at ?_) | wp_step)
 cases b<;>(wp_walk;exact h)
section
variable {X : Cx}
def PH(X:Cx)(hs:List ExceptHandler)(t:Addr->TS):Prop:=
 ∀(pins:List (Addr×Obj)) (s:Shared) (σ:St) (H:Hp) (ea C:Addr) (D:Ends),Fly X pins σ H ea C s->t C D σ H->wpAny (model X.prog X.w) X.A (handleBy (.ref ea) X.env hs) (SP X pins D) X.xe s
def hNil:Addr->TS:=λ_ _ _ _=>False
theorem ph_nil:PH X [] hNil:=λ_ _ _ _ _ _ _ _ h=>h.elim
def jr0(K:PySem.W.Frag)(W:Addr)(th:TS)(rest:Addr->TS):Addr->TS:=λC D σ H=>
 ∃b,PySem.W.subIn K (.ref C) (.ref W)=some b /\ if b=true then th D σ H else rest C D σ H
theorem SP.unmkd{pins:List (Addr×Obj)}{ea:Addr}{D:Ends}{f:Flow}{s':Shared}(ok:X.Ok)(h:SP (X.mkd ea) pins D f s'):SP X pins D f s':=by
 cases f with
 | next=>obtain⟨σ',H',I,q⟩:=h;exact⟨σ',H',I.unmkd ok,q⟩
 | brk=>obtain⟨σ',H',I,q⟩:=h;exact⟨σ',H',I.unmkd ok,q⟩
 | cont=>obtain⟨σ',H',I,q⟩:=h;exact⟨σ',H',I.unmkd ok,q⟩
 | ret u=>obtain⟨v,σ',H',I,r,q⟩:=h;exact⟨v,σ',H',I.unmkd ok,r,q⟩
theorem jv1{y:Str}{W:Addr}{np pos:Pos}{b₀:Stmt}{suite:List Stmt}{rest:List ExceptHandler}{th:TS}{tr:Addr->TS}
  (hg:Gl X y) (hm:X.mg y=some (.ref W)) (hW:Clause X.K W) (hb:∀ea,PSs (X.mkd ea) (b₀::suite) th) (hr:PH X rest tr) (hd:(y==("__debug__":Str))=false:=by decide):
  PH X (.ExceptHandler (some (.Name y np)) none (b₀::suite) pos::rest) (jr0 X.K W th tr):=by
 intro pins s σ H ea C D F h
 obtain⟨b,hs,h⟩:=h
 obtain⟨oe,he,hc⟩:=F.there
 have I:=F.inv
 refine wpAny_handleBy_cons (codeAny_handlers_test (jf6 (X:=X.mkd ea) (I.mkd ea) hg hm (jiw I.kIn hW he hc hs ?_) hd)) (by intro q;cases q)
 cases b with
 | false=>exact hr pins s σ H ea C D F h
 | true=>
  refine codeAny_handlers_suite (F.again λs2 F2=> ?_)
  exact wpAny_mono (hb ea pins s2 _ _ D (F2.inv.mkd ea) h) (λf s4 q=>SP.unmkd I.ok q) λ_ _ z=>False.elim z
def PSX(X:Cx)(st:Stmt)(t:FK->TS):Prop:=
 ∀(pins:List (Addr×Obj)) (s:Shared) (σ:St) (H:Hp) (D:Ends) (F:FK),Inv X pins σ H s->t F D σ H->wpAny (model X.prog X.w) X.A (exec st X.env) (SP X pins D) (λe s'=>∃σ',XP X pins σ' (F σ') e s') s
def PSXs(X:Cx)(st:List Stmt)(t:FK->TS):Prop:=
 ∀(pins:List (Addr×Obj)) (s:Shared) (σ:St) (H:Hp) (D:Ends) (F:FK),Inv X pins σ H s->t F D σ H->wpAny (model X.prog X.w) X.A (execs st X.env) (SP X pins D) (λe s'=>∃σ',XP X pins σ' (F σ') e s') s
def PEX(X:Cx)(e:Expr)(t:(Addr->Hp->Prop)->TE):Prop:=
 ∀(pins:List (Addr×Obj)) (s:Shared) (σ:St) (H:Hp) (Q:VK) (F:Addr->Hp->Prop),Inv X pins σ H s->t F σ H Q->wpAny (model X.prog X.w) X.A (eval e X.env) (EP X pins σ Q) (XP X pins σ F) s
def FE(F:Addr->Hp->Prop):XK:=λc _ H=>∃C,c= .ref C /\ F C H
theorem juu{k:Nat}{f:Addr}{fd:FuncData}{ps:List Str}{sp:Sp}{dvs:List V}{ds:List Value}{pins:List (Addr×Obj)}{σ:St}{H:Hp}{s:Shared}{Q:VK}{us:List Value}{vs:List V}{Fx:Addr->Hp->Prop}
  (F:FnOk X.prog X.w X.K X.mg X.base (CXE X.prog X.w) k f fd ps sp) (hr:Room k X.A) (hb:je6 X.K fd ps ds) (hd:Vals dvs ds)
  (I:Inv X pins σ H s) (r:Vals vs us) (h:sp (vs++dvs) H Q (FE Fx)):wpAny (model X.prog X.w) X.A (call (.ref f) us) (EP X pins σ Q) (XP X pins σ Fx) s:=by
 have r2:Vals (vs++dvs) (us++ds):=r.append hd
 have hl:(us++ds).length=ps.length:=by rw[<-r2.length];exact F.len _ _ _ _ h
 refine wpAny_call (codeAny_mono (F.run X.A X.stack s H ⟨us,[]⟩ (us++ds) (vs++dvs) Q (FE Fx) hr I.env0 (hb s us I.kIn hl) r2 h) λr s' hq=> ?_)
 cases r with
 | error e=>
  obtain⟨ea,C,a0,B,H',rfl,hos,hg,u,hok,fl,hB,hBk,C',hC,hE⟩:=hq
  cases hC
  exact⟨ea,C,H',rfl,⟨a0,B,H,s,I,hos,hg,u,hok,fl,hB,hBk⟩,hE⟩
 | ok fl=>
  cases fl with
  | ret u=>exact I.after hq
  | next=>exact False.elim hq
  | brk=>exact False.elim hq
  | cont=>exact False.elim hq
theorem nxa{α:Type}{M:Model}{A:Around}{t:Sem α}{Q Q':α->Shared->Prop}{E:Value->Shared->Prop}{s:Shared}(h:wpAny M A t Q (λ_ _=>False) s)(hQ:∀a s,Q a s->Q' a s):wpAny M A t Q' E s:=wpAny_mono h hQ λ_ _ z=>False.elim z
def jtm(t:(Addr->Hp->Prop)->TE):FK->TS:=λF D σ H=>t (F σ) σ H λ_ H1=>D.nx σ H1
theorem js4{e:Expr}{t:(Addr->Hp->Prop)->TE}{pos:Pos}(he:PEX X e t)(hs:swapsWith e none pos.line X.env=pure false:=by rfl):PSX X (.Expr e pos) (jtm t):=by
 intro pins s σ H D F I h
 exact wpAny_Expr_any (wpAny_mono (he pins s σ H _ _ I h) (λv s1 ⟨x,H1,I1,r1,q1⟩=>⟨σ,H1,I1,q1⟩) λ_ _ z=>⟨σ,z⟩) I.quiet hs
def sxSeq(t u:FK->TS):FK->TS:=λF D σ H=>t F {D with nx:=u F D} σ H
theorem jr5:PSXs X [] (λ_=>jrt):=λ_ _ σ H _ _ I h=>wpAny_execs_nil ⟨σ,H,I,h⟩
theorem jqn{st:Stmt}{rest:List Stmt}{t u:FK->TS}(h1:PSX X st t)(h2:PSXs X rest u):PSXs X (st::rest) (sxSeq t u):=by
 intro pins s σ H D F I h
 refine wpAny_execs_cons (thn (h1 pins s σ H {D with nx:=u F D} F I h) λf s1 q=> ?_)
 cases f with
 | next=>obtain⟨σ',H',I',q⟩:=q;exact h2 pins s1 σ' H' D F I' q
 | brk=>exact q
 | cont=>exact q
 | ret u=>exact q
def tTry(tb:FK->TS)(th:Addr->TS):TS:=λD σ H=>tb (λσ1 C H1=>th C D σ1 H1) D σ H
theorem ps_try{body:List Stmt}{h₀:ExceptHandler}{hs:List ExceptHandler}{pos:Pos}{tb:FK->TS}{th:Addr->TS}(hst:X.stack=X.env::X.outer)(hfr:X.env.frame=some X.env.locals)(hb:PSXs X body tb)(hh:PH X (h₀::hs) th):
  PS X (.Try body (h₀::hs) [] [] pos) (tTry tb th):=by
 intro pins s σ H D I h
 refine wpAny_Try_except (wpAny_mono (hb pins s σ H D _ I h) (λf s1 q=> ?_) λe s1 q=> ?_)
 ·cases f with
  | next=>exact wpAny_execs_nil q
  | brk=>exact q
  | cont=>exact q
  | ret u=>exact q
 ·obtain⟨σ',ea,C,H',rfl,F,q⟩:=q
  exact F.lands hst hfr I.ok.frames λs2 F2=>hh pins s2 σ' H' ea C D F2 q
end
section
variable {X : Cx}
def uMulS:RU:=λx y H Q=>match x,y with
 | .int i,.int j=>CMul i j /\ Q (.int (i*j)) H
 | .ref a,.int k=>rRep (.ref a) (.int k) H Q
 | .str z,.int n=>n.natAbs<=16777216 /\ z.length*n.toNat<=16777216 /\ Q (.str (Txt.mul z n)) H
 | _,_=>False
theorem jgx:OpR X (binaryOp .Mult) uMulS:=by
 intro pins s σ H x y v u Q I rx ry h
 cases x<;>cases y<;>first | exact h.elim | skip
 ·exact op_mul pins s σ H _ _ v u Q I rx ry ⟨_,_,rfl,rfl,h.1,h.2⟩
 ·obtain⟨h1,h2,q⟩:=h
  obtain⟨t,rfl⟩:=rx
  obtain⟨t',rfl⟩:=ry
  rename_i z n
  refine SB.mul ?_ λt' k=>⟨.str _,H,I.tok k,⟨t',rfl⟩,q⟩
  have hp:¬n<1->z.length*n.toNat<=16777216:=λ_=>h2
  refine⟨?_,λh1' _=> ?_,λh1' _=> ?_⟩
  ·have a1:¬n< -(2^63:Int):=by omega
   have a2:¬n>=(2^63:Int):=by omega
   rw[decide_eq_false a1,decide_eq_false a2];rfl
  ·have hpos:0<n:=by omega
   have e:((z.length*n.toNat:Nat):Int)=(z.length:Int)*n:=by
    rw[Int.natCast_mul,Int.toNat_of_nonneg (by omega)]
   have h3:(z.length:Int)*n<=2^63 - 1:=by rw[<-e];omega
   have h4:(z.length:Int)<=(2^63 - 1) / n:=(Int.le_ediv_iff_mul_le hpos).mpr h3
   omega
  ·exact short24 h2
 ·exact op_rep pins s σ H _ _ v u Q I rx ry h
theorem sl_txt:SlR X rSlS:=by
 intro pins s σ H x v vl vu lo hi sl Q I rx hs pl pu h
 obtain⟨z,rfl,hz,q⟩:=h
 obtain⟨t,rfl⟩:=rx
 refine⟨"str",_,F.slot_str_getitem.lookup,typeIs_str _ _ _,?_⟩
 obtain⟨l,rfl,rfl⟩:∃l:Option (Int×Tok),vl=partValue l /\ lo=l.map (·.1):=by
  cases pl with
  | none=>exact⟨none,rfl,rfl⟩
  | int i t=>exact⟨some (i,t),rfl,rfl⟩
 obtain⟨u,rfl,rfl⟩:∃l:Option (Int×Tok),vu=partValue l /\ hi=l.map (·.1):=by
  cases pu with
  | none=>exact⟨none,rfl,rfl⟩
  | int i t=>exact⟨some (i,t),rfl,rfl⟩
 exact wpAny_getItem_str_slice (l:=l) (u:=u) (st:=none) hs rfl (post_val_or_str ⟨Nat.le_trans (Txt.slice_le z _ _) hz,λt' k=>⟨.str _,H,I.tok k,⟨t',rfl⟩,q⟩⟩)
def uSlS(K:W.Frag):V->Option Int->Option Int->Hp->VK->Prop:=λx lo hi H Q=>uSl K x lo hi H Q \/ rSlS x lo hi H Q
theorem sl_S:SlR X (uSlS X.K):=SlR.or sl_U sl_txt
end
def Ite(K:W.Frag)(a:Addr):It:=
 ⟨λi H=>∃xs x,SqL K H a xs /\ xs[i]?=some x,λi H v H'=>∃p x,H p=none /\ (∀xs,SqL K H a xs->xs[i]?=some x) /\ v= .ref p /\ H'=upd H p (.tup [.int i,x]),λi H=>∃xs,SqL K H a xs /\ xs.length<=i⟩
theorem jpn{P:Program}{w:World}{K:W.Frag}{elts:List Expr}{x1}{tpos:Pos}(a en it:Addr)(hne:en≠it):Turn P w K (.Tuple elts x1 tpos) (Ite K a) [en,it] en (λi h=>∃old,IsEnum h en it ((i:Nat):Int) old /\ h.IsListIter it a i) where
 mem:=by simp
 obj:=λi h st b hb=>by
  obtain⟨old,h1,h2⟩:=st
  rcases List.mem_cons.mp hb with rfl | hb
  ·exact⟨_,h1,λv z=>by
    have z':Data.fields _=Data.cell v:=z
    cases z'⟩
  ·have e:b=it:=by simpa using hb
   subst e
   obtain⟨o,e,c,d⟩:=h2
   exact⟨o,e,λv z=>by rw[d] at z;cases z⟩
 keep:=λi h h' st k=>by
  obtain⟨old,h1,h2⟩:=st
  exact⟨old,k en (by simp) _ h1,h2.at λo e=>k it (by simp) o e⟩
 item:=by
  intro X hP hw hK hc i pins s σ H E I hf st hg
  subst hP hw hK
  obtain⟨xs,x,hq,hx⟩:=hg
  obtain⟨its,rv,p,hz⟩:=I.list hq
  obtain⟨u,hu,ru⟩:=rv.get hx
  obtain⟨old,he,hit⟩:=st
  have g0:=hf en (by simp)
  have f0:=hf it (by simp)
  refine wpAny_pyNext_enum_item he hit p.isList (x:=u) (by simpa using hu) hne λh₁ heo hit₁ ht₁ hz₁ hk₁=> ?_
  refine⟨.ref s.heap.objs.size,rfl,wpAny_letOwnedTupleGo_enum heo λh₂ he₂ hs₂=> ?_⟩
  replace hs₂:Heap.SameBut en h₁ h₂:=hs₂
  have fr:H s.heap.objs.size=none:=I.hok.fresh (Nat.le_refl _)
  have kp:∀b o,b≠en->b≠it->s.heap.get? b=some o->h₂.get? b=some o:=λb o n1 n2 e=>hs₂.extBut b o n1 (hk₁ b o n1 n2 e)
  have enlt:en<s.heap.objs.size:=Heap.lt_size he
  have tup:h₂.get? s.heap.objs.size=some {cls:= .type "tuple",data:= .seq #[.int i s.toks,u]}:=hs₂.extBut _ _ (Nat.ne_of_gt enlt) ht₁
  have tr:∀{b u},H b=some u->b≠en /\ b≠it:=fun{b u} e=>⟨λz=>(by rw[z,g0.1] at e;cases e),λz=>(by rw[z,f0.1] at e;cases e)⟩
  have hok:HOk X.prog X.w (upd H s.heap.objs.size (.tup [.int i,x])) h₂:=by
   intro b o e
   by_cases hb:b=s.heap.objs.size
   ·subst hb
    rw[jax] at e;cases e
    exact⟨(show 2<=sizeLine by decide),[.int i s.toks,u],.cons ⟨_,rfl⟩ (.cons ru .nil),⟨_,tup,rfl,_,rfl⟩⟩
   ·rw[jad hb] at e
    refine(I.hok b o e).stay (λc v hcc q=> ?_) (λc q=>by rw[jad (jbf q fr)];exact q) λc ys q=>by rw[jad (jbf q fr)];exact q
    have t:c≠en /\ c≠it:=by
     rcases hcc with rfl | hcc
     ·exact tr e
     ·exact tr hcc
    exact kp c v t.1 t.2 q
  have un:Un (frs X.stack) [en,it] H (upd H s.heap.objs.size (.tup [.int i,x])) s.heap h₂:=by
   have nx:∀{b:Addr},b∉[en,it]->b≠en /\ b≠it:=fun{b} hb=>⟨λz=>hb (by simp[z]),λz=>hb (by simp[z])⟩
   refine⟨λb o e _ _ hb=>kp b o (nx hb).1 (nx hb).2 e,λb o e _ _ hb=>⟨o.slots,kp b o (nx hb).1 (nx hb).2 e⟩,λb o e n _=> ?_,λb o e hb=>⟨o,kp b o (nx hb).1 (nx hb).2 e⟩,λb ys e=> ?_,λb o v e=> ?_,λb ps e=>⟨#[],?_⟩⟩
   ·rw[jad (Nat.ne_of_lt (Heap.lt_size e))];exact n
   ·rw[jad (jbf e fr)];exact e
   ·rw[jad (jbf e fr)];exact e
   ·rw[jad (jbf e fr)];simpa using e
  have I2:Inv X pins σ (upd H s.heap.objs.size (.tup [.int i,x])) {s with heap:=h₂,toks:=s.toks+1}:=
   I.call' (s':={s with heap:=h₂,toks:=s.toks+1}) (ch:=[en,it]) rfl un hok I.bare λb hb=>⟨(hf b hb).2.2.2.1,(hf b hb).2.1,(hf b hb).2.2.2.2.1,(hf b hb).2.2.2.2.2⟩
  refine⟨.ref s.heap.objs.size,_,I2,rfl,⟨s.heap.objs.size,x,fr,λys hy=>by rw[I.list_inj hy hq];exact hx,rfl,rfl⟩,⟨u,?_,?_⟩,λb hb=> ?_⟩
  ·have:((i+1:Nat):Int)=(i:Int)+1:=by push_cast;rfl
   rw[this];exact he₂
  ·exact hit₁.extBut hs₂.extBut (Ne.symm hne)
  ·have:b<s.heap.objs.size:=by
    rcases List.mem_cons.mp hb with rfl | hb
    ·exact enlt
    ·have e:b=it:=by simpa using hb
     subst e
     obtain⟨o,e,_⟩:=hit
     exact Heap.lt_size e
   rw[jad (Nat.ne_of_lt this)];exact(hf b hb).1
 done:=by
  intro X hP hw hK hc i pins s σ H E I hf st hg
  subst hP hw hK
  obtain⟨xs,hq,hx⟩:=hg
  obtain⟨its,rv,p,hz⟩:=I.list hq
  obtain⟨f0,f1,f2,f3,f4,f5⟩:=hf it (by simp)
  have hl:=rv.length
  obtain⟨old,he,hit⟩:=st
  exact wpAny_pyNext_enum_end (I.ok.hd hc) he hit p.isList (by simp;omega) λh' eb=>⟨rfl,I.turned (t':=s.toks) (λb o hb e=>eb b o hb e) f0 f1 f3 f4 f5⟩
 self:=λ_ _ _ _ _ st h=>by
  obtain⟨old,he,_⟩:=st
  exact wpAny_pyIter_enum he h
theorem jip:bootBuiltins "enumerate"=some (.type "enumerate"):=by decide+kernel
def jrd(K:W.Frag)(ta:TA):TI:=λσ H R=>ta σ H λvs H1=>∃a xs,vs=[.ref a] /\ SqL K H1 a xs /\ R (Ite K a) H1
theorem jvj{X:Cx}{elts:List Expr}{x1}{tpos:Pos}{e:Expr}{ta:TA}{p pos:Pos}(hg:Gl X "enumerate")(hm:X.mg "enumerate"=none)(ha:PA X [e] ta)
  (hs:starEach [e] X.env=[(false,eval e X.env)]:=by rfl):PI X (.Tuple elts x1 tpos) (.Call (.Name "enumerate" p) [e] [] pos) (jrd X.K ta):=by
 intro pins s σ H R I h
 refine Call_ (jhg I hg hm jip (PyProof.Rows.callWith_type1 (thn (ha pos pins s σ H _ I h) λus s1 ⟨vs,H1,I1,r1,q1⟩=> ?_) hs rfl))
 obtain⟨a,xs,rfl,hq,q⟩:=q1
 cases r1 with
 | cons r rr=>
  cases rr
  cases r
  obtain⟨its,rv,pl,hz⟩:=I1.list hq
  refine call_enumerate_list pl.isList λh' he hit hsz kp=>wpAny_pyIter_enum (s:={s1 with heap:=h'}) he ?_
  have I2:Inv X pins σ H1 {s1 with heap:=h'}:=I1.kept (t':=s1.toks) kp
  refine⟨s1.heap.objs.size+1,[s1.heap.objs.size+1,s1.heap.objs.size],_,_,H1,rfl,I2,jpn a _ _ (Nat.succ_ne_self _),⟨_,he,hit⟩,λb hb=> ?_,q⟩
  have hb':s1.heap.objs.size<=b:=by
   rcases List.mem_cons.mp hb with rfl | hb
   ·omega
   ·have e:b=s1.heap.objs.size:=by simpa using hb
    exact Nat.le_of_eq e.symm
  exact I1.fpOk hb' (I1.hok.fresh hb')
theorem jsw{X:Cx}{K:W.Frag}{tg e:Expr}{ta:TA}(k:X.K=K)(h:PI X tg e (jrd X.K ta)):PI X tg e (jrd K ta):=by subst k;exact h
section
variable {prog : Program} {w : World} {A : Around} {E : Value -> Shared -> Prop}
theorem jix{it l:Addr}{items:Array Value}(hne:l≠it):∀(n i:Nat) (s:Shared) (Q:List Value->Shared->Prop),s.heap.IsListIter it l i->s.heap.IsList l items->i+n<=items.size->
  (∀h',h'.IsListIter it l (i+n)->Heap.SameBut it s.heap h'->Q ((items.toList.drop i).take n) {s with heap:=h'})->wpAny (model prog w) A (draw (.ref it) n) Q E s
 | 0,i,s,Q,hit,_,_,hQ=>by
  show wpAny _ _ (pure []) Q E s
  exact wpAny_pure (by simpa using hQ s.heap hit (Heap.SameBut.refl ..))
 | n+1,i,s,Q,hit,hl,hle,hQ=>by
  have hlt:i<items.size:=by omega
  show wpAny _ _ (pyNext (.ref it) >>= _) Q E s
  refine wpAny_bind (wpAny_pyNext_list_item hit hl (x:=items[i]) (by simp[hlt]) λh₁ hit₁ hs₁=> ?_)
  refine wpAny_bind (wpAny_holding (jix hne n (i+1) _ _ hit₁ (hl.extBut hs₁.extBut hne) (by omega) λh₂ hit₂ hs₂=>wpAny_pure ?_))
  have hd:items.toList.drop i=items[i]::items.toList.drop (i+1):=by simp[List.drop_eq_getElem_cons,hlt]
  have:=hQ h₂ (by rw[show i+(n+1)=i+1+n by omega];exact hit₂) (hs₁.trans hs₂)
  rw[hd,List.take_succ_cons] at this
  exact this
theorem jft{s:Shared}{l:Addr}{items:Array Value}{Q:List Value->Shared->Prop}(hh:A.handled=none)(hl:s.heap.IsList l items)
  (hQ:∀h',Heap.ExtBut s.heap.objs.size s.heap h'->Q items.toList {s with heap:=h'}):wpAny (model prog w) A (unpackItems (.ref l) items.size none) Q E s:=by
 have hlt:l≠s.heap.objs.size:=by obtain⟨o,ho,_⟩:=hl;exact Nat.ne_of_lt (Heap.lt_size ho)
 unfold unpackItems
 refine wpAny_bind ?_
 ·unfold notIterableAtAll
  refine wpAny_bind (wpAny_specialOf hl.typeIs slot_list_iter.lookup ?_)
  refine wpAny_pure ?_
  simp only[Bool.false_eq_true,if_false]
  refine wpAny_bind (wpAny_holding (wpAny_pyIter_list hl ?_))
  refine wpAny_bind (wpAny_holding (jix hlt items.size 0 _ _ ⟨_,Heap.get?_push_size _ rfl,rfl,rfl⟩ (hl.push _) (by omega) λh₁ hit₁ hs₁=> ?_))
  have hall:List.take items.size (List.drop 0 items.toList)=items.toList:=by
   rw[List.drop_zero];exact List.take_of_length_le (by simp)
  rw[hall]
  rw[if_neg (by simp)]
  have hl₁:h₁.IsList l items:=(hl.push _).extBut hs₁.extBut hlt
  refine wpAny_bind (wpAny_holding (wpAny_pyNext_list_end hh hit₁ hl₁ (by simp) λh₂ he₂=> ?_))
  simp only[Option.isSome_none,Bool.false_eq_true,if_false]
  refine wpAny_pure (hQ h₂ λb o hb e=>he₂ b o hb (hs₁.extBut b o hb (Heap.get?_push_of_some _ e)))
end
def gSeq(K:W.Frag)(n:Nat)(t:TGs):TG:=λv σ H Q=>∃a xs,v= .ref a /\ (SqT K H a xs \/ SqL K H a xs) /\ xs.length=n /\ t xs σ H Q
theorem pg_seq{X:Cx}{pos:Pos}{es:List Expr}{k:Nat}{t:TGs}{n:Nat}(hc:X.calm=true)(h:PGs X es t)
  (hn:(assignEach es X.env).length=n:=by rfl) (hst:(assignEach es X.env).findIdx? (·.1)=none:=by rfl):PG X (.Tuple es k pos) (gSeq X.K n t):=by
 intro pins s σ H v u Q I r hw
 obtain⟨a,xs,e1,hq,hl,hw⟩:=hw
 subst e1
 rcases hq with hq | hq
 ·exact pg_tup (n:=n) hc h hn hst pins s σ H (.ref a) u Q I r ⟨a,xs,rfl,hq,hl,hw⟩
 ·cases r
  obtain⟨its,rv,p,hz⟩:=I.list hq
  rw[PyProof.Rows.assign_Tuple]
  refine wpAny_bind (wpAny_standAt ?_)
  unfold unpack
  have hsz:(assignEach es X.env).length=its.toArray.size:=by simp[hn,<-hl,rv.length]
  rw[hsz,hst]
  refine wpAny_bind (wpAny_holding (jft (I.ok.hd hc) p.isList λh' hx=> ?_))
  have I1:Inv X pins σ H {s with heap:=h'}:=I.kept (t':=s.toks) λb o e=>hx b o (Nat.ne_of_lt (Heap.lt_size e)) e
  exact h pins _ σ H xs _ Q I1 (by simpa using rv) hw
theorem jwh{X:Cx}{K:W.Frag}{tg:Expr}{n:Nat}{t:TGs}(k:X.K=K)(h:PG X tg (gSeq X.K n t)):PG X tg (gSeq K n t):=by subst k;exact h
section
variable {X : Cx}
theorem op_isB:OpR X (compareOp .Is) (λx y H Q=>(y= .non /\ Q (.bl (decide (x= .non))) H) \/ ∃a b,x= .bl a /\ y= .bl b /\ Q (.bl (a==b)) H):=by
 intro pins s σ H x y v u Q I rx ry h
 rcases h with h | ⟨a,b,rfl,rfl,q⟩
 ·exact op_isN pins s σ H x y v u Q I rx ry h
 ·cases rx;cases ry
  refine PySem.wpAny_is_plain (by rfl) (jba I q ?_)
  cases a<;>cases b<;>rfl
end
def GOks(nt:Nat)(g:TGs):Prop:=∀xs σ H Q (σ0:St),(σ.length=σ0.length /\ ∀i,nt<=i->σ[i]?=σ0[i]?)->g xs σ H Q->g xs σ H λσ' H'=>Q σ' H' /\ σ'.length=σ0.length /\ ∀i,nt<=i->σ'[i]?=σ0[i]?
theorem jsu{nt:Nat}:GOks nt gNil:=λxs σ H Q σ0 k ⟨e,q⟩=>⟨e,q,k⟩
theorem jjv{nt i:Nat}{u:TGs}(h:i<nt)(r:GOks nt u):GOks nt (juz (jab i) u):=λxs σ H Q σ0 k ⟨v,r',e,q⟩=>
 ⟨v,r',e,r r' _ H Q σ0 ⟨by simp[k.1],λj hj=>by rw[List.getElem?_set_ne (by omega)];exact k.2 j hj⟩ q⟩
theorem jvp{nt n:Nat}{K:W.Frag}{u:TGs}(r:GOks nt u):GOk nt (gSeq K n u):=λx σ H Q ⟨a,xs,e,hq,hl,q⟩=>⟨a,xs,e,hq,hl,r xs σ H Q σ ⟨rfl,λ_ _=>rfl⟩ q⟩
theorem jaw{X:Cx}{K:W.Frag}{e:Expr}{ta:TE}{f:Str}(k:X.K=K)(h:PE X e (tFld X.K ta f)):PE X e (tFld K ta f):=by subst k;exact h
theorem jbv{X:Cx}{K:W.Frag}{e:Stmt}{ta tv:TE}{f:Str}(k:X.K=K)(h:PS X e (sFld X.K ta tv f)):PS X e (sFld K ta tv f):=by subst k;exact h
theorem pe_mdK{X:Cx}{P:Program}{w:World}{K:W.Frag}{mg:Str->Option Value}{base:Heap}{CX:CXT}{k:Nat}{m:Str}{E:XK}{e:Expr}{ta:TE}{t:TA}(h1:X.prog=P)(h2:X.w=w)(h3:X.K=K)(h4:X.mg=mg)(h5:X.base=base)
  (h:PE X e (jfk X.prog X.w X.K X.mg X.base CX k m E ta t)):PE X e (jfk P w K mg base CX k m E ta t):=by subst h1 h2 h3 h4 h5;exact h
section
variable {X : Cx}
def rBits:V->List V->Hp->VK->Prop:=λx xs H Q=>∃i:Int,x= .int i /\ xs=[] /\ Q (.int (Builtin.Int.intBits i:Nat)) H
theorem jwp:MtR X "int.bit_length" rBits:=by
 intro pins s σ H x xs v us Q I rx rv h
 obtain⟨i,rfl,rfl,q⟩:=h
 obtain⟨t,rfl⟩:=rx
 cases rv
 refine call_gives PySem.F.slot_int_bit_length (typeIs_int _ _ _) PySem.F.entry_int_bit_length (PySem.F.args_int_bit_length_1 _) (AutoIntG2.int_bit_length_int_0 i t) ?_
 exact⟨.int _,H,I.tok _,⟨_,rfl⟩,q⟩
end
section
variable {X : Cx} {k : Nat} {m : Str} {p pos apos : Pos} {e o : Expr} {es : List Expr} {ta : TE} {t : TA}
def jln(P:Program)(w:World)(K:W.Frag)(mg:Str->Option Value)(base:Heap)(k:Nat)(m:Str)(ta:TE)(t:TA):(Addr->Hp->Prop)->TE:=λF=>jfk P w K mg base (CXE P w) k m (FE F) ta t
theorem pex_md{pl:Sem Bool}(he:PE X.nox o ta)(hr:Room k X.A)(ha:PA X.nox (e::es) t)
  (hst:starEach (e::es) X.env=(false,eval e X.env)::starEach es X.env:=by rfl) (hpl:(backTo pos (starEach es X.env)).any (·.1)=false:=by rfl)
  (ht:eval (.Call (.Attribute o m apos) (e::es) [] pos) X.env=(do
   let ov<-eval o X.env
   standAt apos.atName
   let (f,first)<-holding [ov] (getMethod ov m pl)
   callWith pos f first (backTo pos (starEach (e::es) X.env)) (backToKw pos (keywordEach [] X.env))):=by rfl):
  PEX X (.Call (.Attribute o m apos) (e::es) [] pos) (jln X.prog X.w X.K X.mg X.base k m ta t):=by
 intro pins s σ H Q Fx I h
 refine W.methodCall_KW (pl:=pl) (nxa (he pins s σ H _ (I.wish _) h) λu s1 ⟨x,H1,I1,rx,a,C,dx,fs,sp,ex,ea,c,⟨f,fd,ps,hm,F,hb⟩,l,q⟩=> ?_) ht
 subst ex
 obtain rfl:u=Value.ref a:=rx
 refine jf4 I1.unwish ea c hm l ?_
 refine W.callWith_K (first:=[.ref a]) (h₀:=X.base) I.ok.mod.kin hm.kp (nxa (ha pos pins s1 σ H1 _ I1 q) λus s2 ⟨vs,H2,I2,r,q2⟩=>⟨I2.kIn,?_⟩) hst hpl
 exact juu (us:= .ref a::us) (vs:= .ref a::vs) (dvs:=[]) (ds:=[]) F hr hb .nil I2.unwish (.cons rfl r) (by simpa using q2)
theorem jvs{P:Program}{w:World}{K:W.Frag}{mg:Str->Option Value}{base:Heap}{e:Expr}(h1:X.prog=P)(h2:X.w=w)(h3:X.K=K)(h4:X.mg=mg)(h5:X.base=base)
  (h:PEX X e (jln X.prog X.w X.K X.mg X.base k m ta t)):PEX X e (jln P w K mg base k m ta t):=by subst h1 h2 h3 h4 h5;exact h
end
def Itfz(a:Addr)(o:Obj)(kvs:List (Key×V)):It:=
 ⟨λi H=>H a=some (.frz o (.dK kvs)) /\ i<kvs.length,λi H x H'=>H'=H /\ (kvs[i]?).map (·.2)=some x,λi H=>H a=some (.frz o (.dK kvs)) /\ kvs.length<=i⟩
theorem KV.get{kvs:List (Key×V)}{vs:List (Key×Value)}(r:KV kvs vs){i:Nat}{k:Key}{u:Value}(h:vs[i]?=some (k,u)):∃x,kvs[i]?=some (k,x) /\ RelV x u:=by
 induction r generalizing i with
 | nil=>simp at h
 | @cons p q ps qs hq t ih=>
  cases i with
  | zero=>
   simp only[List.getElem?_cons_zero,Option.some.injEq] at h
   subst h
   obtain⟨h1,h2⟩:=hq
   exact⟨p.2,congrArg some (Prod.ext h1 rfl),h2⟩
  | succ i=>exact ih h
theorem jjl{prog:Program}{w:World}{h:Heap}{a:Addr}{o:Obj}{vs:List (Key×Value)}{ep:Nat}(e:h.get? a=some o)(hep:∀es x,o.data= .dict es x->x=ep)(dd:h.DictOf (jbw prog w) a vs):h.DictAt (jbw prog w) a vs ep:=by
 obtain⟨ep',hat⟩:=dd.dictAt
 obtain⟨o',es,h1,h2,h3,h4⟩:=id hat
 rw[e] at h1;cases h1
 rw[hep es ep' h3] at hat
 exact hat
theorem jpt{P:Program}{w:World}{K:W.Frag}{tg:Expr}(a it:Addr)(o:Obj)(kvs:List (Key×V))(ep:Nat)(hep:∀es x,o.data= .dict es x->x=ep):Turn P w K tg (Itfz a o kvs) [it] it (λi h=>h.IsValIter it a i kvs.length ep) where
 mem:=by simp
 obj:=λi h st b hb=>by
  have e:b=it:=by simpa using hb
  subst e
  obtain⟨o,e,c,d⟩:=st
  exact⟨o,e,λv z=>by rw[d] at z;cases z⟩
 keep:=λi h h' st k=>st.at λo e=>k it (by simp) o e
 item:=by
  intro X hP hw hK hc i pins s σ H E I hf st hg
  subst hP hw hK
  obtain⟨hq,hi⟩:=hg
  obtain⟨f0,f1,f2,f3,f4,f5⟩:=hf it (by simp)
  obtain⟨eo,z,hd,vs,rel,dd⟩:=(show jc6 X.prog X.w H s.heap a (.frz o (.dK kvs)) from I.hok a _ hq)
  have hl:=rel.length
  have hat:=jjl eo hep dd
  have hlt:i<vs.length:=by omega
  obtain⟨⟨k,u⟩,hx⟩:∃p,vs[i]?=some p:=⟨vs[i],by simp[hlt]⟩
  obtain⟨x,hkx,rx⟩:=rel.get hx
  rw[hl] at st
  refine wpAny_pyNext_values_item st hat hx λh' st' sb=> ?_
  have I1:Inv X pins σ H {s with heap:=h'}:=I.turned (t':=s.toks) (λb o hb e=>(sb.2 b hb).trans e) f0 f1 f3 f4 f5
  obtain⟨o',e,c,d⟩:=id st'
  rw[<-hl] at st'
  exact⟨u,rfl,jna (s:={s with heap:=h'}) e c d (by decide) ⟨x,H,I1,rx,⟨rfl,by rw[hkx];rfl⟩,st',λb hb=>(hf b hb).1⟩⟩
 done:=by
  intro X hP hw hK hc i pins s σ H E I hf st hg
  subst hP hw hK
  obtain⟨hq,hi⟩:=hg
  obtain⟨f0,f1,f2,f3,f4,f5⟩:=hf it (by simp)
  obtain⟨eo,z,hd,vs,rel,dd⟩:=(show jc6 X.prog X.w H s.heap a (.frz o (.dK kvs)) from I.hok a _ hq)
  have hl:=rel.length
  have hat:=jjl eo hep dd
  rw[hl] at st
  exact wpAny_pyNext_values_end (I.ok.hd hc) st hat (List.getElem?_eq_none (by omega)) λh' eb=>⟨rfl,I.turned (t':=s.toks) (λb o hb e=>eb b o hb e) f0 f1 f3 f4 f5⟩
 self:=λ_ _ _ _ _ st h=>wpAny_pyIter_valiter st h
def NF(X:Cx)(a:Addr):Prop:=∀o u,X.H₀ a≠some (.frz o u)
theorem Inv.recast{X:Cx}{pins:List (Addr×Obj)}{σ:St}{H:Hp}{s:Shared}{a:Addr}{u v:HO}(I:Inv X pins σ H s)(e:H a=some u)(n:NF X a)(h1:∀xs,u≠ .tup xs)(h2:∀ps,u≠ .tbl ps)(h3:∀y,u≠ .own y)(new:jc6 X.prog X.w (upd H a v) s.heap a v):Inv X pins σ (upd H a v) s:=by
 have ne:∀b,H b=none->b≠a:=λb hb z=>by rw[z,e] at hb;cases hb
 refine⟨I.ok,I.os,I.bare,⟨I.base.keep,I.base.slot,λb ob q m x=> ?_,I.base.there,λb xs q=> ?_,λb ob w q=> ?_,λb ps q=> ?_⟩,I.loc,I.cell,?_,λx c q=> ?_,λp hp=> ?_,λb ob q=> ?_,I.len⟩
 ·have:=I.base.free b ob q m x
  rw[jad (ne b this)];exact this
 ·have:=I.base.tups b xs q
  rw[jad (λz=>by rw[z,e] at this;exact h1 xs (Option.some.inj this))];exact this
 ·have nb:b≠a:=λz=>by subst z;exact n ob w q
  rw[jad nb];exact I.base.frzs b ob w q
 ·obtain⟨more,this⟩:=I.base.tbls b ps q
  exact⟨more,by rw[jad (λz=>by rw[z,e] at this;exact h2 _ (Option.some.inj this))];exact this⟩
 ·rw[jad (ne _ I.free)];exact I.free
 ·rw[jad (ne _ (I.freeC x c q))];exact I.freeC x c q
 ·obtain⟨p1,p2,p3⟩:=I.pin p hp
  exact⟨p1,by rw[jad (ne _ p2)];exact p2,p3⟩
 ·by_cases hb:b=a
  ·subst hb;rw[jax] at q;cases q;exact new
  ·rw[jad hb] at q
   exact(I.hok b ob q).stay (λ_ _ _ r=>r) (λc r=>by rw[jad (λz=>by rw[z,e] at r;exact h3 b (Option.some.inj r))];exact r) λc xs r=>by
    rw[jad (λz=>by rw[z,e] at r;exact h1 xs (Option.some.inj r))];exact r
theorem Inv.nf{X:Cx}{pins:List (Addr×Obj)}{σ:St}{H:Hp}{s:Shared}{a:Addr}{u:HO}(I:Inv X pins σ H s)(e:H a=some u)(h:∀o w,u≠ .frz o w):NF X a:=λo w q=>by
 have:=I.base.frzs a o w q
 rw[e] at this
 exact h o w (Option.some.inj this)
theorem Inv.thaw{X:Cx}{pins:List (Addr×Obj)}{σ:St}{H:Hp}{s:Shared}{a:Addr}{o:Obj}{kvs:List (Key×V)}(I:Inv X pins σ H s)(n:NF X a)(e:H a=some (.frz o (.dK kvs))):Inv X pins σ (upd H a (.dK kvs)) s:=by
 obtain⟨_,z,hd,vs,rel,dd⟩:=(show jc6 X.prog X.w H s.heap a (.frz o (.dK kvs)) from I.hok a _ e)
 exact I.recast e n (λ_ z=>nomatch z) (λ_ z=>nomatch z) (λ_ z=>nomatch z) ⟨z,hd,vs,rel,dd⟩
def iVals(N:Addr->Prop)(te:TE):TI:=λσ H R=>te σ H λx H1=>∃a kvs,x= .ref a /\ H1 a=some (.dK kvs) /\ ∀o,o.cls= .type "dict"->N a->R (Itfz a o kvs) (upd H1 a (.frz o (.dK kvs)))
theorem jwi{X:Cx}{tg e:Expr}{te:TE}{apos cpos:Pos}(he:PE X e te)(hbase:attributeBase e "values" X.env (eval e X.env)=eval e X.env:=by rfl)(hline:(apos.endLine==cpos.line)=true:=by rfl):
  PI X tg (.Call (.Attribute e "values" apos) [] [] cpos) (iVals (NF X) te):=by
 intro pins s σ H R I h
 refine wpAny_Call_method0_late hbase hline (thn (he pins s σ H _ I h) λv s1 ⟨x,H1,I1,r1,q1⟩=> ?_)
 obtain⟨a,kvs,rfl,ea,q⟩:=q1
 cases r1
 obtain⟨z,hd,vs,rel,dd⟩:=dk_of I1.hok ea
 obtain⟨h1,h2⟩:=jqm I1 (show RelV (.ref a) (.ref a) from rfl) (T:="dict") (.inr (.inr (.inl ⟨rfl,.inl ⟨_,ea⟩⟩)))
 refine⟨"dict","dict.values",PySem.F.plainAttrs_dict,PySem.F.slot_dict_values,PySem.F.type_dict_values,h1,h2,Calls.callWith_builtin rfl (PySem.evalArgs_none ?_)⟩
 refine call_meetsIn PySem.F.slot_dict_values dd.typeIs PySem.F.entry_dict_values (PySem.F.args_dict_values_1 _) (meets_dict_values (jbw X.prog X.w) a hd) ⟨⟨vs,dd⟩,?_⟩
 obtain⟨ep,hat⟩:=dd.dictAt
 obtain⟨o,es,eo,ec,edat,_⟩:=id hat
 have kp:∀b ob,s1.heap.get? b=some ob->((s1.heap.push {cls:= .type "dict_values",data:= .fields #[.ref a]}).push {cls:= .type "dict_valueiterator",data:= .fields #[.ref a,.int 0 0,.int vs.length 0,.int ep 0]}).get? b=some ob:=λb ob e=>Heap.get?_push_of_some _ (Heap.get?_push_of_some _ e)
 have I2:Inv X pins σ H1 {s1 with heap:=(s1.heap.push {cls:= .type "dict_values",data:= .fields #[.ref a]}).push {cls:= .type "dict_valueiterator",data:= .fields #[.ref a,.int 0 0,.int vs.length 0,.int ep 0]}}:=I1.kept (t':=s1.toks) kp
 have nf:NF X a:=I1.nf ea λ_ _ z=>nomatch z
 have hok2:=I2.hok a _ ea
 have I3:=I2.recast (v:= .frz o (.dK kvs)) ea nf (λ_ z=>nomatch z) (λ_ z=>nomatch z) (λ_ z=>nomatch z) ⟨kp a o eo,hok2.1,hok2.2.1,hok2.2.2⟩
 show wpAny (model X.prog X.w) X.A (pyIter (.ref s1.heap.objs.size)) (PIE X pins σ tg R) X.xe {s1 with heap:=s1.heap.push {cls:= .type "dict_values",data:= .fields #[.ref a]}}
 refine wpAny_pyIter_values (knd:=jbw X.prog X.w) (kvs:=vs) (ep:=ep) ⟨_,Heap.get?_push_size _ rfl,rfl,rfl⟩ (hat.push _) ?_
 have hl:=rel.length
 have gz:s1.heap.objs.size<=(s1.heap.push {cls:= .type "dict_values",data:= .fields #[.ref a]}).objs.size:=by rw[Heap.size_push];omega
 have na:a≠(s1.heap.push {cls:= .type "dict_values",data:= .fields #[.ref a]}).objs.size:=Nat.ne_of_lt (Nat.lt_of_lt_of_le (Heap.lt_size eo) gz)
 refine⟨_,[(s1.heap.push {cls:= .type "dict_values",data:= .fields #[.ref a]}).objs.size],_,_,_,rfl,I3,jpt a _ o kvs ep (λes' x e=> ?_),?_,λb hb=> ?_,q o ec.1 nf⟩
 ·rw[edat] at e;cases e;rfl
 ·rw[hl];exact⟨_,Heap.get?_push_size _ rfl,rfl,rfl⟩
 ·have e:b=(s1.heap.push {cls:= .type "dict_values",data:= .fields #[.ref a]}).objs.size:=by simpa using hb
  subst e
  refine I1.fpOk gz ?_
  rw[jad (Ne.symm na)]
  exact I1.hok.fresh gz
def thawE(N:Addr->Prop)(D:Ends):Ends:=
 ⟨λσ H=>∃a o kvs,N a /\ H a=some (.frz o (.dK kvs)) /\ D.nx σ (upd H a (.dK kvs)),λv H=>∃a o kvs,N a /\ H a=some (.frz o (.dK kvs)) /\ D.rt v (upd H a (.dK kvs)),λ_ _=>False,λ_ _=>False⟩
def tForV(te:TE)(g:TG)(tb:TS):TS:=λD σ H=>∀N:Addr->Prop,tFor (iVals N te) g tb (thawE N D) σ H
theorem jwd{X:Cx}{tg e:Expr}{te:TE}{apos cpos:Pos}{body:List Stmt}{g:TG}{tb:TS}{pos:Pos}(hp:PassesOwn (model X.prog X.w) X.A X.env X.xe)(hc:X.calm=true)(he:PE X e te)(hg:PG X tg g)(hb:PSs X body tb)
  (hs:∀x,foldedSetIterable (.Call (.Attribute e "values" apos) [] [] cpos) X.env x=pure x:=by intro _;rfl) (hbase:attributeBase e "values" X.env (eval e X.env)=eval e X.env:=by rfl) (hline:(apos.endLine==cpos.line)=true:=by rfl):
  PS X (.For tg (.Call (.Attribute e "values" apos) [] [] cpos) body [] pos) (tForV te g tb):=by
 intro pins s σ H D I h
 refine thn (jea hp hc (jwi he hbase hline) hg hb hs pins s σ H (thawE (NF X) D) I (h (NF X))) λf s1 q=> ?_
 cases f with
 | next=>obtain⟨σ1,H1,I1,a,o,kvs,n,e,q⟩:=q;exact⟨σ1,_,I1.thaw n e,q⟩
 | ret u=>obtain⟨v,σ1,H1,I1,r,a,o,kvs,n,e,q⟩:=q;exact⟨v,σ1,_,I1.thaw n e,r,q⟩
 | brk=>obtain⟨_,_,_,q⟩:=q;exact q.elim
 | cont=>obtain⟨_,_,_,q⟩:=q;exact q.elim
def Itz(K:W.Frag)(a b:Addr):It:=
 ⟨λi H=>∃xs x ys y,SqL K H a xs /\ xs[i]?=some x /\ SqL K H b ys /\ ys[i]?=some y,λi H v H'=>∃p x y,H p=none /\ (∀xs,SqL K H a xs->xs[i]?=some x) /\ (∀ys,SqL K H b ys->ys[i]?=some y) /\ v= .ref p /\ H'=upd H p (.tup [x,y]),λi H=>∃xs ys,SqL K H a xs /\ SqL K H b ys /\ (xs.length<=i \/ ys.length<=i)⟩
def iZip(K:W.Frag)(ta:TA):TI:=λσ H R=>ta σ H λvs H1=>∃a b xs ys,vs=[.ref a,.ref b] /\ SqL K H1 a xs /\ SqL K H1 b ys /\ R (Itz K a b) H1
def rAny(K:W.Frag):List V->Hp->VK->Prop:=λxs H Q=>∃(p:Addr) (bs:List Bool),xs=[.ref p] /\ SqL K H p (bs.map V.bl) /\ Q (.bl (bs.any id)) H
end L2
namespace Z
open PySem
inductive D where
 | non | bl (b:Bool) | int (i:Int) | str (x:Str) | tup (xs:List D) | lst (xs:List D) | arg (ns:List Int) | ref (k:Nat)
 | ty (n:String) | cls (n:String) | exc (n:String) | obj (c:String) (fs:List (Str×D)) | dic (kvs:List (Sum Int Str×D))
inductive Cell where
 | lst (xs:List D) | dct (kvs:List (Sum Int Str×D)) | ins (c:String) (fs:List (Str×D)) | fdc (kvs:List (Sum Int Str×D))
def Cell.live:Cell->Bool
 | .fdc _=>false | _=>true
abbrev MH:=List (Option Cell)
abbrev Ro:=List (Option D)
inductive Res (α:Type) where
 | ok (a:α) (h:MH) | exc (c:String) (h:MH) | stuck
inductive RS where
 | nx (ρ:Ro) (h:MH) | rt (d:D) (h:MH) | bk (ρ:Ro) (h:MH) | ct (ρ:Ro) (h:MH) | exc (c:String) (h:MH) | stuck
def Res.bind{α β:Type}(r:Res α)(f:α->MH->Res β):Res β:=match r with
 | .ok a h=>f a h | .exc c h=> .exc c h | .stuck=> .stuck
@[simp] theorem jdb{α β:Type}{a:α}{h:MH}{f:α->MH->Res β}:(Res.ok a h).bind f=f a h:=rfl
@[simp] theorem bind_exc{α β:Type}{c:String}{h:MH}{f:α->MH->Res β}:(Res.exc c h).bind f= .exc c h:=rfl
@[simp] theorem bind_stuck{α β:Type}{f:α->MH->Res β}:(Res.stuck).bind f= .stuck:=rfl
def Res.toS{α:Type}(r:Res α)(f:α->MH->RS):RS:=match r with
 | .ok a h=>f a h | .exc c h=> .exc c h | .stuck=> .stuck
@[simp] theorem jcf{α:Type}{a:α}{h:MH}{f:α->MH->RS}:(Res.ok a h).toS f=f a h:=rfl
@[simp] theorem toS_exc{α:Type}{c:String}{h:MH}{f:α->MH->RS}:(Res.exc c h).toS f= .exc c h:=rfl
@[simp] theorem toS_stuck{α:Type}{f:α->MH->RS}:(Res.stuck).toS f= .stuck:=rfl
abbrev ME:=Ro->MH->Res D
abbrev MT:=Ro->MH->Res Bool
abbrev ML:=Ro->MH->Res (List D)
abbrev MO:=Ro->MH->Res (Option Int)
abbrev MI:=Ro->MH->Res (Option Nat×List D)
abbrev MS:=Ro->MH->RS
abbrev MG:=D->Ro->MH->RS
abbrev MF:=List D->MH->Res D
abbrev B2:=D->D->MH->Res D
@[simp] def chk{α:Type}(c:Prop)[Decidable c](r:Res α):Res α:=if c then r else .stuck
@[simp] theorem chk_t{α:Type}{c:Prop}[Decidable c]{r:Res α}(h:c):chk c r=r:=if_pos h
@[simp] def mVar(i:Nat):ME:=λρ h=>match ρ[i]? with
 | some (some d)=> .ok d h | _=> .stuck
@[simp] def mC(d:D):ME:=λ_ h=> .ok d h
@[simp] def mBin(f:B2)(a b:ME):ME:=λρ h=>(a ρ h).bind λx h1=>(b ρ h1).bind λy h2=>f x y h2
@[simp] def mUn(f:D->MH->Res D)(a:ME):ME:=λρ h=>(a ρ h).bind f
@[simp] def mNil:ML:=λ_ h=> .ok [] h
@[simp] def ja3(a:ME)(l:ML):ML:=λρ h=>(a ρ h).bind λx h1=>(l ρ h1).bind λxs h2=> .ok (x::xs) h2
@[simp] def mTup(l:ML):ME:=λρ h=>(l ρ h).bind λxs h1=>chk (xs.length<=16777216) (.ok (.tup xs) h1)
@[simp] def jek(l:ML):ML:=λρ h=>(l ρ h).bind λxs h1=>chk (xs.length<=16777216) (.ok xs h1)
@[simp] def jcc(l:ML):ME:=λρ h=>(l ρ h).bind λxs h1=> .ok (.lst xs) h1
@[simp] def jkm(l:ML):ME:=λρ h=>(l ρ h).bind λxs h1=> .ok (.ref h1.length) (h1++[some (.lst xs)])
@[simp] def jaq(z:MF)(l:ML):ME:=λρ h=>(l ρ h).bind z
@[simp] def mFn(f:List D->MH->Res D)(l:ML):ME:=λρ h=>(l ρ h).bind f
@[simp] def tB(m:ME):MT:=λρ h=>(m ρ h).bind λd h1=>match d with
 | .bl b=> .ok b h1 | _=> .stuck
@[simp] def tAnd(a b:MT):MT:=λρ h=>(a ρ h).bind λc h1=>if c=true then b ρ h1 else .ok false h1
@[simp] def tOr(a b:MT):MT:=λρ h=>(a ρ h).bind λc h1=>if c=true then .ok true h1 else b ρ h1
@[simp] def tNot(a:MT):MT:=λρ h=>(a ρ h).bind λc h1=> .ok (!c) h1
@[simp] def mIf(t:MT)(a b:ME):ME:=λρ h=>(t ρ h).bind λc h1=>if c=true then a ρ h1 else b ρ h1
@[simp] def mAnd(a b:ME):ME:=λρ h=>(a ρ h).bind λd h1=>match d with
 | .bl c=>if c=true then b ρ h1 else .ok (.bl false) h1
 | _=> .stuck
@[simp] def mOr(a b:ME):ME:=λρ h=>(a ρ h).bind λd h1=>match d with
 | .bl c=>if c=true then .ok (.bl true) h1 else b ρ h1
 | _=> .stuck
@[simp] def jli(f g:B2)(a b c:ME):ME:=λρ h=>(a ρ h).bind λx h1=>(b ρ h1).bind λy h2=>(f x y h2).bind λz h3=>match z with
 | .bl k=>if k=true then(c ρ h3).bind λw h4=>g y w h4 else .ok (.bl false) h3
 | _=> .stuck
@[simp] def asL(h:MH):D->Option (List D)
 | .lst xs=>some xs
 | .ref k=>match h[k]? with
  | some (some (.lst xs))=>some xs
  | _=>none
 | _=>none
@[simp] def asQ(h:MH):D->Option (List D)
 | .lst xs=>some xs
 | .tup xs=>some xs
 | .arg ns=>some (ns.map .int)
 | .ref k=>match h[k]? with
  | some (some (.lst xs))=>some xs
  | _=>none
 | _=>none
@[simp] def asD(h:MH):D->Option (List (Sum Int Str×D))
 | .dic kvs=>some kvs
 | .ref k=>match h[k]? with
  | some (some (.dct kvs))=>some kvs
  | _=>none
 | _=>none
@[simp] def asR(h:MH):D->Option (List (Sum Int Str×D))
 | .dic kvs=>some kvs
 | .ref k=>match h[k]? with
  | some (some (.dct kvs))=>some kvs
  | some (some (.fdc kvs))=>some kvs
  | _=>none
 | _=>none
@[simp] def jfb(h:MH):D->Option Bool
 | .non=>some false
 | .bl b=>some b
 | .int i=>some (i !=0)
 | .str y=>if y.length<=16777216 then some ((y.length:Int)!=0) else none
 | d=>match asQ h d with
  | some xs=>some (!xs.isEmpty)
  | none=>match d with
   | .ref _=>(asD h d).map λkvs=> !kvs.isEmpty
   | _=>none
def oR{α:Type}(o:Option α)(h:MH):Res α:=match o with
 | some a=> .ok a h | none=> .stuck
@[simp] theorem jox{α:Type}{a:α}{h:MH}:oR (some a) h= .ok a h:=rfl
@[simp] theorem oR_none{α:Type}{h:MH}:oR (none:Option α) h= .stuck:=rfl
@[simp] def tTru(m:ME):MT:=λρ h=>(m ρ h).bind λd h1=>oR (jfb h1 d) h1
@[simp] def mNotV(m:ME):ME:=λρ h=>(m ρ h).bind λd h1=>(oR (jfb h1 d) h1).bind λb h2=> .ok (.bl (!b)) h2
def jn5(i j:Int):Prop:=i.natAbs<18446744073709551616 \/ j.natAbs<18446744073709551616
instance (i j:Int):Decidable (jn5 i j):=by unfold jn5;infer_instance
def jke(i j:Int):Prop:=0<=j /\ j<=1000000 /\ i.natAbs<18446744073709551616
instance (i j:Int):Decidable (jke i j):=by unfold jke;infer_instance
@[simp] def dAdd:B2:=λx y h=>match x,y with
 | .int i,.int j=> .ok (.int (i+j)) h
 | .str a,.str b=>chk (a.length+b.length<=16777216) (.ok (.str (a++b)) h)
 | .tup a,.tup b=>chk (a≠[] /\ a.length+b.length<=16777216) (.ok (.tup (a++b)) h)
 | _,_=>(oR (asL h x) h).bind λa h=>(oR (asL h y) h).bind λb h=>chk (a.length+b.length<=16777216) (.ok (.lst (a++b)) h)
@[simp] def dInt(f:Int->Int->Int):B2:=λx y h=>match x,y with
 | .int i,.int j=> .ok (.int (f i j)) h | _,_=> .stuck
@[simp] def jkw(c:Int->Int->Prop)[∀i j,Decidable (c i j)](f:Int->Int->Int):B2:=λx y h=>match x,y with
 | .int i,.int j=>chk (c i j) (.ok (.int (f i j)) h) | _,_=> .stuck
@[simp] def dSub:B2:=dInt (· - ·)
@[simp] def dMul:B2:=λx y h=>match x,y with
 | .int i,.int j=>chk (jn5 i j) (.ok (.int (i*j)) h)
 | .str z,.int n=>chk (n.natAbs<=16777216 /\ z.length*n.toNat<=16777216) (.ok (.str (Txt.mul z n)) h)
 | _,.int k=>(oR (asL h x) h).bind λa h=>chk (k.natAbs<9223372036854775808 /\ a.length*k.toNat<=16777216) (.ok (.lst (List.replicate k.toNat a).flatten) h)
 | _,_=> .stuck
@[simp] def dDiv:B2:=jkw (λ_ j=>0<j /\ j<1073741824) (· / ·)
@[simp] def dMod:B2:=jkw (λ_ j=>0<j) (· % ·)
@[simp] def dPow:B2:=jkw jke (λi j=>i^j.toNat)
@[simp] def dShl:B2:=jkw jke (λi j=>i*2^j.toNat)
@[simp] def dShr:B2:=jkw (λ_ j=>0<=j) (λi j=>i / 2^j.toNat)
@[simp] def dAnd:B2:=dInt Builtin.bitAnd
@[simp] def dOr:B2:=dInt Builtin.bitOr
@[simp] def dXor:B2:=dInt Builtin.bitXor
@[simp] def dNeg:D->MH->Res D:=λx h=>match x with
 | .int i=> .ok (.int (-i)) h | _=> .stuck
@[simp] def dInv:D->MH->Res D:=λx h=>match x with
 | .int i=> .ok (.int (Builtin.bitNot i)) h | _=> .stuck
@[simp] def dCmp(f:Int->Int->Bool):B2:=λx y h=>match x,y with
 | .int i,.int j=> .ok (.bl (f i j)) h | _,_=> .stuck
@[simp] def dLt:B2:=dCmp λi j=>decide (i<j)
@[simp] def dLe:B2:=dCmp λi j=>decide (i<=j)
@[simp] def dGt:B2:=dCmp λi j=>decide (j<i)
@[simp] def dGe:B2:=dCmp λi j=>decide (j<=i)
@[simp] def jmr:D->Bool
 | .non=>true | _=>false
@[simp] def dIs:B2:=λx y h=>match x,y with
 | .bl a,.bl b=> .ok (.bl (a==b)) h
 | x,.non=> .ok (.bl (jmr x)) h
 | _,_=> .stuck
@[simp] def dIsNot:B2:=λx y h=>match x,y with
 | .bl a,.bl b=> .ok (.bl (!(a==b))) h
 | x,.non=> .ok (.bl (!jmr x)) h
 | _,_=> .stuck
def jvk(x:Str):Bool:=x.cps.all (·<0x110000)
mutual
def D.py:D->Option PyData
 | .non=>some .none
 | .bl b=>some (.bool b)
 | .int i=>some (.int i)
 | .str x=>if jvk x then some (.str x) else none
 | .tup xs=>(D.pys xs).map .tuple
 | .lst xs=>(D.pys xs).map .list
 | _=>none
def D.pys:List D->Option (List PyData)
 | []=>some []
 | d::ds=>match D.py d,D.pys ds with
  | some p,some ps=>some (p::ps)
  | _,_=>none
end
mutual
def D.deep:D->Nat
 | .tup xs | .lst xs=>D.deeps xs+1
 | _=>0
def D.deeps:List D->Nat
 | []=>0
 | d::ds=>max (D.deep d) (D.deeps ds)
end
mutual
def D.eq:D->D->Bool
 | .non,.non=>true
 | .bl a,.bl b=>a==b
 | .bl a,.int j=>(if a then 1 else 0)==j
 | .int i,.bl b=>i==(if b then 1 else 0)
 | .int i,.int j=>i==j
 | .str x,.str y=>x==y
 | .tup xs,.tup ys=>D.eqs xs ys
 | .lst xs,.lst ys=>D.eqs xs ys
 | _,_=>false
def D.eqs:List D->List D->Bool
 | [],[]=>true
 | x::xs,y::ys=>D.eq x y&&D.eqs xs ys
 | _,_=>false
end
def D.dat(d:D):Bool:=d.py.isSome&&decide (d.deep<=64)
def res:Nat->MH->D->D
 | 0,_,d=>d
 | n+1,h,.ref k=>match h[k]? with
  | some (some (.lst xs))=> .lst (xs.map (res n h))
  | _=> .ref k
 | n+1,h,.tup xs=> .tup (xs.map (res n h))
 | n+1,h,.lst xs=> .lst (xs.map (res n h))
 | _+1,_,d=>d
def see(h:MH)(d:D):D:=res 8 h d
@[simp] def flat:D->Bool
 | .non | .bl _ | .int _ | .str _=>true
 | _=>false
@[simp] def dEq:B2:=λx y h=>match x,y with
 | .int i,.int j=> .ok (.bl (decide (i=j))) h
 | .str i,.str j=> .ok (.bl (decide (i=j))) h
 | .bl i,.bl j=> .ok (.bl (i==j)) h
 | _,_=>if x.dat=true /\ y.dat=true then .ok (.bl (x.eq y)) h else chk ((see h x).dat=true /\ (see h y).dat=true) (.ok (.bl ((see h x).eq (see h y))) h)
@[simp] def dNe:B2:=λx y h=>(dEq x y h).bind λz h=>match z with
 | .bl b=> .ok (.bl (!b)) h | _=> .stuck
def numS(n:Int):Str:=Str.ofString (toString n)
def ixN(n:Nat)(i:Int):Option Nat:=if 0<=i then(if i<n then some i.toNat else none) else if -(n:Int)<=i then some (i+n).toNat else none
def atI{α:Type}(xs:List α)(i:Int):Option α:=(ixN xs.length i).bind λj=>xs[j]?
@[simp] def ji6:D->Option (Sum Int Str)
 | .int i=>some (.inl i)
 | .str x=>some (.inr x)
 | _=>none
def valK(kvs:List (Sum Int Str×D))(k:Sum Int Str):Option D:=(kvs.find? λkv=>decide (kv.1=k)).map (·.2)
def putK(kvs:List (Sum Int Str×D))(k:Sum Int Str)(v:D):List (Sum Int Str×D):=
 if kvs.any (λkv=>decide (kv.1=k)) then kvs.map λkv=>if kv.1=k then(kv.1,v) else kv else kvs++[(k,v)]
@[simp] def dIx:B2:=λx y h=>match x,y with
 | .str z,.int i=>chk (z.length<=16777216) ((oR (atI z.cps.toList i) h).bind λc h=> .ok (.str ⟨#[c]⟩) h)
 | x,y=>match asQ h x with
  | some xs=>match y with
   | .int i=>oR (atI xs i) h
   | _=> .stuck
  | none=>match asR h x,ji6 y with
   | some kvs,some k=>oR (valK kvs k) h
   | _,_=> .stuck
def eqF:D->D->Bool
 | .non,.non=>true
 | .bl a,.bl b=>a==b
 | .bl a,.int b=>(if a then 1 else 0)==b
 | .int a,.bl b=>a==(if b then 1 else 0)
 | .int a,.int b=>a==b
 | .str a,.str b=>a==b
 | _,_=>false
@[simp] def dIn(neg:Bool):B2:=λx y h=>match x,y with
 | .str i,.str j=> .ok (.bl (if neg then !(!(Builtin.Str.occurrences j i 0 j.length 1).isEmpty) else !(Builtin.Str.occurrences j i 0 j.length 1).isEmpty)) h
 | x,y=>match asQ h y with
  | some ys=>chk (flat x=true /\ ys.all flat=true) (.ok (.bl (if neg then !(ys.any λy=>eqF y x) else ys.any λy=>eqF y x)) h)
  | none=>match asR h y,ji6 x with
   | some kvs,some k=> .ok (.bl (if neg then !(valK kvs k).isSome else(valK kvs k).isSome)) h
   | _,_=> .stuck
def sIx(n d:Nat):Option Int->Nat
 | none=>d
 | some v=>if v<0 then(v+(n:Int)).toNat else min v.toNat n
def cut{α:Type}(xs:List α)(lo hi:Option Int):List α:=(xs.drop (sIx xs.length 0 lo)).take (sIx xs.length xs.length hi - sIx xs.length 0 lo)
@[simp] def oNo:MO:=λ_ h=> .ok none h
@[simp] def oSo(m:ME):MO:=λρ h=>(m ρ h).bind λd h1=>match d with
 | .int i=> .ok (some i) h1 | _=> .stuck
@[simp] def mSl(m:ME)(lo hi:MO):ME:=λρ h=>(m ρ h).bind λd h1=>(lo ρ h1).bind λl h2=>(hi ρ h2).bind λu h3=>match d with
 | .tup xs=>chk (¬(sIx xs.length 0 l=0 /\ sIx xs.length xs.length u=xs.length)) (.ok (.tup (cut xs l u)) h3)
 | .str z=>chk (z.length<=16777216) (.ok (.str (Txt.slice z l u)) h3)
 | d=>(oR (asQ h3 d) h3).bind λxs h4=> .ok (.lst (cut xs l u)) h4
@[simp] def jnj:List D->Option (List Int)
 | []=>some []
 | .int i::r=>(jnj r).map (i::·)
 | _::_=>none
@[simp] def jko:List D->Option (List Str)
 | []=>some []
 | .str i::r=>(jko r).map (i::·)
 | _::_=>none
@[simp] def jhe:List D->Option (List Bool)
 | []=>some []
 | .bl i::r=>(jhe r).map (i::·)
 | _::_=>none
@[simp] def asLi(h:MH)(d:D):Option (List Int):=match d with
 | .arg ns=>some ns
 | d=>(asL h d).bind jnj
def jh4(ns:List Int)(lo hi:Option Int)(st:Int):List Int:=
 (sliceRange (sliceBounds lo hi (some st) ns.length).1 (sliceBounds lo hi (some st) ns.length).2.1 (sliceBounds lo hi (some st) ns.length).2.2).filterMap (ns[·]?)
@[simp] def mSlS(m:ME)(lo hi st:MO):ME:=λρ h=>(m ρ h).bind λd h1=>(lo ρ h1).bind λl h2=>(hi ρ h2).bind λu h3=>(st ρ h3).bind λk h4=>match k with
 | some k=>chk (0<k) ((oR (asLi h4 d) h4).bind λns h5=> .ok (.lst ((jh4 ns l u k).map .int)) h5)
 | none=> .stuck
@[simp] def fLen:List D->MH->Res D:=λl h=>match l with
 | [.str z]=>chk (z.length<=16777216) (.ok (.int z.length) h)
 | [d]=>match asQ h d with
  | some xs=> .ok (.int xs.length) h
  | none=>match d with
   | .ref _=>(oR (asD h d) h).bind λkvs h=> .ok (.int kvs.length) h
   | _=> .stuck
 | _=> .stuck
@[simp] def fSum:List D->MH->Res D:=λl h=>match l with
 | [d]=>(oR (asLi h d) h).bind λns h=> .ok (.int ns.sum) h
 | _=> .stuck
def maxI:List Int->Int
 | []=>0
 | [a]=>a
 | a::r=>if maxI r>a then maxI r else a
@[simp] def fMax:List D->MH->Res D:=λl h=>match l with
 | [.int i,.int j]=> .ok (.int (if j>i then j else i)) h
 | [.tup xs]=>(oR (jnj xs) h).bind λns h=>chk (0<ns.length) (.ok (.int (maxI ns)) h)
 | _=> .stuck
@[simp] def fMin:List D->MH->Res D:=λl h=>match l with
 | [.int i,.int j]=> .ok (.int (if j<i then j else i)) h
 | _=> .stuck
@[simp] def fAbs:List D->MH->Res D:=λl h=>match l with
 | [.int i]=> .ok (.int (if i<0 then -i else i)) h
 | _=> .stuck
@[simp] def fAll:List D->MH->Res D:=λl h=>match l with
 | [d]=>(oR ((asL h d).bind jhe) h).bind λbs h=> .ok (.bl (bs.all id)) h
 | _=> .stuck
@[simp] def fInt:List D->MH->Res D:=λl h=>match l with
 | [.int i]=> .ok (.int i) h
 | [.bl k]=> .ok (.int (if k then 1 else 0)) h
 | [.str z]=>chk (z.length<=640) ((oR (intText? z) h).bind λn h=> .ok (.int n) h)
 | _=> .stuck
@[simp] def fStr:List D->MH->Res D:=λl h=>match l with
 | [.int i]=>chk (i.natAbs.log2<1920) (.ok (.str (numS i)) h)
 | _=> .stuck
@[simp] def fBool:List D->MH->Res D:=λl h=>match l with
 | [.int i]=> .ok (.bl (i !=0)) h
 | [.bl k]=> .ok (.bl k) h
 | _=> .stuck
@[simp] def lList(m:ML):ML:=λρ h=>(m ρ h).bind λl h1=>match l with
 | [d]=>oR (asQ h1 d) h1
 | _=> .stuck
@[simp] def jpb:List D->MH->Res D:=λl h=>match l with
 | [.tup xs]=> .ok (.tup xs) h
 | [d]=>(oR (asQ h d) h).bind λxs h=> .ok (.tup xs) h
 | _=> .stuck
@[simp] def tyOf(h:MH):D->Option String
 | .non=>some "NoneType" | .bl _=>some "bool" | .int _=>some "int" | .str _=>some "str" | .tup _=>some "tuple" | .lst _=>some "list"
 | .ref k=>match h[k]? with
  | some (some (.lst _))=>some "list"
  | some (some (.dct _))=>some "dict"
  | _=>none
 | _=>none
@[simp] def isB(a b:String):Bool:=a==b||(a=="bool"&&b=="int")
@[simp] def jl4(b:String):Bool:=b=="int"||b=="bool"||b=="str"||b=="tuple"||b=="list"
@[simp] def fIsi:List D->MH->Res D:=λl h=>match l with
 | [d,.ty n]=>chk (jl4 n=true) ((oR (tyOf h d) h).bind λt h=> .ok (.bl (isB t n)) h)
 | _=> .stuck
@[simp] def mSm(f:Str->List D->MH->Res D)(m:ME)(l:ML):ME:=λρ h=>(m ρ h).bind λd h1=>match d with
 | .str z=>(l ρ h1).bind λxs h2=>f z xs h2
 | _=> .stuck
@[simp] def jh2:Str->List D->MH->Res D:=λz l h=>match l with
 | [d]=>(oR ((asL h d).bind jko) h).bind λys h=>chk ((ys.map (·.length)).sum+ys.length*z.length<=16777216) (.ok (.str (Txt.join z ys)) h)
 | _=> .stuck
@[simp] def fFind:Str->List D->MH->Res D:=λz l h=>match l with
 | [.str y]=> .ok (.int (Txt.find z y)) h
 | _=> .stuck
@[simp] def fUpper:Str->List D->MH->Res D:=λz l h=>match l with
 | []=>chk ((Txt.upper z).length<=16777216) (.ok (.str (Txt.upper z)) h)
 | _=> .stuck
@[simp] def jfj(m:ME)(l:ML):ML:=λρ h=>(m ρ h).bind λd h1=>match d with
 | .str z=>(l ρ h1).bind λxs h2=>match xs with
  | [.str y]=>chk (y.length≠0 /\ z.length<=16777216 /\ (Txt.split z y).length<=16777216) (.ok ((Txt.split z y).map .str) h2)
  | _=> .stuck
 | _=> .stuck
/-- f"..{x}..":the parts,in order -/
abbrev MJ:=Str->Ro->MH->Res Str
@[simp] def jNil:MJ:=λout _ h=> .ok out h
@[simp] def jo0(m:ME)(j:MJ):MJ:=λout ρ h=>(m ρ h).bind λd h1=>match d with
 | .str y=>chk ((out++y).length<=16777216) (j (out++y) ρ h1)
 | _=> .stuck
@[simp] def mJs(j:MJ):ME:=λρ h=>(j Str.empty ρ h).bind λz h1=>chk (z.length<=16777216) (.ok (.str z) h1)
@[simp] def mFmt(m:ME):ME:=λρ h=>(m ρ h).bind λd h1=>match d with
 | .int i=>chk (i.natAbs.log2<1920) (.ok (.str (numS i)) h1)
 | .str z=>chk (z.length<=16777216) (.ok (.str z) h1)
 | _=> .stuck
@[simp] def jb3:MS:=λρ h=> .nx ρ h
@[simp] def sBreak:MS:=λρ h=> .bk ρ h
@[simp] def sCont:MS:=λρ h=> .ct ρ h
@[simp] def sSeq(a b:MS):MS:=λρ h=>match a ρ h with
 | .nx ρ1 h1=>b ρ1 h1
 | r=>r
@[simp] def sIf(t:MT)(a b:MS):MS:=λρ h=>(t ρ h).toS λc h1=>if c=true then a ρ h1 else b ρ h1
@[simp] def sRet(m:ME):MS:=λρ h=>(m ρ h).toS .rt
@[simp] def sRetN:MS:=λ_ h=> .rt .non h
@[simp] def jja(m:ME):MS:=λρ h=>(m ρ h).toS λ_ h1=> .nx ρ h1
@[simp] def sAsg(m:ME)(g:MG):MS:=λρ h=>(m ρ h).toS λd h1=>g d ρ h1
@[simp] def jcd(c:String)(m:ME):MS:=λρ h=>(m ρ h).toS λ_ h1=> .exc c h1
@[simp] def jab(i:Nat):MG:=λd ρ h=> .nx (ρ.set i (some d)) h
@[simp] def jlx:List Nat->List D->Ro->MH->RS
 | [],[],ρ,h=> .nx ρ h
 | i::is,d::ds,ρ,h=>jlx is ds (ρ.set i (some d)) h
 | _,_,_,_=> .stuck
@[simp] def gTup(is:List Nat):MG:=λd ρ h=>match d with
 | .tup xs=>jlx is xs ρ h
 | .lst xs=>jlx is xs ρ h
 | _=> .stuck
@[simp] def gSub(mo mi:ME):MG:=λd ρ h=>(mo ρ h).toS λo h1=>(mi ρ h1).toS λi h2=>match o with
 | .ref k=>match h2[k]? with
  | some (some (.lst xs))=>match i with
   | .int j=>match ixN xs.length j with
    | some n=> .nx ρ (h2.set k (some (.lst (xs.set n d))))
    | none=> .stuck
   | _=> .stuck
  | _=> .stuck
 | _=> .stuck
@[simp] def sDput(mo mi me:ME):MS:=λρ h=>(me ρ h).toS λd h0=>(mo ρ h0).toS λo h1=>(mi ρ h1).toS λi h2=>match o with
 | .ref k=>match h2[k]? with
  | some (some (.dct kvs))=>match ji6 i with
   | some j=>if kvs.length<16777216 then .nx ρ (h2.set k (some (.dct (putK kvs j d)))) else .stuck
   | none=> .stuck
  | _=> .stuck
 | _=> .stuck
@[simp] def jfc(mo me:ME):MS:=λρ h=>(mo ρ h).toS λo h1=>match o with
 | .ref k=>match h1[k]? with
  | some (some (.lst _))=>(me ρ h1).toS λd h2=>match h2[k]? with
   | some (some (.lst xs))=>if xs.length<16777216 then .nx ρ (h2.set k (some (.lst (xs++[d])))) else .stuck
   | _=> .stuck
  | _=> .stuck
 | _=> .stuck
@[simp] def jkx(i:Nat)(b:MS):MS:=λρ h=>match ρ[i]? with
 | some (some (.ref k))=>match h[k]? with
  | some (some (.lst xs))=>b (ρ.set i (some (.lst xs))) (h.set k none)
  | _=> .stuck
 | _=> .stuck
@[simp] def mDnew:ME:=λ_ h=> .ok (.ref h.length) (h++[some (.dct [])])
def jc5(g:MG)(b:MS):List D->Ro->MH->RS
 | [],ρ,h=> .nx ρ h
 | d::ds,ρ,h=>match g d ρ h with
  | .nx ρ1 h1=>match b ρ1 h1 with
   | .nx ρ2 h2=>jc5 g b ds ρ2 h2
   | .ct ρ2 h2=>jc5 g b ds ρ2 h2
   | .bk ρ2 h2=> .nx ρ2 h2
   | r=>r
  | _=> .stuck
def okG(q:Option Nat)(all:List D)(h:MH):Prop:=match q with
 | none=>True
 | some k=>h[k]?=some (some (.lst all))
open Classical in
def jdp(q:Option Nat)(all:List D)(g:MG)(b:MS):List D->Ro->MH->RS
 | [],ρ,h=>if okG q all h then .nx ρ h else .stuck
 | d::ds,ρ,h=>if okG q all h then(match g d ρ h with
  | .nx ρ1 h1=>match b ρ1 h1 with
   | .nx ρ2 h2=>jdp q all g b ds ρ2 h2
   | .ct ρ2 h2=>jdp q all g b ds ρ2 h2
   | .bk ρ2 h2=> .nx ρ2 h2
   | r=>r
  | _=> .stuck) else .stuck
@[simp] theorem jbz(all:List D)(g:MG)(b:MS):∀(ds:List D) (ρ:Ro) (h:MH),jdp none all g b ds ρ h=jc5 g b ds ρ h
 | [],ρ,h=>by unfold jdp jc5;exact if_pos trivial
 | d::ds,ρ,h=>by
  unfold jdp jc5
  rw[if_pos (show okG none all h from trivial)]
  split
  ·split
   ·exact jbz all g b ds _ _
   ·exact jbz all g b ds _ _
   ·rfl
   ·rfl
  ·rfl
def sFor(l:MI)(g:MG)(b:MS):MS:=λρ h=>(l ρ h).toS λs h1=>jdp s.1 s.2 g b s.2 ρ h1
@[simp] theorem jfy(l:MI)(g:MG)(b:MS)(ρ:Ro)(h:MH):sFor l g b ρ h=(l ρ h).toS λs h1=>jdp s.1 s.2 g b s.2 ρ h1:=rfl
@[simp] def lIt(m:ME):MI:=λρ h=>(m ρ h).bind λd h1=>match d with
 | .lst xs=> .ok (none,xs) h1
 | .tup xs=> .ok (none,xs) h1
 | .arg ns=> .ok (none,ns.map .int) h1
 | .str z=> .ok (none,z.cps.toList.map λc=> .str ⟨#[c]⟩) h1
 | .ref k=>match h1[k]? with
  | some (some (.lst xs))=> .ok (some k,xs) h1
  | _=> .stuck
 | _=> .stuck
def rng(lo:Int)(n:Nat):List D:=(List.range n).map λ(k:Nat)=> .int (lo+k)
@[simp] def jps(m:ML):MI:=λρ h=>(m ρ h).bind λl h1=>match l with
 | [.int j]=>chk (j.natAbs<4611686018427387904) (.ok (none,rng 0 j.toNat) h1)
 | _=> .stuck
@[simp] def jwy(m:ML):MI:=λρ h=>(m ρ h).bind λl h1=>match l with
 | [.int i,.int j]=>chk (i.natAbs<4611686018427387904 /\ j.natAbs<4611686018427387904) (.ok (none,rng i (j - i).toNat) h1)
 | _=> .stuck
@[simp] def lRev(m:ML):MI:=λρ h=>(m ρ h).bind λl h1=>match l with
 | [.lst xs]=> .ok (none,xs.reverse) h1
 | _=> .stuck
def jc3(c:MT)(b:MS):Nat->Ro->MH->RS
 | 0,_,_=> .stuck
 | n+1,ρ,h=>match c ρ h with
  | .ok true h1=>match b ρ h1 with
   | .nx ρ2 h2=>jc3 c b n ρ2 h2
   | .ct ρ2 h2=>jc3 c b n ρ2 h2
   | .bk ρ2 h2=> .nx ρ2 h2
   | r=>r
  | .ok false h1=> .nx ρ h1
  | .exc e h1=> .exc e h1
  | .stuck=> .stuck
open Classical in
def jcm(c:MT)(b:MS):MS:=λρ h=>if e:∃n,jc3 c b n ρ h≠ .stuck then jc3 c b e.choose ρ h else .stuck
theorem jdn(c:MT)(b:MS):∀(n k:Nat) (ρ:Ro) (h:MH),jc3 c b n ρ h≠ .stuck->jc3 c b (n+k) ρ h=jc3 c b n ρ h
 | 0,k,ρ,h,q=>absurd rfl q
 | n+1,k,ρ,h,q=>by
  rw[show n+1+k=(n+k)+1 by omega]
  unfold jc3 at q ⊢
  cases e:c ρ h with
  | ok b0 h1=>
   cases b0 with
   | false=>rfl
   | true=>
    simp only[e] at q ⊢
    cases e2:b ρ h1 with
    | nx ρ2 h2=>simp only[e2] at q ⊢;exact jdn c b n k ρ2 h2 q
    | ct ρ2 h2=>simp only[e2] at q ⊢;exact jdn c b n k ρ2 h2 q
    | bk ρ2 h2=>rfl
    | rt d h2=>rfl
    | exc x h2=>rfl
    | stuck=>rfl
  | exc x h1=>rfl
  | stuck=>rfl
theorem jg8{c:MT}{b:MS}{n:Nat}{ρ:Ro}{h:MH}(q:jc3 c b n ρ h≠ .stuck):jcm c b ρ h=jc3 c b n ρ h:=by
 have e:∃n,jc3 c b n ρ h≠ .stuck:=⟨n,q⟩
 unfold jcm
 rw[dif_pos e]
 have h1:=jdn c b e.choose n ρ h e.choose_spec
 have h2:=jdn c b n e.choose ρ h q
 rw[<-h1,<-h2,Nat.add_comm]
theorem jh6{c:MT}{b:MS}{ρ:Ro}{h:MH}(q:jcm c b ρ h≠ .stuck):∃n,jc3 c b n ρ h=jcm c b ρ h:=by
 unfold jcm at q
 by_cases e:∃n,jc3 c b n ρ h≠ .stuck
 ·exact⟨e.choose,by unfold jcm;rw[dif_pos e]⟩
 ·rw[dif_neg e] at q;exact absurd rfl q
theorem jmg{c:MT}{b:MS}{ρ ρ2:Ro}{h h1 h2:MH}(ec:c ρ h= .ok true h1)(eb:b ρ h1= .nx ρ2 h2):jcm c b ρ h=jcm c b ρ2 h2:=by
 by_cases q:jcm c b ρ2 h2= .stuck
 ·rw[q]
  by_cases q1:jcm c b ρ h= .stuck
  ·exact q1
  ·obtain⟨n,e⟩:=jh6 q1
   cases n with
   | zero=>rw[<-e];rfl
   | succ n=>
    rw[<-e] at q1 ⊢
    unfold jc3 at q1 ⊢
    simp only[ec,eb] at q1 ⊢
    rw[<-jg8 q1];exact q
 ·obtain⟨n,e⟩:=jh6 q
  have e1:jc3 c b (n+1) ρ h=jc3 c b n ρ2 h2:=by
   conv=>lhs;unfold jc3
   simp only[ec,eb]
  rw[jg8 (n:=n+1) (by rw[e1,e];exact q),e1,e]
theorem jr9{c:MT}{b:MS}{ρ:Ro}{h h1:MH}(ec:c ρ h= .ok false h1):jcm c b ρ h= .nx ρ h1:=by
 have e1:jc3 c b 1 ρ h= .nx ρ h1:=by unfold jc3;simp only[ec]
 rw[jg8 (n:=1) (by rw[e1];exact λz=>nomatch z),e1]
@[simp] def caps(idx:List Nat)(ρ:Ro):Ro:=idx.map λj=>(ρ[j]?).getD none
def compLoop(g:MG)(t:MT)(m:ME)(ρ0:Ro):List D->MH->Res (List D)
 | [],h=> .ok [] h
 | d::ds,h=>match g d ρ0 h with
  | .nx ρ1 h1=>match t ρ1 h1 with
   | .ok true h2=>match m ρ1 h2 with
    | .ok y h3=>match compLoop g t m ρ0 ds h3 with
     | .ok ys h4=> .ok (y::ys) h4
     | _=> .stuck
    | _=> .stuck
   | .ok false h2=>compLoop g t m ρ0 ds h2
   | _=> .stuck
  | _=> .stuck
@[simp] def tYes:MT:=λ_ h=> .ok true h
open Classical in
def jb8(q:Option Nat)(all:List D)(g:MG)(t:MT)(m:ME)(ρ0:Ro):List D->MH->Res (List D)
 | [],h=>if okG q all h then .ok [] h else .stuck
 | d::ds,h=>if okG q all h then(match g d ρ0 h with
  | .nx ρ1 h1=>match t ρ1 h1 with
   | .ok true h2=>match m ρ1 h2 with
    | .ok y h3=>match jb8 q all g t m ρ0 ds h3 with
     | .ok ys h4=> .ok (y::ys) h4
     | _=> .stuck
    | _=> .stuck
   | .ok false h2=>jb8 q all g t m ρ0 ds h2
   | _=> .stuck
  | _=> .stuck) else .stuck
@[simp] theorem je9(all:List D)(g:MG)(t:MT)(m:ME)(ρ0:Ro):∀(ds:List D) (h:MH),jb8 none all g t m ρ0 ds h=compLoop g t m ρ0 ds h
 | [],h=>by unfold jb8 compLoop;exact if_pos trivial
 | d::ds,h=>by
  unfold jb8 compLoop
  rw[if_pos (show okG none all h from trivial)]
  split
  ·split
   ·split
    ·rw[je9 all g t m ρ0 ds]
    ·rfl
   ·exact je9 all g t m ρ0 ds _
   ·rfl
  ·rfl
def jeo(nt:Nat)(idx:List Nat)(l:MI)(g:MG)(t:MT)(m:ME):ML:=λρ h=>(l ρ h).bind λs h1=>chk (s.2.length<16777216) (jb8 s.1 s.2 g t m (List.replicate nt none++caps idx ρ) s.2 h1)
@[simp] theorem lComp_def(nt:Nat)(idx:List Nat)(l:MI)(g:MG)(t:MT)(m:ME)(ρ:Ro)(h:MH):jeo nt idx l g t m ρ h=(l ρ h).bind λs h1=>chk (s.2.length<16777216) (jb8 s.1 s.2 g t m (List.replicate nt none++caps idx ρ) s.2 h1):=rfl
@[simp] def asO(h:MH):D->Option (String×List (Str×D))
 | .obj c fs=>some (c,fs)
 | .ref k=>match h[k]? with
  | some (some (.ins c fs))=>some (c,fs)
  | _=>none
 | _=>none
def putF(f:Str)(d:D):List (Str×D)->List (Str×D)
  | []=>[(f,d)]
  | (g,x)::r=>if g=f then(g,d)::r else(g,x)::putF f d r
@[simp] def mFld(tab:List String)(f:Str)(m:ME):ME:=λρ h=>(m ρ h).bind λd h1=>(oR (asO h1 d) h1).bind λo h2=>chk (o.1∈tab) (oR (o.2.lookup f) h2)
@[simp] def jdh(tab:List String)(f:Str)(mo me:ME):MS:=λρ h=>(me ρ h).toS λd h1=>(mo ρ h1).toS λo h2=>match o with
 | .ref k=>match h2[k]? with
  | some (some (.ins c fs))=>if c∈tab /\ fs.length<1000 then .nx ρ (h2.set k (some (.ins c (putF f d fs)))) else .stuck
  | _=> .stuck
 | _=> .stuck
@[simp] def jaj(tab:List (String×MF))(f:Str)(m:ME)(l:ML):ME:=λρ h=>(m ρ h).bind λd h1=>(oR (asO h1 d) h1).bind λo h2=>(oR (tab.lookup o.1) h2).bind λz h2=>chk (o.2.lookup f=none) ((l ρ h1).bind λds h3=>z (d::ds) h3)
@[simp] def jfu(c:String)(z:MF)(l:ML):ME:=λρ h=>(l ρ h).bind λds h1=>(z (.ref h1.length::ds) (h1++[some (.ins c [])])).bind λd h2=>match d with
 | .non=>match h2[h1.length]? with
  | some (some (.ins c' fs))=> .ok (.obj c' fs) (h2.set h1.length none)
  | _=> .stuck
 | _=> .stuck
@[simp] def jjf(c:String)(z:MF)(l:ML):ME:=λρ h=>(l ρ h).bind λds h1=>(z (.ref h1.length::ds) (h1++[some (.ins c [])])).bind λd h2=>match d with
 | .non=> .ok (.ref h1.length) h2
 | _=> .stuck
def jga(ds:List D):List D:=ds.mapIdx λi d=> .tup [.int i,d]
@[simp] def lEnum(m:ML):MI:=λρ h=>(m ρ h).bind λl h1=>match l with
 | [.lst xs]=> .ok (none,jga xs) h1
 | [.arg ns]=> .ok (none,jga (ns.map .int)) h1
 | _=> .stuck
def Res.noX{α:Type}(r:Res α):Res α:=match r with
 | .ok a h=> .ok a h | .exc _ _=> .stuck | .stuck=> .stuck
@[simp] theorem noX_ok{α:Type}{a:α}{h:MH}:(Res.ok a h).noX= .ok a h:=rfl
@[simp] theorem noX_exc{α:Type}{c:String}{h:MH}:(Res.exc c h:Res α).noX= .stuck:=rfl
@[simp] theorem noX_stuck{α:Type}:(Res.stuck:Res α).noX= .stuck:=rfl
@[simp] def lNox(l:ML):ML:=λρ h=>(l ρ h).noX
@[simp] def mNox(m:ME):ME:=λρ h=>(m ρ h).noX
@[simp] def tNox(m:MT):MT:=λρ h=>(m ρ h).noX
def RS.noX:RS->RS
 | .exc _ _=> .stuck | r=>r
@[simp] theorem noXS_nx{ρ:Ro}{h:MH}:(RS.nx ρ h).noX= .nx ρ h:=rfl
@[simp] theorem noXS_rt{d:D}{h:MH}:(RS.rt d h).noX= .rt d h:=rfl
@[simp] theorem noXS_bk{ρ:Ro}{h:MH}:(RS.bk ρ h).noX= .bk ρ h:=rfl
@[simp] theorem noXS_ct{ρ:Ro}{h:MH}:(RS.ct ρ h).noX= .ct ρ h:=rfl
@[simp] theorem noXS_exc{c:String}{h:MH}:(RS.exc c h).noX= .stuck:=rfl
@[simp] theorem noXS_stuck:RS.stuck.noX= .stuck:=rfl
def RS.gone(i:Nat):RS->RS
 | .nx ρ h=> .nx (ρ.set i none) h | .bk ρ h=> .bk (ρ.set i none) h | .ct ρ h=> .ct (ρ.set i none) h | r=>r
@[simp] theorem gone_nx{i:Nat}{ρ:Ro}{h:MH}:(RS.nx ρ h).gone i= .nx (ρ.set i none) h:=rfl
@[simp] theorem gone_rt{i:Nat}{d:D}{h:MH}:(RS.rt d h).gone i= .rt d h:=rfl
@[simp] theorem gone_bk{i:Nat}{ρ:Ro}{h:MH}:(RS.bk ρ h).gone i= .bk (ρ.set i none) h:=rfl
@[simp] theorem gone_ct{i:Nat}{ρ:Ro}{h:MH}:(RS.ct ρ h).gone i= .ct (ρ.set i none) h:=rfl
@[simp] theorem gone_stuck{i:Nat}:RS.stuck.gone i= .stuck:=rfl
@[simp] def sTry(b:MS)(f:String->MS):MS:=λρ h=>match b ρ h with
 | .exc c h1=>f c ρ h1 | r=>r
@[simp] def cNil:String->MS:=λ_ _ _=> .stuck
@[simp] def cAs(tab:List (String×Bool))(i:Nat)(m:MS)(r:String->MS):String->MS:=λc ρ h=>match tab.lookup c with
 | some true=>((m (ρ.set i (some (.exc c))) h).noX).gone i
 | some false=>r c ρ h
 | none=> .stuck
@[simp] def jwl(tab:List (String×Bool))(m:MS)(r:String->MS):String->MS:=λc ρ h=>match tab.lookup c with
 | some true=>(m ρ h).noX
 | some false=>r c ρ h
 | none=> .stuck
@[simp] def fIsx(tab:List ((String×Bool×String)×Bool)):List D->MH->Res D:=λl h=>match l with
 | [.exc c,.cls n]=>(oR (tab.lookup (c,true,n)) h).bind λb h=> .ok (.bl b) h
 | [.exc c,.ty n]=>(oR (tab.lookup (c,false,n)) h).bind λb h=> .ok (.bl b) h
 | _=> .stuck
mutual
def D.bnd(n:Nat):D->Bool
 | .ref k=>k<n
 | .tup xs | .lst xs=>D.bnds n xs
 | .obj _ fs=>D.bndf n fs
 | _=>true
def D.bnds(n:Nat):List D->Bool
 | []=>true
 | d::ds=>D.bnd n d&&D.bnds n ds
def D.bndf(n:Nat):List (Str×D)->Bool
  | []=>true
  | (_,d)::ds=>D.bnd n d&&D.bndf n ds
end
def Cell.bnd(n:Nat):Option Cell->Bool
 | none=>true
 | some (.lst xs)=>D.bnds n xs
 | some (.dct kvs)=>D.bnds n (kvs.map (·.2))
 | some (.fdc kvs)=>D.bnds n (kvs.map (·.2))
 | some (.ins _ fs)=>D.bnds n (fs.map (·.2))
@[simp] def fin(n:Nat)(d:D)(h:MH):Res D:=
 if h.length<=n then .ok d h else if(d.bnd n&&(h.take n).all (Cell.bnd n))=true then .ok d (h.take n) else .ok d h
@[simp] def mFun(np nn:Nat)(b:MS):MF:=λds h=>if ds.length=np then match b (ds.map some++List.replicate (nn - ds.length) none) h with
 | .nx _ h1=>fin h.length .non h1
 | .rt d h1=>fin h.length d h1
 | .exc c h1=>if h1.length<=h.length then .exc c h1 else if(h1.take h.length).all (Cell.bnd h.length)=true then .exc c (h1.take h.length) else .exc c h1
 | _=> .stuck
 else .stuck
@[simp] def lAdd(a b:ME):ML:=λρ h=>(a ρ h).bind λx h1=>(b ρ h1).bind λy h2=>(oR (asL h2 x) h2).bind λxs h3=>(oR (asL h3 y) h3).bind λys h4=>chk (xs.length+ys.length<=16777216) (.ok (xs++ys) h4)
@[simp] def lListRev(m:ML):ML:=λρ h=>(m ρ h).bind λl h1=>match l with
 | [d]=>(oR (asL h1 d) h1).bind λxs h2=> .ok xs.reverse h2
 | _=> .stuck
@[simp] def lListRng(m:ML):ML:=λρ h=>(m ρ h).bind λl h1=>match l with
 | [.int n]=>chk (n.natAbs<=16777216) (.ok ((List.range n.toNat).map λ(k:Nat)=>D.int (k:Int)) h1)
 | _=> .stuck
@[simp] def keysI:List (Sum Int Str×D)->Option (List Int)
  | []=>some []
  | (.inl i,_)::r=>(keysI r).map (i::·)
  | (.inr _,_)::_=>none
@[simp] def jwx(h:MH):D->Option (List Int)
 | .ref k=>match h[k]? with
  | some (some (.dct kvs))=>keysI kvs
  | _=>none
 | _=>none
@[simp] def fSumD:List D->MH->Res D:=λl h=>match l with
 | [d]=>(oR (jwx h d) h).bind λns h=> .ok (.int ns.sum) h
 | _=> .stuck
def srt(ns:List Int):List Int:=ns.mergeSort (λa b=>decide (a<=b))
@[simp] def lSort(m:ML):ML:=λρ h=>(m ρ h).bind λl h1=>match l with
 | [d]=>match asLi h1 d with
  | some ns=>chk (ns.length<=100000) (.ok ((srt ns).map D.int) h1)
  | none=>(oR (jwx h1 d) h1).bind λns h2=>chk (ns.length<=100000) (.ok ((srt ns).map D.int) h2)
 | _=> .stuck
def mergeD(kvs more:List (Sum Int Str×D)):List (Sum Int Str×D):=more.foldl (λacc kv=>putK acc kv.1 kv.2) kvs
@[simp] def mUpd(mo:ME)(ml:ML):ME:=λρ h=>(mo ρ h).bind λo h1=>match o with
 | .ref k=>match h1[k]? with
  | some (some (.dct _))=>(ml ρ h1).bind λl h2=>match l with
   | [.ref j]=>match h2[k]? with
    | some (some (.dct kvs))=>match h2[j]? with
     | some (some (.dct more))=>chk (k≠j /\ kvs.length+more.length<=16777216) (.ok .non (h2.set k (some (.dct (mergeD kvs more)))))
     | _=> .stuck
    | _=> .stuck
   | _=> .stuck
  | _=> .stuck
 | _=> .stuck
@[simp] def mBits(m:ME):ME:=λρ h=>(m ρ h).bind λd h1=>match d with
 | .int i=> .ok (.int (Builtin.Int.intBits i:Nat)) h1
 | _=> .stuck
@[simp] def mDisp1(mk mv:ME):ME:=λρ h=>(mk ρ h).bind λx h1=>(mv ρ h1).bind λy h2=>match ji6 x with
 | some k=> .ok (.ref h2.length) (h2++[some (.dct [(k,y)])])
 | none=> .stuck
@[simp] def mDget1(mo mk:ME):ME:=λρ h=>(mo ρ h).bind λo h1=>match o with
 | .ref k=>match h1[k]? with
  | some (some (.dct _))=>(mk ρ h1).bind λy h2=>match ji6 y with
   | some j=>match h2[k]? with
    | some (some (.dct kvs))=> .ok ((valK kvs j).getD .non) h2
    | _=> .stuck
   | none=> .stuck
  | _=> .stuck
 | _=> .stuck
@[simp] def mDget2(mo mk md:ME):ME:=λρ h=>(mo ρ h).bind λo h1=>match o with
 | .ref k=>match h1[k]? with
  | some (some (.dct _))=>(mk ρ h1).bind λy h2=>match ji6 y with
   | some j=>(md ρ h2).bind λz h3=>match h3[k]? with
    | some (some (.dct kvs))=> .ok ((valK kvs j).getD z) h3
    | _=> .stuck
   | none=> .stuck
  | _=> .stuck
 | _=> .stuck
@[simp] def js5(k:Nat)(kvs:List (Sum Int Str×D)):RS->RS
 | .nx ρ h=>match h[k]? with
  | some none=> .nx ρ (h.set k (some (.dct kvs)))
  | _=> .stuck
 | .rt d h=>match h[k]? with
  | some none=> .rt d (h.set k (some (.dct kvs)))
  | _=> .stuck
 | .exc c h=> .exc c h
 | _=> .stuck
@[simp] def sForV(mo:ME)(g:MG)(b:MS):MS:=λρ h=>(mo ρ h).toS λo h1=>match o with
 | .ref k=>match h1[k]? with
  | some (some (.dct kvs))=>js5 k kvs (jc5 g b (kvs.map (·.2)) ρ (h1.set k none))
  | _=> .stuck
 | _=> .stuck
def keyD:Sum Int Str->D
 | .inl i=> .int i
 | .inr x=> .str x
@[simp] theorem keyD_i(i:Int):keyD (.inl i)= .int i:=rfl
@[simp] theorem keyD_s(x:Str):keyD (.inr x)= .str x:=rfl
@[simp] def itemD(p:Sum Int Str×D):D:= .tup [keyD p.1,p.2]
@[simp] def sForI(mo:ME)(g:MG)(b:MS):MS:=λρ h=>(mo ρ h).toS λo h1=>match o with
 | .ref k=>match h1[k]? with
  | some (some (.dct kvs))=>js5 k kvs (jc5 g b (kvs.map itemD) ρ (h1.set k none))
  | _=> .stuck
 | _=> .stuck
@[simp] def thawN(k:Nat)(kvs:List (Sum Int Str×D)):Res (List D)->Res (List D)
 | .ok ds h=>match h[k]? with
  | some none=> .ok ds (h.set k (some (.dct kvs)))
  | _=> .stuck
 | .exc c h=> .exc c h
 | .stuck=> .stuck
@[simp] def lCompI(nt:Nat)(idx:List Nat)(mo:ME)(g:MG)(t:MT)(m:ME):ML:=λρ h=>(mo ρ h).bind λo h1=>match o with
 | .ref k=>match h1[k]? with
  | some (some (.dct kvs))=>chk (kvs.length<16777216) (thawN k kvs (compLoop g t m (List.replicate nt none++caps idx ρ) (kvs.map itemD) (h1.set k none)))
  | _=> .stuck
 | _=> .stuck
@[simp] def lRep(ma mb:ME):ML:=λρ h=>(ma ρ h).bind λx h1=>(mb ρ h1).bind λy h2=>match y with
 | .int k=>(oR (asL h2 x) h2).bind λa h=>chk (k.natAbs<9223372036854775808 /\ a.length*k.toNat<=16777216) (.ok (List.replicate k.toNat a).flatten h)
 | _=> .stuck
@[simp] def thawK(k:Nat)(kvs:List (Sum Int Str×D)):RS->RS
 | .nx ρ h=>match h[k]? with
  | some (some (.fdc _))=> .nx ρ (h.set k (some (.dct kvs)))
  | _=> .stuck
 | .rt d h=>match h[k]? with
  | some (some (.fdc _))=> .rt d (h.set k (some (.dct kvs)))
  | _=> .stuck
 | .exc c h=> .exc c h
 | _=> .stuck
@[simp] def sForK(mo:ME)(g:MG)(b:MS):MS:=λρ h=>(mo ρ h).toS λo h1=>match o with
 | .ref k=>match h1[k]? with
  | some (some (.dct kvs))=>thawK k kvs (jc5 g b (kvs.map λp=>keyD p.1) ρ (h1.set k (some (.fdc kvs))))
  | _=> .stuck
 | _=> .stuck
def dropM(kvs:List (Sum Int Str×D))(k:Sum Int Str):List (Sum Int Str×D):=kvs.filter λkv=>decide (kv.1≠k)
@[simp] def mDpop1(mo mk:ME):ME:=λρ h=>(mo ρ h).bind λo h1=>match o with
 | .ref k=>match h1[k]? with
  | some (some (.dct _))=>(mk ρ h1).bind λy h2=>match ji6 y with
   | some j=>match h2[k]? with
    | some (some (.dct kvs))=>match valK kvs j with
     | some v=> .ok v (h2.set k (some (.dct (dropM kvs j))))
     | none=> .stuck
    | _=> .stuck
   | none=> .stuck
  | _=> .stuck
 | _=> .stuck
def xT(ns:List (Bool×String))(l:List (String×List Bool)):List ((String×Bool×String)×Bool):=l.flatMap λp=>(ns.zip p.2).map λq=>((p.1,q.1.1,q.1.2),q.2)
@[simp] def sExtend(mo me:ME):MS:=λρ h=>(mo ρ h).toS λo h1=>match o with
 | .ref k=>match h1[k]? with
  | some (some (.lst _))=>(me ρ h1).toS λd h2=>match h2[k]? with
   | some (some (.lst xs))=>match asL h2 d with
    | some ys=>if xs.length+ys.length<=16777216 then .nx ρ (h2.set k (some (.lst (xs++ys)))) else .stuck
    | none=> .stuck
   | _=> .stuck
  | _=> .stuck
 | _=> .stuck
@[simp] def jth(mo:ME):MS:=λρ h=>(mo ρ h).toS λo h1=>match o with
 | .ref k=>match h1[k]? with
  | some (some (.lst _))=> .nx ρ (h1.set k (some (.lst [])))
  | _=> .stuck
 | _=> .stuck
@[simp] def lSort6(m:ML):ML:=λρ h=>(m ρ h).bind λl h1=>match l with
 | [d]=>(oR (jwx h1 d) h1).bind λns h2=>chk (ns.length<64) (.ok ((srt ns).map D.int) h2)
 | _=> .stuck
@[simp] def mDcopy(m:ML):ME:=λρ h=>(m ρ h).bind λl h1=>match l with
 | [.ref k]=>match h1[k]? with
  | some (some (.dct kvs))=> .ok (.ref h1.length) (h1++[some (.dct kvs)])
  | _=> .stuck
 | _=> .stuck
def zipD:List D->List D->List D
 | x::xs,y::ys=> .tup [x,y]::zipD xs ys
 | _,_=>[]
@[simp] def lZip(m:ML):MI:=λρ h=>(m ρ h).bind λl h1=>match l with
 | [.lst xs,.lst ys]=> .ok (none,zipD xs ys) h1
 | _=> .stuck
@[simp] def fAny:List D->MH->Res D:=λl h=>match l with
 | [d]=>(oR ((asL h d).bind jhe) h).bind λbs h=> .ok (.bl (bs.any id)) h
 | _=> .stuck
end Z
set_option maxHeartbeats 4000000
namespace L2
open PySem PySem.Spec
structure Ct where
 P:Program
 w:World
 K:W.Frag
 cm:String->Addr
def fv:Z.D->Option V
 | .non=>some .non
 | .bl b=>some (.bl b)
 | .int i=>some (.int i)
 | .str x=>some (.str x)
 | _=>none
section
variable (C : Ct)
mutual
def RV(bs:List Addr)(G:Hp):V->Z.D->Prop
 | v,.non=>v= .non
 | v,.bl b=>v= .bl b
 | v,.int i=>v= .int i
 | v,.str x=>v= .str x
 | v,.tup ds=>∃a vs,v= .ref a /\ G a=some (.tup vs) /\ RVs bs G vs ds
 | v,.lst ds=>∃a vs,v= .ref a /\ G a=some (.lst vs) /\ RVs bs G vs ds
 | v,.arg ns=>∃a,v= .ref a /\ SqL C.K G a (ns.map V.int)
 | v,.ref k=>∃a,v= .ref a /\ bs[k]?=some a
 | v,.ty n=>v= .ty n
 | v,.cls n=>v= .ref (C.cm n)
 | v,.exc c=>∃a oe u,v= .ref a /\ G a=some (.frz oe u) /\ oe.cls= .ref (C.cm c)
 | v,.obj c fs=>∃a dx fvs,v= .ref a /\ G a=some (.ins (C.cm c) dx fvs) /\ RVf bs G fvs fs
 | v,.dic kvs=>∃a kws,v= .ref a /\ jsc C.P C.w C.K a kws /\ kvs.map (λp=>(p.1,fv p.2))=kws.map (λp=>(p.1,some p.2))
def RVs(bs:List Addr)(G:Hp):List V->List Z.D->Prop
 | [],[]=>True
 | v::vs,d::ds=>RV bs G v d /\ RVs bs G vs ds
 | _,_=>False
def RVf(bs:List Addr)(G:Hp):List (Str×V)->List (Str×Z.D)->Prop
  | [],[]=>True
  | (x,v)::vs,(y,d)::ds=>x=y /\ RV bs G v d /\ RVf bs G vs ds
  | _,_=>False
def RVk(bs:List Addr)(G:Hp):List (Key×V)->List (Sum Int Str×Z.D)->Prop
  | [],[]=>True
  | (x,v)::vs,(y,d)::ds=>x=y /\ RV bs G v d /\ RVk bs G vs ds
  | _,_=>False
end
end
theorem Same.sql{K:W.Frag}{H H':Hp}{a:Addr}{xs:List V}(e:Same H H')(h:SqL K H a xs):SqL K H' a xs:=by
 rcases h with(h | ⟨o,h⟩) | h
 ·exact .inl (.inl (e _ _ h))
 ·exact .inl (.inr ⟨o,e _ _ h⟩)
 ·exact .inr h
section
variable {C : Ct}
mutual
theorem RV.mono{bs bs':List Addr}{G G':Hp}(hb:∀(k:Nat) (a:Addr),bs[k]?=some a->bs'[k]?=some a)(hs:Same G G'):∀{d:Z.D} {v:V},RV C bs G v d->RV C bs' G' v d
 | .non,v,h=>by simp only[RV] at h ⊢;exact h
 | .bl b,v,h=>by simp only[RV] at h ⊢;exact h
 | .int i,v,h=>by simp only[RV] at h ⊢;exact h
 | .str x,v,h=>by simp only[RV] at h ⊢;exact h
 | .tup ds,v,h=>by
  simp only[RV] at h ⊢
  obtain⟨a,vs,h1,h2,h3⟩:=h
  exact⟨a,vs,h1,hs _ _ h2,RVs.mono hb hs h3⟩
 | .lst ds,v,h=>by
  simp only[RV] at h ⊢
  obtain⟨a,vs,h1,h2,h3⟩:=h
  exact⟨a,vs,h1,hs _ _ h2,RVs.mono hb hs h3⟩
 | .arg ns,v,h=>by
  simp only[RV] at h ⊢
  obtain⟨a,h1,h2⟩:=h
  exact⟨a,h1,hs.sql h2⟩
 | .ref k,v,h=>by
  simp only[RV] at h ⊢
  obtain⟨a,h1,h2⟩:=h
  exact⟨a,h1,hb _ _ h2⟩
 | .ty n,v,h=>by simp only[RV] at h ⊢;exact h
 | .cls n,v,h=>by simp only[RV] at h ⊢;exact h
 | .exc n,v,h=>by
  simp only[RV] at h ⊢
  obtain⟨a,oe,u,h1,h2,h3⟩:=h
  exact⟨a,oe,u,h1,hs _ _ h2,h3⟩
 | .obj c fs,v,h=>by
  simp only[RV] at h ⊢
  obtain⟨a,dx,fvs,h1,h2,h3⟩:=h
  exact⟨a,dx,fvs,h1,hs _ _ h2,RVf.mono hb hs h3⟩
 | .dic kvs,v,h=>by simp only[RV] at h ⊢;exact h
theorem RVs.mono{bs bs':List Addr}{G G':Hp}(hb:∀(k:Nat) (a:Addr),bs[k]?=some a->bs'[k]?=some a)(hs:Same G G'):∀{ds:List Z.D} {vs:List V},RVs C bs G vs ds->RVs C bs' G' vs ds
 | [],[],_=>by simp only[RVs]
 | d::ds,v::vs,h=>by
  simp only[RVs] at h ⊢
  exact⟨RV.mono hb hs h.1,RVs.mono hb hs h.2⟩
 | [],_::_,h=>by simp only[RVs] at h
 | _::_,[],h=>by simp only[RVs] at h
theorem RVf.mono{bs bs':List Addr}{G G':Hp}(hb:∀(k:Nat) (a:Addr),bs[k]?=some a->bs'[k]?=some a)(hs:Same G G'):∀{ds:List (Str×Z.D)} {vs:List (Str×V)},RVf C bs G vs ds->RVf C bs' G' vs ds
  | [],[],_=>by simp only[RVf]
  | (y,d)::ds,(x,v)::vs,h=>by
    simp only[RVf] at h ⊢
    exact⟨h.1,RV.mono hb hs h.2.1,RVf.mono hb hs h.2.2⟩
  | [],_::_,h=>by simp only[RVf] at h
  | _::_,[],h=>by simp only[RVf] at h
theorem RVk.mono{bs bs':List Addr}{G G':Hp}(hb:∀(k:Nat) (a:Addr),bs[k]?=some a->bs'[k]?=some a)(hs:Same G G'):∀{ds:List (Sum Int Str×Z.D)} {vs:List (Key×V)},RVk C bs G vs ds->RVk C bs' G' vs ds
  | [],[],_=>by simp only[RVk]
  | (y,d)::ds,(x,v)::vs,h=>by
    simp only[RVk] at h ⊢
    exact⟨h.1,RV.mono hb hs h.2.1,RVk.mono hb hs h.2.2⟩
  | [],_::_,h=>by simp only[RVk] at h
  | _::_,[],h=>by simp only[RVk] at h
end
def lv(bs:List Addr)(h:Z.MH)(a:Addr):Prop:=∃(k:Nat) (c:Z.Cell),bs[k]?=some a /\ h[k]?=some (some c) /\ c.live=true
open Classical in
def gh(ex bs:List Addr)(h:Z.MH)(H:Hp):Hp:=λa=>if a∈ex \/ lv bs h a then none else H a
theorem jb4{ex bs:List Addr}{h:Z.MH}{H:Hp}{a:Addr}{o:HO}:gh ex bs h H a=some o↔a∉ex /\ ¬lv bs h a /\ H a=some o:=by
 unfold gh
 by_cases q:a∈ex \/ lv bs h a
 ·rw[if_pos q]
  constructor
  ·intro z;cases z
  ·rintro⟨h1,h2,_⟩
   rcases q with q | q
   ·exact absurd q h1
   ·exact absurd q h2
 ·rw[if_neg q]
  exact⟨λz=>⟨λm=>q (.inl m),λm=>q (.inr m),z⟩,λz=>z.2.2⟩
theorem jbe{ex bs:List Addr}{h:Z.MH}{H:Hp}:Same (gh ex bs h H) H:=λa o e=>(jb4.mp e).2.2
def jdo(C:Ct)(bs:List Addr)(G H:Hp)(a:Addr):Z.Cell->Prop
 | .lst ds=>∃vs,H a=some (.lst vs) /\ RVs C bs G vs ds
 | .dct kvs=>∃kws,H a=some (.dK kws) /\ RVk C bs G kws kvs
 | .ins c fs=>∃dx fvs,H a=some (.ins (C.cm c) dx fvs) /\ RVf C bs G fvs fs
 | .fdc kvs=>∃o kws,G a=some (.frz o (.dK kws)) /\ o.cls= .type "dict" /\ RVk C bs G kws kvs
theorem jdo.mono{bs bs':List Addr}{G G' H H':Hp}{a:Addr}{c:Z.Cell}(hb:∀(k:Nat) (a:Addr),bs[k]?=some a->bs'[k]?=some a)(hs:Same G G')(e:H' a=H a)(h:jdo C bs G H a c):jdo C bs' G' H' a c:=by
 cases c with
 | lst ds=>obtain⟨vs,h1,h2⟩:=h;exact⟨vs,by rw[e];exact h1,h2.mono hb hs⟩
 | dct kvs=>obtain⟨vs,h1,h2⟩:=h;exact⟨vs,by rw[e];exact h1,h2.mono hb hs⟩
 | ins c fs=>obtain⟨dx,vs,h1,h2⟩:=h;exact⟨dx,vs,by rw[e];exact h1,h2.mono hb hs⟩
 | fdc kvs=>obtain⟨o,vs,h1,hc,h2⟩:=h;exact⟨o,vs,hs _ _ h1,hc,h2.mono hb hs⟩
structure HR (C:Ct) (ex bs:List Addr) (h:Z.MH) (H:Hp):Prop where
 len:bs.length=h.length
 inj:∀(i j:Nat) (a:Addr),bs[i]?=some a->bs[j]?=some a->i=j
 sep:∀a∈ex,a∉bs
 dom:∀a∈bs,H a≠none
 domx:∀a∈ex,H a≠none
 cell:∀(k:Nat) (a:Addr) (c:Z.Cell),bs[k]?=some a->h[k]?=some (some c)->jdo C bs (gh ex bs h H) H a c
structure Ev (C:Ct) (ex bs:List Addr) (h:Z.MH) (H:Hp) (bs':List Addr) (h':Z.MH) (H':Hp):Prop where
 pre:∀(k:Nat) (a:Addr),bs[k]?=some a->bs'[k]?=some a
 hr:HR C ex bs' h' H'
 same:Same (gh ex bs h H) (gh ex bs' h' H')
 exs:∀a∈ex,H' a=H a
variable {ex bs bs1 bs2 : List Addr} {h h1 h2 : Z.MH} {H H1 H2 : Hp}
theorem Ev.refl(r:HR C ex bs h H):Ev C ex bs h H bs h H:=⟨λ_ _ e=>e,r,Same.refl _,λ_ _=>rfl⟩
theorem Ev.trans(a:Ev C ex bs h H bs1 h1 H1)(b:Ev C ex bs1 h1 H1 bs2 h2 H2):Ev C ex bs h H bs2 h2 H2:=
 ⟨λk x e=>b.pre k x (a.pre k x e),b.hr,a.same.trans b.same,λx hx=>(b.exs x hx).trans (a.exs x hx)⟩
theorem RV.ev{v:V}{d:Z.D}(e:Ev C ex bs h H bs1 h1 H1)(r:RV C bs (gh ex bs h H) v d):RV C bs1 (gh ex bs1 h1 H1) v d:=r.mono e.pre e.same
theorem RVs.ev{v:List V}{d:List Z.D}(e:Ev C ex bs h H bs1 h1 H1)(r:RVs C bs (gh ex bs h H) v d):RVs C bs1 (gh ex bs1 h1 H1) v d:=r.mono e.pre e.same
def RE(C:Ct)(bs:List Addr)(G:Hp)(ρ:Z.Ro)(σ:St):Prop:=ρ.length=σ.length /\ ∀(i:Nat) (d:Z.D),ρ[i]?=some (some d)->∃v,σ[i]?=some (some v) /\ RV C bs G v d
theorem RE.ev{ρ:Z.Ro}{σ:St}(e:Ev C ex bs h H bs1 h1 H1)(r:RE C bs (gh ex bs h H) ρ σ):RE C bs1 (gh ex bs1 h1 H1) ρ σ:=
 ⟨r.1,λi d q=>by obtain⟨v,h1,h2⟩:=r.2 i d q;exact⟨v,h1,h2.ev e⟩⟩
theorem RE.set{G:Hp}{ρ:Z.Ro}{σ:St}{i:Nat}{d:Z.D}{v:V}(r:RE C bs G ρ σ)(q:RV C bs G v d):RE C bs G (ρ.set i (some d)) (σ.set i (some v)):=by
 refine⟨by simp[r.1],λj e hj=> ?_⟩
 by_cases hij:i=j
 ·subst hij
  rw[List.getElem?_set_self'] at hj
  have hl:i<ρ.length:=by
   by_cases hl:i<ρ.length
   ·exact hl
   ·rw[List.getElem?_eq_none (by omega)] at hj;simp at hj
  rw[List.getElem?_eq_getElem hl] at hj
  simp at hj
  subst hj
  refine⟨v,?_,q⟩
  rw[List.getElem?_set_self (by rw[<-r.1];exact hl)]
 ·rw[List.getElem?_set_ne hij] at hj
  obtain⟨u,h1,h2⟩:=r.2 j e hj
  exact⟨u,by rw[List.getElem?_set_ne hij];exact h1,h2⟩
def Post(C:Ct)(ex:List Addr)(E:XK)(bs:List Addr)(h:Z.MH)(H:Hp){α β:Type}(R:List Addr->Hp->β->α->Prop)(r:Z.Res α)(Q:β->Hp->Prop):Prop:=match r with
 | .ok a h'=>∀b bs' H',Ev C ex bs h H bs' h' H'->R bs' (gh ex bs' h' H') b a->Q b H'
 | .exc c h'=>∀bs' H',Ev C ex bs h H bs' h' H'->E (.ref (C.cm c)) none H'
 | .stuck=>False
variable {E : XK} {α β γ δ : Type} {R : List Addr -> Hp -> β -> α -> Prop} {R1 : List Addr -> Hp -> β -> α -> Prop} {R3 : List Addr -> Hp -> δ -> γ -> Prop}
theorem Post.from{r:Z.Res α}{Q:β->Hp->Prop}(e:Ev C ex bs h H bs1 h1 H1)(p:Post C ex E bs h H R r Q):Post C ex E bs1 h1 H1 R r Q:=by
 cases r with
 | ok a h'=>exact λb bs' H' e' q=>p b bs' H' (e.trans e') q
 | exc c h'=>exact λbs' H' e'=>p bs' H' (e.trans e')
 | stuck=>exact p
theorem Post.bind{r:Z.Res α}{f:α->Z.MH->Z.Res γ}{Q:δ->Hp->Prop}{Q1:β->Hp->Prop}(p:Post C ex E bs h H R3 (r.bind f) Q)
  (k:∀a b h1 bs1 H1,Ev C ex bs h H bs1 h1 H1->R1 bs1 (gh ex bs1 h1 H1) b a->Post C ex E bs1 h1 H1 R3 (f a h1) Q->Q1 b H1):Post C ex E bs h H R1 r Q1:=by
 cases r with
 | ok a h'=>exact λb bs' H' e' q=>k a b h' bs' H' e' q (Post.from e' p)
 | exc c h'=>exact p
 | stuck=>exact p
theorem Post.now{a:α}{b:β}{Q:β->Hp->Prop}(hr:HR C ex bs h H)(p:Post C ex E bs h H R (.ok a h) Q)(q:R bs (gh ex bs h H) b a):Q b H:=p b bs H (Ev.refl hr) q
theorem Post.chk{c:Prop}[Decidable c]{r:Z.Res α}{Q:β->Hp->Prop}(p:Post C ex E bs h H R (Z.chk c r) Q):c /\ Post C ex E bs h H R r Q:=by
 unfold Z.chk at p
 by_cases q:c
 ·rw[if_pos q] at p;exact⟨q,p⟩
 ·rw[if_neg q] at p;exact p.elim
theorem Post.oR{o:Option α}{f:α->Z.MH->Z.Res γ}{Q:δ->Hp->Prop}(p:Post C ex E bs h H R3 ((Z.oR o h1).bind f) Q):∃a,o=some a /\ Post C ex E bs h H R3 (f a h1) Q:=by
 cases o with
 | none=>exact p.elim
 | some a=>exact⟨a,rfl,p⟩
theorem Post.oR1{o:Option α}{Q:β->Hp->Prop}(p:Post C ex E bs h H R (Z.oR o h1) Q):∃a,o=some a /\ Post C ex E bs h H R (.ok a h1) Q:=by
 cases o with
 | none=>exact p.elim
 | some a=>exact⟨a,rfl,p⟩
def Snd(C:Ct)(E:XK){α β:Type}(R:List Addr->Hp->β->α->Prop)(t:St->Hp->(β->Hp->Prop)->Prop)(m:Z.Ro->Z.MH->Z.Res α):Prop:=
 ∀(ex bs:List Addr) (h:Z.MH) (ρ:Z.Ro) (σ:St) (H:Hp) (Q:β->Hp->Prop),HR C ex bs h H->RE C bs (gh ex bs h H) ρ σ->Post C ex E bs h H R (m ρ h) Q->t σ H Q
abbrev SE(C:Ct)(E:XK)(t:TE)(m:Z.ME):Prop:=Snd C E (RV C) t m
abbrev SA(C:Ct)(E:XK)(t:TA)(m:Z.ML):Prop:=Snd C E (RVs C) t m
def REq{α:Type}:List Addr->Hp->α->α->Prop:=λ_ _ b a=>b=a
abbrev ST(C:Ct)(E:XK)(t:TT)(m:Z.MT):Prop:=Snd C E REq t m
abbrev SO(C:Ct)(E:XK)(t:TO)(m:Z.MO):Prop:=Snd C E REq t m
def S2(C:Ct)(r:R2)(f:Z.B2):Prop:=∀(ex bs:List Addr) (h:Z.MH) (H:Hp) (E:XK) (x y:V) (dx dy:Z.D) (Q:VK),HR C ex bs h H->RV C bs (gh ex bs h H) x dx->RV C bs (gh ex bs h H) y dy->Post C ex E bs h H (RV C) (f dx dy h) Q->r x y H Q
def S1(C:Ct)(r:V->Hp->VK->Prop)(f:Z.D->Z.MH->Z.Res Z.D):Prop:=∀(ex bs:List Addr) (h:Z.MH) (H:Hp) (E:XK) (x:V) (dx:Z.D) (Q:VK),HR C ex bs h H->RV C bs (gh ex bs h H) x dx->Post C ex E bs h H (RV C) (f dx h) Q->r x H Q
def SL(C:Ct)(r:List V->Hp->VK->Prop)(f:List Z.D->Z.MH->Z.Res Z.D):Prop:=∀(ex bs:List Addr) (h:Z.MH) (H:Hp) (E:XK) (xs:List V) (ds:List Z.D) (Q:VK),HR C ex bs h H->RVs C bs (gh ex bs h H) xs ds->Post C ex E bs h H (RV C) (f ds h) Q->r xs H Q
theorem ja1{i:Nat}:SE C E (tVar i) (Z.mVar i):=by
 intro ex bs h ρ σ H Q hr re p
 unfold Z.mVar at p
 cases q:ρ[i]? with
 | none=>rw[q] at p;exact p.elim
 | some o=>
  cases o with
  | none=>rw[q] at p;exact p.elim
  | some d=>
   rw[q] at p
   obtain⟨v,h1,h2⟩:=re.2 i d q
   exact⟨v,h1,p.now hr h2⟩
theorem s_c{v:V}{d:Z.D}(q:∀bs G,RV C bs G v d):SE C E (tC v) (Z.mC d):=λex bs h ρ σ H Q hr re p=>Post.now hr p (q _ _)
theorem jae{i:Int}:SE C E (tC (.int i)) (Z.mC (.int i)):=s_c λ_ _=>by simp only[RV]
theorem jas{i:Str}:SE C E (tC (.str i)) (Z.mC (.str i)):=s_c λ_ _=>by simp only[RV]
theorem s_bl{i:Bool}:SE C E (tC (.bl i)) (Z.mC (.bl i)):=s_c λ_ _=>by simp only[RV]
theorem jrz:SE C E (tC .non) (Z.mC .non):=s_c λ_ _=>by simp only[RV]
theorem s_ty{n:String}:SE C E (tC (.ty n)) (Z.mC (.ty n)):=s_c λ_ _=>by simp only[RV]
theorem s_op{r:R2}{f:Z.B2}{ta tb:TE}{ma mb:Z.ME}(o:S2 C r f)(ha:SE C E ta ma)(hb:SE C E tb mb):SE C E (tOp r ta tb) (Z.mBin f ma mb):=by
 intro ex bs h ρ σ H Q hr re p
 refine ha ex bs h ρ σ H _ hr re (p.bind λdx x h1 bs1 H1 e1 rx p1=> ?_)
 refine hb ex bs1 h1 ρ σ H1 _ e1.hr (re.ev e1) (p1.bind λdy y h2 bs2 H2 e2 ry p2=> ?_)
 exact o ex bs2 h2 H2 E x y dx dy Q e2.hr (rx.ev e2) ry p2
theorem s_un{r:V->Hp->VK->Prop}{f:Z.D->Z.MH->Z.Res Z.D}{ta:TE}{ma:Z.ME}(o:S1 C r f)(ha:SE C E ta ma):SE C E (tUn r ta) (Z.mUn f ma):=by
 intro ex bs h ρ σ H Q hr re p
 refine ha ex bs h ρ σ H _ hr re (p.bind λdx x h1 bs1 H1 e1 rx p1=> ?_)
 exact o ex bs1 h1 H1 E x dx Q e1.hr rx p1
theorem ja9:SA C E tNil Z.mNil:=λex bs h ρ σ H Q hr re p=>Post.now hr p (by simp only[RVs])
theorem ja2{ta:TE}{tl:TA}{ma:Z.ME}{ml:Z.ML}(ha:SE C E ta ma)(hl:SA C E tl ml):SA C E (jus ta tl) (Z.ja3 ma ml):=by
 intro ex bs h ρ σ H Q hr re p
 refine ha ex bs h ρ σ H _ hr re (p.bind λdx x h1 bs1 H1 e1 rx p1=> ?_)
 refine hl ex bs1 h1 ρ σ H1 _ e1.hr (re.ev e1) (p1.bind λdy y h2 bs2 H2 e2 ry p2=> ?_)
 exact Post.now e2.hr p2 (by simp only[RVs];exact⟨rx.ev e2,ry⟩)
theorem s_cb{r:List V->Hp->VK->Prop}{f:List Z.D->Z.MH->Z.Res Z.D}{tl:TA}{ml:Z.ML}(o:SL C r f)(hl:SA C E tl ml):SE C E (tCB r tl) (Z.mFn f ml):=by
 intro ex bs h ρ σ H Q hr re p
 refine hl ex bs h ρ σ H _ hr re (p.bind λdx x h1 bs1 H1 e1 rx p1=> ?_)
 exact o ex bs1 h1 H1 E x dx Q e1.hr rx p1
theorem RVs.len{bs:List Addr}{G:Hp}:∀{ds:List Z.D} {vs:List V},RVs C bs G vs ds->vs.length=ds.length
 | [],[],_=>rfl
 | d::ds,v::vs,h=>by simp only[RVs] at h;simp[RVs.len h.2]
 | [],_::_,h=>by simp only[RVs] at h
 | _::_,[],h=>by simp only[RVs] at h
theorem Ev.alloc{p:Addr}{o:HO}(hr:HR C ex bs h H)(hp:H p=none):Ev C ex bs h H bs h (upd H p o) /\ gh ex bs h (upd H p o) p=some o:=by
 have nx:p∉ex:=λm=>hr.domx p m hp
 have nb:p∉bs:=λm=>hr.dom p m hp
 have nl:¬lv bs h p:=λ⟨k,c,e,_⟩=>nb (List.mem_of_getElem? e)
 have ne:∀{a},H a≠none->a≠p:=fun{a} q e=>q (by rw[e];exact hp)
 have sm:Same (gh ex bs h H) (gh ex bs h (upd H p o)):=λa u e=>by
  obtain⟨h1,h2,h3⟩:=jb4.mp e
  exact jb4.mpr ⟨h1,h2,by rw[jad (ne (by rw[h3];exact λz=>nomatch z))];exact h3⟩
 refine⟨⟨λ_ _ e=>e,⟨hr.len,hr.inj,hr.sep,λa m=> ?_,λa m=> ?_,λk a c e1 e2=> ?_⟩,sm,λa m=> ?_⟩,jb4.mpr ⟨nx,nl,jax⟩⟩
 ·rw[jad (ne (hr.dom a m))];exact hr.dom a m
 ·rw[jad (ne (hr.domx a m))];exact hr.domx a m
 ·exact(hr.cell k a c e1 e2).mono (λ_ _ e=>e) sm (by rw[jad (ne (hr.dom a (List.mem_of_getElem? e1)))])
 ·rw[jad (ne (hr.domx a m))]
theorem jni{tl:TA}{ml:Z.ML}(hl:SA C E tl ml):SE C E (tTup tl) (Z.mTup ml):=by
 intro ex bs h ρ σ H Q hr re p
 refine hl ex bs h ρ σ H _ hr re (p.bind λds xs h1 bs1 H1 e1 rx p1=> ?_)
 obtain⟨hz,p1⟩:=p1.chk
 refine⟨by rw[rx.len];exact hz,λa ha=> ?_⟩
 obtain⟨e2,g⟩:=Ev.alloc (o:= .tup xs) e1.hr ha
 exact p1 (.ref a) bs1 _ e2 (by simp only[RV];exact⟨a,xs,rfl,g,rx.ev e2⟩)
def jd3(C:Ct)(ex:List Addr)(E:XK)(bs:List Addr)(h:Z.MH)(H:Hp)(r:Z.Res (List Z.D))(Q:VK):Prop:=match r with
 | .ok ds h'=>∀p vs bs' H1,Ev C ex bs h H bs' h' H1->H1 p=none->RVs C bs' (gh ex bs' h' H1) vs ds->Q (.ref p) (upd H1 p (.lst vs))
 | .exc c h'=>∀bs' H',Ev C ex bs h H bs' h' H'->E (.ref (C.cm c)) none H'
 | .stuck=>False
def SN(C:Ct)(E:XK)(t:TE)(m:Z.ML):Prop:=
 ∀(ex bs:List Addr) (h:Z.MH) (ρ:Z.Ro) (σ:St) (H:Hp) (Q:VK),HR C ex bs h H->RE C bs (gh ex bs h H) ρ σ->jd3 C ex E bs h H (m ρ h) Q->t σ H Q
theorem jd3.from{r:Z.Res (List Z.D)}{Q:VK}(e:Ev C ex bs h H bs1 h1 H1)(p:jd3 C ex E bs h H r Q):jd3 C ex E bs1 h1 H1 r Q:=by
 cases r with
 | ok a h'=>exact λb vs bs' H' e' hn q=>p b vs bs' H' (e.trans e') hn q
 | exc c h'=>exact λbs' H' e'=>p bs' H' (e.trans e')
 | stuck=>exact p
theorem jd3.bind{r:Z.Res α}{f:α->Z.MH->Z.Res (List Z.D)}{Q:VK}{Q1:β->Hp->Prop}(p:jd3 C ex E bs h H (r.bind f) Q)
  (k:∀a b h1 bs1 H1,Ev C ex bs h H bs1 h1 H1->R1 bs1 (gh ex bs1 h1 H1) b a->jd3 C ex E bs1 h1 H1 (f a h1) Q->Q1 b H1):Post C ex E bs h H R1 r Q1:=by
 cases r with
 | ok a h'=>exact λb bs' H' e' q=>k a b h' bs' H' e' q (jd3.from e' p)
 | exc c h'=>exact p
 | stuck=>exact p
theorem jd3.chk{c:Prop}[Decidable c]{r:Z.Res (List Z.D)}{Q:VK}(p:jd3 C ex E bs h H (Z.chk c r) Q):c /\ jd3 C ex E bs h H r Q:=by
 unfold Z.chk at p
 by_cases q:c
 ·rw[if_pos q] at p;exact⟨q,p⟩
 ·rw[if_neg q] at p;exact p.elim
theorem jd3.now{ds:List Z.D}{Q:VK}{p:Addr}{vs:List V}(hr:HR C ex bs h H)(q:jd3 C ex E bs h H (.ok ds h) Q)(hp:H p=none)(r:RVs C bs (gh ex bs h H) vs ds):Q (.ref p) (upd H p (.lst vs)):=q p vs bs H (Ev.refl hr) hp r
theorem jby{t:TE}{m:Z.ML}(hn:SN C E t m):SE C E t (Z.jcc m):=by
 intro ex bs h ρ σ H Q hr re p
 refine hn ex bs h ρ σ H Q hr re ?_
 unfold Z.jcc at p
 cases e:m ρ h with
 | ok ds h1=>
  rw[e] at p
  intro a vs bs1 H1 e1 ha rv
  obtain⟨e2,g⟩:=Ev.alloc (o:= .lst vs) e1.hr ha
  exact p (.ref a) bs1 _ (e1.trans e2) (by simp only[RV];exact⟨a,vs,rfl,g,rv.ev e2⟩)
 | exc c h1=>rw[e] at p;exact p
 | stuck=>rw[e] at p;exact p
theorem jfw{α:Type}{l:List α}{a x:α}{k:Nat}(e:l[k]?=some a):(l++[x])[k]?=some a:=by
 rw[List.getElem?_append_left (List.getElem?_eq_some_iff.mp e).1];exact e
theorem jbg{α:Type}{l:List α}{a x:α}{k:Nat}(e:(l++[x])[k]?=some a):l[k]?=some a \/ (k=l.length /\ a=x):=by
 by_cases hk:k<l.length
 ·rw[List.getElem?_append_left hk] at e;exact .inl e
 ·rw[List.getElem?_append_right (by omega)] at e
  by_cases hk2:k=l.length
  ·subst hk2;simp at e;exact .inr ⟨rfl,e.symm⟩
  ·rw[List.getElem?_eq_none (by simp;omega)] at e;cases e
theorem Ev.cell{p:Addr}{o:HO}{c:Z.Cell}(hr:HR C ex bs h H)(hp:H p=none)(hc:jdo C bs (gh ex bs h H) (upd H p o) p c):Ev C ex bs h H (bs++[p]) (h++[some c]) (upd H p o):=by
 have nx:p∉ex:=λm=>hr.domx p m hp
 have nb:p∉bs:=λm=>hr.dom p m hp
 have ne:∀{a},H a≠none->a≠p:=fun{a} q e=>q (by rw[e];exact hp)
 have hb:∀(k:Nat) (a:Addr),bs[k]?=some a->(bs++[p])[k]?=some a:=λk a e=>jfw e
 have lvs:∀a,lv (bs++[p]) (h++[some c]) a->lv bs h a \/ a=p:=λa ⟨k,c',e1,e2,l2⟩=>by
  rcases jbg e1 with e1 | ⟨_,e1⟩
  ·rcases jbg e2 with e2 | ⟨e2,_⟩
   ·exact .inl ⟨k,c',e1,e2,l2⟩
   ·have:=(List.getElem?_eq_some_iff.mp e1).1
    have:=hr.len
    omega
  ·exact .inr e1
 have sm:Same (gh ex bs h H) (gh ex (bs++[p]) (h++[some c]) (upd H p o)):=λa u e=>by
  obtain⟨h1,h2,h3⟩:=jb4.mp e
  have na:a≠p:=ne (by rw[h3];exact λz=>nomatch z)
  refine jb4.mpr ⟨h1,λl=> ?_,by rw[jad na];exact h3⟩
  rcases lvs a l with l | l
  ·exact h2 l
  ·exact na l
 refine⟨hb,⟨by simp[hr.len],λi j a e1 e2=> ?_,λa m=> ?_,λa m=> ?_,λa m=> ?_,λk a c' e1 e2=> ?_⟩,sm,λa m=> ?_⟩
 ·rcases jbg e1 with e1 | ⟨k1,e1⟩
  ·rcases jbg e2 with e2 | ⟨k2,e2⟩
   ·exact hr.inj i j a e1 e2
   ·rw[e2] at e1;exact absurd (List.mem_of_getElem? e1) nb
  ·rcases jbg e2 with e2 | ⟨k2,e2⟩
   ·rw[e1] at e2;exact absurd (List.mem_of_getElem? e2) nb
   ·omega
 ·intro z
  rcases List.mem_append.mp z with z | z
  ·exact hr.sep a m z
  ·exact nx (by rw[<-(show a=p by simpa using z)];exact m)
 ·rcases List.mem_append.mp m with m | m
  ·rw[jad (ne (hr.dom a m))];exact hr.dom a m
  ·rw[show a=p by simpa using m,jax];exact λz=>nomatch z
 ·rw[jad (ne (hr.domx a m))];exact hr.domx a m
 ·rcases jbg e1 with e1 | ⟨k1,e1⟩
  ·rcases jbg e2 with e2 | ⟨k2,e2⟩
   ·exact(hr.cell k a c' e1 e2).mono hb sm (by rw[jad (ne (hr.dom a (List.mem_of_getElem? e1)))])
   ·have:=(List.getElem?_eq_some_iff.mp e1).1
    have:=hr.len
    omega
  ·rcases jbg e2 with e2 | ⟨k2,e2⟩
   ·have:=(List.getElem?_eq_some_iff.mp e2).1
    have:=hr.len
    omega
   ·rw[e1]
    injection e2 with e2
    subst e2
    exact hc.mono hb sm rfl
 ·rw[jad (ne (hr.domx a m))]
theorem ju2{t:TE}{m:Z.ML}(hn:SN C E t m):SE C E t (Z.jkm m):=by
 intro ex bs h ρ σ H Q hr re p
 refine hn ex bs h ρ σ H Q hr re ?_
 unfold Z.jkm at p
 cases e:m ρ h with
 | ok ds h1=>
  rw[e] at p
  intro a vs bs1 H1 e1 ha rv
  have e2:=Ev.cell (o:= .lst vs) (c:= .lst ds) e1.hr ha ⟨vs,jax,rv⟩
  refine p (.ref a) (bs1++[a]) _ (e1.trans e2) ?_
  simp only[RV]
  exact⟨a,rfl,by rw[<-e1.hr.len];simp⟩
 | exc c h1=>rw[e] at p;exact p
 | stuck=>rw[e] at p;exact p
theorem je8{tl:TA}{ml:Z.ML}(hl:SA C E tl ml):SN C E (tLst tl) (Z.jek ml):=by
 intro ex bs h ρ σ H Q hr re p
 refine hl ex bs h ρ σ H _ hr re (jd3.bind p λds xs h1 bs1 H1 e1 rx p1=> ?_)
 obtain⟨hz,p1⟩:=p1.chk
 exact⟨by rw[rx.len];exact hz,λa ha=>p1.now e1.hr ha rx⟩
theorem jtf{k:Nat}{a x:Addr}{c c0:Z.Cell}(hk:bs[k]?=some a)(h0:h[k]?=some (some c0))(l1:c.live=true)(l0:c0.live=true):lv bs (h.set k (some c)) x↔lv bs h x:=by
 constructor
 ·rintro⟨j,c',e1,e2,l2⟩
  by_cases hj:k=j
  ·subst hj;exact⟨k,c0,e1,h0,l0⟩
  ·rw[List.getElem?_set_ne hj] at e2;exact⟨j,c',e1,e2,l2⟩
 ·rintro⟨j,c',e1,e2,l2⟩
  by_cases hj:k=j
  ·subst hj;exact⟨k,c,e1,by rw[List.getElem?_set_self (List.getElem?_eq_some_iff.mp h0).1],l1⟩
  ·exact⟨j,c',e1,by rw[List.getElem?_set_ne hj];exact e2,l2⟩
theorem Ev.put{k:Nat}{a:Addr}{o:HO}{c c0:Z.Cell}(hr:HR C ex bs h H)(hk:bs[k]?=some a)(h0:h[k]?=some (some c0))(hc:jdo C bs (gh ex bs h H) (upd H a o) a c)(l1:c.live=true:=by rfl)(l0:c0.live=true:=by rfl):
  Ev C ex bs h H bs (h.set k (some c)) (upd H a o):=by
 have la:lv bs h a:=⟨k,c0,hk,h0,l0⟩
 have ab:a∈bs:=List.mem_of_getElem? hk
 have ge:gh ex bs (h.set k (some c)) (upd H a o)=gh ex bs h H:=by
  funext x
  unfold gh
  by_cases q:x∈ex \/ lv bs h x
  ·rw[if_pos q,if_pos (q.imp id (jtf hk h0 l1 l0).mpr)]
  ·rw[if_neg q,if_neg (λz=>q (z.imp id (jtf hk h0 l1 l0).mp)),jad (λz=>q (.inr (by rw[z];exact la)))]
 have na:∀{x},x∈ex->x≠a:=fun{x} m z=>hr.sep x m (by rw[z];exact ab)
 refine⟨λ_ _ e=>e,⟨by simp[hr.len],hr.inj,hr.sep,λx m=> ?_,λx m=> ?_,λj x c' e1 e2=> ?_⟩,by rw[ge];exact Same.refl _,λx m=>by rw[jad (na m)]⟩
 ·by_cases q:x=a
  ·rw[q,jax];exact λz=>nomatch z
  ·rw[jad q];exact hr.dom x m
 ·rw[jad (na m)];exact hr.domx x m
 ·rw[ge]
  by_cases hj:k=j
  ·subst hj
   rw[hk] at e1;cases e1
   rw[List.getElem?_set_self (List.getElem?_eq_some_iff.mp h0).1] at e2
   cases e2;exact hc
  ·rw[List.getElem?_set_ne hj] at e2
   refine(hr.cell j x c' e1 e2).mono (λ_ _ e=>e) (Same.refl _) ?_
   rw[jad (λz=>hj (hr.inj k j a hk (by rw[<-z];exact e1)))]
theorem Ev.freeze{k:Nat}{a:Addr}{ds:List Z.D}(hr:HR C ex bs h H)(hk:bs[k]?=some a)(h0:h[k]?=some (some (.lst ds))):
  Ev C ex bs h H bs (h.set k none) H /\ RV C bs (gh ex bs (h.set k none) H) (.ref a) (.lst ds):=by
 have ab:a∈bs:=List.mem_of_getElem? hk
 have lvs:∀x,lv bs (h.set k none) x->lv bs h x /\ x≠a:=λx ⟨j,c',e1,e2,l2⟩=>by
  by_cases hj:k=j
  ·subst hj;rw[List.getElem?_set_self (List.getElem?_eq_some_iff.mp h0).1] at e2;cases e2
  ·rw[List.getElem?_set_ne hj] at e2
   exact⟨⟨j,c',e1,e2,l2⟩,λz=>hj (hr.inj k j a hk (by rw[<-z];exact e1))⟩
 have sm:Same (gh ex bs h H) (gh ex bs (h.set k none) H):=λx u e=>by
  obtain⟨h1,h2,h3⟩:=jb4.mp e
  exact jb4.mpr ⟨h1,λl=>h2 (lvs x l).1,h3⟩
 obtain⟨vs,h1,h2⟩:=hr.cell k a _ hk h0
 refine⟨⟨λ_ _ e=>e,⟨by simp[hr.len],hr.inj,hr.sep,hr.dom,hr.domx,λj x c' e1 e2=> ?_⟩,sm,λ_ _=>rfl⟩,?_⟩
 ·by_cases hj:k=j
  ·subst hj;rw[List.getElem?_set_self (List.getElem?_eq_some_iff.mp h0).1] at e2;cases e2
  ·rw[List.getElem?_set_ne hj] at e2
   exact(hr.cell j x c' e1 e2).mono (λ_ _ e=>e) sm rfl
 ·simp only[RV]
  exact⟨a,vs,rfl,jb4.mpr ⟨λm=>hr.sep a m ab,λl=>(lvs a l).2 rfl,h1⟩,h2.mono (λ_ _ e=>e) sm⟩
def spZ(C:Ct)(z:Z.MF):Sp:=λvs H Q E=>∃ex bs h ds,HR C ex bs h H /\ RVs C bs (gh ex bs h H) vs ds /\ Post C ex E bs h H (RV C) (z ds h) Q
theorem jan{z:Z.MF}{tl:TA}{ml:Z.ML}(hl:SA C E tl ml):SE C E (jwu (spZ C z) [] E tl) (Z.jaq z ml):=by
 intro ex bs h ρ σ H Q hr re p
 refine hl ex bs h ρ σ H _ hr re (p.bind λds xs h1 bs1 H1 e1 rx p1=> ?_)
 exact⟨ex,bs1,h1,ds,e1.hr,by rw[List.append_nil];exact rx,p1⟩
theorem s_tB{t:TE}{m:Z.ME}(h0:SE C E t m):ST C E (tB t) (Z.tB m):=by
 intro ex bs h ρ σ H Q hr re p
 refine h0 ex bs h ρ σ H _ hr re (p.bind λd x h1 bs1 H1 e1 rx p1=> ?_)
 cases d with
 | bl b=>simp only[RV] at rx;exact⟨b,rx,Post.now e1.hr p1 rfl⟩
 | _=>exact p1.elim
theorem jao{t:TE}{m:Z.ME}(h0:SE C E t m):ST C E (jwz t) (Z.tB m):=s_tB h0
theorem jlr{t u:TT}{m n:Z.MT}(ht:ST C E t m)(hu:ST C E u n):ST C E (tAnd t u) (Z.tAnd m n):=by
 intro ex bs h ρ σ H Q hr re p
 refine ht ex bs h ρ σ H _ hr re (p.bind λc b h1 bs1 H1 e1 rx p1=> ?_)
 cases rx
 cases c with
 | true=>exact hu ex bs1 h1 ρ σ H1 Q e1.hr (re.ev e1) p1
 | false=>exact Post.now e1.hr p1 rfl
theorem jt4{t u:TT}{m n:Z.MT}(ht:ST C E t m)(hu:ST C E u n):ST C E (tOr t u) (Z.tOr m n):=by
 intro ex bs h ρ σ H Q hr re p
 refine ht ex bs h ρ σ H _ hr re (p.bind λc b h1 bs1 H1 e1 rx p1=> ?_)
 cases rx
 cases c with
 | false=>exact hu ex bs1 h1 ρ σ H1 Q e1.hr (re.ev e1) p1
 | true=>exact Post.now e1.hr p1 rfl
theorem jda{t:TT}{m:Z.MT}(ht:ST C E t m):ST C E (tNot t) (Z.tNot m):=by
 intro ex bs h ρ σ H Q hr re p
 refine ht ex bs h ρ σ H _ hr re (p.bind λc b h1 bs1 H1 e1 rx p1=> ?_)
 cases rx
 exact Post.now e1.hr p1 rfl
theorem s_if{c:TT}{t u:TE}{mc:Z.MT}{m n:Z.ME}(hc:ST C E c mc)(ht:SE C E t m)(hu:SE C E u n):SE C E (tIf c t u) (Z.mIf mc m n):=by
 intro ex bs h ρ σ H Q hr re p
 refine hc ex bs h ρ σ H _ hr re (p.bind λc b h1 bs1 H1 e1 rx p1=> ?_)
 cases rx
 cases c with
 | true=>exact ht ex bs1 h1 ρ σ H1 Q e1.hr (re.ev e1) p1
 | false=>exact hu ex bs1 h1 ρ σ H1 Q e1.hr (re.ev e1) p1
theorem jq5{t u:TE}{m n:Z.ME}(ht:SE C E t m)(hu:SE C E u n):SE C E (tAndV t u) (Z.mAnd m n):=by
 intro ex bs h ρ σ H Q hr re p
 refine ht ex bs h ρ σ H _ hr re (p.bind λd x h1 bs1 H1 e1 rx p1=> ?_)
 cases d with
 | bl b=>
  simp only[RV] at rx
  refine⟨b,rx,?_⟩
  cases b with
  | true=>exact hu ex bs1 h1 ρ σ H1 Q e1.hr (re.ev e1) p1
  | false=>exact Post.now e1.hr p1 (by simp only[RV])
 | _=>exact p1.elim
theorem jl2{r r':R2}{f g:Z.B2}{ta tb tc:TE}{ma mb mc:Z.ME}(o:S2 C r f)(o':S2 C r' g)(ha:SE C E ta ma)(hb:SE C E tb mb)(hc:SE C E tc mc):SE C E (jtk r r' ta tb tc) (Z.jli f g ma mb mc):=by
 intro ex bs h ρ σ H Q hr re p
 refine ha ex bs h ρ σ H _ hr re (p.bind λdx x h1 bs1 H1 e1 rx p1=> ?_)
 refine hb ex bs1 h1 ρ σ H1 _ e1.hr (re.ev e1) (p1.bind λdy y h2 bs2 H2 e2 ry p2=> ?_)
 refine o ex bs2 h2 H2 E x y dx dy _ e2.hr (rx.ev e2) ry (p2.bind λdz z h3 bs3 H3 e3 rz p3=> ?_)
 cases dz with
 | bl k=>
  simp only[RV] at rz
  refine⟨k,rz,?_⟩
  cases k with
  | false=>exact Post.now e3.hr p3 (by simp only[RV])
  | true=>
   refine hc ex bs3 h3 ρ σ H3 _ e3.hr ((re.ev e1).ev (e2.trans e3)) (p3.bind λdw w' h4 bs4 H4 e4 rw' p4=> ?_)
   exact o' ex bs4 h4 H4 E y w' dy dw Q e4.hr ((ry.ev e3).ev e4) rw' p4
 | _=>exact p3.elim
end
end L2
namespace L2
open PySem PySem.Spec
section
variable {C : Ct} {ex bs bs1 bs2 : List Addr} {h h1 h2 : Z.MH} {H H1 H2 : Hp} {E : XK} {α β : Type} {R1 : List Addr -> Hp -> β -> α -> Prop}
def jdm(C:Ct)(ex:List Addr)(E:XK)(bs:List Addr)(h:Z.MH)(H:Hp)(r:Z.RS)(D:Ends):Prop:=match r with
 | .nx ρ' h'=>∀σ' bs' H',Ev C ex bs h H bs' h' H'->RE C bs' (gh ex bs' h' H') ρ' σ'->D.nx σ' H'
 | .rt d h'=>∀v bs' H',Ev C ex bs h H bs' h' H'->RV C bs' (gh ex bs' h' H') v d->D.rt v H'
 | .bk ρ' h'=>∀σ' bs' H',Ev C ex bs h H bs' h' H'->RE C bs' (gh ex bs' h' H') ρ' σ'->D.bk σ' H'
 | .ct ρ' h'=>∀σ' bs' H',Ev C ex bs h H bs' h' H'->RE C bs' (gh ex bs' h' H') ρ' σ'->D.ct σ' H'
 | .exc c h'=>∀bs' H',Ev C ex bs h H bs' h' H'->E (.ref (C.cm c)) none H'
 | .stuck=>False
def SS(C:Ct)(E:XK)(t:TS)(m:Z.MS):Prop:=
 ∀(ex bs:List Addr) (h:Z.MH) (ρ:Z.Ro) (σ:St) (H:Hp) (D:Ends),HR C ex bs h H->RE C bs (gh ex bs h H) ρ σ->jdm C ex E bs h H (m ρ h) D->t D σ H
theorem jdm.from{r:Z.RS}{D:Ends}(e:Ev C ex bs h H bs1 h1 H1)(p:jdm C ex E bs h H r D):jdm C ex E bs1 h1 H1 r D:=by
 cases r with
 | nx ρ h'=>exact λb bs' H' e' q=>p b bs' H' (e.trans e') q
 | rt d h'=>exact λb bs' H' e' q=>p b bs' H' (e.trans e') q
 | bk ρ h'=>exact λb bs' H' e' q=>p b bs' H' (e.trans e') q
 | ct ρ h'=>exact λb bs' H' e' q=>p b bs' H' (e.trans e') q
 | exc c h'=>exact λbs' H' e'=>p bs' H' (e.trans e')
 | stuck=>exact p
theorem jdm.bind{r:Z.Res α}{f:α->Z.MH->Z.RS}{D:Ends}{Q1:β->Hp->Prop}(p:jdm C ex E bs h H (r.toS f) D)
  (k:∀a b h1 bs1 H1,Ev C ex bs h H bs1 h1 H1->R1 bs1 (gh ex bs1 h1 H1) b a->jdm C ex E bs1 h1 H1 (f a h1) D->Q1 b H1):Post C ex E bs h H R1 r Q1:=by
 cases r with
 | ok a h'=>exact λb bs' H' e' q=>k a b h' bs' H' e' q (jdm.from e' p)
 | exc c h'=>exact p
 | stuck=>exact p
theorem jam:SS C E jrt Z.jb3:=λex bs h ρ σ H D hr re p=>p σ bs H (Ev.refl hr) re
theorem jaa{t u:TS}{m n:Z.MS}(ht:SS C E t m)(hu:SS C E u n):SS C E (tSeq t u) (Z.sSeq m n):=by
 intro ex bs h ρ σ H D hr re p
 refine ht ex bs h ρ σ H _ hr re ?_
 unfold Z.sSeq at p
 cases e:m ρ h with
 | nx ρ1 h1=>rw[e] at p;exact λσ1 bs1 H1 e1 re1=>hu ex bs1 h1 ρ1 σ1 H1 D e1.hr re1 (p.from e1)
 | rt d h1=>rw[e] at p;exact p
 | bk ρ1 h1=>rw[e] at p;exact p
 | ct ρ1 h1=>rw[e] at p;exact p
 | exc c h1=>rw[e] at p;exact p
 | stuck=>rw[e] at p;exact p
theorem jb7{c:TT}{t u:TS}{mc:Z.MT}{m n:Z.MS}(hc:ST C E c mc)(ht:SS C E t m)(hu:SS C E u n):SS C E (tIfS c t u) (Z.sIf mc m n):=by
 intro ex bs h ρ σ H D hr re p
 refine hc ex bs h ρ σ H _ hr re (p.bind λc b h1 bs1 H1 e1 rx p1=> ?_)
 cases rx
 cases c with
 | true=>exact ht ex bs1 h1 ρ σ H1 D e1.hr (re.ev e1) p1
 | false=>exact hu ex bs1 h1 ρ σ H1 D e1.hr (re.ev e1) p1
theorem jah{t:TE}{m:Z.ME}(ht:SE C E t m):SS C E (tRet t) (Z.sRet m):=by
 intro ex bs h ρ σ H D hr re p
 exact ht ex bs h ρ σ H _ hr re (p.bind λd x h1 bs1 H1 e1 rx p1=>p1 x bs1 H1 (Ev.refl e1.hr) rx)
theorem jf5{t:TE}{m:Z.ME}(ht:SE C E t m):SS C E (jqt t) (Z.jja m):=by
 intro ex bs h ρ σ H D hr re p
 exact ht ex bs h ρ σ H _ hr re (p.bind λd x h1 bs1 H1 e1 rx p1=>p1 σ bs1 H1 (Ev.refl e1.hr) (re.ev e1))
def SG(C:Ct)(E:XK)(g:TG)(m:Z.MG):Prop:=
 ∀(ex bs:List Addr) (h:Z.MH) (ρ:Z.Ro) (σ:St) (H:Hp) (v:V) (d:Z.D) (D:Ends),HR C ex bs h H->RE C bs (gh ex bs h H) ρ σ->RV C bs (gh ex bs h H) v d->jdm C ex E bs h H (m d ρ h) D->g v σ H D.nx
theorem jaz{t:TE}{m:Z.ME}{g:TG}{mg:Z.MG}(ht:SE C E t m)(hg:SG C E g mg):SS C E (tAsg t g) (Z.sAsg m mg):=by
 intro ex bs h ρ σ H D hr re p
 exact ht ex bs h ρ σ H _ hr re (p.bind λd x h1 bs1 H1 e1 rx p1=>hg ex bs1 h1 ρ σ H1 x d D e1.hr (re.ev e1) rx p1)
theorem jac{i:Nat}:SG C E (jab i) (Z.jab i):=λex bs h ρ σ H v d D hr re rv p=>p _ bs H (Ev.refl hr) (re.set rv)
theorem juk{t:TE}{m:Z.ME}{i:Nat}(ht:SE C E t m):SS C E (λD σ H=>t σ H λx H1=>D.nx (σ.set i (some x)) H1) (Z.sAsg m (Z.jab i)):=jaz (g:=jab i) ht jac
def SGs(C:Ct)(E:XK)(g:TGs)(is:List Nat):Prop:=
 ∀(ex bs:List Addr) (h:Z.MH) (ρ:Z.Ro) (σ:St) (H:Hp) (vs:List V) (ds:List Z.D) (D:Ends),HR C ex bs h H->RE C bs (gh ex bs h H) ρ σ->RVs C bs (gh ex bs h H) vs ds->jdm C ex E bs h H (Z.jlx is ds ρ h) D->g vs σ H D.nx /\ vs.length=is.length
theorem juv:SGs C E gNil []:=by
 intro ex bs h ρ σ H vs ds D hr re rv p
 cases ds with
 | nil=>
  cases vs with
  | nil=>exact⟨⟨rfl,p σ bs H (Ev.refl hr) re⟩,rfl⟩
  | cons _ _=>simp only[RVs] at rv
 | cons d ds=>exact p.elim
theorem jmh{g:TGs}{is:List Nat}{i:Nat}(hg:SGs C E g is):SGs C E (juz (jab i) g) (i::is):=by
 intro ex bs h ρ σ H vs ds D hr re rv p
 cases ds with
 | nil=>exact p.elim
 | cons d ds=>
  cases vs with
  | nil=>simp only[RVs] at rv
  | cons v vs=>
   simp only[RVs] at rv
   have:=hg ex bs h (ρ.set i (some d)) (σ.set i (some v)) H vs ds D hr (re.set rv.1) rv.2 p
   exact⟨⟨v,vs,rfl,this.1⟩,by simp[this.2]⟩
theorem sg_tup{g:TGs}{is:List Nat}{n:Nat}(hn:n=is.length)(hg:SGs C E g is):SG C E (gSeq C.K n g) (Z.gTup is):=by
 intro ex bs h ρ σ H v d D hr re rv p
 cases d with
 | tup ds=>
  simp only[RV] at rv
  obtain⟨a,vs,rfl,ga,rs⟩:=rv
  have:=hg ex bs h ρ σ H vs ds D hr re rs p
  exact⟨a,vs,rfl,.inl (SqT.of (jbe _ _ ga)),by rw[hn];exact this.2,this.1⟩
 | lst ds=>
  simp only[RV] at rv
  obtain⟨a,vs,rfl,ga,rs⟩:=rv
  have:=hg ex bs h ρ σ H vs ds D hr re rs p
  exact⟨a,vs,rfl,.inr (SqL.of (jbe _ _ ga)),by rw[hn];exact this.2,this.1⟩
 | _=>exact p.elim
theorem RVs.append{G:Hp}:∀{ds es:List Z.D} {vs ws:List V},RVs C bs G vs ds->RVs C bs G ws es->RVs C bs G (vs++ws) (ds++es)
 | [],es,[],ws,_,k=>k
 | d::ds,es,v::vs,ws,h,k=>by
  simp only[RVs,List.cons_append] at h ⊢
  exact⟨h.1,RVs.append h.2 k⟩
 | [],_,_::_,_,h,_=>by simp only[RVs] at h
 | _::_,_,[],_,h,_=>by simp only[RVs] at h
theorem RVs.one{G:Hp}{v:V}{d:Z.D}(q:RV C bs G v d):RVs C bs G [v] [d]:=by simp only[RVs];exact⟨q,trivial⟩
theorem RVs.get{G:Hp}:∀{ds:List Z.D} {vs:List V} {i:Nat} {d:Z.D},RVs C bs G vs ds->ds[i]?=some d->∃v,vs[i]?=some v /\ RV C bs G v d
 | [],_,i,d,_,e=>by simp at e
 | d::ds,v::vs,0,d',h,e=>by
  simp only[RVs] at h
  simp at e;subst e
  exact⟨v,rfl,h.1⟩
 | d::ds,v::vs,i+1,d',h,e=>by
  simp only[RVs] at h
  obtain⟨u,h1,h2⟩:=RVs.get (i:=i) (d:=d') h.2 (by simpa using e)
  exact⟨u,by simpa using h1,h2⟩
 | _::_,[],_,_,h,_=>by simp only[RVs] at h
theorem RVs.drop{G:Hp}:∀{ds:List Z.D} {vs:List V} (n:Nat),RVs C bs G vs ds->RVs C bs G (vs.drop n) (ds.drop n)
 | _,_,0,h=>h
 | [],[],n+1,h=>h
 | d::ds,v::vs,n+1,h=>by
  simp only[RVs] at h
  simpa using RVs.drop n h.2
 | [],_::_,_+1,h=>by simp only[RVs] at h
 | _::_,[],_+1,h=>by simp only[RVs] at h
theorem RVs.take{G:Hp}:∀{ds:List Z.D} {vs:List V} (n:Nat),RVs C bs G vs ds->RVs C bs G (vs.take n) (ds.take n)
 | _,_,0,_=>by simp[RVs]
 | [],[],n+1,h=>by simp[RVs]
 | d::ds,v::vs,n+1,h=>by
  simp only[RVs] at h
  simp only[List.take_succ_cons,RVs]
  exact⟨h.1,RVs.take n h.2⟩
 | [],_::_,_+1,h=>by simp only[RVs] at h
 | _::_,[],_+1,h=>by simp only[RVs] at h
theorem jgd{to te:TE}{mo me:Z.ME}(ho:SE C E to mo)(he:SE C E te me):SS C E (jqt (tBM C.K "list" jq0 to (jus te tNil))) (Z.jfc mo me):=by
 intro ex bs h ρ σ H D hr re p
 refine ho ex bs h ρ σ H _ hr re (p.bind λo x h1 bs1 H1 e1 rx p1=> ?_)
 cases o with
 | ref k=>
  simp only[RV] at rx
  obtain⟨a,rfl,hk⟩:=rx
  dsimp only at p1
  split at p1
  ·rename_i xs0 hc0
   obtain⟨vs0,ha0,_⟩:=e1.hr.cell k a _ hk hc0
   refine⟨.inl ⟨rfl,vs0,SqL.of ha0⟩,?_⟩
   refine he ex bs1 h1 ρ σ H1 _ e1.hr (re.ev e1) (p1.bind λd y h2 bs2 H2 e2 ry p2=> ?_)
   split at p2
   ·rename_i xs hc
    split at p2
    ·rename_i hz
     obtain⟨vs,ha,rs⟩:=e2.hr.cell k a _ (e2.pre k a hk) hc
     refine⟨a,vs,y,rfl,rfl,ha,by rw[rs.len];exact hz,?_⟩
     have e3:=Ev.put (o:= .lst (vs++[y])) (c:= .lst (xs++[d])) e2.hr (e2.pre k a hk) hc ⟨_,jax,rs.append (.one ry)⟩
     exact p2 σ bs2 _ e3 (((re.ev e1).ev e2).ev e3)
    ·exact p2.elim
   ·exact p2.elim
  ·exact p1.elim
 | _=>exact p1.elim
theorem jqb{i:Nat}{t:TS}{m:Z.MS}(ht:SS C E t m):SS C E t (Z.jkx i m):=by
 intro ex bs h ρ σ H D hr re p
 unfold Z.jkx at p
 split at p
 ·rename_i k hk
  split at p
  ·rename_i xs hc
   obtain⟨v,hv,rv⟩:=re.2 i _ hk
   simp only[RV] at rv
   obtain⟨a,rfl,ha⟩:=rv
   obtain⟨e1,r1⟩:=Ev.freeze hr ha hc
   refine ht ex bs (h.set k none) (ρ.set i (some (.lst xs))) σ H D e1.hr ?_ (p.from e1)
   have r2:=(re.ev e1).set (i:=i) r1
   have:σ.set i (some (.ref a))=σ:=List.ext_getElem? λj=>by
    by_cases hj:i=j
    ·subst hj;rw[List.getElem?_set_self (List.getElem?_eq_some_iff.mp hv).1,hv]
    ·rw[List.getElem?_set_ne hj]
   rw[this] at r2;exact r2
  ·exact p.elim
 ·exact p.elim
end
section
variable {C : Ct} {ex bs bs1 bs2 : List Addr} {h h1 h2 : Z.MH} {H H1 H2 : Hp} {E : XK}
def ItOk(C:Ct)(bs:List Addr)(G:Hp)(J:It)(s:Option Nat×List Z.D):Prop:=
 ∀(ex2 bs2:List Addr) (h2:Z.MH) (H2:Hp),HR C ex2 bs2 h2 H2->(∀(k:Nat) (a:Addr),bs[k]?=some a->bs2[k]?=some a)->Same G (gh ex2 bs2 h2 H2)->Z.okG s.1 s.2 h2->∀i:Nat,
  (∀d,s.2[i]?=some d->J.go i H2 /\ ∀x H3,J.yld i H2 x H3->Ev C ex2 bs2 h2 H2 bs2 h2 H3 /\ RV C bs2 (gh ex2 bs2 h2 H3) x d) /\ (s.2.length<=i->J.stop i H2)
abbrev SI(C:Ct)(E:XK)(t:TI)(m:Z.MI):Prop:=Snd C E (ItOk C) t m
theorem jou{J:It}{g:TG}{tb:TS}{gd:Option Nat}{items:List Z.D}{mg:Z.MG}{mb:Z.MS}{ρ:Z.Ro}{σ:St}{D:Ends}(hg:SG C E g mg)(hb:SS C E tb mb)(hr:HR C ex bs1 h1 H1)(re:RE C bs1 (gh ex bs1 h1 H1) ρ σ)(it:ItOk C bs1 (gh ex bs1 h1 H1) J (gd,items))(p1:jdm C ex E bs1 h1 H1 (Z.jdp gd items mg mb items ρ h1) D):
  ∃W:Nat->Nat->St->Hp->Prop,(∃m,W 0 m σ H1) /\ ∀i m σ H,W i m σ H->(J.stop i H /\ D.nx σ H) \/ (J.go i H /\ ∃N:St->Hp->Prop,(∀σ' H',N σ' H'->∃m',m'<m /\ W (i+1) m' σ' H') /\ ∀x H',J.yld i H x H'->g x σ H' λσ2 H2=>tb {D with nx:=N,ct:=N,bk:=D.nx} σ2 H2):=by
 have lo:∀(i:Nat) (hl:i<items.length),items.drop i=items[i]::items.drop (i+1):=λi hl=>List.drop_eq_getElem_cons hl
 refine⟨λi m σ' H'=>m=items.length - i /\ i<=items.length /\ ∃ρ' bs' h',Ev C ex bs1 h1 H1 bs' h' H' /\ RE C bs' (gh ex bs' h' H') ρ' σ' /\ jdm C ex E bs' h' H' (Z.jdp gd items mg mb (items.drop i) ρ' h') D,
  ⟨items.length,by simp,Nat.zero_le _,ρ,bs1,h1,Ev.refl hr,re,p1⟩,?_⟩
 rintro i m σ' H' ⟨rfl,hle,ρ',bs',h',ev,re',p'⟩
 by_cases hlt:i<items.length
 ·rw[lo i hlt] at p'
  unfold Z.jdp at p'
  split at p'
  case isFalse=>exact p'.elim
  rename_i okg
  obtain⟨go,yl⟩:=(it ex bs' h' H' ev.hr ev.pre ev.same okg i).1 items[i] (List.getElem?_eq_getElem hlt)
  refine .inr ⟨go,λσ2 H2=>∃m',m'<items.length - i /\ (m'=items.length - (i+1) /\ i+1<=items.length /\ ∃ρ' bs' h',Ev C ex bs1 h1 H1 bs' h' H2 /\ RE C bs' (gh ex bs' h' H2) ρ' σ2 /\ jdm C ex E bs' h' H2 (Z.jdp gd items mg mb (items.drop (i+1)) ρ' h') D),λ_ _ q=>q,λx H3 y=> ?_⟩
  obtain⟨ev3,rx⟩:=yl x H3 y
  have p3:=p'.from ev3
  refine hg ex bs' h' ρ' σ' H3 x items[i] ⟨_,λ_ _=>False,λ_ _=>False,λ_ _=>False⟩ ev3.hr (re'.ev ev3) rx ?_
  cases e:mg items[i] ρ' h' with
  | nx ρ1 h1'=>
   rw[e] at p3
   intro σ2 bs2 H2 ev2 re2
   refine hb ex bs2 h1' ρ1 σ2 H2 _ ev2.hr re2 ?_
   have p4:=p3.from ev2
   have ev4:=(ev.trans ev3).trans ev2
   cases e5:mb ρ1 h1' with
   | nx ρ2 h2'=>
    dsimp only at p4
    rw[e5] at p4
    exact λσ5 bs5 H5 ev5 re5=>⟨_,by omega,rfl,hlt,ρ2,bs5,h2',ev4.trans ev5,re5,p4.from ev5⟩
   | ct ρ2 h2'=>
    dsimp only at p4
    rw[e5] at p4
    exact λσ5 bs5 H5 ev5 re5=>⟨_,by omega,rfl,hlt,ρ2,bs5,h2',ev4.trans ev5,re5,p4.from ev5⟩
   | bk ρ2 h2'=>dsimp only at p4;rw[e5] at p4;exact p4
   | rt d h2'=>dsimp only at p4;rw[e5] at p4;exact p4
   | exc c h2'=>dsimp only at p4;rw[e5] at p4;exact p4
   | stuck=>dsimp only at p4;rw[e5] at p4;exact p4
  | rt _ _=>rw[e] at p3;exact p3.elim
  | bk _ _=>rw[e] at p3;exact p3.elim
  | ct _ _=>rw[e] at p3;exact p3.elim
  | exc _ _=>rw[e] at p3;exact p3.elim
  | stuck=>rw[e] at p3;exact p3.elim
 ·have ei:i=items.length:=by omega
  subst ei
  rw[List.drop_length] at p'
  unfold Z.jdp at p'
  split at p'
  case isFalse=>exact p'.elim
  rename_i okg
  exact .inl ⟨(it ex bs' h' H' ev.hr ev.pre ev.same okg items.length).2 (Nat.le_refl _),p' σ' bs' H' (Ev.refl ev.hr) re'⟩
theorem jf1{wi:TI}{g:TG}{tb:TS}{l:Z.MI}{mg:Z.MG}{mb:Z.MS}(hi:SI C E wi l)(hg:SG C E g mg)(hb:SS C E tb mb):SS C E (tFor wi g tb) (Z.sFor l mg mb):=by
 intro ex bs h ρ σ H D hr re p
 refine hi ex bs h ρ σ H _ hr re (p.bind λsrc J h1 bs1 H1 e1 it p1=> ?_)
 obtain⟨gd,items⟩:=src
 dsimp only at p1
 exact jou hg hb e1.hr (re.ev e1) it p1
theorem jqy{c:TT}{tb:TS}{mc:Z.MT}{mb:Z.MS}(hc:ST C E c mc)(hb:SS C E tb mb):SS C E (jul c tb) (Z.jcm mc mb):=by
 intro ex bs h ρ σ H D hr re p
 have ns:Z.jcm mc mb ρ h≠ .stuck:=λz=>by rw[z] at p;exact p
 obtain⟨n,en⟩:=Z.jh6 ns
 rw[<-en] at p
 refine⟨λm σ' H'=>∃ρ' bs' h',HR C ex bs' h' H' /\ RE C bs' (gh ex bs' h' H') ρ' σ' /\ jdm C ex E bs' h' H' (Z.jc3 mc mb m ρ' h') D,⟨n,ρ,bs,h,hr,re,p⟩,?_⟩
 rintro m σ' H' ⟨ρ',bs',h',hr',re',p'⟩
 cases m with
 | zero=>exact p'.elim
 | succ m=>
  unfold Z.jc3 at p'
  refine hc ex bs' h' ρ' σ' H' _ hr' re' ?_
  cases e:mc ρ' h' with
  | exc x h1=>rw[e] at p';exact p'
  | stuck=>rw[e] at p';exact p'
  | ok b h1=>
   rw[e] at p'
   rintro b' bs1 H1 e1 rfl
   have p1:=p'.from e1
   cases b' with
   | false=>exact p1 σ' bs1 H1 (Ev.refl e1.hr) (re'.ev e1)
   | true=>
    dsimp only at p1
    refine⟨λσ2 H2=>∃m',m'<m+1 /\ ∃ρ' bs' h',HR C ex bs' h' H2 /\ RE C bs' (gh ex bs' h' H2) ρ' σ2 /\ jdm C ex E bs' h' H2 (Z.jc3 mc mb m' ρ' h') D,λ_ _ q=>q,?_⟩
    refine hb ex bs1 h1 ρ' σ' H1 _ e1.hr (re'.ev e1) ?_
    cases e5:mb ρ' h1 with
    | nx ρ2 h2=>rw[e5] at p1;exact λσ5 bs5 H5 ev5 re5=>⟨m,by omega,ρ2,bs5,h2,ev5.hr,re5,p1.from ev5⟩
    | ct ρ2 h2=>rw[e5] at p1;exact λσ5 bs5 H5 ev5 re5=>⟨m,by omega,ρ2,bs5,h2,ev5.hr,re5,p1.from ev5⟩
    | bk ρ2 h2=>rw[e5] at p1;exact p1
    | rt d h2=>rw[e5] at p1;exact p1
    | exc c h2=>rw[e5] at p1;exact p1
    | stuck=>rw[e5] at p1;exact p1
def hid(l:Addr)(H:Hp):Hp:=λb=>if b=l then none else H b
theorem jfh{l b:Addr}(n:b≠l):hid l H b=H b:=if_neg n
theorem jm9{l:Addr}:gh ex bs h (hid l H)=gh (l::ex) bs h H:=by
 funext x
 unfold gh
 by_cases q:x∈ex \/ lv bs h x
 ·rw[if_pos q,if_pos (q.imp (List.mem_cons_of_mem _) id)]
 ·by_cases e:x=l
  ·subst e
   rw[if_neg q,if_pos (.inl (List.mem_cons_self ..))]
   exact if_pos rfl
  ·rw[if_neg q,jfh e,if_neg]
   rintro(z | z)
   ·rcases List.mem_cons.mp z with z | z
    ·exact e z
    ·exact q (.inl z)
   ·exact q (.inr z)
theorem HR.hid{l:Addr}(hl:l∉ex)(r:HR C (l::ex) bs h H):HR C ex bs h (hid l H):=by
 have lb:l∉bs:=r.sep l (List.mem_cons_self ..)
 have nb:∀{a},a∈bs->a≠l:=fun{a} m z=>lb (by rw[<-z];exact m)
 refine⟨r.len,r.inj,λa m=>r.sep a (List.mem_cons_of_mem _ m),λa m=> ?_,λa m=> ?_,λk a c e1 e2=> ?_⟩
 ·rw[jfh (nb m)];exact r.dom a m
 ·rw[jfh (λz=>hl (by rw[<-z];exact m))];exact r.domx a (List.mem_cons_of_mem _ m)
 ·rw[jm9]
  exact(r.cell k a c e1 e2).mono (λ_ _ e=>e) (Same.refl _) (by rw[jfh (nb (List.mem_of_getElem? e1))])
theorem jp9{l:Addr}{o:HO}(hl:H l=none):gh (l::ex) bs h (upd H l o)=gh ex bs h H:=by
 rw[<-jm9]
 have:hid l (upd H l o)=H:=by
  funext x
  unfold hid
  by_cases e:x=l
  ·rw[if_pos e,e,hl]
  ·rw[if_neg e,jad e]
 rw[this]
theorem HR.show{l:Addr}{o:HO}(hl:H l=none)(r:HR C ex bs h H):HR C (l::ex) bs h (upd H l o):=by
 have lb:l∉bs:=λm=>r.dom l m hl
 have lx:l∉ex:=λm=>r.domx l m hl
 have nb:∀{a},a∈bs->a≠l:=fun{a} m z=>lb (by rw[<-z];exact m)
 refine⟨r.len,r.inj,λa m=> ?_,λa m=> ?_,λa m=> ?_,λk a c e1 e2=> ?_⟩
 ·rcases List.mem_cons.mp m with m | m
  ·rw[m];exact lb
  ·exact r.sep a m
 ·rw[jad (nb m)];exact r.dom a m
 ·rcases List.mem_cons.mp m with m | m
  ·rw[m,jax];exact λz=>nomatch z
  ·rw[jad (λz=>lx (by rw[<-z];exact m))];exact r.domx a m
 ·rw[jp9 hl]
  exact(r.cell k a c e1 e2).mono (λ_ _ e=>e) (Same.refl _) (by rw[jad (nb (List.mem_of_getElem? e1))])
theorem jie{l:Addr}{o:HO}:gh (l::ex) bs h (upd H l o)=gh (l::ex) bs h H:=by
 funext x
 unfold gh
 by_cases q:x∈l::ex \/ lv bs h x
 ·rw[if_pos q,if_pos q]
 ·rw[if_neg q,if_neg q,jad (λz=>q (.inl (by rw[z];exact List.mem_cons_self ..)))]
theorem HR.exput{l:Addr}{o:HO}(r:HR C (l::ex) bs h H):HR C (l::ex) bs h (upd H l o):=by
 have lb:l∉bs:=r.sep l (List.mem_cons_self ..)
 have nb:∀{a},a∈bs->a≠l:=fun{a} m z=>lb (by rw[<-z];exact m)
 refine⟨r.len,r.inj,r.sep,λa m=> ?_,λa m=> ?_,λk a c e1 e2=> ?_⟩
 ·rw[jad (nb m)];exact r.dom a m
 ·by_cases e:a=l
  ·rw[e,jax];exact λz=>nomatch z
  ·rw[jad e];exact r.domx a m
 ·rw[jie]
  exact(r.cell k a c e1 e2).mono (λ_ _ e=>e) (Same.refl _) (by rw[jad (nb (List.mem_of_getElem? e1))])
theorem RE.mono{bs bs':List Addr}{G G':Hp}{ρ:Z.Ro}{σ:St}(hb:∀(k:Nat) (a:Addr),bs[k]?=some a->bs'[k]?=some a)(hs:Same G G')(r:RE C bs G ρ σ):RE C bs' G' ρ σ:=
 ⟨r.1,λi d q=>by obtain⟨v,h1,h2⟩:=r.2 i d q;exact⟨v,h1,h2.mono hb hs⟩⟩
theorem RE.caps{G:Hp}{ρ:Z.Ro}{σ:St}(nt:Nat)(idx:List Nat)(r:RE C bs G ρ σ):RE C bs G (List.replicate nt none++Z.caps idx ρ) (List.replicate nt none++jdx idx σ):=by
 refine⟨by simp[Z.caps,jdx],λi d hi=> ?_⟩
 by_cases hn:i<nt
 ·rw[List.getElem?_append_left (by simpa using hn),List.getElem?_replicate] at hi
  simp[hn] at hi
 ·rw[List.getElem?_append_right (by simp;omega)] at hi ⊢
  simp only[List.length_replicate] at hi ⊢
  unfold Z.caps at hi
  unfold jdx
  rw[List.getElem?_map] at hi ⊢
  cases e:idx[i - nt]? with
  | none=>rw[e] at hi;cases hi
  | some j=>
   rw[e] at hi
   simp only[Option.map_some,Option.some.injEq] at hi ⊢
   cases e2:ρ[j]? with
   | none=>rw[e2] at hi;cases hi
   | some z=>
    rw[e2] at hi
    simp only[Option.getD_some] at hi
    subst hi
    obtain⟨v,h1,h2⟩:=r.2 j d e2
    exact⟨v,by rw[h1];rfl,h2⟩
theorem jgr(q:Option Nat)(all:List Z.D)(g:Z.MG)(t:Z.MT)(m:Z.ME)(ρ0:Z.Ro):∀(ds:List Z.D) (h:Z.MH) (c:String) (h':Z.MH),Z.jb8 q all g t m ρ0 ds h≠ .exc c h'
 | [],h,c,h'=>by unfold Z.jb8;split<;>exact λz=>nomatch z
 | d::ds,h,c,h'=>by
  unfold Z.jb8
  split
  case isFalse=>exact λz=>nomatch z
  split
  ·split
   ·split
    ·split
     ·exact λz=>nomatch z
     ·exact λz=>nomatch z
    ·exact λz=>nomatch z
   ·exact jgr q all g t m ρ0 ds _ c h'
   ·exact λz=>nomatch z
  ·exact λz=>nomatch z
theorem jpp{J:It}{nt:Nat}{idx:List Nat}{g:TG}{tc:TT}{te:TE}{gd:Option Nat}{items:List Z.D}{mg:Z.MG}{mt:Z.MT}{me:Z.ME}{ρ:Z.Ro}{σ:St}{Q:VK}(hg:SG C E0 g mg)(ht:ST C E0 tc mt)(he:SE C E0 te me)(hr:HR C ex bs1 h1 H1)(re:RE C bs1 (gh ex bs1 h1 H1) ρ σ)(it:ItOk C bs1 (gh ex bs1 h1 H1) J (gd,items))(hz:items.length<16777216)
  (p1:jd3 C ex E bs1 h1 H1 (Z.jb8 gd items mg mt me (List.replicate nt none++Z.caps idx ρ) items h1) Q):∀l,H1 l=none->
 ∃W:Nat->Nat->List V->Hp->Prop,(∃m,W 0 m [] (upd H1 l (.lst []))) /\ ∀i m ys H2,W i m ys H2->H2 l=some (.lst ys) /\ ys.length<sizeLine /\
  ((J.stop i H2 /\ Q (.ref l) H2) \/ (J.go i H2 /\ ∀x H3,J.yld i H2 x H3->g x (List.replicate nt none++jdx idx σ) H3 λσ4 H4=>tc σ4 H4 λc H5=>
   if c=true then te σ4 H5 λy H6=>H6 l=some (.lst ys) /\ ∃m',m'<m /\ W (i+1) m' (ys++[y]) (upd H6 l (.lst (ys++[y]))) else ∃m',m'<m /\ W (i+1) m' ys H5)):=by
 intro a ha
 have hax:a∉ex:=λm=>hr.domx a m ha
 cases ec:Z.jb8 gd items mg mt me (List.replicate nt none++Z.caps idx ρ) items h1 with
 | exc _ _=>
  exact absurd ec (jgr _ _ _ _ _ _ items h1 _ _)
 | stuck=>rw[ec] at p1;exact p1.elim
 | ok all hf=>
  rw[ec] at p1
  have lo:∀(i:Nat) (hl:i<items.length),items.drop i=items[i]::items.drop (i+1):=λi hl=>List.drop_eq_getElem_cons hl
  refine⟨λi m ys H2=>m=items.length - i /\ i<=items.length /\ ∃bs' h' dys rest,HR C (a::ex) bs' h' H2 /\ (∀(k:Nat) (b:Addr),bs1[k]?=some b->bs'[k]?=some b) /\ Same (gh ex bs1 h1 H1) (gh (a::ex) bs' h' H2) /\ (∀b∈ex,H2 b=H1 b) /\
    H2 a=some (.lst ys) /\ RVs C bs' (gh (a::ex) bs' h' H2) ys dys /\ ys.length<=i /\ Z.jb8 gd items mg mt me (List.replicate nt none++Z.caps idx ρ) (items.drop i) h'= .ok rest hf /\ dys++rest=all,
   ⟨items.length,by simp,Nat.zero_le _,bs1,h1,[],all,hr.show ha,λ_ _ e=>e,by rw[jp9 ha];exact Same.refl _,λb m=>by rw[jad (λz=>hax (by rw[<-z];exact m))],jax,by simp only[RVs],Nat.zero_le _,ec,rfl⟩,?_⟩
  rintro i m ys H2 ⟨rfl,hle,bs',h',dys,rest,hr',pre,sm,exs,hl,rv,hy,er,eall⟩
  refine⟨hl,by have:sizeLine=16777216:=rfl;omega,?_⟩
  by_cases hlt:i<items.length
  ·rw[lo i hlt] at er
   unfold Z.jb8 at er
   split at er
   case isFalse=>cases er
   rename_i okg
   obtain⟨go,yl⟩:=(it (a::ex) bs' h' H2 hr' pre sm okg i).1 items[i] (List.getElem?_eq_getElem hlt)
   refine .inr ⟨go,λx H3 y=> ?_⟩
   obtain⟨ev3,rx⟩:=yl x H3 y
   have re0:=(((re.mono pre sm).ev ev3).caps nt idx)
   refine hg (a::ex) bs' h' _ _ H3 x items[i] ⟨_,λ_ _=>False,λ_ _=>False,λ_ _=>False⟩ ev3.hr re0 rx ?_
   cases e:mg items[i] (List.replicate nt none++Z.caps idx ρ) h' with
   | nx ρ1 h1'=>
    rw[e] at er
    dsimp only at er
    intro σ4 bs4 H4 ev4 re4
    refine ht (a::ex) bs4 h1' ρ1 σ4 H4 _ ev4.hr re4 ?_
    cases e5:mt ρ1 h1' with
    | exc _ _=>rw[e5] at er;cases er
    | stuck=>rw[e5] at er;cases er
    | ok c h5=>
     rw[e5] at er
     rintro c' bs5 H5 ev5 rfl
     cases c' with
     | false=>
      dsimp only at er
      have ev:=(ev3.trans ev4).trans ev5
      exact⟨_,by omega,rfl,hlt,bs5,h5,dys,rest,ev5.hr,λk b q=>ev.pre k b (pre k b q),sm.trans ev.same,λb m=>(ev.exs b (List.mem_cons_of_mem _ m)).trans (exs b m),
       (ev.exs a (List.mem_cons_self ..)).trans hl,rv.ev ev,by omega,er,eall⟩
     | true=>
      dsimp only at er
      refine he (a::ex) bs5 h5 ρ1 σ4 H5 _ ev5.hr (re4.ev ev5) ?_
      cases e6:me ρ1 h5 with
      | exc _ _=>rw[e6] at er;cases er
      | stuck=>rw[e6] at er;cases er
      | ok d h6=>
       rw[e6] at er
       dsimp only at er
       intro v bs6 H6 ev6 rv6
       have ev:=((ev3.trans ev4).trans ev5).trans ev6
       have hl6:=(ev.exs a (List.mem_cons_self ..)).trans hl
       refine⟨hl6,?_⟩
       cases e7:Z.jb8 gd items mg mt me (List.replicate nt none++Z.caps idx ρ) (items.drop (i+1)) h6 with
       | exc _ _=>rw[e7] at er;cases er
       | stuck=>rw[e7] at er;cases er
       | ok rest' hf'=>
        rw[e7] at er
        dsimp only at er
        cases er
        refine⟨_,by omega,rfl,hlt,bs6,h6,dys++[d],rest',ev6.hr.exput,λk b q=>ev.pre k b (pre k b q),by rw[jie];exact sm.trans ev.same,λb m=> ?_,jax,?_,by simp;omega,e7,by simpa using eall⟩
        ·rw[jad (λz=>hax (by rw[<-z];exact m))]
         exact(ev.exs b (List.mem_cons_of_mem _ m)).trans (exs b m)
        ·rw[jie];exact(rv.ev ev).append (.one rv6)
   | rt _ _=>rw[e] at er;cases er
   | bk _ _=>rw[e] at er;cases er
   | ct _ _=>rw[e] at er;cases er
   | exc _ _=>rw[e] at er;cases er
   | stuck=>rw[e] at er;cases er
  ·have ei:i=items.length:=by omega
   subst ei
   rw[List.drop_length] at er
   unfold Z.jb8 at er
   split at er
   case isFalse=>cases er
   rename_i okg
   cases er
   rw[List.append_nil] at eall
   subst eall
   refine .inl ⟨(it (a::ex) bs' _ H2 hr' pre sm okg items.length).2 (Nat.le_refl _),?_⟩
   have q:=p1 a ys bs' (hid a H2) ⟨pre,hr'.hid hax,by rw[jm9];exact sm,λb m=>by rw[jfh (λz=>hax (by rw[<-z];exact m))];exact exs b m⟩ (if_pos rfl) (by rw[jm9];exact rv)
   have eq:upd (hid a H2) a (.lst ys)=H2:=by
    funext x
    by_cases e:x=a
    ·rw[e,jax,hl]
    ·rw[jad e,jfh e]
   rw[eq] at q;exact q
theorem je0{nt:Nat}{idx:List Nat}{wi:TI}{g:TG}{tc:TT}{te:TE}{l:Z.MI}{mg:Z.MG}{mt:Z.MT}{me:Z.ME}(hi:SI C E wi l)(hg:SG C E0 g mg)(ht:ST C E0 tc mt)(he:SE C E0 te me):
  SN C E (jvr nt idx wi g tc te) (Z.jeo nt idx l mg mt me):=by
 intro ex bs h ρ σ H Q hr re p
 refine hi ex bs h ρ σ H _ hr re (jd3.bind p λsrc J h1 bs1 H1 e1 it p1=> ?_)
 obtain⟨gd,items⟩:=src
 obtain⟨hz,p1⟩:=p1.chk
 dsimp only at hz p1
 exact jpp hg ht he e1.hr (re.ev e1) it hz p1
end
end L2
namespace L2
open PySem PySem.Spec PyProof.Rows
section
variable {C : Ct} {ex bs bs1 bs2 : List Addr} {h h1 h2 : Z.MH} {H H1 H2 : Hp} {E : XK}
theorem jdg{α:Type}{l:List α}{n k:Nat}{a:α}(e:(l.take n)[k]?=some a):l[k]?=some a /\ k<n:=by
 rw[List.getElem?_take] at e
 by_cases hk:k<n
 ·rw[if_pos hk] at e;exact⟨e,hk⟩
 ·rw[if_neg hk] at e;cases e
theorem jje{α:Type}{l:List α}{n k:Nat}{a:α}(e:l[k]?=some a)(hk:k<n):(l.take n)[k]?=some a:=by
 rw[List.getElem?_take,if_pos hk];exact e
mutual
theorem RV.bnd{G:Hp}{n:Nat}:∀{d:Z.D} {v:V},RV C bs G v d->Z.D.bnd n d=true->RV C (bs.take n) G v d
 | .non,v,h,_=>by simp only[RV] at h ⊢;exact h
 | .bl b,v,h,_=>by simp only[RV] at h ⊢;exact h
 | .int i,v,h,_=>by simp only[RV] at h ⊢;exact h
 | .str x,v,h,_=>by simp only[RV] at h ⊢;exact h
 | .tup ds,v,h,q=>by
  simp only[RV] at h ⊢
  simp only[Z.D.bnd] at q
  obtain⟨a,vs,h1,h2,h3⟩:=h
  exact⟨a,vs,h1,h2,RVs.bnd h3 q⟩
 | .lst ds,v,h,q=>by
  simp only[RV] at h ⊢
  simp only[Z.D.bnd] at q
  obtain⟨a,vs,h1,h2,h3⟩:=h
  exact⟨a,vs,h1,h2,RVs.bnd h3 q⟩
 | .arg ns,v,h,_=>by simp only[RV] at h ⊢;exact h
 | .ref k,v,h,q=>by
  simp only[RV] at h ⊢
  simp only[Z.D.bnd,decide_eq_true_eq] at q
  obtain⟨a,h1,h2⟩:=h
  exact⟨a,h1,jje h2 q⟩
 | .ty n,v,h,_=>by simp only[RV] at h ⊢;exact h
 | .cls n,v,h,_=>by simp only[RV] at h ⊢;exact h
 | .exc n,v,h,_=>by simp only[RV] at h ⊢;exact h
 | .obj c fs,v,h,q=>by
  simp only[RV] at h ⊢
  simp only[Z.D.bnd] at q
  obtain⟨a,dx,fvs,h1,h2,h3⟩:=h
  exact⟨a,dx,fvs,h1,h2,RVf.bnd h3 q⟩
 | .dic kvs,v,h,_=>by simp only[RV] at h ⊢;exact h
theorem RVs.bnd{G:Hp}{n:Nat}:∀{ds:List Z.D} {vs:List V},RVs C bs G vs ds->Z.D.bnds n ds=true->RVs C (bs.take n) G vs ds
 | [],[],_,_=>by simp only[RVs]
 | d::ds,v::vs,h,q=>by
  simp only[RVs] at h ⊢
  simp only[Z.D.bnds,Bool.and_eq_true] at q
  exact⟨RV.bnd h.1 q.1,RVs.bnd h.2 q.2⟩
 | [],_::_,h,_=>by simp only[RVs] at h
 | _::_,[],h,_=>by simp only[RVs] at h
theorem RVf.bnd{G:Hp}{n:Nat}:∀{ds:List (Str×Z.D)} {vs:List (Str×V)},RVf C bs G vs ds->Z.D.bndf n ds=true->RVf C (bs.take n) G vs ds
  | [],[],_,_=>by simp only[RVf]
  | (y,d)::ds,(x,v)::vs,h,q=>by
    simp only[RVf] at h ⊢
    simp only[Z.D.bndf,Bool.and_eq_true] at q
    exact⟨h.1,RV.bnd h.2.1 q.1,RVf.bnd h.2.2 q.2⟩
  | [],_::_,h,_=>by simp only[RVf] at h
  | _::_,[],h,_=>by simp only[RVf] at h
end
theorem jns{n:Nat}:∀(fs:List (Str×Z.D)),Z.D.bndf n fs=Z.D.bnds n (fs.map (·.2))
  | []=>by simp only[Z.D.bndf,List.map_nil,Z.D.bnds]
  | (y,d)::fs=>by simp only[Z.D.bndf,List.map_cons,Z.D.bnds,jns fs]
theorem RVk.bnd{G:Hp}{n:Nat}:∀{ds:List (Sum Int Str×Z.D)} {vs:List (Key×V)},RVk C bs G vs ds->Z.D.bnds n (ds.map (·.2))=true->RVk C (bs.take n) G vs ds
  | [],[],_,_=>by simp only[RVk]
  | (y,d)::ds,(x,v)::vs,h,q=>by
    simp only[RVk] at h ⊢
    simp only[List.map_cons,Z.D.bnds,Bool.and_eq_true] at q
    exact⟨h.1,RV.bnd h.2.1 q.1,RVk.bnd h.2.2 q.2⟩
  | [],_::_,h,_=>by simp only[RVk] at h
  | _::_,[],h,_=>by simp only[RVk] at h
theorem jdo.bnd{G H:Hp}{n:Nat}{a:Addr}{c:Z.Cell}(hc:jdo C bs G H a c)(q:Z.Cell.bnd n (some c)=true):jdo C (bs.take n) G H a c:=by
 cases c with
 | lst ds=>obtain⟨vs,h1,h2⟩:=hc;exact⟨vs,h1,h2.bnd q⟩
 | dct kvs=>obtain⟨vs,h1,h2⟩:=hc;exact⟨vs,h1,h2.bnd q⟩
 | ins c fs=>obtain⟨dx,vs,h1,h2⟩:=hc;exact⟨dx,vs,h1,h2.bnd (by rw[jns];exact q)⟩
 | fdc kvs=>obtain⟨o,vs,h1,h2,h3⟩:=hc;exact⟨o,vs,h1,h2,h3.bnd q⟩
theorem jkg(n:Nat):Same (gh ex bs h H) (gh ex (bs.take n) (h.take n) H):=λa o e=>by
 obtain⟨h1,h2,h3⟩:=jb4.mp e
 exact jb4.mpr ⟨h1,λ⟨k,c,e1,e2,l2⟩=>h2 ⟨k,c,(jdg e1).1,(jdg e2).1,l2⟩,h3⟩
theorem HR.take{n:Nat}(r:HR C ex bs h H)(q:(h.take n).all (Z.Cell.bnd n)=true):HR C ex (bs.take n) (h.take n) H:=by
 refine⟨by simp[r.len],λi j a e1 e2=>r.inj i j a (jdg e1).1 (jdg e2).1,λa m z=>r.sep a m (List.mem_of_mem_take z),λa m=>r.dom a (List.mem_of_mem_take m),r.domx,λk a c e1 e2=> ?_⟩
 have hc:=r.cell k a c (jdg e1).1 (jdg e2).1
 have qc:Z.Cell.bnd n (some c)=true:=List.all_eq_true.mp q _ (List.mem_of_getElem? e2)
 exact(hc.bnd qc).mono (λ_ _ e=>e) (jkg n) rfl
theorem Ev.take{bs':List Addr}{h':Z.MH}{H':Hp}(hr:HR C ex bs h H)(e:Ev C ex bs h H bs' h' H')(q:(h'.take h.length).all (Z.Cell.bnd h.length)=true):Ev C ex bs h H (bs'.take h.length) (h'.take h.length) H':=
 ⟨λk a z=>jje (e.pre k a z) (by rw[<-hr.len];exact(List.getElem?_eq_some_iff.mp z).1),e.hr.take q,e.same.trans (jkg _),e.exs⟩
theorem jlq{d:Z.D}{h':Z.MH}{Q:VK}{v:V}{bs':List Addr}{H':Hp}(hr:HR C ex bs h H)(p:Post C ex E bs h H (RV C) (Z.fin h.length d h') Q)(e:Ev C ex bs h H bs' h' H')(rv:RV C bs' (gh ex bs' h' H') v d):Q v H':=by
 unfold Z.fin at p
 split at p
 ·exact p v bs' H' e rv
 ·split at p
  ·rename_i q
   rw[Bool.and_eq_true] at q
   exact p v _ H' (e.take hr q.2) ((rv.bnd q.1).mono (λ_ _ e=>e) (jkg _))
  ·exact p v bs' H' e rv
theorem RE.start{G:Hp}{vs:List V}{ds:List Z.D}{N:List Str}(r:RVs C bs G vs ds)(hn:ds.length<=N.length):RE C bs G (ds.map some++List.replicate (N.length - ds.length) none) (L2.start N vs):=by
 have hl:=r.len
 unfold L2.start
 refine⟨by simp[hl],λi d hi=> ?_⟩
 by_cases hlt:i<ds.length
 ·rw[List.getElem?_append_left (by simpa using hlt),List.getElem?_map] at hi
  rw[List.getElem?_append_left (by simp;omega),List.getElem?_map]
  cases e:ds[i]? with
  | none=>rw[e] at hi;cases hi
  | some z=>
   rw[e] at hi
   simp at hi;subst hi
   obtain⟨v,h1,h2⟩:=r.get e
   exact⟨v,by rw[h1];rfl,h2⟩
 ·rw[List.getElem?_append_right (by simp;omega),List.getElem?_replicate] at hi
  split at hi<;>cases hi
theorem okZ{P:Program}{w:World}{K:W.Frag}{mg:Str->Option Value}{base:Heap}{x qual:Str}{st:Stmt}{f:Addr}{fd:FuncData}{N ps:List Str}{k np nn:Nat}{b:Z.MS}{z:Z.MF}(F:Fun K x qual st f fd)(S:FnScope N ps (ja7 st))
  (hz:z=Z.mFun np nn b) (hp:ps.length=np) (hn:N.length=nn) (hle:np<=nn)
  (hb:∀(cdv:Value) (A:Around) (outer:List Env) (s:Shared) (H:Hp) (E:XK),Room k (A.deeper (envOfC qual (ja7 st) s.heap.objs.size f cdv))->
   ∃t,PSs (cxOf (CXE P w) P w K mg base N qual (ja7 st) f cdv A outer s H E) (jcx st) t /\ SS C E t b):FnOk P w K mg base (CXE P w) (k+1) f fd ps (spZ C z):=by
 subst hz
 refine F.okE S (λvs H Q E q=> ?_) λcdv A outer s H vs Q E hr q=> ?_
 ·obtain⟨ex,bs,h,ds,hr,rv,p⟩:=q
  unfold Z.mFun at p
  split at p
  ·rename_i hd;rw[rv.len,hd,hp]
  ·exact p.elim
 ·obtain⟨ex,bs,h,ds,hr',rv,p⟩:=q
  obtain⟨t,hps,hss⟩:=hb cdv A outer s H E hr
  refine⟨t,hps,?_⟩
  unfold Z.mFun at p
  split at p
  ·rename_i hd
   refine hss ex bs h (ds.map some++List.replicate (nn - ds.length) none) (L2.start N vs) H _ hr' (by rw[<-hn];exact RE.start rv (by omega)) ?_
   cases e:b (ds.map some++List.replicate (nn - ds.length) none) h with
   | nx ρ' h'=>rw[e] at p;exact λσ' bs' H' ev re=>jlq hr' p ev (by simp only[RV])
   | rt d h'=>rw[e] at p;exact λv bs' H' ev rv=>jlq hr' p ev rv
   | exc c h'=>
    rw[e] at p
    intro bs' H' ev
    dsimp only at p
    split at p
    ·exact p bs' H' ev
    ·split at p
     ·rename_i q;exact p _ H' (ev.take hr' q)
     ·exact p bs' H' ev
   | bk _ _=>rw[e] at p;exact p.elim
   | ct _ _=>rw[e] at p;exact p.elim
   | stuck=>rw[e] at p;exact p.elim
  ·exact p.elim
theorem jhl{d:Z.D}{v:V}{xs:List Z.D}(hr:HR C ex bs h H)(r:RV C bs (gh ex bs h H) v d)(e:Z.asQ h d=some xs):∃a vs,v= .ref a /\ (SqL C.K H a vs \/ SqT C.K H a vs) /\ RVs C bs (gh ex bs h H) vs xs:=by
 cases d with
 | lst ds=>
  simp only[RV] at r
  obtain⟨a,vs,rfl,ga,rs⟩:=r
  cases e
  exact⟨a,vs,rfl,.inl (SqL.of (jbe _ _ ga)),rs⟩
 | tup ds=>
  simp only[RV] at r
  obtain⟨a,vs,rfl,ga,rs⟩:=r
  cases e
  exact⟨a,vs,rfl,.inr (SqT.of (jbe _ _ ga)),rs⟩
 | arg ns=>
  simp only[RV] at r
  obtain⟨a,rfl,ga⟩:=r
  cases e
  refine⟨a,_,rfl,.inl (jbe.sql ga),?_⟩
  clear ga hr
  induction ns with
  | nil=>simp only[List.map_nil,RVs]
  | cons n ns ih=>simp only[List.map_cons,RVs,RV];exact⟨trivial,ih⟩
 | ref k=>
  simp only[RV] at r
  obtain⟨a,rfl,hk⟩:=r
  simp only[Z.asQ] at e
  split at e
  ·rename_i ys hc
   cases e
   obtain⟨vs,ha,rs⟩:=hr.cell k a _ hk hc
   exact⟨a,vs,rfl,.inl (SqL.of ha),rs⟩
  ·cases e
 | _=>cases e
theorem ItOk.list{a:Addr}{vs:List V}{ds:List Z.D}{G:Hp}(hq:SqL C.K G a vs)(r:RVs C bs G vs ds):ItOk C bs G (Itl C.K a) (none,ds):=by
 intro ex2 bs2 h2 H2 hr pre sm _ i
 have hq2:SqL C.K H2 a vs:=(sm.trans jbe).sql hq
 refine⟨λd e=> ?_,λhle=>⟨vs,hq2,by rw[r.len];exact hle⟩⟩
 obtain⟨v,hv,rv⟩:=r.get e
 refine⟨⟨vs,v,hq2,hv⟩,λx H3 y=> ?_⟩
 obtain⟨rfl,y⟩:=y
 have:=y vs hq2
 rw[hv] at this;cases this
 exact⟨Ev.refl hr,rv.mono pre sm⟩
theorem Same.sqt{K:W.Frag}{H H':Hp}{a:Addr}{xs:List V}(e:Same H H')(h:SqT K H a xs):SqT K H' a xs:=by
 rcases h with(h | ⟨o,h⟩) | h
 ·exact .inl (.inl (e _ _ h))
 ·exact .inl (.inr ⟨o,e _ _ h⟩)
 ·exact .inr h
theorem ItOk.tup{a:Addr}{vs:List V}{ds:List Z.D}{G:Hp}(hq:SqT C.K G a vs)(r:RVs C bs G vs ds):ItOk C bs G (Itt C.K a) (none,ds):=by
 intro ex2 bs2 h2 H2 hr pre sm _ i
 have hq2:SqT C.K H2 a vs:=(sm.trans jbe).sqt hq
 refine⟨λd e=> ?_,λhle=>⟨vs,hq2,by rw[r.len];exact hle⟩⟩
 obtain⟨v,hv,rv⟩:=r.get e
 refine⟨⟨vs,v,hq2,hv⟩,λx H3 y=> ?_⟩
 obtain⟨rfl,y⟩:=y
 have:=y vs hq2
 rw[hv] at this;cases this
 exact⟨Ev.refl hr,rv.mono pre sm⟩
theorem ItOk.rng{lo:Int}{n:Nat}{G:Hp}:ItOk C bs G (Itr lo n) (none,Z.rng lo n):=by
 intro ex2 bs2 h2 H2 hr pre sm _ i
 unfold Z.rng
 refine⟨λd e=> ?_,λhle=>by show n<=i;simpa using hle⟩
 rw[List.getElem?_map] at e
 cases e2:(List.range n)[i]? with
 | none=>rw[e2] at e;cases e
 | some j=>
  rw[e2] at e
  simp at e;subst e
  obtain⟨hi,hj⟩:=List.getElem?_eq_some_iff.mp e2
  simp at hi hj
  subst hj
  refine⟨hi,λx H3 y=> ?_⟩
  obtain⟨rfl,rfl⟩:=y
  exact⟨Ev.refl hr,by simp only[RV]⟩
theorem si_V{t:TE}{m:Z.ME}(ht:SE C E t m):SI C E (iV C.K t) (Z.lIt m):=by
 intro ex bs h ρ σ H Q hr re p
 refine ht ex bs h ρ σ H _ hr re (p.bind λd x h1 bs1 H1 e1 rx p1=> ?_)
 cases d with
 | lst ds=>
  simp only[RV] at rx
  obtain⟨a,vs,rfl,ga,rs⟩:=rx
  exact .inl ⟨a,rfl,.inl ⟨⟨vs,SqL.of (jbe _ _ ga)⟩,Post.now e1.hr p1 (.list (SqL.of ga) rs)⟩⟩
 | tup ds=>
  simp only[RV] at rx
  obtain⟨a,vs,rfl,ga,rs⟩:=rx
  exact .inl ⟨a,rfl,.inr ⟨⟨vs,SqT.of (jbe _ _ ga)⟩,Post.now e1.hr p1 (.tup (SqT.of ga) rs)⟩⟩
 | arg ns=>
  have:=jhl e1.hr rx (xs:=ns.map .int) rfl
  simp only[RV] at rx
  obtain⟨a,rfl,ga⟩:=rx
  refine .inl ⟨a,rfl,.inl ⟨⟨_,jbe.sql ga⟩,Post.now e1.hr p1 (.list ga ?_)⟩⟩
  clear this ga p1 p
  induction ns with
  | nil=>simp only[List.map_nil,RVs]
  | cons n ns ih=>simp only[List.map_cons,RVs,RV];exact⟨trivial,ih⟩
 | str z=>
  simp only[RV] at rx
  subst rx
  refine .inr ⟨z,rfl,Post.now e1.hr p1 ?_⟩
  intro ex2 bs2 h2 H2 hr pre sm _ i
  refine⟨λd e=> ?_,λhle=>by show z.length<=i;simpa [Str.length] using hle⟩
  rw[List.getElem?_map] at e
  cases e2:z.cps.toList[i]? with
  | none=>rw[e2] at e;cases e
  | some c=>
   rw[e2] at e
   simp at e;subst e
   have hi:=(List.getElem?_eq_some_iff.mp e2).1
   refine⟨by show i<z.length;simpa [Str.length] using hi,λx H3 y=> ?_⟩
   obtain⟨rfl,c',hc,rfl⟩:=y
   have:z.cps[i]?=some c:=by simpa using e2
   rw[this] at hc;cases hc
   exact⟨Ev.refl hr,by simp only[RV]⟩
 | ref k=>
  simp only[RV] at rx
  obtain⟨a,rfl,hk⟩:=rx
  dsimp only at p1
  split at p1
  ·rename_i xs hc
   obtain⟨vs,ha,rs⟩:=e1.hr.cell k a _ hk hc
   refine .inl ⟨a,rfl,.inl ⟨⟨vs,SqL.of ha⟩,Post.now e1.hr p1 ?_⟩⟩
   intro ex2 bs2 h2 H2 hr pre sm okg i
   obtain⟨ws,ha2,rs2⟩:=hr.cell k a _ (pre k a hk) okg
   refine⟨λd e=> ?_,λhle=>⟨ws,SqL.of ha2,by rw[rs2.len];exact hle⟩⟩
   obtain⟨v,hv,rv⟩:=rs2.get e
   refine⟨⟨ws,v,SqL.of ha2,hv⟩,λx H3 y=> ?_⟩
   obtain⟨rfl,y⟩:=y
   have:=y ws (SqL.of ha2)
   rw[hv] at this;cases this
   exact⟨Ev.refl hr,rv⟩
  ·exact p1.elim
 | _=>exact p1.elim
theorem jij{t:TA}{m:Z.ML}(ht:SA C E t m):SI C E (iRng1 t) (Z.jps m):=by
 intro ex bs h ρ σ H Q hr re p
 refine ht ex bs h ρ σ H _ hr re (p.bind λds xs h1 bs1 H1 e1 rx p1=> ?_)
 split at p1
 ·rename_i j
  obtain⟨hj,p1⟩:=p1.chk
  cases xs with
  | nil=>simp only[RVs] at rx
  | cons v vs=>
   cases vs with
   | cons _ _=>simp only[RVs] at rx;exact rx.2.elim
   | nil=>
    simp only[RVs,RV] at rx
    rw[rx.1]
    exact⟨j,rfl,by omega,by omega,Post.now e1.hr p1 .rng⟩
 ·exact p1.elim
theorem jwf{t:TA}{m:Z.ML}(ht:SA C E t m):SI C E (iRng2 t) (Z.jwy m):=by
 intro ex bs h ρ σ H Q hr re p
 refine ht ex bs h ρ σ H _ hr re (p.bind λds xs h1 bs1 H1 e1 rx p1=> ?_)
 split at p1
 ·rename_i i j
  obtain⟨hj,p1⟩:=p1.chk
  match xs,rx with
  | [v,u],rx=>
   simp only[RVs,RV] at rx
   rw[rx.1,rx.2.1]
   exact⟨i,j,rfl,by omega,Post.now e1.hr p1 .rng⟩
  | [],rx=>simp only[RVs] at rx
  | [_],rx=>simp only[RVs] at rx;exact rx.2.elim
  | _::_::_::_,rx=>simp only[RVs] at rx;exact rx.2.2.elim
 ·exact p1.elim
end
section
variable {C : Ct} {ex bs bs1 bs2 : List Addr} {h h1 h2 : Z.MH} {H H1 H2 : Hp} {E : XK}
theorem jl8{f:Int->Int->Int}:S2 C (rI0 λi j=> .int (f i j)) (Z.dInt f):=by
 intro ex bs h H E x y dx dy Q hr rx ry p
 unfold Z.dInt at p
 split at p
 ·simp only[RV] at rx ry
  exact⟨_,_,rx,ry,p.now hr (by simp only[RV])⟩
 ·exact p.elim
theorem jig{c c':Int->Int->Prop}[∀i j,Decidable (c i j)]{f:Int->Int->Int}(hc:∀i j,c i j->c' i j):S2 C (rI c' λi j=> .int (f i j)) (Z.jkw c f):=by
 intro ex bs h H E x y dx dy Q hr rx ry p
 unfold Z.jkw at p
 split at p
 ·obtain⟨q,p⟩:=p.chk
  simp only[RV] at rx ry
  exact⟨_,_,rx,ry,hc _ _ q,p.now hr (by simp only[RV])⟩
 ·exact p.elim
theorem jll{f:Int->Int->Bool}:S2 C (rI0 λi j=> .bl (f i j)) (Z.dCmp f):=by
 intro ex bs h H E x y dx dy Q hr rx ry p
 unfold Z.dCmp at p
 split at p
 ·simp only[RV] at rx ry
  exact⟨_,_,rx,ry,p.now hr (by simp only[RV])⟩
 ·exact p.elim
theorem ju5:S2 C (rI0 λi j=> .int (i - j)) Z.dSub:=jl8
theorem jh3:S2 C (rI0 λi j=> .int (Builtin.bitAnd i j)) Z.dAnd:=jl8
theorem jn2:S2 C (rI0 λi j=> .int (Builtin.bitOr i j)) Z.dOr:=jl8
theorem s2_xor:S2 C (rI0 λi j=> .int (Builtin.bitXor i j)) Z.dXor:=jl8
theorem jgq:S2 C (rI CDiv λi j=> .int (i / j)) Z.dDiv:=jig λ_ _ q=>q
theorem jd6:S2 C (rI (λ_ j=>0<j) λi j=> .int (i % j)) Z.dMod:=jig λ_ _ q=>q
theorem jr2{i j:Int}(q:Z.jke i j):CPow i j:=by unfold Z.jke at q;unfold CPow;exact⟨q.1,q.2.1,by have:=q.2.2;omega⟩
theorem jrv{i j:Int}(q:Z.jn5 i j):CMul i j:=by unfold Z.jn5 at q;unfold CMul;omega
theorem jfp:S2 C (rI CPow λi j=> .int (i*2^j.toNat)) Z.dShl:=jig λ_ _ q=>jr2 q
theorem s2_shr:S2 C (rI (λ_ j=>0<=j) λi j=> .int (i / 2^j.toNat)) Z.dShr:=jig λ_ _ q=>q
theorem s2_lt:S2 C (rI0 λi j=> .bl (decide (i<j))) Z.dLt:=jll
theorem job:S2 C (rI0 λi j=> .bl (decide (i<=j))) Z.dLe:=jll
theorem s2_gt:S2 C (rI0 λi j=> .bl (decide (j<i))) Z.dGt:=jll
theorem jss:S2 C (rI0 λi j=> .bl (decide (j<=i))) Z.dGe:=jll
theorem jto:S1 C (rU λi=> .int (-i)) Z.dNeg:=by
 intro ex bs h H E x dx Q hr rx p
 unfold Z.dNeg at p
 split at p
 ·simp only[RV] at rx;exact⟨_,rx,p.now hr (by simp only[RV])⟩
 ·exact p.elim
theorem ju4:S1 C (rU λi=> .int (Builtin.bitNot i)) Z.dInv:=by
 intro ex bs h H E x dx Q hr rx p
 unfold Z.dInv at p
 split at p
 ·simp only[RV] at rx;exact⟨_,rx,p.now hr (by simp only[RV])⟩
 ·exact p.elim
theorem jsk{G:Hp}{v:V}{d:Z.D}(r:RV C bs G v d):decide (v= .non)=Z.jmr d:=by
 cases d<;>simp only[RV] at r
 case non=>subst r;rfl
 case bl=>subst r;rfl
 case int=>subst r;rfl
 case str=>subst r;rfl
 case tup=>obtain⟨_,_,rfl,_⟩:=r;rfl
 case lst=>obtain⟨_,_,rfl,_⟩:=r;rfl
 case arg=>obtain⟨_,rfl,_⟩:=r;rfl
 case ref=>obtain⟨_,rfl,_⟩:=r;rfl
 case ty=>subst r;rfl
 case cls=>subst r;rfl
 case exc=>obtain⟨_,_,_,rfl,_⟩:=r;rfl
 case obj=>obtain⟨_,_,_,rfl,_⟩:=r;rfl
 case dic=>obtain⟨_,_,rfl,_⟩:=r;rfl
theorem s2_is:S2 C (λx y H Q=>(y= .non /\ Q (.bl (decide (x= .non))) H) \/ ∃a b,x= .bl a /\ y= .bl b /\ Q (.bl ((a==b))) H) Z.dIs:=by
 intro ex bs h H E x y dx dy Q hr rx ry p
 unfold Z.dIs at p
 split at p
 ·simp only[RV] at rx ry
  exact .inr ⟨_,_,rx,ry,p.now hr (by simp only[RV])⟩
 ·simp only[RV] at ry
  exact .inl ⟨ry,by rw[jsk rx];exact p.now hr (by simp only[RV])⟩
 ·exact p.elim
theorem jh5{d:Z.D}{v:V}{xs:List Z.D}(hr:HR C ex bs h H)(r:RV C bs (gh ex bs h H) v d)(e:Z.asL h d=some xs):∃a vs,v= .ref a /\ H a=some (.lst vs) /\ RVs C bs (gh ex bs h H) vs xs:=by
 cases d with
 | lst ds=>
  simp only[RV] at r
  obtain⟨a,vs,rfl,ga,rs⟩:=r
  cases e
  exact⟨a,vs,rfl,jbe _ _ ga,rs⟩
 | ref k=>
  simp only[RV] at r
  obtain⟨a,rfl,hk⟩:=r
  simp only[Z.asL] at e
  split at e
  ·rename_i ys hc
   cases e
   obtain⟨vs,ha,rs⟩:=hr.cell k a _ hk hc
   exact⟨a,vs,rfl,ha,rs⟩
  ·cases e
 | _=>cases e
theorem Post.tree{ds:List Z.D}{vs:List V}{p:Addr}{Q:VK}(hr:HR C ex bs h H)(q:Post C ex E bs h H (RV C) (.ok (.lst ds) h) Q)(hp:H p=none)(r:RVs C bs (gh ex bs h H) vs ds):Q (.ref p) (upd H p (.lst vs)):=by
 obtain⟨e2,g⟩:=Ev.alloc (o:= .lst vs) hr hp
 exact q (.ref p) bs _ e2 (by simp only[RV];exact⟨p,vs,rfl,g,r.ev e2⟩)
theorem Post.ttup{ds:List Z.D}{vs:List V}{p:Addr}{Q:VK}(hr:HR C ex bs h H)(q:Post C ex E bs h H (RV C) (.ok (.tup ds) h) Q)(hp:H p=none)(r:RVs C bs (gh ex bs h H) vs ds):Q (.ref p) (upd H p (.tup vs)):=by
 obtain⟨e2,g⟩:=Ev.alloc (o:= .tup vs) hr hp
 exact q (.ref p) bs _ e2 (by simp only[RV];exact⟨p,vs,rfl,g,r.ev e2⟩)
theorem jc4:S2 C (uAdd C.K) Z.dAdd:=by
 intro ex bs h H E x y dx dy Q hr rx ry p
 unfold Z.dAdd at p
 split at p
 ·simp only[RV] at rx ry
  subst rx ry
  exact p.now hr (by simp only[RV])
 ·obtain⟨q,p⟩:=p.chk
  simp only[RV] at rx ry
  subst rx ry
  exact⟨q,p.now hr (by simp only[RV])⟩
 ·obtain⟨q,p⟩:=p.chk
  simp only[RV] at rx ry
  obtain⟨a,vs,rfl,ga,rs⟩:=rx
  obtain⟨b,ws,rfl,gb,qs⟩:=ry
  have hl:=rs.len
  have hl':=qs.len
  refine .inr ⟨a,b,vs,ws,rfl,rfl,SqT.of (jbe _ _ ga),SqT.of (jbe _ _ gb),λz=>q.1 (List.eq_nil_of_length_eq_zero (by rw[<-hl,z];rfl)),by rw[hl,hl'];exact q.2,λz=> ?_,λ_ l hl=>Post.ttup hr p hl (rs.append qs)⟩
  subst z
  refine p.now hr ?_
  simp only[RV]
  have:=rs.append qs
  rw[List.append_nil] at this
  exact⟨a,vs,rfl,ga,this⟩
 ·obtain⟨xs,e1,p⟩:=p.oR
  obtain⟨ys,e2,p⟩:=p.oR
  obtain⟨q,p⟩:=p.chk
  obtain⟨a,vs,rfl,ha,rs⟩:=jh5 hr rx e1
  obtain⟨b,ws,rfl,hb,qs⟩:=jh5 hr ry e2
  exact .inl ⟨a,b,vs,ws,rfl,rfl,ha,hb,by rw[rs.len,qs.len];exact q,λl hl=>Post.tree hr p hl (rs.append qs)⟩
theorem RVs.rep{G:Hp}{vs:List V}{ds:List Z.D}(r:RVs C bs G vs ds):∀n:Nat,RVs C bs G (List.replicate n vs).flatten (List.replicate n ds).flatten
 | 0=>by simp[RVs]
 | n+1=>by
  rw[List.replicate_succ,List.replicate_succ,List.flatten_cons,List.flatten_cons]
  exact r.append (RVs.rep r n)
theorem jjb:S2 C uMulS Z.dMul:=by
 intro ex bs h H E x y dx dy Q hr rx ry p
 unfold Z.dMul at p
 split at p
 ·obtain⟨q,p⟩:=p.chk
  simp only[RV] at rx ry
  subst rx ry
  exact⟨jrv q,p.now hr (by simp only[RV])⟩
 ·obtain⟨q,p⟩:=p.chk
  simp only[RV] at rx ry
  subst rx ry
  exact⟨q.1,q.2,p.now hr (by simp only[RV])⟩
 ·obtain⟨xs,e1,p⟩:=p.oR
  obtain⟨q,p⟩:=p.chk
  obtain⟨a,vs,rfl,ha,rs⟩:=jh5 hr rx e1
  simp only[RV] at ry
  subst ry
  exact⟨a,_,vs,rfl,rfl,ha,by have:=q.1;omega,by have:=q.1;omega,by rw[rs.len];exact q.2,λl hl=>Post.tree hr p hl (rs.rep _)⟩
 ·exact p.elim
theorem RVk.len{G:Hp}:∀{ds:List (Sum Int Str×Z.D)} {vs:List (Key×V)},RVk C bs G vs ds->vs.length=ds.length
  | [],[],_=>rfl
  | (_,_)::ds,(_,_)::vs,h=>by simp only[RVk] at h;simp[RVk.len h.2.2]
  | [],_::_,h=>by simp only[RVk] at h
  | _::_,[],h=>by simp only[RVk] at h
theorem jls{d:Z.D}{v:V}{k:Bool}(hr:HR C ex bs h H)(r:RV C bs (gh ex bs h H) v d)(e:Z.jfb h d=some k):TruV C.K v H k:=by
 have sq:∀{xs:List Z.D},Z.asQ h d=some xs->k= !xs.isEmpty->TruV C.K v H k:=fun{xs} e1 e2=>by
  obtain⟨a,vs,rfl,hq,rs⟩:=jhl hr r e1
  have:k= !vs.isEmpty:=by
   rw[e2]
   have:=rs.len
   cases vs<;>cases xs<;>first | rfl | (simp at this)
  rcases hq with hq | hq
  ·exact .inl ⟨vs,hq,this⟩
  ·exact .inr (.inl ⟨vs,hq,this⟩)
 cases d with
 | non=>simp only[RV] at r;subst r;cases e;rfl
 | bl b=>simp only[RV] at r;subst r;cases e;rfl
 | int i=>simp only[RV] at r;subst r;cases e;rfl
 | str y=>
  simp only[RV] at r;subst r
  simp only[Z.jfb] at e
  split at e
  ·rename_i hz;cases e;exact⟨hz,rfl⟩
  ·cases e
 | lst xs=>simp only[Z.jfb,Z.asQ,Option.some.injEq] at e;exact sq rfl e.symm
 | tup xs=>simp only[Z.jfb,Z.asQ,Option.some.injEq] at e;exact sq rfl e.symm
 | arg ns=>simp only[Z.jfb,Z.asQ,Option.some.injEq] at e;exact sq rfl e.symm
 | ref j=>
  simp only[Z.jfb] at e
  split at e
  ·rename_i xs hx
   simp only[Option.some.injEq] at e
   exact sq hx e.symm
  ·simp only[Z.asD] at e
   split at e
   ·rename_i kvs hc
    simp only[Option.map_some,Option.some.injEq] at e
    simp only[RV] at r
    obtain⟨a,rfl,hk⟩:=r
    obtain⟨kws,ha,rk⟩:=hr.cell j a _ hk hc
    refine .inr (.inr ⟨kws,ha,?_⟩)
    rw[<-e]
    have:=rk.len
    cases kws<;>cases kvs<;>first | rfl | (simp at this)
   ·cases e
 | ty n=>simp[Z.jfb,Z.asQ] at e
 | cls n=>simp[Z.jfb,Z.asQ] at e
 | exc n=>simp[Z.jfb,Z.asQ] at e
 | obj c fs=>simp[Z.jfb,Z.asQ] at e
 | dic kvs=>simp[Z.jfb,Z.asQ] at e
theorem jbq{t:TE}{m:Z.ME}(ht:SE C E t m):ST C E (λσ H Q=>t σ H λx H'=>∃k,TruV C.K x H' k /\ Q k H') (Z.tTru m):=by
 intro ex bs h ρ σ H Q hr re p
 refine ht ex bs h ρ σ H _ hr re (p.bind λd x h1 bs1 H1 e1 rx p1=> ?_)
 obtain⟨k,ek,p1⟩:=p1.oR1
 exact⟨k,jls e1.hr rx ek,Post.now e1.hr p1 rfl⟩
theorem s_notT{t:TE}{m:Z.ME}(ht:SE C E t m):SE C E (λσ H Q=>t σ H λx H1=>∃k,TruV C.K x H1 k /\ Q (.bl (!k)) H1) (Z.mNotV m):=by
 intro ex bs h ρ σ H Q hr re p
 refine ht ex bs h ρ σ H _ hr re (p.bind λd x h1 bs1 H1 e1 rx p1=> ?_)
 obtain⟨k,ek,p1⟩:=p1.oR
 exact⟨k,jls e1.hr rx ek,p1.now e1.hr (by simp only[RV])⟩
mutual
theorem RV.rep{G:Hp}:∀{d:Z.D} {v:V} {q:PyData},RV C bs G v d->d.py=some q->Rep G v q
 | .non,v,q,h,e=>by simp only[RV] at h;simp only[Z.D.py,Option.some.injEq] at e;subst e;simp only[Rep];exact h
 | .bl b,v,q,h,e=>by simp only[RV] at h;simp only[Z.D.py,Option.some.injEq] at e;subst e;simp only[Rep];exact h
 | .int i,v,q,h,e=>by simp only[RV] at h;simp only[Z.D.py,Option.some.injEq] at e;subst e;simp only[Rep];exact h
 | .str x,v,q,h,e=>by
  simp only[RV] at h
  simp only[Z.D.py] at e
  split at e
  ·simp only[Option.some.injEq] at e;subst e;simp only[Rep];exact h
  ·cases e
 | .tup ds,v,q,h,e=>by
  simp only[RV] at h
  simp only[Z.D.py] at e
  obtain⟨a,vs,h1,h2,h3⟩:=h
  cases e2:Z.D.pys ds with
  | none=>rw[e2] at e;cases e
  | some ps=>
   rw[e2] at e
   simp only[Option.map_some,Option.some.injEq] at e
   subst e
   simp only[Rep]
   exact⟨a,vs,h1,h2,RVs.reps h3 e2⟩
 | .lst ds,v,q,h,e=>by
  simp only[RV] at h
  simp only[Z.D.py] at e
  obtain⟨a,vs,h1,h2,h3⟩:=h
  cases e2:Z.D.pys ds with
  | none=>rw[e2] at e;cases e
  | some ps=>
   rw[e2] at e
   simp only[Option.map_some,Option.some.injEq] at e
   subst e
   simp only[Rep]
   exact⟨a,vs,h1,h2,RVs.reps h3 e2⟩
 | .arg _,_,_,_,e=>by simp only[Z.D.py] at e;cases e
 | .ref _,_,_,_,e=>by simp only[Z.D.py] at e;cases e
 | .ty _,_,_,_,e=>by simp only[Z.D.py] at e;cases e
 | .cls _,_,_,_,e=>by simp only[Z.D.py] at e;cases e
 | .exc _,_,_,_,e=>by simp only[Z.D.py] at e;cases e
 | .obj _ _,_,_,_,e=>by simp only[Z.D.py] at e;cases e
 | .dic _,_,_,_,e=>by simp only[Z.D.py] at e;cases e
theorem RVs.reps{G:Hp}:∀{ds:List Z.D} {vs:List V} {qs:List PyData},RVs C bs G vs ds->Z.D.pys ds=some qs->Reps G vs qs
 | [],[],qs,_,e=>by simp only[Z.D.pys,Option.some.injEq] at e;subst e;simp only[Reps]
 | d::ds,v::vs,qs,h,e=>by
  simp only[RVs] at h
  simp only[Z.D.pys] at e
  split at e
  ·rename_i p ps e1 e2
   simp only[Option.some.injEq] at e
   subst e
   simp only[Reps]
   exact⟨RV.rep h.1 e1,RVs.reps h.2 e2⟩
  ·cases e
 | [],_::_,_,h,_=>by simp only[RVs] at h
 | _::_,[],_,h,_=>by simp only[RVs] at h
end
mutual
theorem jux:∀{d e:Z.D} {p q:PyData},d.py=some p->e.py=some q->PyData.eqv p q=d.eq e
  | .non,e,p,q,hd,he=>by
    simp only[Z.D.py,Option.some.injEq] at hd;subst hd
    cases e<;>simp only[Z.D.py,Option.some.injEq] at he<;>(try cases he)<;>first
      | (subst he;simp[PyData.eqv,Z.D.eq];done)
      | (split at he<;>first | (cases he;simp[PyData.eqv,Z.D.eq];done) | cases he)
      | (simp only[Option.map_eq_some_iff] at he;obtain⟨_,_,rfl⟩:=he;simp[PyData.eqv,Z.D.eq];done)
      | (simp[PyData.eqv,Z.D.eq];done)
  | .bl b,e,p,q,hd,he=>by
    simp only[Z.D.py,Option.some.injEq] at hd;subst hd
    cases e<;>simp only[Z.D.py,Option.some.injEq] at he<;>(try cases he)<;>first
      | (subst he;simp[PyData.eqv,Z.D.eq];done)
      | (split at he<;>first | (cases he;simp[PyData.eqv,Z.D.eq];done) | cases he)
      | (simp only[Option.map_eq_some_iff] at he;obtain⟨_,_,rfl⟩:=he;simp[PyData.eqv,Z.D.eq];done)
      | (simp[PyData.eqv,Z.D.eq];done)
  | .int b,e,p,q,hd,he=>by
    simp only[Z.D.py,Option.some.injEq] at hd;subst hd
    cases e<;>simp only[Z.D.py,Option.some.injEq] at he<;>(try cases he)<;>first
      | (subst he;simp[PyData.eqv,Z.D.eq];done)
      | (split at he<;>first | (cases he;simp[PyData.eqv,Z.D.eq];done) | cases he)
      | (simp only[Option.map_eq_some_iff] at he;obtain⟨_,_,rfl⟩:=he;simp[PyData.eqv,Z.D.eq];done)
      | (simp[PyData.eqv,Z.D.eq];done)
  | .str b,e,p,q,hd,he=>by
    simp only[Z.D.py] at hd
    split at hd
    · cases hd
      cases e<;>simp only[Z.D.py,Option.some.injEq] at he<;>(try cases he)<;>first
        | (subst he;simp[PyData.eqv,Z.D.eq];done)
        | (split at he<;>first | (cases he;simp[PyData.eqv,Z.D.eq];done) | cases he)
        | (simp only[Option.map_eq_some_iff] at he;obtain⟨_,_,rfl⟩:=he;simp[PyData.eqv,Z.D.eq];done)
        | (simp[PyData.eqv,Z.D.eq];done)
    · cases hd
  | .tup xs,e,p,q,hd,he=>by
    simp only[Z.D.py,Option.map_eq_some_iff] at hd
    obtain⟨ps,h1,rfl⟩:=hd
    cases e with
    | tup ys=>
      simp only[Z.D.py,Option.map_eq_some_iff] at he
      obtain⟨qs,h2,rfl⟩:=he
      simp only[PyData.eqv,Z.D.eq]
      exact jpv h1 h2
    | _=>
      simp only[Z.D.py,Option.some.injEq] at he<;>(try cases he)<;>first
        | (subst he;simp[PyData.eqv,Z.D.eq];done)
        | (split at he<;>first | (cases he;simp[PyData.eqv,Z.D.eq];done) | cases he)
        | (simp only[Option.map_eq_some_iff] at he;obtain⟨_,_,rfl⟩:=he;simp[PyData.eqv,Z.D.eq];done)
        | (simp[PyData.eqv,Z.D.eq];done)
  | .lst xs,e,p,q,hd,he=>by
    simp only[Z.D.py,Option.map_eq_some_iff] at hd
    obtain⟨ps,h1,rfl⟩:=hd
    cases e with
    | lst ys=>
      simp only[Z.D.py,Option.map_eq_some_iff] at he
      obtain⟨qs,h2,rfl⟩:=he
      simp only[PyData.eqv,Z.D.eq]
      exact jpv h1 h2
    | _=>
      simp only[Z.D.py,Option.some.injEq] at he<;>(try cases he)<;>first
        | (subst he;simp[PyData.eqv,Z.D.eq];done)
        | (split at he<;>first | (cases he;simp[PyData.eqv,Z.D.eq];done) | cases he)
        | (simp only[Option.map_eq_some_iff] at he;obtain⟨_,_,rfl⟩:=he;simp[PyData.eqv,Z.D.eq];done)
        | (simp[PyData.eqv,Z.D.eq];done)
  | .arg _,_,_,_,e,_=>by simp only[Z.D.py] at e;cases e
  | .ref _,_,_,_,e,_=>by simp only[Z.D.py] at e;cases e
  | .ty _,_,_,_,e,_=>by simp only[Z.D.py] at e;cases e
  | .cls _,_,_,_,e,_=>by simp only[Z.D.py] at e;cases e
  | .exc _,_,_,_,e,_=>by simp only[Z.D.py] at e;cases e
  | .obj _ _,_,_,_,e,_=>by simp only[Z.D.py] at e;cases e
  | .dic _,_,_,_,e,_=>by simp only[Z.D.py] at e;cases e
theorem jpv:∀{ds es:List Z.D} {ps qs:List PyData},Z.D.pys ds=some ps->Z.D.pys es=some qs->PyData.eqvAll ps qs=Z.D.eqs ds es
 | [],[],ps,qs,h1,h2=>by
  simp only[Z.D.pys,Option.some.injEq] at h1 h2;subst h1 h2;simp only[PyData.eqvAll,Z.D.eqs]
 | d::ds,e::es,ps,qs,h1,h2=>by
  simp only[Z.D.pys] at h1 h2
  split at h1
  ·split at h2
   ·rename_i p1 ps1 a1 a2 _ _ q1 qs1 b1 b2
    simp only[Option.some.injEq] at h1 h2
    subst h1 h2
    simp only[PyData.eqvAll,Z.D.eqs]
    rw[jux a1 b1,jpv a2 b2]
   ·cases h2
  ·cases h1
 | [],e::es,ps,qs,h1,h2=>by
  simp only[Z.D.pys] at h1 h2
  split at h2
  ·simp only[Option.some.injEq] at h1 h2;subst h1 h2;simp only[PyData.eqvAll,Z.D.eqs]
  ·cases h2
 | d::ds,[],ps,qs,h1,h2=>by
  simp only[Z.D.pys] at h1 h2
  split at h1
  ·simp only[Option.some.injEq] at h1 h2;subst h1 h2;simp only[PyData.eqvAll,Z.D.eqs]
  ·cases h1
end
end
section
variable {C : Ct} {ex bs bs1 bs2 : List Addr} {h h1 h2 : Z.MH} {H H1 H2 : Hp} {E : XK}
mutual
theorem juc:∀{d:Z.D} {q:PyData},d.py=some q->q.canLay0=true /\ q.depth=d.deep
 | .non,q,e=>by simp only[Z.D.py,Option.some.injEq] at e;subst e;exact⟨by simp only[PyData.canLay0],by simp only[PyData.depth,Z.D.deep]⟩
 | .bl b,q,e=>by simp only[Z.D.py,Option.some.injEq] at e;subst e;exact⟨by simp only[PyData.canLay0],by simp only[PyData.depth,Z.D.deep]⟩
 | .int b,q,e=>by simp only[Z.D.py,Option.some.injEq] at e;subst e;exact⟨by simp only[PyData.canLay0],by simp only[PyData.depth,Z.D.deep]⟩
 | .str b,q,e=>by
  simp only[Z.D.py] at e
  split at e
  ·rename_i hs;cases e;exact⟨by simp only[PyData.canLay0];exact hs,by simp only[PyData.depth,Z.D.deep]⟩
  ·cases e
 | .tup ds,q,e=>by
  simp only[Z.D.py,Option.map_eq_some_iff] at e
  obtain⟨ps,h1,rfl⟩:=e
  have:=jl1 h1
  exact⟨by simp only[PyData.canLay0];exact this.1,by simp only[PyData.depth,Z.D.deep];rw[this.2]⟩
 | .lst ds,q,e=>by
  simp only[Z.D.py,Option.map_eq_some_iff] at e
  obtain⟨ps,h1,rfl⟩:=e
  have:=jl1 h1
  exact⟨by simp only[PyData.canLay0];exact this.1,by simp only[PyData.depth,Z.D.deep];rw[this.2]⟩
 | .arg _,_,e=>by simp only[Z.D.py] at e;cases e
 | .ref _,_,e=>by simp only[Z.D.py] at e;cases e
 | .ty _,_,e=>by simp only[Z.D.py] at e;cases e
 | .cls _,_,e=>by simp only[Z.D.py] at e;cases e
 | .exc _,_,e=>by simp only[Z.D.py] at e;cases e
 | .obj _ _,_,e=>by simp only[Z.D.py] at e;cases e
 | .dic _,_,e=>by simp only[Z.D.py] at e;cases e
theorem jl1:∀{ds:List Z.D} {qs:List PyData},Z.D.pys ds=some qs->PyData.canLayAll0 qs=true /\ PyData.depthAll qs=Z.D.deeps ds
 | [],qs,e=>by simp only[Z.D.pys,Option.some.injEq] at e;subst e;exact⟨by simp only[PyData.canLayAll0],by simp only[PyData.depthAll,Z.D.deeps]⟩
 | d::ds,qs,e=>by
  simp only[Z.D.pys] at e
  split at e
  ·rename_i p ps e1 e2
   simp only[Option.some.injEq] at e
   subst e
   have a:=juc e1
   have b:=jl1 e2
   exact⟨by simp only[PyData.canLayAll0,a.1,b.1,Bool.and_self],by simp only[PyData.depthAll,Z.D.deeps,a.2,b.2]⟩
  ·cases e
end
theorem jgp{d:Z.D}(e:d.dat=true):∃q,d.py=some q /\ jfo q:=by
 unfold Z.D.dat at e
 rw[Bool.and_eq_true,decide_eq_true_eq,Option.isSome_iff_exists] at e
 obtain⟨⟨q,hq⟩,hd⟩:=e
 refine⟨q,hq,?_⟩
 have:=juc hq
 show SeqAt.shaped q=true
 unfold SeqAt.shaped
 rw[Bool.and_eq_true,decide_eq_true_eq]
 exact⟨this.1,by rw[this.2];exact hd⟩
mutual
theorem jog(hr:HR C ex bs h H):∀(n:Nat) {d:Z.D} {v:V} {q:PyData},RV C bs (gh ex bs h H) v d->(Z.res n h d).py=some q->Rep H v q
 | 0,d,v,q,r,e=>by unfold Z.res at e;exact(r.rep e).same jbe
 | n+1,.ref k,v,q,r,e=>by
  unfold Z.res at e
  split at e
  ·rename_i xs hc
   simp only[RV] at r
   obtain⟨a,rfl,hk⟩:=r
   obtain⟨vs,ha,rs⟩:=hr.cell k a _ hk hc
   simp only[Z.D.py,Option.map_eq_some_iff] at e
   obtain⟨ps,h1,rfl⟩:=e
   simp only[Rep]
   exact⟨a,vs,rfl,ha,jg3 hr n rs h1⟩
  ·simp only[Z.D.py] at e;cases e
 | n+1,.tup xs,v,q,r,e=>by
  unfold Z.res at e
  simp only[RV] at r
  obtain⟨a,vs,rfl,ga,rs⟩:=r
  simp only[Z.D.py,Option.map_eq_some_iff] at e
  obtain⟨ps,h1,rfl⟩:=e
  simp only[Rep]
  exact⟨a,vs,rfl,jbe _ _ ga,jg3 hr n rs h1⟩
 | n+1,.lst xs,v,q,r,e=>by
  unfold Z.res at e
  simp only[RV] at r
  obtain⟨a,vs,rfl,ga,rs⟩:=r
  simp only[Z.D.py,Option.map_eq_some_iff] at e
  obtain⟨ps,h1,rfl⟩:=e
  simp only[Rep]
  exact⟨a,vs,rfl,jbe _ _ ga,jg3 hr n rs h1⟩
 | n+1,.non,v,q,r,e=>by unfold Z.res at e;exact(r.rep e).same jbe
 | n+1,.bl _,v,q,r,e=>by unfold Z.res at e;exact(r.rep e).same jbe
 | n+1,.int _,v,q,r,e=>by unfold Z.res at e;exact(r.rep e).same jbe
 | n+1,.str _,v,q,r,e=>by unfold Z.res at e;exact(r.rep e).same jbe
 | n+1,.arg _,v,q,r,e=>by unfold Z.res at e;exact(r.rep e).same jbe
 | n+1,.ty _,v,q,r,e=>by unfold Z.res at e;exact(r.rep e).same jbe
 | n+1,.cls _,v,q,r,e=>by unfold Z.res at e;exact(r.rep e).same jbe
 | n+1,.exc _,v,q,r,e=>by unfold Z.res at e;exact(r.rep e).same jbe
 | n+1,.obj _ _,v,q,r,e=>by unfold Z.res at e;exact(r.rep e).same jbe
 | n+1,.dic _,v,q,r,e=>by unfold Z.res at e;exact(r.rep e).same jbe
theorem jg3(hr:HR C ex bs h H):∀(n:Nat) {ds:List Z.D} {vs:List V} {qs:List PyData},RVs C bs (gh ex bs h H) vs ds->Z.D.pys (ds.map (Z.res n h))=some qs->Reps H vs qs
 | n,[],[],qs,_,e=>by simp only[List.map_nil,Z.D.pys,Option.some.injEq] at e;subst e;simp only[Reps]
 | n,d::ds,v::vs,qs,r,e=>by
  simp only[RVs] at r
  simp only[List.map_cons,Z.D.pys] at e
  split at e
  ·rename_i p ps e1 e2
   simp only[Option.some.injEq] at e
   subst e
   simp only[Reps]
   exact⟨jog hr n r.1 e1,jg3 hr n r.2 e2⟩
  ·cases e
 | n,[],_::_,_,r,_=>by simp only[RVs] at r
 | n,_::_,[],_,r,_=>by simp only[RVs] at r
end
theorem jpy{d:Z.D}{v:V}(hr:HR C ex bs h H)(r:RV C bs (gh ex bs h H) v d)(e:(Z.see h d).dat=true):∃q,(Z.see h d).py=some q /\ Rep H v q /\ jfo q:=by
 obtain⟨q,h1,h2⟩:=jgp e
 exact⟨q,h1,jog hr 8 r h1,h2⟩
theorem jjk{x y:V}{dx dy:Z.D}(hr:HR C ex bs h H)(rx:RV C bs (gh ex bs h H) x dx)(ry:RV C bs (gh ex bs h H) y dy):Z.dEq dx dy h= .stuck \/ ∃b,Z.dEq dx dy h= .ok (.bl b) h /\
  ((scal x y=true /\ decide (x=y)=b) \/ ∃d e,Rep H x d /\ Rep H y e /\ jfo d /\ jfo e /\ PyData.eqv d e=b):=by
 unfold Z.dEq
 split
 ·simp only[RV] at rx ry;subst rx ry
  exact .inr ⟨_,rfl,.inl ⟨rfl,by simp⟩⟩
 ·simp only[RV] at rx ry;subst rx ry
  exact .inr ⟨_,rfl,.inl ⟨rfl,by simp⟩⟩
 ·simp only[RV] at rx ry;subst rx ry
  exact .inr ⟨_,rfl,.inl ⟨rfl,jq3⟩⟩
 ·split
  ·rename_i q
   obtain⟨d,h1,h3⟩:=jgp q.1
   obtain⟨e,k1,k3⟩:=jgp q.2
   exact .inr ⟨_,rfl,.inr ⟨d,e,(rx.rep h1).same jbe,(ry.rep k1).same jbe,h3,k3,jux h1 k1⟩⟩
  ·unfold Z.chk
   split
   ·rename_i q
    obtain⟨d,h1,h2,h3⟩:=jpy hr rx q.1
    obtain⟨e,k1,k2,k3⟩:=jpy hr ry q.2
    exact .inr ⟨_,rfl,.inr ⟨d,e,h2,k2,h3,k3,jux h1 k1⟩⟩
   ·exact .inl rfl
theorem jcr:S2 C uEq Z.dEq:=by
 intro ex bs h H E x y dx dy Q hr rx ry p
 rcases jjk hr rx ry with e | ⟨b,e,q⟩
 ·rw[e] at p;exact p.elim
 ·rw[e] at p
  have:=p.now (b:= .bl b) hr (by simp only[RV])
  rcases q with⟨q1,q2⟩ | ⟨d,e,h1,h2,h3,h4,h5⟩
  ·exact .inl ⟨q1,by rw[q2];exact this⟩
  ·exact .inr ⟨d,e,h1,h2,h3,h4,by rw[h5];exact this⟩
theorem jne:S2 C uNe Z.dNe:=by
 intro ex bs h H E x y dx dy Q hr rx ry p
 unfold Z.dNe at p
 rcases jjk hr rx ry with e | ⟨b,e,q⟩
 ·rw[e] at p;exact p.elim
 ·rw[e] at p
  have:=Post.now (b:= .bl (!b)) hr p (by simp only[RV])
  rcases q with⟨q1,q2⟩ | ⟨d,e,h1,h2,h3,h4,h5⟩
  ·exact .inl ⟨q1,by rw[q2];exact this⟩
  ·exact .inr ⟨d,e,h1,h2,h3,h4,by rw[h5];exact this⟩
theorem jue{G:Hp}{d:Z.D}{v:V}(r:RV C bs G v d)(f:Z.flat d=true):fv d=some v /\ jh8 v=true:=by
 cases d<;>simp only[RV] at r<;>first | (subst r;exact⟨rfl,rfl⟩) | (cases f)
theorem fv_v{G:Hp}{d:Z.D}{v:V}(f:fv d=some v):RV C bs G v d:=by
 cases d<;>simp only[fv,Option.some.injEq] at f<;>first | (subst f;simp only[RV];done) | (cases f)
theorem eqF_v{d e:Z.D}{v u:V}(a:fv d=some v)(b:fv e=some u):eqV v u=Z.eqF d e:=by
 cases d<;>simp only[fv,Option.some.injEq] at a<;>(try cases a)<;>cases e<;>simp only[fv,Option.some.injEq] at b<;>(try cases b)<;>(try subst a)<;>(try subst b)<;>rfl
theorem joq{G:Hp}{e:Z.D}{u:V}(b:fv e=some u):∀{ds:List Z.D} {vs:List V},RVs C bs G vs ds->ds.all Z.flat=true->vs.all jh8=true /\ (vs.any λy=>eqV y u)=ds.any λy=>Z.eqF y e
 | [],[],_,_=>⟨rfl,rfl⟩
 | d::ds,v::vs,h,f=>by
  simp only[RVs] at h
  rw[List.all_cons,Bool.and_eq_true] at f
  obtain⟨h1,h2⟩:=jue h.1 f.1
  obtain⟨h3,h4⟩:=joq b h.2 f.2
  rw[List.all_cons,List.any_cons,List.any_cons,h2,h3,h4,eqF_v h1 b]
  exact⟨rfl,rfl⟩
 | [],_::_,h,_=>by simp only[RVs] at h
 | _::_,[],h,_=>by simp only[RVs] at h
theorem key_v{G:Hp}{d:Z.D}{v:V}{k:Sum Int Str}(r:RV C bs G v d)(e:Z.ji6 d=some k):v=kV k:=by
 cases d<;>simp only[Z.ji6,Option.some.injEq] at e<;>(try cases e)<;>simp only[RV] at r<;>exact r
theorem RVk.val{G:Hp}{k:Sum Int Str}:∀{ds:List (Sum Int Str×Z.D)} {vs:List (Key×V)},RVk C bs G vs ds->
    (Z.valK ds k=none /\ valV vs k=none) \/ ∃d v,Z.valK ds k=some d /\ valV vs k=some v /\ RV C bs G v d
  | [],[],_=> .inl ⟨rfl,rfl⟩
  | (y,d)::ds,(x,v)::vs,h=>by
    simp only[RVk] at h
    obtain⟨rfl,h1,h2⟩:=h
    unfold Z.valK valV
    rw[List.find?_cons,List.find?_cons]
    by_cases e:x=k
    · simp only[e,decide_true]
      exact .inr ⟨d,v,rfl,rfl,h1⟩
    · simp only[e,decide_false]
      exact RVk.val h2
  | [],_::_,h=>by simp only[RVk] at h
  | _::_,[],h=>by simp only[RVk] at h
theorem RVk.of{G:Hp}:∀{ds:List (Sum Int Str×Z.D)} {vs:List (Key×V)},ds.map (λp=>(p.1,fv p.2))=vs.map (λp=>(p.1,some p.2))->RVk C bs G vs ds
  | [],[],_=>by simp only[RVk]
  | (y,d)::ds,(x,v)::vs,e=>by
    simp only[List.map_cons,List.cons.injEq,Prod.mk.injEq] at e
    simp only[RVk]
    exact⟨e.1.1.symm,fv_v e.1.2,RVk.of e.2⟩
  | [],_::_,e=>by simp at e
  | _::_,[],e=>by simp at e
theorem jtd{d:Z.D}{v:V}{kvs:List (Sum Int Str×Z.D)}(hr:HR C ex bs h H)(r:RV C bs (gh ex bs h H) v d)(e:Z.asR h d=some kvs)(k:Sum Int Str):∃a,v= .ref a /\
  ((Z.valK kvs k=none /\ jst C.P C.w C.K H a (kV k) none) \/ ∃d' v',Z.valK kvs k=some d' /\ jst C.P C.w C.K H a (kV k) (some v') /\ RV C bs (gh ex bs h H) v' d'):=by
 cases d with
 | dic kvs'=>
  simp only[RV] at r
  obtain⟨a,kws,rfl,hk,em⟩:=r
  cases e
  refine⟨a,rfl,?_⟩
  rcases RVk.val (k:=k) (RVk.of (C:=C) (bs:=bs) (G:=gh ex bs h H) em) with⟨h1,h2⟩ | ⟨d',v',h1,h2,h3⟩
  ·exact .inl ⟨h1,.inr (.inl ⟨kws,k,hk,rfl,h2.symm⟩)⟩
  ·exact .inr ⟨d',v',h1,.inr (.inl ⟨kws,k,hk,rfl,h2.symm⟩),h3⟩
 | ref j=>
  simp only[RV] at r
  obtain⟨a,rfl,hj⟩:=r
  simp only[Z.asR] at e
  split at e
  ·rename_i kvs' hc
   cases e
   obtain⟨kws,ha,rk⟩:=hr.cell j a _ hj hc
   refine⟨a,rfl,?_⟩
   rcases rk.val (k:=k) with⟨h1,h2⟩ | ⟨d',v',h1,h2,h3⟩
   ·exact .inl ⟨h1,.inl (by rw[<-h2];exact DGet.k ha)⟩
   ·exact .inr ⟨d',v',h1,.inl (by rw[<-h2];exact DGet.k ha),h3⟩
  ·rename_i kvs' hc
   cases e
   obtain⟨o,kws,hg,_,rk⟩:=hr.cell j a _ hj hc
   have ha:=jbe _ _ hg
   refine⟨a,rfl,?_⟩
   rcases rk.val (k:=k) with⟨h1,h2⟩ | ⟨d',v',h1,h2,h3⟩
   ·exact .inl ⟨h1,.inr (.inr ⟨o,kws,k,ha,rfl,h2.symm⟩)⟩
   ·exact .inr ⟨d',v',h1,.inr (.inr ⟨o,kws,k,ha,rfl,h2.symm⟩),h3⟩
  ·cases e
 | _=>cases e
theorem js3{neg:Bool}:S2 C (uIn C.P C.w C.K neg) (Z.dIn neg):=by
 intro ex bs h H E x y dx dy Q hr rx ry p
 unfold Z.dIn at p
 split at p
 ·simp only[RV] at rx ry;subst rx ry
  exact .inr (.inl ⟨_,_,rfl,rfl,p.now hr (by simp only[RV])⟩)
 ·split at p
  ·rename_i ys hy
   obtain⟨q,p⟩:=p.chk
   obtain⟨a,vs,rfl,hq,rs⟩:=jhl hr ry hy
   obtain⟨fx,fx'⟩:=jue rx q.1
   obtain⟨h1,h2⟩:=joq fx rs q.2
   refine .inl ⟨a,vs,rfl,hq,fx',h1,?_⟩
   unfold inV
   rw[h2]
   exact p.now hr (by simp only[RV])
  ·split at p
   ·rename_i kvs k e1 e2
    obtain⟨a,rfl,hd⟩:=jtd hr ry e1 k
    have ek:=key_v rx e2
    subst ek
    rcases hd with⟨h1,h2⟩ | ⟨d',v',h1,h2,h3⟩
    ·refine .inr (.inr ⟨a,none,rfl,h2,?_⟩)
     rw[h1] at p
     exact p.now hr (by simp only[RV];rfl)
    ·refine .inr (.inr ⟨a,some v',rfl,h2,?_⟩)
     rw[h1] at p
     exact p.now hr (by simp only[RV];rfl)
   ·exact p.elim
theorem at_v{G:Hp}{ds:List Z.D}{vs:List V}{i:Int}{d:Z.D}(r:RVs C bs G vs ds)(e:Z.atI ds i=some d):∃v,atI vs i=some v /\ RV C bs G v d:=by
 unfold Z.atI at e
 unfold atI
 rw[r.len]
 have:ixN ds.length i=Z.ixN ds.length i:=rfl
 rw[this]
 cases e2:Z.ixN ds.length i with
 | none=>rw[e2] at e;cases e
 | some j=>
  rw[e2] at e
  exact r.get e
theorem s2_ix:S2 C (uIx C.P C.w C.K) Z.dIx:=by
 intro ex bs h H E x y dx dy Q hr rx ry p
 unfold Z.dIx at p
 split at p
 ·obtain⟨q,p⟩:=p.chk
  obtain⟨c,e1,p⟩:=p.oR
  simp only[RV] at rx ry;subst rx ry
  exact .inl (.inr (.inr ⟨_,_,c,rfl,rfl,q,e1,p.now hr (by simp only[RV])⟩))
 ·split at p
  ·rename_i xs hx
   split at p
   ·obtain⟨d,e1,p⟩:=p.oR1
    obtain⟨a,vs,rfl,hq,rs⟩:=jhl hr rx hx
    obtain⟨v,hv,rv⟩:=at_v rs e1
    simp only[RV] at ry;subst ry
    rcases hq with hq | hq
    ·exact .inl (.inl ⟨a,vs,_,v,rfl,rfl,hq,hv,p.now hr rv⟩)
    ·exact .inl (.inr (.inl ⟨a,vs,_,v,rfl,rfl,hq,hv,p.now hr rv⟩))
   ·exact p.elim
  ·split at p
   ·rename_i kvs k e1 e2
    obtain⟨d,ev,p⟩:=p.oR1
    obtain⟨a,rfl,hd⟩:=jtd hr rx e1 k
    have ek:=key_v ry e2
    subst ek
    rcases hd with⟨h1,h2⟩ | ⟨d',v',h1,h2,h3⟩
    ·rw[h1] at ev;cases ev
    ·rw[h1] at ev;cases ev
     exact .inr ⟨a,v',rfl,h2,p.now hr h3⟩
   ·exact p.elim
theorem s_ix{ta tb:TE}{ma mb:Z.ME}(ha:SE C E ta ma)(hb:SE C E tb mb):SE C E (tOp (uIx C.P C.w C.K) ta tb) (Z.mBin Z.dIx ma mb):=s_op s2_ix ha hb
theorem jfv:SO C E jo8 Z.oNo:=λex bs h ρ σ H Q hr re p=>Post.now hr p rfl
theorem jf7{t:TE}{m:Z.ME}(ht:SE C E t m):SO C E (tPart t) (Z.oSo m):=by
 intro ex bs h ρ σ H Q hr re p
 refine ht ex bs h ρ σ H _ hr re (p.bind λd x h1 bs1 H1 e1 rx p1=> ?_)
 cases d with
 | int i=>simp only[RV] at rx;exact⟨i,rx,Post.now e1.hr p1 rfl⟩
 | _=>exact p1.elim
theorem RVs.cut{G:Hp}{ds:List Z.D}{vs:List V}(r:RVs C bs G vs ds)(l u:Option Int):RVs C bs G (cutV vs l u) (Z.cut ds l u):=by
 unfold cutV Z.cut
 rw[r.len]
 exact(r.drop _).take _
theorem jtw{d:Z.D}{v:V}{xs:List Z.D}(hr:HR C ex bs h H)(r:RV C bs (gh ex bs h H) v d)(nt:∀ds,d= .tup ds->False)(e:Z.asQ h d=some xs):∃a vs,v= .ref a /\ SqL C.K H a vs /\ RVs C bs (gh ex bs h H) vs xs:=by
 cases d with
 | lst ds=>
  simp only[RV] at r
  obtain⟨a,vs,rfl,ga,rs⟩:=r
  cases e
  exact⟨a,vs,rfl,SqL.of (jbe _ _ ga),rs⟩
 | tup ds=>exact(nt ds rfl).elim
 | arg ns=>
  simp only[RV] at r
  obtain⟨a,rfl,ga⟩:=r
  cases e
  refine⟨a,_,rfl,jbe.sql ga,?_⟩
  clear ga hr nt
  induction ns with
  | nil=>simp only[List.map_nil,RVs]
  | cons n ns ih=>simp only[List.map_cons,RVs,RV];exact⟨trivial,ih⟩
 | ref k=>
  simp only[RV] at r
  obtain⟨a,rfl,hk⟩:=r
  simp only[Z.asQ] at e
  split at e
  ·rename_i ys hc
   cases e
   obtain⟨vs,ha,rs⟩:=hr.cell k a _ hk hc
   exact⟨a,vs,rfl,SqL.of ha,rs⟩
  ·cases e
 | _=>cases e
theorem s_sl{t:TE}{tl th:TO}{m:Z.ME}{ml mh:Z.MO}(ht:SE C E t m)(hl:SO C E tl ml)(hh:SO C E th mh):SE C E (tSl (uSlS C.K) t tl th) (Z.mSl m ml mh):=by
 intro ex bs h ρ σ H Q hr re p
 refine ht ex bs h ρ σ H _ hr re (p.bind λd x h1 bs1 H1 e1 rx p1=> ?_)
 refine hl ex bs1 h1 ρ σ H1 _ e1.hr (re.ev e1) (p1.bind λl l' h2 bs2 H2 e2 rl p2=> ?_)
 refine hh ex bs2 h2 ρ σ H2 _ e2.hr ((re.ev e1).ev e2) (p2.bind λu u' h3 bs3 H3 e3 ru p3=> ?_)
 cases rl;cases ru
 have rx3:=(rx.ev e2).ev e3
 split at p3
 ·rename_i ds
  obtain⟨q,p3⟩:=p3.chk
  simp only[RV] at rx3
  obtain⟨a,vs,rfl,ga,rs⟩:=rx3
  refine .inl (.inr ⟨a,vs,rfl,SqT.of (jbe _ _ ga),by rw[rs.len];exact q,λp hp=>Post.ttup e3.hr p3 hp (rs.cut l u)⟩)
 ·rename_i z
  obtain⟨q,p3⟩:=p3.chk
  simp only[RV] at rx3
  exact .inr ⟨z,rx3,q,p3.now e3.hr (by simp only[RV])⟩
 ·rename_i hnt hns
  obtain⟨xs,e4,p3⟩:=p3.oR
  obtain⟨a,vs,ea,hq,rs⟩:=jtw e3.hr rx3 hnt e4
  subst ea
  exact .inl (.inl ⟨a,vs,rfl,hq,λp hp=>Post.tree e3.hr p3 hp (rs.cut l u)⟩)
theorem joh{G:Hp}:∀{ds:List Z.D} {vs:List V} {ns:List Int},RVs C bs G vs ds->Z.jnj ds=some ns->vs=ns.map V.int
  | [],[],ns,_,e=>by cases e;rfl
  | d::ds,v::vs,ns,h,e=>by
    simp only[RVs] at h
    cases d<;>simp only[Z.jnj,Option.map_eq_some_iff] at e<;>first
      | (obtain⟨ms,h1,rfl⟩:=e
         simp only[RV] at h
         rw[List.map_cons,<-joh h.2 h1,h.1])
      | cases e
  | [],_::_,_,h,_=>by simp only[RVs] at h
  | _::_,[],_,h,_=>by simp only[RVs] at h
theorem ju8{G:Hp}:∀{ds:List Z.D} {vs:List V} {ns:List Str},RVs C bs G vs ds->Z.jko ds=some ns->vs=ns.map V.str
  | [],[],ns,_,e=>by cases e;rfl
  | d::ds,v::vs,ns,h,e=>by
    simp only[RVs] at h
    cases d<;>simp only[Z.jko,Option.map_eq_some_iff] at e<;>first
      | (obtain⟨ms,h1,rfl⟩:=e
         simp only[RV] at h
         rw[List.map_cons,<-ju8 h.2 h1,h.1])
      | cases e
  | [],_::_,_,h,_=>by simp only[RVs] at h
  | _::_,[],_,h,_=>by simp only[RVs] at h
theorem jk8{G:Hp}:∀{ds:List Z.D} {vs:List V} {ns:List Bool},RVs C bs G vs ds->Z.jhe ds=some ns->vs=ns.map V.bl
  | [],[],ns,_,e=>by cases e;rfl
  | d::ds,v::vs,ns,h,e=>by
    simp only[RVs] at h
    cases d<;>simp only[Z.jhe,Option.map_eq_some_iff] at e<;>first
      | (obtain⟨ms,h1,rfl⟩:=e
         simp only[RV] at h
         rw[List.map_cons,<-jk8 h.2 h1,h.1])
      | cases e
  | [],_::_,_,h,_=>by simp only[RVs] at h
  | _::_,[],_,h,_=>by simp only[RVs] at h
theorem jpi{G:Hp}:∀(ns:List Int),RVs C bs G (ns.map V.int) (ns.map Z.D.int)
 | []=>by simp only[List.map_nil,RVs]
 | n::ns=>by simp only[List.map_cons,RVs,RV];exact⟨trivial,jpi ns⟩
theorem jqa{G:Hp}:∀(ns:List Str),RVs C bs G (ns.map V.str) (ns.map Z.D.str)
 | []=>by simp only[List.map_nil,RVs]
 | n::ns=>by simp only[List.map_cons,RVs,RV];exact⟨trivial,jqa ns⟩
theorem jve{d:Z.D}{v:V}{ns:List Int}(hr:HR C ex bs h H)(r:RV C bs (gh ex bs h H) v d)(e:Z.asLi h d=some ns):∃a,v= .ref a /\ SqL C.K H a (ns.map V.int):=by
 have gen:(Z.asL h d).bind Z.jnj=some ns->∃a,v= .ref a /\ SqL C.K H a (ns.map V.int):=λe=>by
  cases e2:Z.asL h d with
  | none=>rw[e2] at e;cases e
  | some ds=>
   rw[e2] at e
   obtain⟨a,vs,rfl,ha,rs⟩:=jh5 hr r e2
   exact⟨a,rfl,by rw[<-joh rs e];exact SqL.of ha⟩
 cases d with
 | arg ms=>
  cases e
  simp only[RV] at r
  obtain⟨a,rfl,ga⟩:=r
  exact⟨a,rfl,jbe.sql ga⟩
 | _=>exact gen e
theorem Ev.ext{H':Hp}(hr:HR C ex bs h H)(sm:Same H H'):Ev C ex bs h H bs h H':=by
 have eq:∀{a},H a≠none->H' a=H a:=fun{a} q=>by
  cases e:H a with
  | none=>exact absurd e q
  | some o=>exact sm a o e
 have sg:Same (gh ex bs h H) (gh ex bs h H'):=λa o e=>by
  obtain⟨h1,h2,h3⟩:=jb4.mp e
  exact jb4.mpr ⟨h1,h2,sm a o h3⟩
 exact⟨λ_ _ e=>e,⟨hr.len,hr.inj,hr.sep,λa m=>by rw[eq (hr.dom a m)];exact hr.dom a m,λa m=>by rw[eq (hr.domx a m)];exact hr.domx a m,
  λk a c e1 e2=>(hr.cell k a c e1 e2).mono (λ_ _ e=>e) sg (eq (hr.dom a (List.mem_of_getElem? e1)))⟩,sg,λa m=>eq (hr.domx a m)⟩
theorem jrq{p:Addr}{H':Hp}(hp:H p=none)(sm:Same H H'):Same H (hid p H'):=λa o e=>by
 rw[jfh (λz=>by rw[z,hp] at e;cases e)];exact sm a o e
theorem jvc{p:Addr}{H':Hp}{o:HO}(e:H' p=some o):upd (hid p H') p o=H':=by
 funext x
 by_cases q:x=p
 ·rw[q,jax,e]
 ·rw[jad q,jfh q]
theorem jd3.ext{ds:List Z.D}{Q:VK}{p:Addr}{vs:List V}{H':Hp}(hr:HR C ex bs h H)(q:jd3 C ex E bs h H (.ok ds h) Q)(hp:H p=none)(e:H' p=some (.lst vs))(sm:Same H H')(r:RVs C bs (gh ex bs h H) vs ds):Q (.ref p) H':=by
 have ev:=Ev.ext hr (jrq hp sm)
 have:=q p vs bs (hid p H') ev (if_pos rfl) (r.ev ev)
 rw[jvc e] at this;exact this
theorem Post.ext{ds:List Z.D}{Q:VK}{p:Addr}{vs:List V}{H':Hp}(hr:HR C ex bs h H)(q:Post C ex E bs h H (RV C) (.ok (.lst ds) h) Q)(hp:H p=none)(e:H' p=some (.lst vs))(sm:Same H H')(r:RVs C bs (gh ex bs h H) vs ds):Q (.ref p) H':=by
 have ev:=Ev.ext hr sm
 have np:p∉ex:=λm=>hr.domx p m hp
 have nb:p∉bs:=λm=>hr.dom p m hp
 exact q (.ref p) bs H' ev (by simp only[RV];exact⟨p,vs,rfl,jb4.mpr ⟨np,λ⟨k,c,e1,_⟩=>nb (List.mem_of_getElem? e1),e⟩,r.ev ev⟩)
def tSlX(K:W.Frag)(te:TE)(tl th ts:TO):TE:=λσ H Q=>te σ H λx H1=>tl σ H1 λl H2=>th σ H2 λu H3=>ts σ H3 λk H4=>∃(a:Addr) (ns:List Int) (st:Int),x= .ref a /\ k=some st /\ 0<st /\ SqL K H4 a (ns.map V.int) /\
 ∀p H',H4 p=none->H' p=some (.lst ((Z.jh4 ns l u st).map V.int))->Same H4 H'->Q (.ref p) H'
theorem jdz{its:List Value}{ns:List Int}(r:Vals (ns.map V.int) its):∀(l:List Nat),Vals ((l.filterMap (ns[·]?)).map V.int) (l.filterMap (its.toArray[·]?))
 | []=> .nil
 | i::l=>by
  have ih:=jdz r l
  have hl:=r.length
  rw[List.length_map] at hl
  rw[List.filterMap_cons,List.filterMap_cons]
  by_cases hi:i<ns.length
  ·have e1:ns[i]?=some ns[i]:=List.getElem?_eq_getElem hi
   have e2:its.toArray[i]?=some its[i]:=by simp[show i<its.length by omega]
   obtain⟨t,e3,_⟩:=jg9 r (i:=i) (v:=its[i]) (by simp[show i<its.length by omega])
   rw[e1,e2,e3]
   have e4:ns.getD i 0=ns[i]:=by simp[List.getD,e1]
   rw[e4,List.map_cons]
   exact .cons ⟨t,rfl⟩ ih
  ·have e1:ns[i]?=none:=List.getElem?_eq_none (by omega)
   have e2:its.toArray[i]?=none:=by simp;omega
   rw[e1,e2]
   exact ih
theorem jp7{X:Cx}{e:Expr}{lo hi:Option Expr}{st:Expr}{te:TE}{tl th ts:TO}{pos p2:Pos}(he:PE X e te)(hl:PO X lo tl)(hu:PO X hi th)(hs:PO X (some st) ts):
  PE X (.Subscript e (.Slice lo hi (some st) p2) pos) (tSlX X.K te tl th ts):=by
 intro pins s σ H Q I h
 refine Subscript_ (thn (he pins s σ H _ I h) λv s1 ⟨x,H1,I1,r1,q1⟩=> ?_)
 refine wpAny_Slice (thn (hl pins s1 σ H1 _ I1 q1) λvl s2 ⟨l,H2,I2,pl,q2⟩=>thn (hu pins s2 σ H2 _ I2 q2) λvu s3 ⟨u,H3,I3,pu,q3⟩=>thn (hs pins s3 σ H3 _ I3 q3) λvk s4 ⟨k,H4,I4,pk,q4⟩=> ?_)
 obtain⟨a,ns,st',ex,ek,hk,hq,q4⟩:=q4
 subst ex ek
 cases r1
 have I5:Inv X pins σ H4 {s4 with heap:=s4.heap.push {cls:= .type "slice",data:= .fields #[vl,vu,vk]}}:=I4.kept (t':=s4.toks) λb ob q=>Heap.get?_push_of_some _ q
 show wpAny (model X.prog X.w) X.A (subscriptTail e (.Slice lo hi (some st) p2) (.ref a) (.ref s4.heap.objs.size)) (EP X pins σ Q) X.xe {s4 with heap:=s4.heap.push {cls:= .type "slice",data:= .fields #[vl,vu,vk]}}
 obtain⟨its,r,pl',hz⟩:=I5.list hq
 have hlen:=r.length
 rw[List.length_map] at hlen hz
 refine tail_any (ops:=[.ref a,.ref s4.heap.objs.size]) pl'.isList.typeIs slot_list_getitem.lookup ?_ (by with_unfolding_all rfl)
 refine wpAny_getItem_list_slice (lo:=l) (hi:=u) (st:=some st') pl'.isList (Heap.IsSliceOf.new ..) pl pu pk (by simp;omega) ?_ (by rw[List.size_toArray]<;>omega)
 have hsz:=slicePick_size_le its.toArray l u (some st')
 have e:slicePick its.toArray l u (some st')=((sliceRange (sliceBounds l u (some st') its.toArray.size).1 (sliceBounds l u (some st') its.toArray.size).2.1 (sliceBounds l u (some st') its.toArray.size).2.2).filterMap (its.toArray[·]?)).toArray:=rfl
 have rm:=jdz r (sliceRange (sliceBounds l u (some st') its.toArray.size).1 (sliceBounds l u (some st') its.toArray.size).2.1 (sliceBounds l u (some st') its.toArray.size).2.2)
 have en:its.toArray.size=ns.length:=by rw[List.size_toArray];exact hlen.symm
 rw[e]
 rw[e,List.size_toArray] at hsz
 have hr:=rm.length
 have ec:(sliceRange (sliceBounds l u (some st') its.toArray.size).1 (sliceBounds l u (some st') its.toArray.size).2.1 (sliceBounds l u (some st') its.toArray.size).2.2).filterMap (ns[·]?)=Z.jh4 ns l u st':=by rw[en];rfl
 rw[ec] at rm hr
 refine⟨.ref _,_,I5.lnew (t':=s4.toks) rm (by rw[hr];exact Nat.le_trans hsz (by rw[List.size_toArray];omega)),rfl,q4 _ _ I5.fresh jax λb o e=>by rw[jad (jbf e I5.fresh)];exact e⟩
theorem s_slX{t:TE}{tl th ts:TO}{m:Z.ME}{ml mh ms:Z.MO}(ht:SE C E t m)(hl:SO C E tl ml)(hh:SO C E th mh)(hs:SO C E ts ms):SE C E (tSlX C.K t tl th ts) (Z.mSlS m ml mh ms):=by
 intro ex bs h ρ σ H Q hr re p
 refine ht ex bs h ρ σ H _ hr re (p.bind λd x h1 bs1 H1 e1 rx p1=> ?_)
 refine hl ex bs1 h1 ρ σ H1 _ e1.hr (re.ev e1) (p1.bind λl l' h2 bs2 H2 e2 rl p2=> ?_)
 refine hh ex bs2 h2 ρ σ H2 _ e2.hr ((re.ev e1).ev e2) (p2.bind λu u' h3 bs3 H3 e3 ru p3=> ?_)
 refine hs ex bs3 h3 ρ σ H3 _ e3.hr (((re.ev e1).ev e2).ev e3) (p3.bind λk k' h4 bs4 H4 e4 rk p4=> ?_)
 cases rl;cases ru;cases rk
 have rx4:=((rx.ev e2).ev e3).ev e4
 cases k with
 | none=>exact p4.elim
 | some k=>
  obtain⟨q,p4⟩:=Post.chk p4
  obtain⟨ns,e5,p4⟩:=p4.oR
  obtain⟨a,rfl,hq⟩:=jve e4.hr rx4 e5
  exact⟨a,ns,k,rfl,rfl,q,hq,λp H' hp hp' sm=>Post.ext e4.hr p4 hp hp' sm (jpi _)⟩
end
section
variable {C : Ct} {ex bs bs1 bs2 : List Addr} {h h1 h2 : Z.MH} {H H1 H2 : Hp} {E : XK}
theorem jeu{G:Hp}{d:Z.D}{vs:List V}(r:RVs C bs G vs [d]):∃v,vs=[v] /\ RV C bs G v d:=by
 match vs,r with
 | [v],r=>simp only[RVs] at r;exact⟨v,rfl,r.1⟩
 | [],r=>simp only[RVs] at r
 | _::_::_,r=>simp only[RVs] at r;exact r.2.elim
theorem two_v{G:Hp}{d e:Z.D}{vs:List V}(r:RVs C bs G vs [d,e]):∃v u,vs=[v,u] /\ RV C bs G v d /\ RV C bs G u e:=by
 match vs,r with
 | [v,u],r=>simp only[RVs] at r;exact⟨v,u,rfl,r.1,r.2.1⟩
 | [],r=>simp only[RVs] at r
 | [_],r=>simp only[RVs] at r;exact r.2.elim
 | _::_::_::_,r=>simp only[RVs] at r;exact r.2.2.elim
def jwq(P:Program)(w:World)(K:W.Frag):List V->Hp->VK->Prop:=λxs H Q=>rLenU P w K xs H Q \/ ∃a kvs,xs=[V.ref a] /\ H a=some (.dK kvs) /\ Q (.int kvs.length) H
theorem jqp{X:Cx}:jc7 X (.builtin "len") (jwq X.prog X.w X.K):=jc7.or jpj jot
theorem jdr:SL C (jwq C.P C.w C.K) Z.fLen:=by
 intro ex bs h H E xs ds Q hr rs p
 unfold Z.fLen at p
 split at p
 ·obtain⟨q,p⟩:=p.chk
  obtain⟨v,rfl,r⟩:=jeu rs
  simp only[RV] at r;subst r
  exact .inl (.inr ⟨_,rfl,q,p.now hr (by simp only[RV])⟩)
 ·obtain⟨v,rfl,r⟩:=jeu rs
  split at p
  ·rename_i ys hy
   obtain⟨a,vs,rfl,hq,qs⟩:=jhl hr r hy
   exact .inl (.inl ⟨a,vs,rfl,hq,p.now hr (by simp only[RV];rw[qs.len])⟩)
  ·split at p
   ·obtain⟨kvs,e,p⟩:=p.oR
    simp only[Z.asD] at e
    split at e
    ·rename_i kvs' hc
     cases e
     simp only[RV] at r
     obtain⟨a,rfl,hk⟩:=r
     obtain⟨kws,ha,rk⟩:=hr.cell _ a _ hk hc
     exact .inr ⟨a,kws,rfl,ha,p.now hr (by simp only[RV];rw[rk.len])⟩
    ·cases e
   ·exact p.elim
 ·exact p.elim
theorem jlb:∀(ns:List Int),0<ns.length->Z.maxI ns∈ns
 | [a],_=>by simp[Z.maxI]
 | a::b::r,_=>by
  have ih:=jlb (b::r) (by simp)
  unfold Z.maxI
  split
  ·exact List.mem_cons_of_mem _ ih
  ·exact List.mem_cons_self ..
theorem jq9:∀(ns:List Int),∀a∈ns,a<=Z.maxI ns
 | [a],x,hx=>by simp at hx;subst hx;simp[Z.maxI]
 | a::b::r,x,hx=>by
  have ih:=jq9 (b::r)
  unfold Z.maxI
  rcases List.mem_cons.mp hx with rfl | hx
  ·split<;>omega
  ·have:=ih x hx
   split<;>omega
theorem sl_max:SL C (rMax C.K) Z.fMax:=by
 intro ex bs h H E xs ds Q hr rs p
 unfold Z.fMax at p
 split at p
 ·obtain⟨v,u,rfl,r1,r2⟩:=two_v rs
  simp only[RV] at r1 r2;subst r1 r2
  exact .inl ⟨_,_,rfl,p.now hr (by simp only[RV])⟩
 ·obtain⟨v,rfl,r⟩:=jeu rs
  obtain⟨ns,e,p⟩:=p.oR
  obtain⟨q,p⟩:=p.chk
  simp only[RV] at r
  obtain⟨a,vs,rfl,ga,qs⟩:=r
  have:=joh qs e
  subst this
  refine .inr ⟨a,ns,rfl,SqT.of (jbe _ _ ga),q,λM hm hle=> ?_⟩
  have e1:M=Z.maxI ns:=by
   have h1:=jq9 ns M hm
   have h2:=hle _ (jlb ns q)
   omega
  rw[e1]
  exact p.now hr (by simp only[RV])
 ·exact p.elim
theorem jua:SL C (rAll C.K) Z.fAll:=by
 intro ex bs h H E xs ds Q hr rs p
 unfold Z.fAll at p
 split at p
 ·obtain⟨v,rfl,r⟩:=jeu rs
  obtain⟨bb,e,p⟩:=p.oR
  rw[Option.bind_eq_some_iff] at e
  obtain⟨ys,e1,e2⟩:=e
  obtain⟨a,vs,rfl,ha,qs⟩:=jh5 hr r e1
  have:=jk8 qs e2
  subst this
  exact⟨a,bb,rfl,SqL.of ha,p.now hr (by simp only[RV])⟩
 ·exact p.elim
theorem jtu:SL C rInt Z.fInt:=by
 intro ex bs h H E xs ds Q hr rs p
 unfold Z.fInt at p
 split at p
 ·obtain⟨v,rfl,r⟩:=jeu rs
  simp only[RV] at r;subst r
  exact .inl (.inl ⟨_,rfl,p.now hr (by simp only[RV])⟩)
 ·obtain⟨v,rfl,r⟩:=jeu rs
  simp only[RV] at r;subst r
  exact .inl (.inr ⟨_,rfl,p.now hr (by simp only[RV])⟩)
 ·obtain⟨q,p⟩:=p.chk
  obtain⟨n,e,p⟩:=p.oR
  obtain⟨v,rfl,r⟩:=jeu rs
  simp only[RV] at r;subst r
  exact .inr ⟨_,n,rfl,q,e,p.now hr (by simp only[RV])⟩
 ·exact p.elim
theorem jf3:SL C rStr Z.fStr:=by
 intro ex bs h H E xs ds Q hr rs p
 unfold Z.fStr at p
 split at p
 ·obtain⟨q,p⟩:=p.chk
  obtain⟨v,rfl,r⟩:=jeu rs
  simp only[RV] at r;subst r
  exact⟨_,rfl,q,p.now hr (by simp only[RV];rfl)⟩
 ·exact p.elim
theorem n_list{tl:TA}{ml:Z.ML}(hl:SA C E tl ml):SN C E (tCB (λxs H Q=>∃p ys,xs=[.ref p] /\ (SqL C.K H p ys \/ SqT C.K H p ys) /\ ∀l,H l=none->Q (.ref l) (upd H l (.lst ys))) tl) (Z.lList ml):=by
 intro ex bs h ρ σ H Q hr re p
 refine hl ex bs h ρ σ H _ hr re (jd3.bind p λds xs h1 bs1 H1 e1 rx p1=> ?_)
 split at p1
 ·obtain⟨v,rfl,r⟩:=jeu rx
  rename_i d
  cases e:Z.asQ h1 d with
  | none=>rw[e] at p1;exact p1.elim
  | some ys=>
   rw[e] at p1
   obtain⟨a,vs,rfl,hq,qs⟩:=jhl e1.hr r e
   exact⟨a,vs,rfl,hq,λl hl=>jd3.now e1.hr p1 hl qs⟩
 ·exact p1.elim
theorem jqz:SL C (λxs H Q=>∃p ys,xs=[.ref p] /\ ((SqL C.K H p ys /\ ∀l,H l=none->Q (.ref l) (upd H l (.tup ys))) \/ (SqT C.K H p ys /\ Q (.ref p) H))) Z.jpb:=by
 intro ex bs h H E xs ds Q hr rs p
 unfold Z.jpb at p
 split at p
 ·obtain⟨v,rfl,r⟩:=jeu rs
  have r':=r
  simp only[RV] at r
  obtain⟨a,vs,rfl,ga,qs⟩:=r
  exact⟨a,vs,rfl,.inr ⟨SqT.of (jbe _ _ ga),p.now hr r'⟩⟩
 ·rename_i d hnt
  obtain⟨v,rfl,r⟩:=jeu rs
  obtain⟨ys,e,p⟩:=p.oR
  obtain⟨a,vs,rfl,hq,qs⟩:=jtw hr r (λds z=>hnt ds (by rw[z])) e
  exact⟨a,vs,rfl,.inl ⟨hq,λl hl=>Post.ttup hr p hl qs⟩⟩
 ·exact p.elim
theorem jvg{K:W.Frag}{t n:String}(ht:t="NoneType" \/ t="bool" \/ t="int" \/ t="str" \/ t="tuple" \/ t="list" \/ t="dict")(hn:n="int" \/ n="bool" \/ n="str" \/ n="tuple" \/ n="list"):
  W.kitOne K (.type t) (.type n)=some (Z.isB t n):=by
 rcases ht with rfl | rfl | rfl | rfl | rfl | rfl | rfl<;>rcases hn with rfl | rfl | rfl | rfl | rfl<;>first | rfl | kernel_rfl
theorem ty_at{d:Z.D}{v:V}{t:String}(hr:HR C ex bs h H)(r:RV C bs (gh ex bs h H) v d)(e:Z.tyOf h d=some t):TyOf C.K H v (.type t) /\ (t="NoneType" \/ t="bool" \/ t="int" \/ t="str" \/ t="tuple" \/ t="list" \/ t="dict"):=by
 cases d with
 | non=>simp only[RV] at r;subst r;cases e;exact⟨.non,by simp⟩
 | bl b=>simp only[RV] at r;subst r;cases e;exact⟨.bl _,by simp⟩
 | int b=>simp only[RV] at r;subst r;cases e;exact⟨.int _,by simp⟩
 | str b=>simp only[RV] at r;subst r;cases e;exact⟨.str _,by simp⟩
 | tup ds=>
  simp only[RV] at r
  obtain⟨a,vs,rfl,ga,_⟩:=r
  cases e;exact⟨.tup (jbe _ _ ga),by simp⟩
 | lst ds=>
  simp only[RV] at r
  obtain⟨a,vs,rfl,ga,_⟩:=r
  cases e;exact⟨.lst (jbe _ _ ga),by simp⟩
 | ref k=>
  simp only[RV] at r
  obtain⟨a,rfl,hk⟩:=r
  simp only[Z.tyOf] at e
  split at e
  ·rename_i xs hc
   cases e
   obtain⟨vs,ha,_⟩:=hr.cell k a _ hk hc
   exact⟨.lst ha,by simp⟩
  ·rename_i xs hc
   cases e
   obtain⟨vs,ha,_⟩:=hr.cell k a _ hk hc
   exact⟨.dK ha,by simp⟩
  ·cases e
 | _=>cases e
theorem jt5{n:String}(h:Z.jl4 n=true):n="int" \/ n="bool" \/ n="str" \/ n="tuple" \/ n="list":=by
 unfold Z.jl4 at h
 simpa [or_assoc] using h
theorem sl_isi:SL C (rIsi C.K) Z.fIsi:=by
 intro ex bs h H E xs ds Q hr rs p
 unfold Z.fIsi at p
 split at p
 ·obtain⟨q,p⟩:=p.chk
  obtain⟨t,e,p⟩:=p.oR
  obtain⟨v,u,rfl,r1,r2⟩:=two_v rs
  simp only[RV] at r2;subst r2
  obtain⟨ty,ht⟩:=ty_at hr r1 e
  exact⟨v,_,_,_,rfl,.inl ⟨_,rfl⟩,ty,jvg ht (jt5 q),p.now hr (by simp only[RV])⟩
 ·exact p.elim
def SM(C:Ct)(r:V->List V->Hp->VK->Prop)(f:Str->List Z.D->Z.MH->Z.Res Z.D):Prop:=∀(ex bs:List Addr) (h:Z.MH) (H:Hp) (E:XK) (z:Str) (xs:List V) (ds:List Z.D) (Q:VK),HR C ex bs h H->RVs C bs (gh ex bs h H) xs ds->Post C ex E bs h H (RV C) (f z ds h) Q->r (.str z) xs H Q
theorem s_sm{r:V->List V->Hp->VK->Prop}{f:Str->List Z.D->Z.MH->Z.Res Z.D}{to:TE}{tl:TA}{mo:Z.ME}{ml:Z.ML}(o:SM C r f)(ho:SE C E to mo)(hl:SA C E tl ml):SE C E (tBM C.K "str" r to tl) (Z.mSm f mo ml):=by
 intro ex bs h ρ σ H Q hr re p
 refine ho ex bs h ρ σ H _ hr re (p.bind λd x h1 bs1 H1 e1 rx p1=> ?_)
 cases d with
 | str z=>
  simp only[RV] at rx;subst rx
  refine⟨rfl,hl ex bs1 h1 ρ σ H1 _ e1.hr (re.ev e1) (p1.bind λds xs h2 bs2 H2 e2 rs p2=> ?_)⟩
  exact o ex bs2 h2 H2 E z xs ds Q e2.hr rs p2
 | _=>exact p1.elim
theorem jh0:SM C (jva C.K) Z.jh2:=by
 intro ex bs h H E z xs ds Q hr rs p
 unfold Z.jh2 at p
 split at p
 ·obtain⟨ys,e,p⟩:=p.oR
  obtain⟨q,p⟩:=p.chk
  obtain⟨v,rfl,r⟩:=jeu rs
  rw[Option.bind_eq_some_iff] at e
  obtain⟨ds',e1,e2⟩:=e
  obtain⟨a,vs,rfl,ha,qs⟩:=jh5 hr r e1
  have:=ju8 qs e2
  subst this
  exact⟨z,a,ys,rfl,rfl,SqL.of ha,q,p.now hr (by simp only[RV])⟩
 ·exact p.elim
theorem jka{to:TE}{tl:TA}{mo:Z.ME}{ml:Z.ML}(ho:SE C E to mo)(hl:SA C E tl ml):SN C E (tBM C.K "str" jtt to tl) (Z.jfj mo ml):=by
 intro ex bs h ρ σ H Q hr re p
 refine ho ex bs h ρ σ H _ hr re (jd3.bind p λd x h1 bs1 H1 e1 rx p1=> ?_)
 cases d with
 | str z=>
  simp only[RV] at rx;subst rx
  refine⟨rfl,hl ex bs1 h1 ρ σ H1 _ e1.hr (re.ev e1) (jd3.bind p1 λds xs h2 bs2 H2 e2 rs p2=> ?_)⟩
  split at p2
  ·rename_i y
   obtain⟨q,p2⟩:=p2.chk
   obtain⟨v,rfl,r⟩:=jeu rs
   simp only[RV] at r;subst r
   exact⟨z,y,rfl,rfl,q.1,q.2.1,q.2.2,λa H' ha ha' sm=>jd3.ext e2.hr p2 ha ha' sm (jqa _)⟩
  ·exact p2.elim
 | _=>exact p1.elim
def SJ(C:Ct)(E:XK)(t:TJ)(m:Z.MJ):Prop:=∀out:Str,Snd C E REq (t out) (m out)
theorem jtn:SJ C E tJnil Z.jNil:=λout ex bs h ρ σ H Q hr re p=>Post.now hr p rfl
theorem jhu{t:TE}{j:TJ}{m:Z.ME}{mj:Z.MJ}(ht:SE C E t m)(hj:SJ C E j mj):SJ C E (jtp t j) (Z.jo0 m mj):=by
 intro out ex bs h ρ σ H Q hr re p
 refine ht ex bs h ρ σ H _ hr re (p.bind λd x h1 bs1 H1 e1 rx p1=> ?_)
 cases d with
 | str y=>
  simp only[RV] at rx
  obtain⟨q,p1⟩:=Post.chk p1
  exact⟨y,rx,q,hj (out++y) ex bs1 h1 ρ σ H1 Q e1.hr (re.ev e1) p1⟩
 | _=>exact p1.elim
theorem s_js{j:TJ}{mj:Z.MJ}(hj:SJ C E j mj):SE C E (tJs j) (Z.mJs mj):=by
 intro ex bs h ρ σ H Q hr re p
 refine hj Str.empty ex bs h ρ σ H _ hr re (p.bind λz z' h1 bs1 H1 e1 rz p1=> ?_)
 cases rz
 obtain⟨q,p1⟩:=Post.chk p1
 exact⟨q,Post.now e1.hr p1 (by simp only[RV])⟩
theorem s_fmt{t:TE}{m:Z.ME}(ht:SE C E t m):SE C E (tFmt t) (Z.mFmt m):=by
 intro ex bs h ρ σ H Q hr re p
 refine ht ex bs h ρ σ H _ hr re (p.bind λd x h1 bs1 H1 e1 rx p1=> ?_)
 cases d with
 | int i=>
  simp only[RV] at rx
  obtain⟨q,p1⟩:=Post.chk p1
  exact .inl ⟨i,rx,q,Post.now e1.hr p1 (by simp only[RV];rfl)⟩
 | str z=>
  simp only[RV] at rx
  obtain⟨q,p1⟩:=Post.chk p1
  exact .inr ⟨z,rx,q,Post.now e1.hr p1 (by simp only[RV])⟩
 | _=>exact p1.elim
theorem jbj{a:Addr}{c:String}{t:TE}{m:Z.ME}(ea:C.cm c=a)(ht:SE C E t m):SS C E (ju6 a E t) (Z.jcd c m):=by
 intro ex bs h ρ σ H D hr re p
 refine ht ex bs h ρ σ H _ hr re (p.bind λd x h1 bs1 H1 e1 rx p1=> ?_)
 exact⟨x,rfl,by rw[<-ea];exact p1 bs1 H1 (Ev.refl e1.hr)⟩
theorem s_dnew:SE C E ju1 Z.mDnew:=by
 intro ex bs h ρ σ H Q hr re p
 intro a ha
 have e2:=Ev.cell (o:= .dK []) (c:= .dct []) hr ha ⟨[],jax,by simp only[RVk]⟩
 refine p (.ref a) (bs++[a]) _ e2 ?_
 simp only[RV]
 exact⟨a,rfl,by rw[<-hr.len];simp⟩
end
def spL(K:W.Frag):Sp:=λvs H Q _=>∃(a:Addr) (ns:List Int),vs=[.ref a] /\ SqL K H a (ns.map V.int) /\ ns.length<=63 /\ ∀H',Q (.bl true) H'
theorem spL_of(K:W.Frag)(H:Hp)(a:Addr)(ns:List Int)(hl:ns.length<=63)(hO:Only H)(hS:SqL K H a (ns.map V.int)):spL K [.ref a] H (λv _=>v= .bl true) λ_ _ _=>False:=⟨a,ns,rfl,hS,hl,λ_=>rfl⟩
theorem gh_nil{H:Hp}:gh [] [] [] H=H:=by
 funext x
 unfold gh
 rw[if_neg]
 rintro(z | ⟨k,c,z,_⟩)
 ·cases z
 ·simp at z
theorem law_ok{C:Ct}{P:Program}{w:World}{mg:Str->Option Value}{base:Heap}{CX:CXT}{k:Nat}{f:Addr}{fd:FuncData}{ps:List Str}{z:Z.MF}(F:FnOk P w C.K mg base CX k f fd ps (spZ C z))
  (hz:∀ns:List Int,ns.length<=63->∃h,z [.arg ns] []= .ok (.bl true) h):FnOk P w C.K mg base CX k f fd ps (spL C.K):=by
 refine F.imp λvs H Q E q=> ?_
 obtain⟨a,ns,rfl,hS,hl,q⟩:=q
 obtain⟨h,e⟩:=hz ns hl
 refine⟨[],[],[],[.arg ns],⟨rfl,λi j a e=>by simp at e,λa m=>(by cases m),λa m=>(by cases m),λa m=>(by cases m),λk a c e=>by simp at e⟩,?_,?_⟩
 ·rw[gh_nil];simp only[RVs,RV];exact⟨⟨a,rfl,hS⟩,trivial⟩
 ·rw[e]
  intro v bs' H' _ rv
  simp only[RV] at rv
  subst rv;exact q H'
theorem walk_ofE{l:W.OpenLaw}{n k:Nat}{q:Program}{loose:List Str}{XP:(Str->Option Value)->Heap->Prop}{YP:World->Heap->Prop}{d:DefRec}{K:Params->W.Frag}{CX:World->CXT}{sp:W.Frag->Sp}{x:Str}
  (hn:l.most=some n) (hn2:n<=sizeLine) (hdf:d.params.defaults=[]) (hr:Room k callerA)
  (hY:∀(w:World) (h:Heap),YP w h->(K w.params).In h)
  (F:∀(w:World) (mg:Str->Option Value) (fa:Addr) (h:Heap),(K w.params).In h->h.Ns mainGlobals mg->mg d.name=some (.ref fa)->
   ∃fd:FuncData,(∀(s:Shared) (u:Value),BindsTo s fd ⟨[u],[]⟩ [(x,u)]) /\
    ∀base:Heap,(K w.params).In base->base.Ns mainGlobals mg->FnOk l.prog w (K w.params) mg base (CX w) k fa fd [x] (sp (K w.params)))
  (hsp:∀(K:W.Frag) (H:Hp) (a:Addr) (ns:List Int),ns.length<=n->Only H->SqL K H a (ns.map V.int)->sp K [.ref a] H (λv _=>v= .bl true) λ_ _ _=>False)
  (hCX:∀(w:World) (H:Hp) (s:Shared) (e:Value) (s':Shared),CX w [] H s (λ_ _ _=>False) e s'->False):
  W.WalkO q loose XP YP l.row.toRowW d [] (λf vs=>PySem.call f vs):=
 jvz (K:=K) (CX:=CX) (sp:=λw=>sp (K w.params)) hn hn2 hdf hr hY F (λw H a ns h1 h2 h3=>hsp (K w.params) H a ns h1 h2 h3) hCX
def jkn:List DictEntry->List (Key×V)->Prop
 | [],[]=>True
 | e::es,(k,v)::r=>(∃x t,e.key= .str x t /\ k=Sum.inr x) /\ RelV v e.val /\ jkn es r
 | _,_=>False
theorem jhi{P:Program}{w:World}:∀{es:List DictEntry} {kvs:List (Key×V)},jkn es kvs->∃vs:List (Key×Value),KV kvs vs /\ Pairs (jbw P w) es vs /\ vs.map (·.1)=kvs.map (·.1)
 | [],[],_=>⟨[],.nil,.nil,rfl⟩
 | e::es,(k,v)::r,h=>by
  obtain⟨⟨x,t,h1,h2⟩,h3,h4⟩:=h
  obtain⟨vs,a,b,c⟩:=jhi (P:=P) (w:=w) h4
  refine⟨(k,e.val)::vs,.cons ⟨rfl,h3⟩ a,.cons ?_ rfl b,by simp[c]⟩
  rw[h1,h2]
  exact jej P w x t
 | [],_::_,h=>h.elim
 | _::_,[],h=>h.elim
theorem kdict_of{P:Program}{w:World}{K:W.Frag}{a:Addr}{es:Array DictEntry}{n:Nat}{kvs:List (Key×V)}(hl:K.lookup a=some ⟨.type "dict",none,.dict es n,#[]⟩)(ha:(a==sysModules)=false)
  (hk:W.KeysLit w.params es.toList) (hp:jkn es.toList kvs) (nd:(kvs.map (·.1)).Nodup):jsc P w K a kvs:=by
 intro h X
 obtain⟨vs,a1,b,c⟩:=jhi (P:=P) (w:=w) hp
 refine⟨ha,vs,a1,_,es,n,X _ _ hl,⟨rfl,rfl,rfl⟩,rfl,λe he=> ?_,b,by rw[c];exact nd⟩
 obtain⟨x,t,e1,e2⟩:=hk.all e (Array.mem_toList_iff.mpr he)
 exact⟨.inr x,by rw[e1];exact jej P w x t,e2⟩
theorem ji5{C:Ct}{E:XK}:ST C E tYes Z.tYes:=λex bs h ρ σ H Q hr re p=>Post.now hr p rfl
section
variable {X : Cx} {P : Program} {w : World} {K : W.Frag}
theorem jbc(k:X.K=K):OpR X (binaryOp .Add) (uAdd K):=by subst k;exact jv3
theorem ix_K(p:X.prog=P)(w':X.w=w)(k:X.K=K)(hu:X.A.units+64<cLine):IxR X (uIx P w K):=by subst p w' k;exact ix_U hu
theorem jno(p:X.prog=P)(w':X.w=w)(k:X.K=K)(hu:X.A.units+64<cLine):OpR X (compareOp .In) (uIn P w K false):=by subst p w' k;exact op_inU hu
theorem jq7(p:X.prog=P)(w':X.w=w)(k:X.K=K)(hu:X.A.units+64<cLine):OpR X (compareOp .NotIn) (uIn P w K true):=by subst p w' k;exact jq6 hu
theorem sl_K(k:X.K=K):SlR X (uSlS K):=by subst k;exact sl_S
theorem joo{e:Expr}{T:String}{r:V->List V->Hp->VK->Prop}{to:TE}(k:X.K=K)(h:PE X e (tBM0 X.K T r to)):PE X e (tBM0 K T r to):=by subst k;exact h
theorem jmu{e:Expr}{lo hi:Option Expr}{st:Expr}{te:TE}{tl th ts:TO}{pos p2:Pos}(k:X.K=K)(he:PE X e te)(hl:PO X lo tl)(hu:PO X hi th)(hs:PO X (some st) ts):
  PE X (.Subscript e (.Slice lo hi (some st) p2) pos) (tSlX K te tl th ts):=by subst k;exact jp7 he hl hu hs
theorem jbu(p:X.prog=P)(w':X.w=w)(k:X.K=K):jc7 X (.builtin "len") (jwq P w K):=by subst p w' k;exact jqp
theorem jp6(k:X.K=K)(hc:X.calm=true):jc7 X (.builtin "max") (rMax K):=by subst k;exact joa hc
theorem jjp(k:X.K=K)(hc:X.calm=true):jc7 X (.builtin "all") (rAll K):=by subst k;exact jsb hc
theorem jnu(k:X.K=K):jc7 X (.builtin "isinstance") (rIsi K):=by subst k;exact jrw
theorem jmy(k:X.K=K):jc7 X (.type "list") (λxs H Q=>∃p ys,xs=[.ref p] /\ (SqL K H p ys \/ SqT K H p ys) /\ ∀l,H l=none->Q (.ref l) (upd H l (.lst ys))):=by subst k;exact jiv
theorem jk9(k:X.K=K):jc7 X (.type "tuple") (λxs H Q=>∃p ys,xs=[.ref p] /\ ((SqL K H p ys /\ ∀l,H l=none->Q (.ref l) (upd H l (.tup ys))) \/ (SqT K H p ys /\ Q (.ref p) H))):=by subst k;exact jhz
theorem jep(k:X.K=K):MtR X "str.join" (jva K):=by subst k;exact jx2
theorem jb2{a:Expr}{ta:TE}(k:X.K=K)(ha:PE X a ta)(he:∀whole,isTrue a X.env whole=(do let v<-whole;standAt a.pos;holding [v] (truthy v))):
  PT X a (λσ H Q=>ta σ H λx H'=>∃k,TruV K x H' k /\ Q k H'):=by subst k;exact jre ha he
theorem jx1{a:Expr}{ta:TE}{pos:Pos}(k:X.K=K)(ha:PE X a ta):PE X (.UnaryOp .Not a pos) (λσ H Q=>ta σ H λx H1=>∃k,TruV K x H1 k /\ Q (.bl (!k)) H1):=by subst k;exact jvh ha
theorem pi_K{tg l:Expr}{tl:TE}(k:X.K=K)(hl:PE X l tl):PI X tg l (iV K tl):=by subst k;exact pi_V hl
theorem je2{e:Expr}{T:String}{r:V->List V->Hp->VK->Prop}{to:TE}{t:TA}(k:X.K=K)(h:PE X e (tBM X.K T r to t)):PE X e (tBM K T r to t):=by subst k;exact h
end
section
variable {C : Ct} {E : XK} {ex bs bs1 : List Addr} {h : Z.MH} {H : Hp} {α β : Type} {R : List Addr -> Hp -> β -> α -> Prop}
theorem Post.noX{r:Z.Res α}{Q:β->Hp->Prop}(p:Post C ex E bs h H R r.noX Q):Post C ex E0 bs h H R r Q:=by
 cases r with
 | ok a h'=>exact p
 | exc c h'=>exact p.elim
 | stuck=>exact p
theorem s_noxA{t:TA}{m:Z.ML}(q:SA C E0 t m):SA C E t (Z.lNox m):=λex bs hh ρ σ H Q hr re p=>q ex bs hh ρ σ H Q hr re p.noX
def SX(C:Ct)(t:FK->TS)(m:Z.MS):Prop:=
 ∀(ex bs:List Addr) (h:Z.MH) (ρ:Z.Ro) (σ:St) (H:Hp) (D:Ends) (F:FK),HR C ex bs h H->RE C bs (gh ex bs h H) ρ σ->jdm C ex (FE (F σ)) bs h H (m ρ h) D->t F D σ H
def SXE(C:Ct)(t:(Addr->Hp->Prop)->TE)(m:Z.ME):Prop:=∀F,SE C (FE F) (t F) m
theorem jwm{t:(Addr->Hp->Prop)->TE}{m:Z.ME}(q:SXE C t m):SX C (jtm t) (Z.jja m):=λex bs h ρ σ H D F hr re p=>jf5 (q (F σ)) ex bs h ρ σ H D hr re p
theorem jdm.noX{r:Z.RS}{D:Ends}(p:jdm C ex E bs h H r.noX D):jdm C ex E0 bs h H r D:=by
 cases r with
 | exc c h'=>exact p.elim
 | _=>exact p
theorem sx_one{t:FK->TS}{m:Z.MS}(q:SX C t m):SX C (sxSeq t (λ_=>jrt)) m:=λex bs h ρ σ H D F hr re p=>q ex bs h ρ σ H D F hr re p
def jk2(C:Ct)(W:Addr)(tab:List (String×Bool)):Prop:=∀c b,tab.lookup c=some b->PySem.W.subIn C.K (.ref (C.cm c)) (.ref W)=some b
theorem jv6{W:Addr}:jk2 C W []:=λ_ _ e=>nomatch e
theorem jr8{W:Addr}{c:String}{b:Bool}{tab:List (String×Bool)}(q:PySem.W.subIn C.K (.ref (C.cm c)) (.ref W)=some b)(r:jk2 C W tab):jk2 C W ((c,b)::tab):=by
 intro x y e
 by_cases z:x=c
 ·subst z
  simp at e;subst e;exact q
 ·rw[List.lookup_cons,beq_eq_false_iff_ne.mpr z] at e;exact r x y e
theorem sh_nil{c:String}:SS C E (hNil (C.cm c)) (Z.cNil c):=λex bs h ρ σ H D hr re p=>p.elim
theorem jv4{W:Addr}{tab:List (String×Bool)}{th:TS}{m:Z.MS}{rest:Addr->TS}{r:String->Z.MS}(ht:jk2 C W tab)(hm:SS C E0 th m)(hrest:∀c,SS C E (rest (C.cm c)) (r c))(c:String):
  SS C E (jr0 C.K W th rest (C.cm c)) (Z.jwl tab m r c):=by
 intro ex bs h ρ σ H D hr re p
 unfold Z.jwl at p
 cases e:tab.lookup c with
 | none=>rw[e] at p;exact p.elim
 | some b=>
  rw[e] at p
  refine⟨b,ht c b e,?_⟩
  cases b with
  | false=>exact hrest c ex bs h ρ σ H D hr re p
  | true=>exact hm ex bs h ρ σ H D hr re p.noX
theorem ss_try{tb:FK->TS}{th:Addr->TS}{m:Z.MS}{f:String->Z.MS}(hb:SX C tb m)(hh:∀c,SS C E (th (C.cm c)) (f c)):SS C E (tTry tb th) (Z.sTry m f):=by
 intro ex bs h ρ σ H D hr re p
 refine hb ex bs h ρ σ H D _ hr re ?_
 unfold Z.sTry at p
 cases e:m ρ h with
 | exc c h1=>rw[e] at p;exact λbs' H' e'=>⟨C.cm c,rfl,hh c ex bs' h1 ρ σ H' D e'.hr (re.ev e') (p.from e')⟩
 | nx ρ1 h1=>rw[e] at p;exact p
 | rt d h1=>rw[e] at p;exact p
 | bk ρ1 h1=>rw[e] at p;exact p
 | ct ρ1 h1=>rw[e] at p;exact p
 | stuck=>rw[e] at p;exact p
theorem jtb{X:Cx}{K:PySem.W.Frag}{hs:List ExceptHandler}{W:Addr}{th:TS}{tr:Addr->TS}(k:X.K=K)(q:PH X hs (jr0 X.K W th tr)):PH X hs (jr0 K W th tr):=by subst k;exact q
end
end L2
namespace L2
open PySem PySem.Spec
section
variable {C : Ct} {ex bs bs1 bs2 : List Addr} {h h1 h2 : Z.MH} {H H1 H2 : Hp} {E : XK}
theorem RVf.lookup{G:Hp}{f:Str}:∀{fs:List (Str×Z.D)} {vs:List (Str×V)},RVf C bs G vs fs->(∀d,fs.lookup f=some d->∃v,vs.lookup f=some v /\ RV C bs G v d) /\ (fs.lookup f=none->vs.lookup f=none)
  | [],[],_=>⟨λd e=>by simp at e,λ_=>rfl⟩
  | (y,d)::ds,(x,v)::vs,r=>by
    simp only[RVf] at r
    obtain⟨rfl,r1,r2⟩:=r
    have ih:=RVf.lookup (f:=f) r2
    by_cases q:(f==x)=true
    · simp only[List.lookup,q]
      exact⟨λd' e=>by cases e;exact⟨v,rfl,r1⟩,λe=>by cases e⟩
    · have q':(f==x)=false:=by simpa using q
      simp only[List.lookup,q']
      exact ih
  | [],_::_,r=>by simp only[RVf] at r
  | _::_,[],r=>by simp only[RVf] at r
theorem RVf.put{G:Hp}{f:Str}{d:Z.D}{v:V}(rv:RV C bs G v d):∀{fs:List (Str×Z.D)} {vs:List (Str×V)},RVf C bs G vs fs->RVf C bs G (putF f v vs) (Z.putF f d fs)
  | [],[],_=>by simp only[putF,Z.putF,RVf];exact⟨trivial,rv,trivial⟩
  | (y,e)::ds,(x,u)::vs,r=>by
    simp only[RVf] at r
    obtain⟨rfl,r1,r2⟩:=r
    simp only[putF,Z.putF]
    by_cases q:x=f
    · rw[if_pos q,if_pos q];simp only[RVf];exact⟨trivial,rv,r2⟩
    · rw[if_neg q,if_neg q];simp only[RVf];exact⟨trivial,r1,RVf.put rv r2⟩
  | [],_::_,r=>by simp only[RVf] at r
  | _::_,[],r=>by simp only[RVf] at r
theorem RVf.len{G:Hp}:∀{fs:List (Str×Z.D)} {vs:List (Str×V)},RVf C bs G vs fs->vs.length=fs.length
  | [],[],_=>rfl
  | (y,d)::ds,(x,v)::vs,r=>by simp only[RVf] at r;simp[RVf.len r.2.2]
  | [],_::_,r=>by simp only[RVf] at r
  | _::_,[],r=>by simp only[RVf] at r
theorem jtl{d:Z.D}{x:V}{c:String}{fs:List (Str×Z.D)}(hr:HR C ex bs h H)(rx:RV C bs (gh ex bs h H) x d)(e:Z.asO h d=some (c,fs)):
  ∃a dx fvs,x= .ref a /\ H a=some (.ins (C.cm c) dx fvs) /\ RVf C bs (gh ex bs h H) fvs fs:=by
 cases d with
 | obj c' fs'=>
  simp only[Z.asO,Option.some.injEq,Prod.mk.injEq] at e
  obtain⟨rfl,rfl⟩:=e
  simp only[RV] at rx
  obtain⟨a,dx,fvs,h1,h2,h3⟩:=rx
  exact⟨a,dx,fvs,h1,jbe _ _ h2,h3⟩
 | ref k=>
  simp only[RV] at rx
  obtain⟨a,rfl,hk⟩:=rx
  simp only[Z.asO] at e
  split at e
  ·rename_i c' fs' hc
   simp only[Option.some.injEq,Prod.mk.injEq] at e
   obtain⟨rfl,rfl⟩:=e
   obtain⟨dx,fvs,h1,h2⟩:=hr.cell k a _ hk hc
   exact⟨a,dx,fvs,rfl,h1,h2⟩
  ·cases e
 | _=>simp[Z.asO] at e
def jdt(C:Ct)(f:Str)(tab:List String):Prop:=∀c∈tab,Cls C.K (C.cm c) /\ jbb C.K (C.cm c) f
theorem jd5{f:Str}:jdt C f []:=λc m=>by simp at m
theorem js1{f:Str}{c:String}{tab:List String}(a:Cls C.K (C.cm c))(b:jbb C.K (C.cm c) f)(r:jdt C f tab):jdt C f (c::tab):=λc' m=>by
 rcases List.mem_cons.mp m with rfl | m
 ·exact⟨a,b⟩
 ·exact r c' m
theorem jc0{f:Str}{tab:List String}{t:TE}{m:Z.ME}(ok:jdt C f tab)(ht:SE C E t m):SE C E (tFld C.K t f) (Z.mFld tab f m):=by
 intro ex bs h ρ σ H Q hr re p
 refine ht ex bs h ρ σ H _ hr re (p.bind λd x h1 bs1 H1 e1 rx p1=> ?_)
 obtain⟨⟨c,fs⟩,eo,p1⟩:=p1.oR
 obtain⟨hc,p1⟩:=p1.chk
 obtain⟨v,el,p1⟩:=p1.oR1
 obtain⟨a,dx,fvs,rfl,ha,rf⟩:=jtl e1.hr rx eo
 obtain⟨u,hu,ru⟩:=rf.lookup.1 v el
 exact⟨a,_,dx,fvs,u,rfl,ha,(ok c hc).1,(ok c hc).2,hu,Post.now e1.hr p1 ru⟩
theorem jcn{f:Str}{tab:List String}{to te:TE}{mo me:Z.ME}(ok:jdt C f tab)(ho:SE C E to mo)(he:SE C E te me):SS C E (sFld C.K to te f) (Z.jdh tab f mo me):=by
 intro ex bs h ρ σ H D hr re p
 refine he ex bs h ρ σ H _ hr re (p.bind λd v h0 bs0 H0 e0 rv p0=> ?_)
 refine ho ex bs0 h0 ρ σ H0 _ e0.hr (re.ev e0) (p0.bind λo x h1 bs1 H1 e1 rx p1=> ?_)
 cases o with
 | ref k=>
  simp only[RV] at rx
  obtain⟨a,rfl,hk⟩:=rx
  dsimp only at p1
  split at p1
  ·rename_i c fs hc
   split at p1
   case isFalse=>exact p1.elim
   rename_i q
   obtain⟨dx,fvs,ha,rf⟩:=e1.hr.cell k a _ hk hc
   refine⟨a,_,dx,fvs,rfl,ha,(ok c q.1).1,(ok c q.1).2,by rw[rf.len];exact q.2,?_⟩
   have e2:=Ev.put (o:= .ins (C.cm c) dx (putF f v fvs)) (c:= .ins c (Z.putF f d fs)) e1.hr hk hc ⟨dx,_,jax,RVf.put (rv.ev e1) rf⟩
   exact p1 σ bs1 _ e2 ((re.ev e0).ev (e1.trans e2))
  ·exact p1.elim
 | _=>exact p1.elim
def jc8(C:Ct)(mg:Str->Option Value)(base:Heap)(k:Nat)(m:Str)(tab:List (String×Z.MF)):Prop:=
 ∀c z,tab.lookup c=some z->Cls C.K (C.cm c) /\ MethG C.P C.w C.K mg base (CXE C.P C.w) k (C.cm c) m (spZ C z)
theorem jbx{mg:Str->Option Value}{base:Heap}{k:Nat}{m:Str}:jc8 C mg base k m []:=λc z e=>by simp at e
theorem jwn{mg:Str->Option Value}{base:Heap}{k j:Nat}{m:Str}{c:String}{z:Z.MF}{tab:List (String×Z.MF)}{f:Addr}{fd:FuncData}{ps:List Str}(a:Cls C.K (C.cm c))(b:Meth C.K (C.cm c) m f)(F:FnOk C.P C.w C.K mg base (CXE C.P C.w) j f fd ps (spZ C z))(hj:j<=k)(B:je6 C.K fd ps [])(r:jc8 C mg base k m tab):
  jc8 C mg base k m ((c,z)::tab):=λc' z' e=>by
 by_cases q:(c'==c)=true
 ·simp only[List.lookup,q] at e
  cases e
  have:c'=c:=by simpa using q
  subst this
  exact⟨a,f,fd,ps,b,F.mono hj,B⟩
 ·have q':(c'==c)=false:=by simpa using q
  simp only[List.lookup,q'] at e
  exact r c' z' e
theorem jay{mg:Str->Option Value}{base:Heap}{k:Nat}{f:Str}{tab:List (String×Z.MF)}{to:TE}{ta:TA}{m:Z.ME}{l:Z.ML}(ok:jc8 C mg base k f tab)(ho:SE C E to m)(hl:SA C E ta l):
  SE C E (jfk C.P C.w C.K mg base (CXE C.P C.w) k f E to ta) (Z.jaj tab f m l):=by
 intro ex bs h ρ σ H Q hr re p
 refine ho ex bs h ρ σ H _ hr re (p.bind λd x h1 bs1 H1 e1 rx p1=> ?_)
 obtain⟨⟨c,fs⟩,eo,p1⟩:=p1.oR
 obtain⟨z,ez,p1⟩:=p1.oR
 obtain⟨hn,p1⟩:=p1.chk
 obtain⟨a,dx,fvs,rfl,ha,rf⟩:=jtl e1.hr rx eo
 obtain⟨k1,k2⟩:=ok c z ez
 refine⟨a,_,dx,fvs,_,rfl,ha,k1,k2,rf.lookup.2 hn,?_⟩
 refine hl ex bs1 h1 ρ σ H1 _ e1.hr (re.ev e1) (p1.bind λds xs h2 bs2 H2 e2 rxs p2=> ?_)
 exact⟨ex,bs2,h2,d::ds,e2.hr,by simp only[RVs];exact⟨rx.ev e2,rxs⟩,p2⟩
theorem Ev.freezeI{k:Nat}{a:Addr}{c:String}{fs:List (Str×Z.D)}(hr:HR C ex bs h H)(hk:bs[k]?=some a)(h0:h[k]?=some (some (.ins c fs))):
  Ev C ex bs h H bs (h.set k none) H /\ RV C bs (gh ex bs (h.set k none) H) (.ref a) (.obj c fs):=by
 have ab:a∈bs:=List.mem_of_getElem? hk
 have lvs:∀x,lv bs (h.set k none) x->lv bs h x /\ x≠a:=λx ⟨j,c',e1,e2,l2⟩=>by
  by_cases hj:k=j
  ·subst hj;rw[List.getElem?_set_self (List.getElem?_eq_some_iff.mp h0).1] at e2;cases e2
  ·rw[List.getElem?_set_ne hj] at e2
   exact⟨⟨j,c',e1,e2,l2⟩,λz=>hj (hr.inj k j a hk (by rw[<-z];exact e1))⟩
 have sm:Same (gh ex bs h H) (gh ex bs (h.set k none) H):=λx u e=>by
  obtain⟨h1,h2,h3⟩:=jb4.mp e
  exact jb4.mpr ⟨h1,λl=>h2 (lvs x l).1,h3⟩
 obtain⟨dx,vs,h1,h2⟩:=hr.cell k a _ hk h0
 refine⟨⟨λ_ _ e=>e,⟨by simp[hr.len],hr.inj,hr.sep,hr.dom,hr.domx,λj x c' e1 e2=> ?_⟩,sm,λ_ _=>rfl⟩,?_⟩
 ·by_cases hj:k=j
  ·subst hj;rw[List.getElem?_set_self (List.getElem?_eq_some_iff.mp h0).1] at e2;cases e2
  ·rw[List.getElem?_set_ne hj] at e2
   exact(hr.cell j x c' e1 e2).mono (λ_ _ e=>e) sm rfl
 ·simp only[RV]
  exact⟨a,dx,vs,rfl,jb4.mpr ⟨λm=>hr.sep a m ab,λl=>(lvs a l).2 rfl,h1⟩,h2.mono (λ_ _ e=>e) sm⟩
theorem Ev.born{x dx:Addr}{c:String}(hr:HR C ex bs h H)(hx:H x=none)(hd:H dx=none)(ne:dx≠x):
  Ev C ex bs h H (bs++[x]) (h++[some (.ins c [])]) (upd (upd H dx (.own x)) x (.ins (C.cm c) dx [])):=by
 obtain⟨e1,_⟩:=Ev.alloc (o:= .own x) hr hd
 exact e1.trans (Ev.cell e1.hr (by rw[jad (Ne.symm ne)];exact hx) ⟨dx,[],jax,by simp only[RVf]⟩)
theorem jhf{a:Addr}{c:String}{z:Z.MF}{tl:TA}{ml:Z.ML}(ea:C.cm c=a)(hl:SA C E tl ml):SE C E (jn0 a (spZ C z) [] E tl) (Z.jfu c z ml):=by
 intro ex bs h ρ σ H Q hr re p
 refine hl ex bs h ρ σ H _ hr re (p.bind λds xs h1 bs1 H1 e1 rx p1=> ?_)
 intro x dx hx hd ne
 rw[<-ea]
 have e2:=Ev.born (c:=c) e1.hr hx hd ne
 have kx:(bs1++[x])[h1.length]?=some x:=by rw[<-e1.hr.len];simp
 refine⟨ex,bs1++[x],h1++[some (.ins c [])],.ref h1.length::ds,e2.hr,?_,?_⟩
 ·simp only[RVs,RV]
  exact⟨⟨x,rfl,kx⟩,by rw[List.append_nil];exact rx.ev e2⟩
 ·refine(p1.from e2).bind (R1:=RV C) λd v h2 bs2 H2 e3 rv p3=> ?_
  cases d with
  | non=>
   simp only[RV] at rv
   refine⟨rv,?_⟩
   dsimp only at p3
   split at p3
   ·rename_i c' fs hc
    obtain⟨e4,r4⟩:=Ev.freezeI e3.hr (e3.pre _ _ kx) hc
    exact p3 (.ref x) bs2 H2 e4 r4
   ·exact p3.elim
  | _=>exact p3.elim
theorem jkj{a:Addr}{c:String}{z:Z.MF}{tl:TA}{ml:Z.ML}(ea:C.cm c=a)(hl:SA C E tl ml):SE C E (jn0 a (spZ C z) [] E tl) (Z.jjf c z ml):=by
 intro ex bs h ρ σ H Q hr re p
 refine hl ex bs h ρ σ H _ hr re (p.bind λds xs h1 bs1 H1 e1 rx p1=> ?_)
 intro x dx hx hd ne
 rw[<-ea]
 have e2:=Ev.born (c:=c) e1.hr hx hd ne
 have kx:(bs1++[x])[h1.length]?=some x:=by rw[<-e1.hr.len];simp
 refine⟨ex,bs1++[x],h1++[some (.ins c [])],.ref h1.length::ds,e2.hr,?_,?_⟩
 ·simp only[RVs,RV]
  exact⟨⟨x,rfl,kx⟩,by rw[List.append_nil];exact rx.ev e2⟩
 ·refine(p1.from e2).bind (R1:=RV C) λd v h2 bs2 H2 e3 rv p3=> ?_
  cases d with
  | non=>
   simp only[RV] at rv
   exact⟨rv,Post.now e3.hr p3 (by simp only[RV];exact⟨x,rfl,e3.pre _ _ kx⟩)⟩
  | _=>exact p3.elim
theorem jcs{P:Program}{w:World}{K:W.Frag}{mg:Str->Option Value}{base:Heap}{CX:CXT}{k:Nat}{f:Addr}{fd:FuncData}{ps:List Str}:FnOk P w K mg base CX k f fd ps (spZ C (λ_ _=> .stuck)):=
 ⟨λvs H Q E ⟨_,_,_,_,_,_,p⟩=>p.elim,λA outer s H args us vs Q E _ _ _ _ ⟨_,_,_,_,_,_,p⟩=>p.elim⟩
theorem jsl(ds:List Z.D)(i:Nat):(Z.jga ds)[i]?=(ds[i]?).map λd=>Z.D.tup [.int i,d]:=by
 unfold Z.jga
 rw[List.getElem?_mapIdx]
theorem ItOk.enum{a:Addr}{vs:List V}{ds:List Z.D}{G:Hp}(hq:SqL C.K G a vs)(r:RVs C bs G vs ds):ItOk C bs G (Ite C.K a) (none,Z.jga ds):=by
 intro ex2 bs2 h2 H2 hr pre sm _ i
 have hq2:SqL C.K H2 a vs:=(sm.trans jbe).sql hq
 refine⟨λd e=> ?_,λhle=>⟨vs,hq2,by rw[r.len];simpa [Z.jga] using hle⟩⟩
 rw[jsl] at e
 cases e2:ds[i]? with
 | none=>rw[e2] at e;cases e
 | some d0=>
  rw[e2] at e
  simp only[Option.map_some,Option.some.injEq] at e
  subst e
  obtain⟨v,hv,rv⟩:=r.get e2
  refine⟨⟨vs,v,hq2,hv⟩,λx H3 y=> ?_⟩
  obtain⟨p,x',hp,hx',rfl,rfl⟩:=y
  have:=hx' vs hq2
  rw[hv] at this;cases this
  obtain⟨e3,g⟩:=Ev.alloc (o:= .tup [.int i,v]) hr hp
  refine⟨e3,?_⟩
  simp only[RV,RVs]
  exact⟨p,_,rfl,g,by simp only[RVs,RV];exact⟨trivial,(rv.mono pre sm).ev e3,trivial⟩⟩
theorem RVs.only{G:Hp}{xs:List V}{d:Z.D}(r:RVs C bs G xs [d]):∃x,xs=[x] /\ RV C bs G x d:=by
 cases xs with
 | nil=>simp only[RVs] at r
 | cons x xs=>
  simp only[RVs] at r
  cases xs with
  | nil=>exact⟨x,rfl,r.1⟩
  | cons y ys=>exact absurd r.2 (by simp only[RVs];exact id)
theorem jvu{t:TA}{m:Z.ML}(ht:SA C E t m):SI C E (jrd C.K t) (Z.lEnum m):=by
 intro ex bs h ρ σ H Q hr re p
 refine ht ex bs h ρ σ H _ hr re (p.bind λds xs h1 bs1 H1 e1 rx p1=> ?_)
 split at p1
 ·obtain⟨x,rfl,ry⟩:=rx.only
  simp only[RV] at ry
  obtain⟨a,vs,rfl,ga,rs⟩:=ry
  exact⟨a,vs,rfl,SqL.of (jbe _ _ ga),Post.now e1.hr p1 (.enum (SqL.of ga) rs)⟩
 ·rename_i ns
  obtain⟨x,rfl,ry⟩:=rx.only
  simp only[RV] at ry
  obtain⟨a,rfl,ga⟩:=ry
  refine⟨a,_,rfl,jbe.sql ga,Post.now e1.hr p1 (.enum ga ?_)⟩
  clear ga p1 p rx
  induction ns with
  | nil=>simp only[List.map_nil,RVs]
  | cons n ns ih=>simp only[List.map_cons,RVs,RV];exact⟨trivial,ih⟩
 ·exact p1.elim
end
section
variable {C : Ct} {ex bs bs1 bs2 : List Addr} {h h1 h2 : Z.MH} {H H1 H2 : Hp} {E : XK}
theorem s_bits{to:TE}{mo:Z.ME}(ho:SE C E to mo):SE C E (tBM0 C.K "int" rBits to) (Z.mBits mo):=by
 intro ex bs h ρ σ H Q hr re p
 refine ho ex bs h ρ σ H _ hr re (p.bind λd x h1 bs1 H1 e1 rx p1=> ?_)
 cases d with
 | int i=>
  simp only[RV] at rx;subst rx
  exact⟨rfl,i,rfl,rfl,Post.now e1.hr p1 (by simp only[RV])⟩
 | _=>exact p1.elim
end
end L2
namespace L2
open PySem PySem.Spec PyProof.Rows
structure FnM (K:W.Frag) (x q:Str) (st:Stmt) (f:Addr) (fd:FuncData) (ps:List Str):Prop where
 F:Fun K x q st f fd
 B:je6 K fd ps []
structure FnT (K:W.Frag) (mg:Str->Option Value) (x q:Str) (st:Stmt) (f:Addr) (fd:FuncData) (ps:List Str):Prop where
 F:Fun K x q st f fd
 B:je6 K fd ps []
 m:mg x=some (.ref f)
structure ClsT (K:W.Frag) (mg:Str->Option Value) (x:Str) (c:Addr):Prop where
 cl:Cls K c
 mc:mg x=some (.ref c)
 ms:W.makesIn K c=true
 kc:W.keepIn K (.ref c)=true
section
variable {K : W.Frag} {h : Heap} {mg : Str -> Option Value} {x q : Str} {st : Stmt} {f c : Addr} {oc : Value} {od an : Option Addr} {osl : Array (Option Value)} {kV doc pm cdv ct : Value} {ps : List Str}
theorem lenN{P:List Value->Prop}(h:P []):∀us:List Value,us.length=([]:List Str).length->P us
 | [],_=>h
theorem lenC{P:List Value->Prop}{x:Str}{ps:List Str}(h:∀a,∀us:List Value,us.length=ps.length->P (a::us)):∀us:List Value,us.length=(x::ps).length->P us
 | a::us,e=>h a us (Nat.succ.inj e)
theorem fnm(l:K.lookup f=some ⟨oc,od,.func (W.fnOf x q (jdk st) (jcx st) (ja7 st) .none kV doc pm an cdv ct),osl⟩)
  (c:W.codeIn K cdv q=true) (k:W.keepIn K (.ref f)=true)
  (b:∀(kV doc pm:Value) (an:Option Addr) (cdv ct:Value) (us:List Value),us.length=ps.length->bindArgs (W.fnOf x q (jdk st) (jcx st) (ja7 st) .none kV doc pm an cdv ct) ⟨us,[]⟩=pure (ps.zip us):=by intro _ _ _ _ _ _;repeat (first | exact lenN rfl | refine lenC λ_=> ?_)):
  FnM K x q st f (W.fnOf x q (jdk st) (jcx st) (ja7 st) .none kV doc pm an cdv ct) ps:=⟨jtr l c k,(jtr l c k).binds b⟩
theorem fnt(X:K.In h)(G:h.Ns mainGlobals mg)(a:W.nsIn K mainGlobals x=some (some (.ref f)))(M:FnM K x q st f (W.fnOf x q (jdk st) (jcx st) (ja7 st) .none kV doc pm an cdv ct) ps):
  FnT K mg x q st f (W.fnOf x q (jdk st) (jcx st) (ja7 st) .none kV doc pm an cdv ct) ps:=⟨M.F,M.B,W.mg_of X G a⟩
theorem clm(X:K.In h)(G:h.Ns mainGlobals mg)(a:W.nsIn K mainGlobals x=some (some (.ref c)))(pg:W.plainGet K c Str.empty=true)(hd:W.hasDictIn K c=true)(po:W.plainOver K c=true)
  (sa:W.findIn K (.ref c) "__setattr__"=some (some (.builtin "object.__setattr__"))) (mk:W.makesIn K c=true) (kc:W.keepIn K (.ref c)=true):ClsT K mg x c:=⟨⟨pg,hd,po,sa⟩,W.mg_of X G a,mk,kc⟩
theorem naOf{a:Str}(h:W.findIn K (.ref c) a=some none):jbb K c a:=h
theorem ClsT.k(C:ClsT K mg x c):GV mg x (.ref c):=⟨_,C.mc,rfl⟩
theorem ClsT.mkk(C:ClsT K mg x c)(M:Meth K c "__init__" f):Mk K c f:=⟨C.ms,M.at_,M.fn,C.kc⟩
end
theorem gOf{P:Program}{w:World}{K:W.Frag}{mg:Str->Option Value}{base:Heap}{CX:CXT}{k:Nat}{x q:Str}{st:Stmt}{f:Addr}{fd:FuncData}{ps:List Str}{sp:Sp}(H:FnT K mg x q st f fd ps)(o:FnOk P w K mg base CX k f fd ps sp):FnG P w K mg base CX k x sp:=⟨f,fd,ps,o,H.m,H.F.kp,H.B⟩
theorem mOf{P:Program}{w:World}{K:W.Frag}{mg:Str->Option Value}{base:Heap}{CX:CXT}{k:Nat}{x y q:Str}{st:Stmt}{c f:Addr}{fd:FuncData}{ps:List Str}{sp:Sp}(C:ClsT K mg x c)(M:Meth K c "__init__" f)(H:FnM K y q st f fd ps)(o:FnOk P w K mg base CX k f fd ps sp):jw2 P w K mg base CX k x c sp:=⟨f,fd,ps,C.mkk M,o,C.mc,H.B⟩
theorem scof{N P:List Str}{sc:Scope}(a:sc.kind= .function:=by rfl)(b:sc.isCoroutine=false:=by rfl)(c:sc.isGenerator=false:=by rfl)(d:N.Nodup:=by decide+kernel)(e:N.take P.length=P:=by rfl)
  (f:∀x∈P,sc.names.lookup x=some .local \/ sc.names.lookup x=some .cell:=by decide+kernel) (g:∀y∈sc.names,y.2≠ .free:=by decide+kernel):FnScope N P sc:=⟨a,b,c,d,e,f,g⟩
theorem okZ2{C:Ct}{P:Program}{w:World}{K:W.Frag}{mg:Str->Option Value}{base:Heap}{x qual:Str}{st:Stmt}{f:Addr}{fd:FuncData}{N ps:List Str}{k np nn:Nat}{b:Z.MS}{z:Z.MF}(F:Fun K x qual st f fd)(S:FnScope N ps (ja7 st))
  (hb:∀(cdv:Value) (A:Around) (outer:List Env) (s:Shared) (H:Hp) (E:XK),Room k (A.deeper (envOfC qual (ja7 st) s.heap.objs.size f cdv))->
   ∃t,PSs (cxOf (CXE P w) P w K mg base N qual (ja7 st) f cdv A outer s H E) (jcx st) t /\ SS C E t b)
  (hz:z=Z.mFun np nn b:=by rfl) (hp:ps.length=np:=by rfl) (hn:N.length=nn:=by rfl) (hle:np<=nn:=by decide):FnOk P w K mg base (CXE P w) (k+1) f fd ps (spZ C z):=
 okZ F S hz hp hn hle hb
theorem hm{j k:Nat}{A:Around}(r:Room k A)(h:j<=k:=by decide):Room j A:=r.mono h
theorem ixq(P:Program)(w:World)(K:W.Frag){X:Cx}{a b:Expr}{ta tb:TE}{pos:Pos}(hu:X.A.units+64<cLine)(ha:PE X a ta)(hb:PE X b tb)(hs:jny b:=by exact λ_ _=>rfl)(p:X.prog=P:=by rfl)(w':X.w=w:=by rfl)(k:X.K=K:=by rfl):PE X (.Subscript a b pos) (tOp (uIx P w K) ta tb):=pe_ix (ix_K p w' k hu) ha hb hs
theorem mdq(P:Program)(w:World)(K:W.Frag)(mg:Str->Option Value)(base:Heap)(k:Nat){X:Cx}{m:Str}{E:XK}{e:Expr}{ta:TE}{t:TA}(h:PE X e (jfk X.prog X.w X.K X.mg X.base (CXE P w) k m E ta t))(h1:X.prog=P:=by rfl)(h2:X.w=w:=by rfl)(h3:X.K=K:=by rfl)(h4:X.mg=mg:=by rfl)(h5:X.base=base:=by rfl):PE X e (jfk P w K mg base (CXE P w) k m E ta t):=pe_mdK h1 h2 h3 h4 h5 h
section
variable {C : Ct} {ex bs bs1 bs2 : List Addr} {h h1 h2 : Z.MH} {H H1 H2 : Hp} {E : XK}
theorem js0{mg:Str->Option Value}{base:Heap}{k:Nat}{f:Str}{tab:List (String×Z.MF)}{to:TE}{ta:TA}{m:Z.ME}{l:Z.ML}(ok:jc8 C mg base k f tab)(ho:∀F,SE C (FE F) to m)(hl:SA C E0 ta l):
  SXE C (jln C.P C.w C.K mg base k f to ta) (Z.jaj tab f m (Z.lNox l)):=λF=>jay ok (ho F) (s_noxA hl)
def NoD(G G':Hp):Prop:=∀x u,G x=some u->(∃o kw,u= .frz o (.dK kw) /\ o.cls= .type "dict") \/ G' x=some u
def NoDa(a:Addr)(G G':Hp):Prop:=NoD G G' /\ ∀x u,x≠a->G x=some u->G' x=some u
theorem NoD.sql{K:W.Frag}{G G':Hp}{a:Addr}{xs:List V}(e:NoD G G')(h:SqL K G a xs):SqL K G' a xs:=by
 rcases h with(h | ⟨o,h⟩) | h
 ·rcases e _ _ h with⟨_,_,z,_⟩ | z
  ·cases z
  ·exact .inl (.inl z)
 ·rcases e _ _ h with⟨_,_,z,_⟩ | z
  ·cases z
  ·exact .inl (.inr ⟨o,z⟩)
 ·exact .inr h
mutual
theorem RV.noD{G G':Hp}(hs:NoD G G'):∀{d:Z.D} {v:V},RV C bs G v d->RV C bs G' v d
 | .non,v,h=>by simp only[RV] at h ⊢;exact h
 | .bl b,v,h=>by simp only[RV] at h ⊢;exact h
 | .int i,v,h=>by simp only[RV] at h ⊢;exact h
 | .str x,v,h=>by simp only[RV] at h ⊢;exact h
 | .tup ds,v,h=>by
  simp only[RV] at h ⊢
  obtain⟨a,vs,h1,h2,h3⟩:=h
  rcases hs _ _ h2 with⟨_,_,z,_⟩ | z
  ·cases z
  ·exact⟨a,vs,h1,z,RVs.noD hs h3⟩
 | .lst ds,v,h=>by
  simp only[RV] at h ⊢
  obtain⟨a,vs,h1,h2,h3⟩:=h
  rcases hs _ _ h2 with⟨_,_,z,_⟩ | z
  ·cases z
  ·exact⟨a,vs,h1,z,RVs.noD hs h3⟩
 | .arg ns,v,h=>by
  simp only[RV] at h ⊢
  obtain⟨a,h1,h2⟩:=h
  exact⟨a,h1,hs.sql h2⟩
 | .ref k,v,h=>by simp only[RV] at h ⊢;exact h
 | .ty n,v,h=>by simp only[RV] at h ⊢;exact h
 | .cls n,v,h=>by simp only[RV] at h ⊢;exact h
 | .exc c,v,h=>by
  simp only[RV] at h ⊢
  obtain⟨a,oe,u,h1,h2,h3⟩:=h
  rcases hs _ _ h2 with⟨_,_,z,zc⟩ | z
  ·cases z;rw[h3] at zc;cases zc
  ·exact⟨a,oe,u,h1,z,h3⟩
 | .obj c fs,v,h=>by
  simp only[RV] at h ⊢
  obtain⟨a,dx,fvs,h1,h2,h3⟩:=h
  rcases hs _ _ h2 with⟨_,_,z,_⟩ | z
  ·cases z
  ·exact⟨a,dx,fvs,h1,z,RVf.noD hs h3⟩
 | .dic kvs,v,h=>by simp only[RV] at h ⊢;exact h
theorem RVs.noD{G G':Hp}(hs:NoD G G'):∀{ds:List Z.D} {vs:List V},RVs C bs G vs ds->RVs C bs G' vs ds
 | [],[],_=>by simp only[RVs]
 | d::ds,v::vs,h=>by
  simp only[RVs] at h ⊢
  exact⟨RV.noD hs h.1,RVs.noD hs h.2⟩
 | [],_::_,h=>by simp only[RVs] at h
 | _::_,[],h=>by simp only[RVs] at h
theorem RVf.noD{G G':Hp}(hs:NoD G G'):∀{ds:List (Str×Z.D)} {vs:List (Str×V)},RVf C bs G vs ds->RVf C bs G' vs ds
  | [],[],_=>by simp only[RVf]
  | (y,d)::ds,(x,v)::vs,h=>by
    simp only[RVf] at h ⊢
    exact⟨h.1,RV.noD hs h.2.1,RVf.noD hs h.2.2⟩
  | [],_::_,h=>by simp only[RVf] at h
  | _::_,[],h=>by simp only[RVf] at h
theorem RVk.noD{G G':Hp}(hs:NoD G G'):∀{ds:List (Sum Int Str×Z.D)} {vs:List (Key×V)},RVk C bs G vs ds->RVk C bs G' vs ds
  | [],[],_=>by simp only[RVk]
  | (y,d)::ds,(x,v)::vs,h=>by
    simp only[RVk] at h ⊢
    exact⟨h.1,RV.noD hs h.2.1,RVk.noD hs h.2.2⟩
  | [],_::_,h=>by simp only[RVk] at h
  | _::_,[],h=>by simp only[RVk] at h
end
theorem RVk.get{G:Hp}:∀{ds:List (Sum Int Str×Z.D)} {vs:List (Key×V)},RVk C bs G vs ds->ds.length=vs.length /\ ∀(i:Nat) (d:Z.D),(ds.map (·.2))[i]?=some d->∃k v,vs[i]?=some (k,v) /\ RV C bs G v d
  | [],[],_=>⟨rfl,λi d e=>by simp at e⟩
  | (y,d)::ds,(x,v)::vs,h=>by
    simp only[RVk] at h
    obtain⟨h1,h2,h3⟩:=h
    obtain⟨i1,i2⟩:=RVk.get h3
    refine⟨by simp[i1],λi d' e=> ?_⟩
    cases i with
    | zero=>simp at e;subst e;exact⟨x,v,rfl,h2⟩
    | succ i=>exact i2 i d' (by simpa using e)
  | [],_::_,h=>by simp only[RVk] at h
  | _::_,[],h=>by simp only[RVk] at h
theorem ItOk.vals{G:Hp}{a:Addr}{o:Obj}{kws:List (Key×V)}{kvs:List (Sum Int Str×Z.D)}(hg:G a=some (.frz o (.dK kws)))(r:RVk C bs G kws kvs):ItOk C bs G (Itfz a o kws) (none,kvs.map (·.2)):=by
 intro ex2 bs2 h2 H2 hr pre sm _ i
 have ha:H2 a=some (.frz o (.dK kws)):=jbe _ _ (sm _ _ hg)
 obtain⟨hl,hget⟩:=r.get
 refine⟨λd e=> ?_,λhle=>⟨ha,by simp at hle;omega⟩⟩
 obtain⟨k,v,hv,rv⟩:=hget i d e
 refine⟨⟨ha,(List.getElem?_eq_some_iff.mp hv).1⟩,λx H3 y=> ?_⟩
 obtain⟨rfl,y⟩:=y
 rw[hv] at y
 simp at y
 subst y
 exact⟨Ev.refl hr,rv.mono pre sm⟩
theorem jdo.noD{G G':Hp}{a b:Addr}{c:Z.Cell}(hn:NoDa b G G')(na:a≠b)(e:H1 a=H a)(q:jdo C bs G H a c):jdo C bs G' H1 a c:=by
 have hs:=hn.1
 cases c with
 | lst ds=>obtain⟨vs,h1,h2⟩:=q;exact⟨vs,by rw[e];exact h1,h2.noD hs⟩
 | dct kvs=>obtain⟨vs,h1,h2⟩:=q;exact⟨vs,by rw[e];exact h1,h2.noD hs⟩
 | ins c fs=>obtain⟨dx,vs,h1,h2⟩:=q;exact⟨dx,vs,by rw[e];exact h1,h2.noD hs⟩
 | fdc kvs=>obtain⟨o,vs,h1,hc,h2⟩:=q;exact⟨o,vs,hn.2 _ _ na h1,hc,h2.noD hs⟩
theorem Ev.froze{k:Nat}{a:Addr}{o:Obj}{kvs:List (Sum Int Str×Z.D)}{kws:List (Key×V)}(hr:HR C ex bs h H)(hk:bs[k]?=some a)(h0:h[k]?=some (some (.dct kvs)))(ha:H a=some (.dK kws)):
  Ev C ex bs h H bs (h.set k none) (upd H a (.frz o (.dK kws))) /\ gh ex bs (h.set k none) (upd H a (.frz o (.dK kws))) a=some (.frz o (.dK kws)):=by
 have ab:a∈bs:=List.mem_of_getElem? hk
 have lk:=(List.getElem?_eq_some_iff.mp h0).1
 have lvs:∀x,lv bs (h.set k none) x->lv bs h x /\ x≠a:=λx ⟨j,c',e1,e2,l2⟩=>by
  by_cases hj:k=j
  ·subst hj;rw[List.getElem?_set_self lk] at e2;cases e2
  ·rw[List.getElem?_set_ne hj] at e2
   exact⟨⟨j,c',e1,e2,l2⟩,λz=>hj (hr.inj k j a hk (by rw[<-z];exact e1))⟩
 have la:lv bs h a:=⟨k,_,hk,h0,rfl⟩
 have sm:Same (gh ex bs h H) (gh ex bs (h.set k none) (upd H a (.frz o (.dK kws)))):=λx u e=>by
  obtain⟨h1,h2,h3⟩:=jb4.mp e
  have:x≠a:=λz=>h2 (z▸la)
  exact jb4.mpr ⟨h1,λl=>h2 (lvs x l).1,by rw[jad this];exact h3⟩
 refine⟨⟨λ_ _ e=>e,⟨by simp[hr.len],hr.inj,hr.sep,λx m=> ?_,λx m=> ?_,λj x c' e1 e2=> ?_⟩,sm,λx m=> ?_⟩,jb4.mpr ⟨λm=>hr.sep a m ab,λl=>(lvs a l).2 rfl,jax⟩⟩
 ·by_cases q:x=a
  ·subst q;rw[jax];simp
  ·rw[jad q];exact hr.dom x m
 ·have:x≠a:=λz=>hr.sep x m (z▸ab)
  rw[jad this];exact hr.domx x m
 ·by_cases hj:k=j
  ·subst hj;rw[List.getElem?_set_self lk] at e2;cases e2
  ·rw[List.getElem?_set_ne hj] at e2
   have:x≠a:=λz=>hj (hr.inj k j a hk (by rw[<-z];exact e1))
   exact(hr.cell j x c' e1 e2).mono (λ_ _ e=>e) sm (jad this)
 ·exact jad λz=>hr.sep x m (z▸ab)
theorem Ev.thawed{k:Nat}{a:Addr}{o:Obj}{kvs:List (Sum Int Str×Z.D)}{kws:List (Key×V)}(hr:HR C ex bs h H)(hk:bs[k]?=some a)(h0:h[k]?=some (some (.dct kvs)))(rk:RVk C bs (gh ex bs h H) kws kvs)(hc:o.cls= .type "dict")
  (ev:Ev C ex bs h H bs1 h1 H1) (lk:k<h1.length) (ha:H1 a=some (.frz o (.dK kws))):NoD (gh ex bs1 h1 H1) (gh ex bs1 (h1.set k (some (.dct kvs))) (upd H1 a (.dK kws))) /\ Ev C ex bs h H bs1 (h1.set k (some (.dct kvs))) (upd H1 a (.dK kws)):=by
 have hk1:=ev.pre k a hk
 have ab:a∈bs1:=List.mem_of_getElem? hk1
 have lvs:∀x,lv bs1 (h1.set k (some (.dct kvs))) x->lv bs1 h1 x \/ x=a:=λx ⟨j,c',e1,e2,l2⟩=>by
  by_cases hj:k=j
  ·subst hj;rw[hk1] at e1;cases e1;exact .inr rfl
  ·rw[List.getElem?_set_ne hj] at e2
   exact .inl ⟨j,c',e1,e2,l2⟩
 have nd:NoD (gh ex bs1 h1 H1) (gh ex bs1 (h1.set k (some (.dct kvs))) (upd H1 a (.dK kws))):=λx u e=>by
  obtain⟨q1,q2,q3⟩:=jb4.mp e
  by_cases q:x=a
  ·subst q;rw[ha] at q3;cases q3;exact .inl ⟨o,kws,rfl,hc⟩
  ·exact .inr (jb4.mpr ⟨q1,λl=>(lvs x l).elim q2 q,by rw[jad q];exact q3⟩)
 have nda:NoDa a (gh ex bs1 h1 H1) (gh ex bs1 (h1.set k (some (.dct kvs))) (upd H1 a (.dK kws))):=⟨nd,λx u q e=>by
  obtain⟨q1,q2,q3⟩:=jb4.mp e
  exact jb4.mpr ⟨q1,λl=>(lvs x l).elim q2 q,by rw[jad q];exact q3⟩⟩
 have la:lv bs h a:=⟨k,_,hk,h0,rfl⟩
 refine⟨nd,ev.pre,⟨by simp[ev.hr.len],ev.hr.inj,ev.hr.sep,λx m=> ?_,λx m=> ?_,λj x c' e1 e2=> ?_⟩,λx u e=> ?_,λx m=> ?_⟩
 ·by_cases q:x=a
  ·subst q;rw[jax];simp
  ·rw[jad q];exact ev.hr.dom x m
 ·have:x≠a:=λz=>ev.hr.sep x m (z▸ab)
  rw[jad this];exact ev.hr.domx x m
 ·by_cases hj:k=j
  ·subst hj
   rw[List.getElem?_set_self lk] at e2
   cases e2
   rw[hk1] at e1;cases e1
   exact⟨kws,jax,(rk.mono ev.pre ev.same).noD nd⟩
  ·rw[List.getElem?_set_ne hj] at e2
   have:x≠a:=λz=>hj (ev.hr.inj k j a hk1 (by rw[<-z];exact e1))
   exact(ev.hr.cell j x c' e1 e2).noD nda this (jad this)
 ·rcases nd x u (ev.same x u e) with⟨o',kw,rfl,_⟩ | z
  ·obtain⟨q1,q2,q3⟩:=jb4.mp (ev.same x _ e)
   obtain⟨p1,p2,p3⟩:=jb4.mp e
   have:x≠a:=λz=>p2 (z▸la)
   exact jb4.mpr ⟨q1,λl=>(lvs x l).elim q2 this,by rw[jad this];exact q3⟩
  ·exact z
 ·have:x≠a:=λz=>ev.hr.sep x m (z▸ab)
  rw[jad this];exact ev.exs x m
theorem jw0{to:TE}{g:TG}{tb:TS}{mo:Z.ME}{mg:Z.MG}{mb:Z.MS}(ho:SE C E to mo)(hg:SG C E g mg)(hb:SS C E tb mb):SS C E (tForV to g tb) (Z.sForV mo mg mb):=by
 intro ex bs h ρ σ H D hr re p N
 refine ho ex bs h ρ σ H _ hr re (p.bind λd x h1 bs1 H1 e1 rx p1=> ?_)
 cases d with
 | ref k=>
  simp only[RV] at rx
  obtain⟨a,rfl,hk⟩:=rx
  dsimp only at p1
  split at p1
  ·rename_i kvs h0
   obtain⟨kws,ha,rk⟩:=e1.hr.cell k a _ hk h0
   refine⟨a,kws,rfl,ha,λo oc na=> ?_⟩
   obtain⟨e2,ga⟩:=Ev.froze (o:=o) e1.hr hk h0 ha
   refine jou (gd:=none) (items:=kvs.map (·.2)) hg hb e2.hr ((re.ev e1).ev e2) (.vals ga (rk.mono e2.pre e2.same)) ?_
   rw[Z.jbz]
   have hfz:∀{bs':List Addr} {h':Z.MH} {H':Hp},Ev C ex bs1 (h1.set k none) (upd H1 a (.frz o (.dK kws))) bs' h' H'->H' a=some (.frz o (.dK kws)):=λev=>jbe _ _ (ev.same _ _ ga)
   cases er:Z.jc5 mg mb (kvs.map (·.2)) ρ (h1.set k none) with
   | nx ρ' h'=>
    rw[er] at p1
    dsimp only[Z.js5] at p1
    split at p1
    ·rename_i hn
     intro σ' bs' H' ev re'
     obtain⟨nd,e3⟩:=Ev.thawed e1.hr hk h0 rk oc (e2.trans ev) (List.getElem?_eq_some_iff.mp hn).1 (hfz ev)
     exact⟨a,o,kws,na,hfz ev,p1 σ' bs' _ e3 ⟨re'.1,λi d q=>by obtain⟨v,q1,q2⟩:=re'.2 i d q;exact⟨v,q1,q2.noD nd⟩⟩⟩
    ·exact p1.elim
   | rt d h'=>
    rw[er] at p1
    dsimp only[Z.js5] at p1
    split at p1
    ·rename_i hn
     intro v bs' H' ev rv
     obtain⟨nd,e3⟩:=Ev.thawed e1.hr hk h0 rk oc (e2.trans ev) (List.getElem?_eq_some_iff.mp hn).1 (hfz ev)
     exact⟨a,o,kws,na,hfz ev,p1 v bs' _ e3 (rv.noD nd)⟩
    ·exact p1.elim
   | exc c h'=>
    rw[er] at p1
    exact λbs' H' ev=>p1 bs' H' (e2.trans ev)
   | bk ρ' h'=>rw[er] at p1;exact p1.elim
   | ct ρ' h'=>rw[er] at p1;exact p1.elim
   | stuck=>rw[er] at p1;exact p1.elim
  ·exact p1.elim
 | _=>exact p1.elim
end
section
variable {C : Ct} {ex bs bs1 bs2 : List Addr} {h h1 h2 : Z.MH} {H H1 H2 : Hp} {E : XK}
theorem js6{to:TE}{mo:Z.ME}(ho:SE C E to mo):SS C E (jqt (tBM C.K "list" jts to tNil)) (Z.jth mo):=by
 intro ex bs h ρ σ H D hr re p
 refine ho ex bs h ρ σ H _ hr re (p.bind λo x h1 bs1 H1 e1 rx p1=> ?_)
 cases o with
 | ref k=>
  simp only[RV] at rx
  obtain⟨a,rfl,hk⟩:=rx
  dsimp only at p1
  split at p1
  ·rename_i xs0 hc0
   obtain⟨vs0,ha0,_⟩:=e1.hr.cell k a _ hk hc0
   refine⟨.inl ⟨rfl,vs0,SqL.of ha0⟩,?_⟩
   refine⟨a,vs0,rfl,rfl,ha0,?_⟩
   have e3:=Ev.put (o:= .lst []) (c:= .lst []) e1.hr hk hc0 ⟨_,jax,by simp only[RVs]⟩
   exact p1 σ bs1 _ e3 ((re.ev e1).ev e3)
  ·exact p1.elim
 | _=>exact p1.elim
theorem fldc{f:Str}{c:String}{a:Addr}{tab:List String}(hc:C.cm c=a)(cl:Cls C.K a)(na:jbb C.K a f)(r:jdt C f tab):jdt C f (c::tab):=by subst hc;exact js1 cl na r
theorem subc{W a:Addr}{c:String}{b:Bool}{tab:List (String×Bool)}(hc:C.cm c=a)(q:PySem.W.mroIn C.K a (.ref W)=some b)(r:jk2 C W tab):jk2 C W ((c,b)::tab):=by subst hc;exact jr8 q r
theorem mtc{mg:Str->Option Value}{base:Heap}{k j:Nat}{m:Str}{c:String}{a:Addr}{z:Z.MF}{tab:List (String×Z.MF)}{f:Addr}{fd:FuncData}{ps:List Str}(hc:C.cm c=a)(cl:Cls C.K a)(b:Meth C.K a m f)(F:FnOk C.P C.w C.K mg base (CXE C.P C.w) j f fd ps (spZ C z))(hj:j<=k)(B:je6 C.K fd ps [])(r:jc8 C mg base k m tab):jc8 C mg base k m ((c,z)::tab):=by subst hc;exact jwn cl b F hj B r
end
section
variable {C : Ct} {ex bs bs1 bs2 : List Addr} {h h1 h2 : Z.MH} {H H1 H2 : Hp} {E : XK}
theorem ji8:∀(xs ys:List Z.D) (i:Nat) (d:Z.D),(Z.zipD xs ys)[i]?=some d->∃x y,xs[i]?=some x /\ ys[i]?=some y /\ d= .tup [x,y]
 | x::xs,y::ys,0,d,e=>⟨x,y,rfl,rfl,by simpa [Z.zipD] using e.symm⟩
 | x::xs,y::ys,i+1,d,e=>by
  obtain⟨a,b,h1,h2,h3⟩:=ji8 xs ys i d (by simpa [Z.zipD] using e)
  exact⟨a,b,by simpa using h1,by simpa using h2,h3⟩
 | [],_,i,d,e=>by simp[Z.zipD] at e
 | _::_,[],i,d,e=>by simp[Z.zipD] at e
theorem jnp:∀(xs ys:List Z.D),(Z.zipD xs ys).length=min xs.length ys.length
 | x::xs,y::ys=>by simp[Z.zipD,jnp xs ys]
 | [],ys=>by simp[Z.zipD]
 | _::_,[]=>by simp[Z.zipD]
theorem ItOk.zip{a b:Addr}{vs us:List V}{ds es:List Z.D}{G:Hp}(hq:SqL C.K G a vs)(r:RVs C bs G vs ds)(hq2:SqL C.K G b us)(r2:RVs C bs G us es):ItOk C bs G (Itz C.K a b) (none,Z.zipD ds es):=by
 intro ex2 bs2 h2 H2 hr pre sm _ i
 have q1:SqL C.K H2 a vs:=(sm.trans jbe).sql hq
 have q2:SqL C.K H2 b us:=(sm.trans jbe).sql hq2
 refine⟨λd e=> ?_,λhle=>⟨vs,us,q1,q2,?_⟩⟩
 ·obtain⟨d0,e0,e1,e2,rfl⟩:=ji8 ds es i d e
  obtain⟨v,hv,rv⟩:=r.get e1
  obtain⟨u,hu,ru⟩:=r2.get e2
  refine⟨⟨vs,v,us,u,q1,hv,q2,hu⟩,λx H3 y=> ?_⟩
  obtain⟨p,x',y',hp,hx',hy',rfl,rfl⟩:=y
  have:=hx' vs q1
  rw[hv] at this;cases this
  have:=hy' us q2
  rw[hu] at this;cases this
  obtain⟨e3,g⟩:=Ev.alloc (o:= .tup [v,u]) hr hp
  refine⟨e3,?_⟩
  simp only[RV,RVs]
  exact⟨p,_,rfl,g,by simp only[RVs,RV];exact⟨(rv.mono pre sm).ev e3,(ru.mono pre sm).ev e3,trivial⟩⟩
 ·have hle:(Z.zipD ds es).length<=i:=hle
  rw[jnp] at hle
  rw[r.len,r2.len]
  omega
theorem juf:SL C (rAny C.K) Z.fAny:=by
 intro ex bs h H E xs ds Q hr rs p
 unfold Z.fAny at p
 split at p
 ·obtain⟨v,rfl,r⟩:=jeu rs
  obtain⟨bb,e,p⟩:=p.oR
  rw[Option.bind_eq_some_iff] at e
  obtain⟨ys,e1,e2⟩:=e
  obtain⟨a,vs,rfl,ha,qs⟩:=jh5 hr r e1
  have:=jk8 qs e2
  subst this
  exact⟨a,bb,rfl,SqL.of ha,p.now hr (by simp only[RV])⟩
 ·exact p.elim
end
end L2
namespace Z
open PySem
theorem jbk{α:Type}{g:MG}{t:MT}{m:ME}{ρ0:Ro}{h:MH}(e:α->D)(r:α->Ro)(f:α->D):∀(as:List α),(∀a∈as,g (e a) ρ0 h= .nx (r a) h /\ t (r a) h= .ok true h /\ m (r a) h= .ok (f a) h)->compLoop g t m ρ0 (as.map e) h= .ok (as.map f) h
 | [],_=>by unfold compLoop;rfl
 | a::as,q=>by
  obtain⟨h1,h2,h3⟩:=q a (List.mem_cons_self ..)
  rw[List.map_cons]
  unfold compLoop
  simp only[h1,h2,h3,jbk e r f as λb hb=>q b (List.mem_cons_of_mem _ hb),List.map_cons]
@[simp] theorem jit(ns:List Str):jko (ns.map D.str)=some ns:=by
 induction ns with
 | nil=>rfl
 | cons n ns ih=>simp[ih]
@[simp] theorem boolsD_map(ns:List Bool):jhe (ns.map D.bl)=some ns:=by
 induction ns with
 | nil=>rfl
 | cons n ns ih=>simp[ih]
@[simp] theorem rng_length(lo:Int)(n:Nat):(rng lo n).length=n:=by simp[rng]
@[simp] theorem sIx_one(n:Nat):sIx (n+1) 0 (some 1)=1:=by simp[sIx]
@[simp] theorem cut_one{α:Type}(x:α)(xs:List α):cut (x::xs) (some 1) none=xs:=by
 unfold cut
 rw[show sIx (x::xs).length 0 (some 1)=1 by simp[sIx]]
 simp[sIx]
@[simp] theorem atI_zero{α:Type}(a:α)(l:List α):atI (a::l) 0=some a:=by simp[atI,ixN]
@[simp] theorem atI_one{α:Type}(a b:α)(l:List α):atI (a::b::l) 1=some b:=by
 unfold atI ixN
 rw[if_pos (by decide),if_pos (by simp only[List.length_cons];omega)];rfl
@[simp] theorem atI_two{α:Type}(a b c:α)(l:List α):atI (a::b::c::l) 2=some c:=by
 unfold atI ixN
 rw[if_pos (by decide),if_pos (by simp only[List.length_cons];omega)];rfl
theorem jun{c:Nat}:∀{a b x y:List Nat},c∉a->c∉b->a++c::x=b++c::y->a=b /\ x=y
 | [],[],x,y,_,_,e=>⟨rfl,(List.cons.inj e).2⟩
 | [],k::b,x,y,_,hb,e=>by
  have:=(List.cons.inj e).1
  exact absurd (by rw[this];exact List.mem_cons_self ..) hb
 | k::a,[],x,y,ha,_,e=>by
  have:=(List.cons.inj e).1
  exact absurd (by rw[<-this];exact List.mem_cons_self ..) ha
 | k::a,j::b,x,y,ha,hb,e=>by
  obtain⟨e1,e2⟩:=List.cons.inj e
  obtain⟨h1,h2⟩:=jun (λm=>ha (List.mem_cons_of_mem _ m)) (λm=>hb (List.mem_cons_of_mem _ m)) e2
  exact⟨by rw[e1,h1],h2⟩
theorem juh{c:Nat}{a b x:List Nat}(ha:c∉a)(e:a=b++c::x):False:=ha (by rw[e];simp)
theorem jif{a b:Str}(h:a.cps.toList=b.cps.toList):a=b:=by
 obtain⟨⟨x⟩⟩:=a
 obtain⟨⟨y⟩⟩:=b
 simp at h;rw[h]
theorem jdi{c:Nat}{p q:Str}{r:List Str}:(Str.join ⟨#[c]⟩ (p::q::r)).cps.toList=p.cps.toList++c::(Str.join ⟨#[c]⟩ (q::r)).cps.toList:=by
 show(p++⟨#[c]⟩++Str.join ⟨#[c]⟩ (q::r)).cps.toList=_
 simp only[Str.cps_append,Array.toList_append]
 simp
theorem jmc{c:Nat}:∀{ps qs:List Str},ps≠[]->qs≠[]->(∀p∈ps,c∉p.cps.toList)->(∀q∈qs,c∉q.cps.toList)->Str.join ⟨#[c]⟩ ps=Str.join ⟨#[c]⟩ qs->ps=qs
 | [],_,h,_,_,_,_=>absurd rfl h
 | _,[],_,h,_,_,_=>absurd rfl h
 | [p],[q],_,_,_,_,e=>by rw[show p=q from e]
 | [p],q::q'::r,_,_,hp,_,e=>by
  have:=congrArg (λz:Str=>z.cps.toList) e
  rw[jdi] at this
  exact(juh (hp p (List.mem_cons_self ..)) this).elim
 | p::p'::r,[q],_,_,_,hq,e=>by
  have:=congrArg (λz:Str=>z.cps.toList) e
  rw[jdi] at this
  exact(juh (hq q (List.mem_cons_self ..)) this.symm).elim
 | p::p'::r,q::q'::r',_,_,hp,hq,e=>by
  have:=congrArg (λz:Str=>z.cps.toList) e
  rw[jdi,jdi] at this
  obtain⟨h1,h2⟩:=jun (hp p (List.mem_cons_self ..)) (hq q (List.mem_cons_self ..)) this
  have:=jmc (ps:=p'::r) (qs:=q'::r') (λz=>nomatch z) (λz=>nomatch z) (λa ha=>hp a (List.mem_cons_of_mem _ ha)) (λa ha=>hq a (List.mem_cons_of_mem _ ha)) (jif h2)
  rw[this,jif h1]
theorem jez(x y:Str):Txt.split x y≠[]:=by
 unfold Txt.split
 split
 ·exact λz=>nomatch z
 ·split
  ·exact λz=>nomatch z
  ·rw[StrLaws.partsBetween_eq]
   obtain⟨p,r,e⟩:=StrLaws.partsFrom_ne x y.length 0 (Builtin.Str.occurrences x y 0 x.length (x.length+1))
   rw[e];exact λz=>nomatch z
theorem jhn{c:Nat}{ps:List Str}(h0:ps≠[])(h:∀p∈ps,c∉p.cps.toList):Txt.split (Str.join ⟨#[c]⟩ ps) ⟨#[c]⟩=ps:=
 jmc (jez _ _) h0 (StrLaws.split_free _ c) h (StrLaws.join_split _ _)
theorem jg4(s:Str)(ps:List Str):Txt.join s ps=Str.join s ps:=StrLaws.glued_eq_join s ps
theorem jey{c:Nat}:∀(ps:List Str),ps≠[]->(Str.join ⟨#[c]⟩ ps).length+1=(ps.map (·.length)).sum+ps.length
 | [],h=>absurd rfl h
 | [p],_=>by simp[Str.join]
 | p::q::r,_=>by
  have ih:=jey (c:=c) (q::r) (λz=>nomatch z)
  have e:(Str.join ⟨#[c]⟩ (p::q::r)).length=p.length+1+(Str.join ⟨#[c]⟩ (q::r)).length:=by
   show(p++⟨#[c]⟩++Str.join ⟨#[c]⟩ (q::r)).length=_
   rw[Str.length_append,Str.length_append];rfl
  rw[e]
  simp only[List.map_cons,List.sum_cons,List.length_cons] at ih ⊢
  omega
theorem joe(x:Str)(c:Nat):(Txt.split x ⟨#[c]⟩).length<=x.length+1:=by
 have h:=jey (c:=c) (Txt.split x ⟨#[c]⟩) (jez _ _)
 rw[StrLaws.join_split] at h
 omega
mutual
theorem jx0:∀{d:D} {p:PyData},d.py=some p->d.eq d=true
 | .non,_,_=>by simp[D.eq]
 | .bl b,_,_=>by simp[D.eq]
 | .int i,_,_=>by simp[D.eq]
 | .str x,_,_=>by simp[D.eq]
 | .tup ds,_,e=>by
  simp only[D.py,Option.map_eq_some_iff] at e
  obtain⟨ps,h,_⟩:=e
  simp only[D.eq];exact ji1 h
 | .lst ds,_,e=>by
  simp only[D.py,Option.map_eq_some_iff] at e
  obtain⟨ps,h,_⟩:=e
  simp only[D.eq];exact ji1 h
 | .arg _,_,e=>by simp only[D.py] at e;cases e
 | .ref _,_,e=>by simp only[D.py] at e;cases e
 | .ty _,_,e=>by simp only[D.py] at e;cases e
 | .cls _,_,e=>by simp only[D.py] at e;cases e
 | .exc _,_,e=>by simp only[D.py] at e;cases e
 | .obj _ _,_,e=>by simp only[D.py] at e;cases e
 | .dic _,_,e=>by simp only[D.py] at e;cases e
theorem ji1:∀{ds:List D} {ps:List PyData},D.pys ds=some ps->D.eqs ds ds=true
 | [],_,_=>by simp[D.eqs]
 | d::ds,ps,e=>by
  simp only[D.pys] at e
  split at e
  ·rename_i p qs e1 e2
   simp only[D.eqs,Bool.and_eq_true]
   exact⟨jx0 e1,ji1 e2⟩
  ·cases e
end
mutual
theorem res_id(h:MH):∀(n:Nat) {d:D},D.bnd 0 d=true->res n h d=d
 | 0,d,_=>by unfold res;rfl
 | n+1,.ref k,e=>by simp[D.bnd] at e
 | n+1,.tup xs,e=>by
  simp only[D.bnd] at e
  unfold res;rw[jkc h n e]
 | n+1,.lst xs,e=>by
  simp only[D.bnd] at e
  unfold res;rw[jkc h n e]
 | n+1,.non,_=>by unfold res;rfl
 | n+1,.bl _,_=>by unfold res;rfl
 | n+1,.int _,_=>by unfold res;rfl
 | n+1,.str _,_=>by unfold res;rfl
 | n+1,.arg _,_=>by unfold res;rfl
 | n+1,.ty _,_=>by unfold res;rfl
 | n+1,.cls _,_=>by unfold res;rfl
 | n+1,.exc _,_=>by unfold res;rfl
 | n+1,.obj _ _,_=>by unfold res;rfl
 | n+1,.dic _,_=>by unfold res;rfl
theorem jkc(h:MH):∀(n:Nat) {ds:List D},D.bnds 0 ds=true->ds.map (res n h)=ds
 | n,[],_=>rfl
 | n,d::ds,e=>by
  simp only[D.bnds,Bool.and_eq_true] at e
  rw[List.map_cons,res_id h n e.1,jkc h n e.2]
end
end Z
namespace Clo
def sub(a b:Nat):Prop:=∀i,a.testBit i=true->b.testBit i=true
theorem sub.refl(a:Nat):sub a a:=λ_ h=>h
theorem sub.trans{a b c:Nat}(h:sub a b)(g:sub b c):sub a c:=λi q=>g i (h i q)
theorem sub.antisymm{a b:Nat}(h:sub a b)(g:sub b a):a=b:=Nat.eq_of_testBit_eq λi=>by
 cases x:a.testBit i with
 | true=>rw[h i x]
 | false=>cases y:b.testBit i with
  | true=>rw[g i y] at x;cases x
  | false=>rfl
theorem ji9(a b:Nat):sub a (a|||b):=λi h=>by rw[Nat.testBit_or,h];rfl
theorem jik(a b:Nat):sub b (a|||b):=λi h=>by rw[Nat.testBit_or,h,Bool.or_true]
theorem jtz{a b c:Nat}(h:sub a c)(g:sub b c):sub (a|||b) c:=λi q=>by
 rw[Nat.testBit_or,Bool.or_eq_true] at q
 rcases q with q | q
 ·exact h i q
 ·exact g i q
theorem jt9(a:Nat):sub 0 a:=λi h=>by simp at h
theorem sub.or_eq{a b:Nat}(h:sub a b):a|||b=b:=sub.antisymm (jtz h (sub.refl _)) (jik _ _)
theorem sub.le{a b:Nat}(h:sub a b):a<=b:=by rw[<-h.or_eq];exact Nat.left_le_or
theorem and_ne{a b:Nat}:a&&&b≠0↔∃i,a.testBit i=true /\ b.testBit i=true:=by
 constructor
 ·intro h
  obtain⟨i,hi⟩:=Nat.exists_testBit_of_ne_zero h
  rw[Nat.testBit_and,Bool.and_eq_true] at hi
  exact⟨i,hi⟩
 ·rintro⟨i,h1,h2⟩ e
  have:(a&&&b).testBit i=true:=by rw[Nat.testBit_and,h1,h2];rfl
  rw[e] at this;simp at this
theorem sub.and_ne{a b c:Nat}(h:sub b c)(g:a&&&b≠0):a&&&c≠0:=by
 obtain⟨i,h1,h2⟩:=Clo.and_ne.mp g
 exact Clo.and_ne.mpr ⟨i,h1,h i h2⟩
def jfl(ps:List Nat)(t:Nat):Prop:=∀p∈ps,p&&&t≠0->sub p t
structure Is (ps:List Nat) (s r:Nat):Prop where
 ge:sub s r
 cl:jfl ps r
 le:∀t,sub s t->jfl ps t->sub r t
theorem Is.uniq{ps:List Nat}{s r q:Nat}(a:Is ps s r)(b:Is ps s q):r=q:=sub.antisymm (a.le q b.ge b.cl) (b.le r a.ge a.cl)
def all(ps:List Nat)(s:Nat):Nat:=ps.foldl (·|||·) s
theorem jo2:∀(ps:List Nat) (s:Nat),sub s (all ps s)
 | [],s=>sub.refl _
 | p::ps,s=>(ji9 s p).trans (jo2 ps (s|||p))
theorem jnv:∀(ps:List Nat) (s p:Nat),p∈ps->sub p (all ps s)
 | q::ps,s,p,m=>by
  rcases List.mem_cons.mp m with rfl | m
  ·exact(jik s p).trans (jo2 ps (s|||p))
  ·exact jnv ps (s|||q) p m
theorem jn7(ps:List Nat)(s:Nat):jfl ps (all ps s):=λp m _=>jnv ps s p m
structure Step (ps:List Nat) (F:Nat->Nat):Prop where
 up:∀r,sub r (F r)
 lo:∀r t,jfl ps t->sub r t->sub (F r) t
 fx:∀r,F r=r->jfl ps r
structure Mid (ps:List Nat) (s r:Nat):Prop where
 ge:sub s r
 le:∀t,sub s t->jfl ps t->sub r t
theorem Mid.start(ps:List Nat)(s:Nat):Mid ps s s:=⟨sub.refl _,λ_ h _=>h⟩
theorem Mid.step{ps:List Nat}{s r:Nat}{F:Nat->Nat}(f:Step ps F)(m:Mid ps s r):Mid ps s (F r):=⟨m.ge.trans (f.up r),λt h c=>f.lo r t c (m.le t h c)⟩
theorem Mid.fin{ps:List Nat}{s r:Nat}{F:Nat->Nat}(f:Step ps F)(m:Mid ps s r)(e:F r=r):Is ps s r:=⟨m.ge,f.fx r e,m.le⟩
theorem Mid.bnd{ps:List Nat}{s r:Nat}(m:Mid ps s r):r<=all ps s:=(m.le _ (jo2 ps s) (jn7 ps s)).le
theorem Step.lt{ps:List Nat}{F:Nat->Nat}(f:Step ps F){r:Nat}(h:F r≠r):r<F r:=Nat.lt_of_le_of_ne (f.up r).le (Ne.symm h)
theorem walk{ps:List Nat}{s:Nat}{F:Nat->Nat}(f:Step ps F){P:Nat->Prop}(h1:∀r,Mid ps s r->F r=r->P r)(h2:∀r,Mid ps s r->F r≠r->P (F r)->P r):∀(n r:Nat),Mid ps s r->all ps s - r<n->P r
 | 0,r,_,h=>absurd h (Nat.not_lt_zero _)
 | n+1,r,m,h=>by
  by_cases e:F r=r
  ·exact h1 r m e
  ·have:=f.lt e
   have:=(m.step f).bnd
   exact h2 r m e (walk f h1 h2 n (F r) (m.step f) (by omega))
def pass(ps:List Nat)(r:Nat):Nat:=ps.foldl (λr p=>if p&&&r≠0 then r|||p else r) r
theorem jkf:∀(ps:List Nat) (r:Nat),sub r (pass ps r)
 | [],r=>sub.refl _
 | p::ps,r=>by
  show sub r (pass ps (if p&&&r≠0 then r|||p else r))
  refine sub.trans ?_ (jkf ps _)
  split
  ·exact ji9 _ _
  ·exact sub.refl _
theorem jpq:∀(ps:List Nat) (r t:Nat),jfl ps t->sub r t->sub (pass ps r) t
 | [],r,t,_,h=>h
 | p::ps,r,t,c,h=>by
  show sub (pass ps (if p&&&r≠0 then r|||p else r)) t
  refine jpq ps _ t (λq m=>c q (List.mem_cons_of_mem _ m)) ?_
  split
  ·rename_i n
   exact jtz h (c p List.mem_cons_self (h.and_ne n))
  ·exact h
theorem jpx:∀(ps:List Nat) (r:Nat),pass ps r=r->jfl ps r
 | [],r,_=>λp m=>by cases m
 | p::ps,r,e=>by
  have e':pass ps (if p&&&r≠0 then r|||p else r)=r:=e
  have u:=jkf ps (if p&&&r≠0 then r|||p else r)
  rw[e'] at u
  have k:(if p&&&r≠0 then r|||p else r)=r:=by
   by_cases n:p&&&r≠0
   ·rw[if_pos n] at u ⊢;exact sub.antisymm u (ji9 _ _)
   ·rw[if_neg n]
  rw[k] at e'
  intro q m n
  rcases List.mem_cons.mp m with rfl | m
  ·rw[if_pos n] at u;exact(jik _ _).trans u
  ·exact jpx ps r e' q m n
theorem je1(ps:List Nat):Step ps (pass ps):=⟨jkf ps,jpq ps,jpx ps⟩
def nearG(s:Nat)(ps:List Nat)(f:Nat):Nat:=ps.foldl (λf p=>if s&&&p≠0 then f|||p else f) f
def near(ps:List Nat)(s:Nat):Nat:=nearG s ps s
theorem ex(ps:List Nat)(s:Nat):∃r,Is ps s r:=walk (P:=λr=>Mid ps s r->∃r,Is ps s r) (je1 ps) (λr _ e m=>⟨r,m.fin (je1 ps) e⟩) (λr m _ h _=>h (m.step (je1 ps))) _ s (Mid.start ps s) (Nat.lt_succ_self _) (Mid.start ps s)
def clo(ps:List Nat)(s:Nat):Nat:=(ex ps s).choose
theorem is(ps:List Nat)(s:Nat):Is ps s (clo ps s):=(ex ps s).choose_spec
theorem Is.eq{ps:List Nat}{s r:Nat}(h:Is ps s r):r=clo ps s:=h.uniq (is ps s)
end Clo
namespace Z
open PySem
theorem band(a b:Nat):Builtin.bitAnd (a:Int) b=((a&&&b:Nat):Int):=by simp[Builtin.bitAnd]
theorem bor(a b:Nat):Builtin.bitOr (a:Int) b=((a|||b:Nat):Int):=by
 rw[PyProof.Rows.bitOr_and,band]
 have:=PyProof.Rows.nat_or_add_and a b
 omega
theorem bandn(a b:Nat):Builtin.bitAnd (a:Int) (Builtin.bitNot b)=((a - (a&&&b):Nat):Int):=by
 rw[PyProof.Rows.bitAnd_not,band]
 have:a&&&b<=a:=Nat.and_le_left
 omega
theorem jl0(a b:Nat):a - (a&&&b)=a^^^(a&&&b):=by
 have h:(a^^^(a&&&b))+(a&&&b)=a:=by
  have h1:=PyProof.Rows.nat_or_add_and (a^^^(a&&&b)) (a&&&b)
  have h2:(a^^^(a&&&b))&&&(a&&&b)=0:=Nat.eq_of_testBit_eq λi=>by
   simp only[Nat.testBit_and,Nat.testBit_xor,Nat.zero_testBit]
   cases a.testBit i<;>cases b.testBit i<;>rfl
  have h3:(a^^^(a&&&b))|||(a&&&b)=a:=Nat.eq_of_testBit_eq λi=>by
   simp only[Nat.testBit_or,Nat.testBit_and,Nat.testBit_xor]
   cases a.testBit i<;>cases b.testBit i<;>rfl
  omega
 omega
theorem bxor(a b:Nat):Builtin.bitXor (a:Int) b=((a^^^b:Nat):Int):=by
 unfold Builtin.bitXor
 rw[bor,band]
 have h:(a^^^b)=(a|||b) - (a&&&b):=by
  have e:a&&&b=(a|||b)&&&(a&&&b):=Nat.eq_of_testBit_eq λi=>by
   simp only[Nat.testBit_or,Nat.testBit_and]
   cases a.testBit i<;>cases b.testBit i<;>rfl
  rw[e,jl0]
  refine Nat.eq_of_testBit_eq λi=> ?_
  simp only[Nat.testBit_or,Nat.testBit_and,Nat.testBit_xor]
  cases a.testBit i<;>cases b.testBit i<;>rfl
 have:a&&&b<=a|||b:=Nat.le_trans Nat.and_le_left Nat.left_le_or
 omega
theorem bitk(a k:Nat):Builtin.bitAnd ((a:Int) / 2^((k:Int)).toNat) 1=if a.testBit k then 1 else 0:=by
 have e:((a:Int) / 2^((k:Int)).toNat)=((a / 2^k:Nat):Int):=by simp
 rw[e,show(1:Int)=((1:Nat):Int) from rfl,band,Nat.and_one_is_mod,Nat.testBit_eq_decide_div_mod_eq]
 by_cases q:a / 2^k % 2=1
 ·simp[q]
 ·have:a / 2^k % 2=0:=by omega
  simp[this]
theorem ne0(a:Nat):((a:Int)!=0)=decide (a≠0):=by
 cases a with
 | zero=>rfl
 | succ n=>simp;omega
theorem okp{b:Nat}(h:b<=100):jke 1 (b:Int):=⟨by omega,by omega,by decide⟩
theorem jty(a i:Nat):(2^a).testBit i=decide (a=i):=by rw[Nat.testBit_two_pow]
end Z
namespace My
open Z
def jbt:Z.D:= .dic [(.inr "bars",(.int 1)),(.inr "feed",(.int 1)),(.inr "earth",(.int 1)),(.inr "breaker",(.int 2)),(.inr "splitter",(.int 2))]
def w_Y8:List (String×Bool):=[("Held",false),("Loaded",false),("Locked",false),("NoBar",false),("NoLock",false),("NoMeasure",false),("NoPermit",false),("NoRow",true),("NoSwitch",false),("NotDead",false),("NotEarthed",false),("NotLocked",false),("NotOpen",false),("Same",false),("Shorted",false)]
def jff:List String:=["Feed","Earth"]
def jfm:List String:=["Breaker","Splitter"]
def jd8:List String:=["Breaker","Splitter"]
def jbr:List String:=["Net"]
def jb6:List String:=["Bundle","Board","Desk"]
def jpr:List String:=["Bundle","Board"]
def fd_common:List String:=["Bundle"]
def fd_place:List String:=["Bundle"]
def fd_power:List String:=["Bundle"]
def fd_pairs:List String:=["Bundle"]
def fd_goals:List String:=["Bundle"]
def jel:List String:=["Board"]
def jfz:List String:=["Board"]
def jg2:List String:=["Board"]
def jdf:List String:=["Board"]
def jbh:List String:=["Desk"]
def b_Q7:Z.MS:=(sSeq (sAsg (mBin dMod (mBin dDiv (mVar 0) (mC (.int 4))) (mVar 1)) (jab 2))
      (sSeq (sIf (tOr (tB (mBin dLt (mBin dMod (mVar 0) (mC (.int 4))) (mC (.int 2)))) (tB (mBin dEq (mVar 1) (mC (.int 1)))))
      (sRet (mBin dAdd (mBin dIx (jcc (jek (ja3 (mC (.str "feed ")) (ja3 (mC (.str "earth ")) mNil)))) (mBin dMod (mVar 0) (mC (.int 2)))) (mFn fStr (ja3 (mVar 2) mNil))))
      jb3)
      (sSeq (sAsg (mBin dMod (mBin dAdd (mBin dAdd (mVar 2) (mC (.int 1))) (mBin dMod (mBin dDiv (mVar 0) (mC (.int 40))) (mBin dSub (mVar 1) (mC (.int 1))))) (mVar 1)) (jab 3))
      (sRet (mBin dAdd (mBin dAdd (mBin dAdd (mBin dIx (jcc (jek (ja3 (mC (.str "breaker ")) (ja3 (mC (.str "splitter ")) mNil)))) (mBin dMod (mVar 0) (mC (.int 2)))) (mFn fStr (ja3 (mVar 2) mNil))) (mC (.str " "))) (mFn fStr (ja3 (mVar 3) mNil)))))))
def z_Q7:Z.MF:=mFun 2 4 b_Q7
def jav:Z.MS:=(sIf (tB (mBin dEq (mSl (mBin dIx (mVar 0) (mVar 1)) oNo (oSo (mC (.int 4)))) (mC (.str "feed"))))
      (sRet (mBin dSub (mVar 1) (mC (.int 1))))
      jb3)
def b_Q6:Z.MS:=(sSeq (sFor (jwy (ja3 (mC (.int 1)) (ja3 (mFn fLen (ja3 (mVar 0) mNil)) mNil))) (jab 1)
      jav)
      (sRet (mUn dNeg (mC (.int 1)))))
def z_Q6:Z.MF:=mFun 1 2 b_Q6
def b_Q2:Z.MS:=(sSeq (sIf (tNot (tTru (mVar 0)))
      (sRet (mC (.str "none")))
      jb3)
      (sRet (mSm jh2 (mC (.str " ")) (ja3 (jcc (jeo 1 [] (lIt (mVar 0)) (jab 0) tYes (mFn fStr (ja3 (mVar 0) mNil)))) mNil))))
def z_Q2:Z.MF:=mFun 1 1 b_Q2
def b_Xh:Z.MS:=(sSeq (sIf (tNot (tB (jli dLe dLe (mC (.int 1)) (mFn fLen (ja3 (mVar 0) mNil)) (mC (.int 9)))))
      (sRet (mC (.bl false)))
      jb3)
      (sSeq (sIf (tAnd (tB (mBin dEq (mBin dIx (mVar 0) (mC (.int 0))) (mC (.str "0")))) (tB (mBin dGt (mFn fLen (ja3 (mVar 0) mNil)) (mC (.int 1)))))
      (sRet (mC (.bl false)))
      jb3)
      (sRet (mFn fAll (ja3 (jcc (jeo 1 [] (lIt (mVar 0)) (jab 0) tYes (mBin (dIn false) (mVar 0) (mC (.str "0123456789"))))) mNil)))))
def z_Xh:Z.MF:=mFun 1 1 b_Xh
def b_Qu:Z.MS:=(sSeq (sIf (tNot (tTru (mFn fAll (ja3 (jcc (jeo 1 [] (lIt (mVar 0)) (jab 0) tYes (jaq z_Xh (ja3 (mVar 0) mNil)))) mNil))))
      (jcd "NoRow" (mC (.str "a word of the row is no number")))
      jb3)
      (sRet (jcc (jeo 1 [] (lIt (mVar 0)) (jab 0) tYes (mFn fInt (ja3 (mVar 0) mNil))))))
def z_Qu:Z.MF:=mFun 1 1 b_Qu
def b_X6:Z.MS:=(sSeq (sIf (tB (mBin dNe (mFn fLen (ja3 (mVar 0) mNil)) (mC (.int 1))))
      (jcd "NoRow" (mC (.str "one number is due")))
      jb3)
      (sRet (mBin dIx (jaq z_Qu (ja3 (mVar 0) mNil)) (mC (.int 0)))))
def z_X6:Z.MF:=mFun 1 1 b_X6
def z_X3:Z.MF:=λ_ _=> .stuck
def b_Y2:Z.MS:=(sSeq (sAsg (jcc (jfj (mVar 0) (ja3 (mC (.str " ")) mNil))) (jab 1))
      (sSeq (sAsg (mBin dIx (mVar 1) (mC (.int 0))) (jab 2))
      (sSeq (sIf (tOr (tB (mBin (dIn true) (mVar 2) (mC jbt))) (tB (mBin dNe (mFn fLen (ja3 (mVar 1) mNil)) (mBin dAdd (mC (.int 1)) (mBin dIx (mC jbt) (mVar 2))))))
      (jcd "NoRow" (mC (.str "no such row")))
      jb3)
      (sRet (mFn jpb (ja3 (mBin dAdd (jcc (jek (ja3 (mVar 2) mNil))) (jaq z_Qu (ja3 (mSl (mVar 1) (oSo (mC (.int 1))) oNo) mNil))) mNil))))))
def z_Y2:Z.MF:=mFun 1 3 b_Y2
def b_Xp:Z.MS:=(sSeq (sAsg (jaq z_Y2 (ja3 (mVar 0) mNil)) (jab 1))
      (sSeq (sIf (tB (mBin dNe (mBin dIx (mVar 1) (mC (.int 0))) (mC (.str "bars"))))
      (jcd "NoRow" (mC (.str "the row of the count is due")))
      jb3)
      (sSeq (sIf (tNot (tB (jli dLe dLe (mC (.int 1)) (mBin dIx (mVar 1) (mC (.int 1))) (mC (.int 10)))))
      (jcd "NoMeasure" (mC (.str "the count of the bars is out of its bounds")))
      jb3)
      (sRet (mBin dIx (mVar 1) (mC (.int 1)))))))
def z_Xp:Z.MF:=mFun 1 2 b_Xp
def z_Qo:Z.MF:=λ_ _=> .stuck
def b_Xg:Z.MS:=(sSeq (sAsg (jaq z_Y2 (ja3 (mVar 0) mNil)) (jab 3))
      (sSeq (sIf (tB (mBin dEq (mBin dIx (mVar 3) (mC (.int 0))) (mC (.str "bars"))))
      (jcd "NoRow" (mC (.str "the row of a switch is due")))
      jb3)
      (sSeq (sIf (tB (mBin dGe (mVar 2) (mC (.int 12))))
      (jcd "NoRow" (mC (.str "one switch too many")))
      jb3)
      (sSeq (sIf (tB (mBin dGe (mFn fMax (ja3 (mSl (mVar 3) (oSo (mC (.int 1))) oNo) mNil)) (mVar 1)))
      (jcd "NoBar" (mC (.str "there is no such bar")))
      jb3)
      (sSeq (sIf (tAnd (tB (mBin dEq (mFn fLen (ja3 (mVar 3) mNil)) (mC (.int 3)))) (tB (mBin dEq (mBin dIx (mVar 3) (mC (.int 1))) (mBin dIx (mVar 3) (mC (.int 2))))))
      (jcd "Same" (mC (.str "a switch leads from a bar to itself")))
      jb3)
      (sRet (mVar 3)))))))
def z_Xg:Z.MF:=mFun 3 4 b_Xg
def b_Q3:Z.MS:=(sSeq (jdh jfm "one" (mVar 0) (mVar 1))
      (jdh jd8 "other" (mVar 0) (mVar 2)))
def z_Q3:Z.MF:=mFun 3 3 b_Q3
def b_Qd:Z.MS:=(jdh jff "bar" (mVar 0) (mVar 1))
def z_Qd:Z.MF:=mFun 2 2 b_Qd
def b_Qe:Z.MS:=(jdh jff "bar" (mVar 0) (mVar 1))
def z_Qe:Z.MF:=mFun 2 2 b_Qe
def b_Q0:Z.MS:=(sSeq (jdh jfm "one" (mVar 0) (mVar 1))
      (jdh jd8 "other" (mVar 0) (mVar 2)))
def z_Q0:Z.MF:=mFun 3 3 b_Q0
def b_Xf:Z.MS:=(sSeq (sAsg (mBin dIx (mVar 0) (mC (.int 0))) (jab 1))
      (sSeq (sIf (tB (mBin dEq (mVar 1) (mC (.str "feed"))))
      (sRet (jfu "Feed" z_Qe (ja3 (mBin dIx (mVar 0) (mC (.int 1))) mNil)))
      jb3)
      (sSeq (sIf (tB (mBin dEq (mVar 1) (mC (.str "earth"))))
      (sRet (jfu "Earth" z_Qd (ja3 (mBin dIx (mVar 0) (mC (.int 1))) mNil)))
      jb3)
      (sSeq (sIf (tB (mBin dEq (mVar 1) (mC (.str "breaker"))))
      (sRet (jfu "Breaker" z_Q3 (ja3 (mBin dIx (mVar 0) (mC (.int 1))) (ja3 (mBin dIx (mVar 0) (mC (.int 2))) mNil))))
      jb3)
      (sRet (jfu "Splitter" z_Q0 (ja3 (mBin dIx (mVar 0) (mC (.int 1))) (ja3 (mBin dIx (mVar 0) (mC (.int 2))) mNil))))))))
def z_Xf:Z.MF:=mFun 1 2 b_Xf
def b_Qv:Z.MS:=(jdh jbr "switches" (mVar 0) (jcc (jeo 1 [] (lIt (mBin dIx (mVar 1) (mC (.int 1)))) (jab 0) tYes (jaq z_Xf (ja3 (mVar 0) mNil)))))
def z_Qv:Z.MF:=mFun 2 2 b_Qv
def b_Qb:Z.MS:=(sSeq (jdh jb6 "yard" (mVar 0) (mTup (ja3 (mBin dIx (mVar 1) (mC (.int 0))) (ja3 (jcc (lList (ja3 (mBin dIx (mVar 1) (mC (.int 1))) mNil))) mNil))))
      (sSeq (jdh jpr "net" (mVar 0) (jfu "Net" z_Qv (ja3 (mFld jb6 "yard" (mVar 0)) mNil)))
      (sSeq (jdh jel "shut" (mVar 0) (mC (.int 0)))
      (sSeq (jdh jfz "locks" (mVar 0) (mC (.int 0)))
      (sSeq (jdh jg2 "given" (mVar 0) mDnew)
      (jdh jdf "last_number" (mVar 0) (mC (.int 0))))))))
def z_Qb:Z.MF:=mFun 2 2 b_Qb
def b_X0:Z.MS:=(sSeq (jdh jb6 "yard" (mVar 0) (mVar 1))
      (sSeq (jdh jbh "board" (mVar 0) (jjf "Board" z_Qb (ja3 (mVar 1) mNil)))
      (sRet (mC (.str "ok")))))
def z_X0:Z.MF:=mFun 2 2 b_X0
def je3:List (String×Z.MF):=[("Desk",z_X0)]
def b_Q4:Z.MS:=(sSeq (sAsg (mBin dIx (mFld jb6 "yard" (mVar 0)) (mC (.int 0))) (jab 2))
      (sSeq (sAsg (mBin dIx (mFld jb6 "yard" (mVar 0)) (mC (.int 1))) (jab 3))
      (sRet (jaj je3 "begin" (mVar 0) (ja3 (mTup (ja3 (mVar 2) (ja3 (mBin dAdd (mVar 3) (jcc (jek (ja3 (jaq z_Xg (ja3 (mVar 1) (ja3 (mVar 2) (ja3 (mFn fLen (ja3 (mVar 3) mNil)) mNil)))) mNil)))) mNil))) mNil)))))
def z_Q4:Z.MF:=mFun 2 4 b_Q4
def jwk:Z.MS:=(sRet (mBin dEq (mBin dAnd (mBin dShr (mVar 0) (mVar 1)) (mC (.int 1))) (mC (.int 1))))
def jgy:Z.MF:=mFun 2 2 jwk
def z_Q9:Z.MF:=λ_ _=> .stuck
def z_X8:Z.MF:=λ_ _=> .stuck
def b_Qq:Z.MS:=(sIf (tNot (tB (jli dLe dLt (mC (.int 0)) (mVar 1) (mFn fLen (ja3 (mBin dIx (mVar 0) (mC (.int 1))) mNil)))))
      (jcd "NoSwitch" (mC (.str "there is no such switch")))
      jb3)
def z_Qq:Z.MF:=mFun 2 2 b_Qq
def b_Xx:Z.MS:=(sRet (mBin dAnd (mVar 0) (mUn dNeg (mVar 0))))
def z_Xx:Z.MF:=mFun 1 1 b_Xx
def b_Qi:Z.MS:=(sRet (mC (.bl false)))
def z_Qi:Z.MF:=mFun 1 1 b_Qi
def b_Q5:Z.MS:=(sRet (mC (.bl true)))
def z_Q5:Z.MF:=mFun 1 1 b_Q5
def b_Qw:Z.MS:=(sRet (mC (.int 0)))
def z_Qw:Z.MF:=mFun 1 1 b_Qw
def b_Qj:Z.MS:=(sRet (mBin dOr (mBin dShl (mC (.int 1)) (mFld jfm "one" (mVar 0))) (mBin dShl (mC (.int 1)) (mFld jd8 "other" (mVar 0)))))
def z_Qj:Z.MF:=mFun 1 1 b_Qj
def b_Qc:Z.MS:=(sRet (mBin dOr (mBin dShl (mC (.int 1)) (mFld jfm "one" (mVar 0))) (mBin dShl (mC (.int 1)) (mFld jd8 "other" (mVar 0)))))
def z_Qc:Z.MF:=mFun 1 1 b_Qc
def b_Qf:Z.MS:=(sRet (jcc (jeo 2 [1] (lEnum (ja3 (mFld jbr "switches" (mVar 0)) mNil)) (gTup [0,1]) (tTru (jaq jgy (ja3 (mVar 2) (ja3 (mVar 0) mNil)))) (mVar 1))))
def z_Qf:Z.MF:=mFun 2 2 b_Qf
def jc2:List (String×Z.MF):=[("Switch",z_Qw),("Feed",z_Qw),("Earth",z_Qw),("Breaker",z_Qj),("Splitter",z_Qc)]
def jbl:List (String×Z.MF):=[("Net",z_Qf)]
def b_Q8:Z.MS:=(sSeq (sAsg (jcc (jeo 1 [] (lIt (jaj jbl "shut_ones" (mVar 0) (ja3 (mVar 1) mNil))) (jab 0) tYes (jaj jc2 "joins" (mVar 0) mNil))) (jab 3))
      (sSeq (sAsg (mVar 2) (jab 4))
      (sSeq (sAsg (mC .non) (jab 5))
      (sSeq (jcm (tB (mBin dNe (mVar 4) (mVar 5)))
      (sSeq (sAsg (mVar 4) (jab 5))
      (sFor (lIt (mVar 3)) (jab 6)
      (sIf (tTru (mBin dAnd (mVar 6) (mVar 4)))
      (sAsg (mBin dOr (mVar 4) (mVar 6)) (jab 4))
      jb3))))
      (sRet (mVar 4))))))
def z_Q8:Z.MF:=mFun 3 7 b_Q8
def b_Ql:Z.MS:=(sRet (mC (.int 0)))
def z_Ql:Z.MF:=mFun 1 1 b_Ql
def b_Qy:Z.MS:=(sRet (mBin dShl (mC (.int 1)) (mFld jff "bar" (mVar 0))))
def z_Qy:Z.MF:=mFun 1 1 b_Qy
def jd7:List (String×Z.MF):=[("Switch",z_Ql),("Feed",z_Qy),("Earth",z_Ql),("Breaker",z_Ql),("Splitter",z_Ql)]
def jbm:List (String×Z.MF):=[("Net",z_Q8)]
def b_Qh:Z.MS:=(sSeq (sAsg (mC (.int 0)) (jab 2))
      (sSeq (sFor (lIt (jaj jbl "shut_ones" (mVar 0) (ja3 (mVar 1) mNil))) (jab 3)
      (sAsg (mBin dOr (mVar 2) (jaj jd7 "feeds" (mVar 3) mNil)) (jab 2)))
      (sRet (jaj jbm "joined_bars" (mVar 0) (ja3 (mVar 1) (ja3 (mVar 2) mNil))))))
def z_Qh:Z.MF:=mFun 2 4 b_Qh
def jcv:List (String×Z.MF):=[("Switch",z_Qi),("Feed",z_Qi),("Earth",z_Qi),("Breaker",z_Qi),("Splitter",z_Q5)]
def jce:List (String×Z.MF):=[("Net",z_Qh)]
def b_Ya:Z.MS:=(sSeq (sAsg (mBin dIx (mFld jbr "switches" (mVar 0)) (mVar 2)) (jab 3))
      (sSeq (sIf (tNot (tTru (jaj jcv "gentle" (mVar 3) mNil)))
      (sRet (mC (.bl false)))
      jb3)
      (sSeq (sAsg (mBin dAnd (mVar 1) (mUn dInv (mBin dShl (mC (.int 1)) (mVar 2)))) (jab 4))
      (sSeq (sAsg (jaj jc2 "joins" (mVar 3) mNil) (jab 5))
      (sSeq (sIf (tNot (tTru (mBin dAnd (mVar 5) (jaj jce "live_bars" (mVar 0) (ja3 (mVar 4) mNil)))))
      (sRet (mC (.bl false)))
      jb3)
      (sRet (mBin dNe (mBin dAnd (mVar 5) (mUn dInv (jaj jbm "joined_bars" (mVar 0) (ja3 (mVar 4) (ja3 (jaq z_Xx (ja3 (mVar 5) mNil)) mNil))))) (mC (.int 0)))))))))
def z_Ya:Z.MF:=mFun 3 6 b_Ya
def b_X4:Z.MS:=(sRet (mBin dXor (mVar 0) (mBin dShl (mC (.int 1)) (mVar 1))))
def z_X4:Z.MF:=mFun 2 2 b_X4
def b_Qg:Z.MS:=(sRet (mC (.int 0)))
def z_Qg:Z.MF:=mFun 1 1 b_Qg
def b_Qm:Z.MS:=(sRet (mBin dShl (mC (.int 1)) (mFld jff "bar" (mVar 0))))
def z_Qm:Z.MF:=mFun 1 1 b_Qm
def jcw:List (String×Z.MF):=[("Switch",z_Qg),("Feed",z_Qg),("Earth",z_Qm),("Breaker",z_Qg),("Splitter",z_Qg)]
def b_Qn:Z.MS:=(sSeq (sAsg (mC (.int 0)) (jab 2))
      (sSeq (sFor (lIt (jaj jbl "shut_ones" (mVar 0) (ja3 (mVar 1) mNil))) (jab 3)
      (sAsg (mBin dOr (mVar 2) (jaj jcw "earths" (mVar 3) mNil)) (jab 2)))
      (sRet (mVar 2))))
def z_Qn:Z.MF:=mFun 2 4 b_Qn
def jd4:List (String×Z.MF):=[("Net",z_Qn)]
def b_Q1:Z.MS:=(sRet (jaj jbm "joined_bars" (mVar 0) (ja3 (mVar 1) (ja3 (jaj jd4 "led_bars" (mVar 0) (ja3 (mVar 1) mNil)) mNil))))
def z_Q1:Z.MF:=mFun 2 2 b_Q1
def jch:List (String×Z.MF):=[("Net",z_Q1)]
def b_Qx:Z.MS:=(sRet (mBin dEq (mBin dAnd (jaj jce "live_bars" (mVar 0) (ja3 (mVar 1) mNil)) (jaj jch "earthed_bars" (mVar 0) (ja3 (mVar 1) mNil))) (mC (.int 0))))
def z_Qx:Z.MF:=mFun 2 2 b_Qx
def jfa:List (String×Z.MF):=[("Net",z_Qx)]
def b_Y4:Z.MS:=(sRet (mNotV (jaj jfa "is_safe" (mVar 0) (ja3 (jaq z_X4 (ja3 (mVar 1) (ja3 (mVar 2) mNil))) mNil))))
def z_Y4:Z.MF:=mFun 3 3 b_Y4
def b_Xz:Z.MS:=(sSeq (jja (jaq z_Qq (ja3 (mVar 0) (ja3 (mVar 2) mNil))))
      (sSeq (sAsg (jfu "Net" z_Qv (ja3 (mVar 0) mNil)) (jab 3))
      (sSeq (sIf (tTru (jaq z_Ya (ja3 (mVar 3) (ja3 (mVar 1) (ja3 (mVar 2) mNil)))))
      (jcd "Loaded" (mC (.str "a splitter would part or join a load")))
      jb3)
      (sSeq (sIf (tTru (jaq z_Y4 (ja3 (mVar 3) (ja3 (mVar 1) (ja3 (mVar 2) mNil)))))
      (jcd "Shorted" (mC (.str "a bar would be live and earthed")))
      jb3)
      (sRet (jaq z_X4 (ja3 (mVar 1) (ja3 (mVar 2) mNil))))))))
def z_Xz:Z.MF:=mFun 3 4 b_Xz
def b_X1:Z.MS:=(sSeq (sAsg (mC (.int 0)) (jab 1))
      (sSeq (sForV (mFld jg2 "given" (mVar 0)) (jab 2)
      (sAsg (mBin dOr (mVar 1) (mBin dIx (mVar 2) (mC (.int 1)))) (jab 1)))
      (sRet (mVar 1))))
def z_X1:Z.MF:=mFun 1 3 b_X1
def jk7:List (String×Z.MF):=[("Board",z_X1)]
def b_X7:Z.MS:=(sSeq (jja (jaq z_Qq (ja3 (mFld jb6 "yard" (mVar 0)) (ja3 (mVar 1) mNil))))
      (sSeq (sIf (tTru (jaq jgy (ja3 (mFld jfz "locks" (mVar 0)) (ja3 (mVar 1) mNil))))
      (jcd "Locked" (mC (.str "the switch is locked")))
      jb3)
      (sSeq (sIf (tTru (jaq jgy (ja3 (jaj jk7 "held" (mVar 0) mNil) (ja3 (mVar 1) mNil))))
      (jcd "Held" (mC (.str "a permit holds the switch")))
      jb3)
      (sSeq (jdh jel "shut" (mVar 0) (jaq z_Xz (ja3 (mFld jb6 "yard" (mVar 0)) (ja3 (mFld jel "shut" (mVar 0)) (ja3 (mVar 1) mNil)))))
      (sRet (mFld jel "shut" (mVar 0)))))))
def z_X7:Z.MF:=mFun 2 2 b_X7
def z_Qs:Z.MF:=λ_ _=> .stuck
def jfq:List (String×Z.MF):=[("Board",z_Q9)]
def jqf:List (String×Z.MF):=[("Board",z_X8)]
def jkb:List (String×Z.MF):=[("Board",z_X7)]
def jj2:List (String×Z.MF):=[("Board",z_Qs)]
def b_X9:Z.MS:=(sSeq (sIf (tB (mBin dEq (mVar 1) (mC (.str "turn"))))
      (sRet (mIf (tTru (jaq jgy (ja3 (jaj jkb "turn" (mFld jbh "board" (mVar 0)) (ja3 (mVar 2) mNil)) (ja3 (mVar 2) mNil)))) (mC (.str "shut")) (mC (.str "open"))))
      jb3)
      (sSeq (sIf (tB (mBin dEq (mVar 1) (mC (.str "lock"))))
      (jja (jaj jqf "lock" (mFld jbh "board" (mVar 0)) (ja3 (mVar 2) mNil)))
      jb3)
      (sSeq (sIf (tB (mBin dEq (mVar 1) (mC (.str "unlock"))))
      (jja (jaj jj2 "unlock" (mFld jbh "board" (mVar 0)) (ja3 (mVar 2) mNil)))
      jb3)
      (sSeq (sIf (tB (mBin dEq (mVar 1) (mC (.str "back"))))
      (jja (jaj jfq "give_back" (mFld jbh "board" (mVar 0)) (ja3 (mVar 2) mNil)))
      jb3)
      (sRet (mC (.str "ok")))))))
def z_X9:Z.MF:=mFun 3 3 b_X9
def z_Qt:Z.MF:=λ_ _=> .stuck
def z_X5:Z.MF:=λ_ _=> .stuck
def b_Y3:Z.MS:=(sRet (mSm jh2 (mC (.str " ")) (ja3 (mBin dAdd (jcc (jek (ja3 (mBin dIx (mVar 0) (mC (.int 0))) mNil))) (jcc (jeo 1 [] (lIt (mSl (mVar 0) (oSo (mC (.int 1))) oNo)) (jab 0) tYes (mFn fStr (ja3 (mVar 0) mNil))))) mNil)))
def z_Y3:Z.MF:=mFun 1 1 b_Y3
def b_Y9:Z.MS:=(sSeq (sAsg (mBin dIx (mVar 0) (mC (.int 0))) (jab 1))
      (sRet (mSm jh2 (mC (.str "\n")) (ja3 (mBin dAdd (jcc (jek (ja3 (mJs (jo0 (mC (.str "bars ")) (jo0 (mFmt (mVar 1)) jNil))) mNil))) (jcc (jeo 1 [] (lIt (mBin dIx (mVar 0) (mC (.int 1)))) (jab 0) tYes (jaq z_Y3 (ja3 (mVar 0) mNil))))) mNil))))
def z_Y9:Z.MF:=mFun 1 2 b_Y9
def b_Qz:Z.MS:=(sRet (jcc (jeo 1 [0] (jps (ja3 (mBits (mVar 0)) mNil)) (jab 0) (tTru (jaq jgy (ja3 (mVar 1) (ja3 (mVar 0) mNil)))) (mVar 0))))
def z_Qz:Z.MF:=mFun 1 1 b_Qz
def z_Yf:Z.MF:=λ_ _=> .stuck
def z_Xu:Z.MF:=λ_ _=> .stuck
def z_Qr:Z.MF:=λ_ _=> .stuck
def b_Qa:Z.MS:=(sRet (mFld jel "shut" (mVar 0)))
def z_Qa:Z.MF:=mFun 1 1 b_Qa
def jjw:List (String×Z.MF):=[("Board",z_Qr)]
def jd2:List (String×Z.MF):=[("Board",z_Qa)]
def b_Xb:Z.MS:=(sSeq (sIf (tB (mBin dEq (mVar 1) (mC (.str "live"))))
      (sRet (jaq z_Q2 (ja3 (jaq z_Qz (ja3 (jaq z_Yf (ja3 (mFld jb6 "yard" (mVar 0)) (ja3 (jaj jd2 "standing" (mFld jbh "board" (mVar 0)) mNil) mNil))) mNil)) mNil)))
      jb3)
      (sSeq (sIf (tB (mBin dEq (mVar 1) (mC (.str "earthed"))))
      (sRet (jaq z_Q2 (ja3 (jaq z_Qz (ja3 (jaq z_Xu (ja3 (mFld jb6 "yard" (mVar 0)) (ja3 (jaj jd2 "standing" (mFld jbh "board" (mVar 0)) mNil) mNil))) mNil)) mNil)))
      jb3)
      (sSeq (sIf (tB (mBin dEq (mVar 1) (mC (.str "locked"))))
      (sRet (jaq z_Q2 (ja3 (jaq z_Qz (ja3 (jaj jjw "locked" (mFld jbh "board" (mVar 0)) mNil) mNil)) mNil)))
      jb3)
      (sSeq (sIf (tB (mBin dEq (mVar 1) (mC (.str "shut"))))
      (sRet (jaq z_Q2 (ja3 (jaq z_Qz (ja3 (jaj jd2 "standing" (mFld jbh "board" (mVar 0)) mNil) mNil)) mNil)))
      jb3)
      (sSeq (sIf (tB (mBin dEq (mVar 1) (mC (.str "show"))))
      (sRet (jaq z_Y9 (ja3 (mFld jb6 "yard" (mVar 0)) mNil)))
      jb3)
      (jcd "NoRow" (mC (.str "no such row"))))))))
def z_Xb:Z.MF:=mFun 2 2 b_Xb
def jcz:List (String×Z.MF):=[("Desk",z_Q4)]
def jku:List (String×Z.MF):=[("Desk",z_X9)]
def jji:List (String×Z.MF):=[("Board",z_Qt)]
def jmb:List (String×Z.MF):=[("Desk",z_X5)]
def jkd:List (String×Z.MF):=[("Desk",z_Xb)]
def b_Xo:Z.MS:=(sSeq (sAsg (jcc (jfj (mVar 1) (ja3 (mC (.str " ")) mNil))) (jab 2))
      (sSeq (sAsg (mBin dIx (mVar 2) (mC (.int 0))) (jab 3))
      (sSeq (sIf (tB (mBin dEq (mVar 3) (mC (.str "bars"))))
      (sRet (jaj je3 "begin" (mVar 0) (ja3 (mTup (ja3 (jaq z_Xp (ja3 (mVar 1) mNil)) (ja3 (jcc (jek mNil)) mNil))) mNil)))
      jb3)
      (sSeq (sIf (tB (mBin dIs (mFld jb6 "yard" (mVar 0)) (mC .non)))
      (jcd "NoRow" (mC (.str "there is no yard yet")))
      jb3)
      (sSeq (sIf (tB (mBin (dIn false) (mVar 3) (mTup (ja3 (mC (.str "feed")) (ja3 (mC (.str "earth")) (ja3 (mC (.str "breaker")) (ja3 (mC (.str "splitter")) mNil)))))))
      (sRet (jaj jcz "add_switch" (mVar 0) (ja3 (mVar 1) mNil)))
      jb3)
      (sSeq (sIf (tB (mBin (dIn false) (mVar 3) (mTup (ja3 (mC (.str "turn")) (ja3 (mC (.str "lock")) (ja3 (mC (.str "unlock")) (ja3 (mC (.str "back")) mNil)))))))
      (sRet (jaj jku "done" (mVar 0) (ja3 (mVar 3) (ja3 (jaq z_X6 (ja3 (mSl (mVar 2) (oSo (mC (.int 1))) oNo) mNil)) mNil))))
      jb3)
      (sSeq (sIf (tB (mBin dEq (mVar 3) (mC (.str "permit"))))
      (sSeq (sAsg (jaj jji "permit" (mFld jbh "board" (mVar 0)) (ja3 (jaq z_X3 (ja3 (mSl (mVar 2) (oSo (mC (.int 1))) oNo) (ja3 (mBin dIx (mFld jb6 "yard" (mVar 0)) (mC (.int 0))) mNil))) mNil)) (jab 4))
      (sRet (mJs (jo0 (mC (.str "permit ")) (jo0 (mFmt (mVar 4)) jNil)))))
      jb3)
      (sSeq (sIf (tB (mBin dEq (mVar 3) (mC (.str "locks"))))
      (sRet (jaq z_Q2 (ja3 (mBin dIx (jaq z_Qo (ja3 (mFld jb6 "yard" (mVar 0)) (ja3 (jaq z_X3 (ja3 (mSl (mVar 2) (oSo (mC (.int 1))) oNo) (ja3 (mBin dIx (mFld jb6 "yard" (mVar 0)) (mC (.int 0))) mNil))) mNil))) (mC (.int 0))) mNil)))
      jb3)
      (sSeq (sIf (tB (mBin dEq (mVar 3) (mC (.str "reach"))))
      (sRet (jaj jmb "reach" (mVar 0) (ja3 (mSl (mVar 2) (oSo (mC (.int 1))) oNo) mNil)))
      jb3)
      (sSeq (sIf (tB (mBin dNe (mFn fLen (ja3 (mVar 2) mNil)) (mC (.int 1))))
      (jcd "NoRow" (mC (.str "no such row")))
      jb3)
      (sRet (jaj jkd "tell" (mVar 0) (ja3 (mVar 3) mNil)))))))))))))
def z_Xo:Z.MF:=mFun 2 5 b_Xo
def jco:List (String×Z.MF):=[("Desk",z_Xo)]
def b_Qp:Z.MS:=(sSeq (sAsg (mC (.bl false)) (jab 2))
      (sSeq (sTry (jja (jaj jco "say" (mVar 0) (lNox (ja3 (mVar 1) mNil)))) (jwl w_Y8
      (sAsg (mC (.bl true)) (jab 2))
      cNil))
      (sRet (mVar 2))))
def z_Qp:Z.MF:=mFun 2 3 b_Qp
def b_Xe:Z.MS:=(sRet (mAnd (mFn fIsi (ja3 (mVar 0) (ja3 (mC (.ty "str")) mNil))) (mBin dEq (mVar 0) (mVar 1))))
def z_Xe:Z.MF:=mFun 2 2 b_Xe
def b_Xl:Z.MS:=(sSeq (sAsg (mFn fInt (ja3 (mSl (mBin dIx (mVar 1) (mC (.int 0))) (oSo (mC (.int 5))) oNo) mNil)) (jab 3))
      (sSeq (sAsg (jaq z_Q7 (ja3 (mVar 2) (ja3 (mVar 3) mNil))) (jab 4))
      (sSeq (sIf (tB (mBin dEq (mFn fLen (ja3 (mVar 1) mNil)) (mC (.int 13))))
      (sRet (jaq z_Qp (ja3 (mVar 0) (ja3 (mVar 4) mNil))))
      jb3)
      (sSeq (sAsg (jaq z_Q6 (ja3 (mVar 1) mNil)) (jab 5))
      (sSeq (sIf (tAnd (tB (mBin dGe (mVar 5) (mC (.int 0)))) (tNot (tTru (jaq z_Xe (ja3 (jaj jco "say" (mVar 0) (ja3 (mBin dAdd (mC (.str "turn ")) (mFn fStr (ja3 (mVar 5) mNil))) mNil)) (ja3 (mC (.str "shut")) mNil))))))
      (sRet (mC (.bl false)))
      jb3)
      (sSeq (sIf (tAnd (tB (mBin dGe (mVar 5) (mC (.int 0)))) (tNot (tTru (jaq z_Xe (ja3 (jaj jco "say" (mVar 0) (ja3 (mC (.str "shut")) mNil)) (ja3 (mFn fStr (ja3 (mVar 5) mNil)) mNil))))))
      (sRet (mC (.bl false)))
      jb3)
      (sSeq (jfc (mVar 1) (mVar 4))
      (sRet (mAnd (jaq z_Xe (ja3 (jaj jco "say" (mVar 0) (ja3 (mVar 4) mNil)) (ja3 (mC (.str "ok")) mNil))) (jaq z_Xe (ja3 (jaj jco "say" (mVar 0) (ja3 (mC (.str "shut")) mNil)) (ja3 (mC (.str "none")) mNil))))))))))))
def z_Xl:Z.MF:=mFun 3 6 b_Xl
def b_Xi:Z.MS:=(sSeq (sAsg (mBin dMod (mVar 2) (mC (.int 16))) (jab 3))
      (sSeq (sIf (tB (mBin dEq (mVar 3) (mC (.int 5))))
      (sSeq (jth (mVar 1))
      (sSeq (jfc (mVar 1) (mBin dAdd (mC (.str "bars ")) (mFn fStr (ja3 (mBin dAdd (mC (.int 1)) (mBin dMod (mBin dDiv (mVar 2) (mC (.int 16))) (mC (.int 10)))) mNil))))
      (sRet (mAnd (jaq z_Xe (ja3 (jaj jco "say" (mVar 0) (ja3 (mBin dIx (mVar 1) (mC (.int 0))) mNil)) (ja3 (mC (.str "ok")) mNil))) (jaq z_Xe (ja3 (jaj jco "say" (mVar 0) (ja3 (mC (.str "show")) mNil)) (ja3 (mBin dIx (mVar 1) (mC (.int 0))) mNil)))))))
      jb3)
      (sSeq (sIf (tB (mBin dGt (mVar 3) (mC (.int 11))))
      (sRet (jaq z_Xe (ja3 (jaj jco "say" (mVar 0) (ja3 (mC (.str "show")) mNil)) (ja3 (mSm jh2 (mC (.str "\n")) (ja3 (mVar 1) mNil)) mNil))))
      jb3)
      (sRet (jaq z_Xl (ja3 (mVar 0) (ja3 (mVar 1) (ja3 (mBin dDiv (mVar 2) (mC (.int 16))) mNil))))))))
def z_Xi:Z.MF:=mFun 3 4 b_Xi
def b_Ye:Z.MS:=(sSeq (sAsg (jcc (jfj (mVar 0) (ja3 (mC (.str "\n")) mNil))) (jab 1))
      (sSeq (sAsg (jaq z_Xp (ja3 (mBin dIx (mVar 1) (mC (.int 0))) mNil)) (jab 2))
      (sSeq (sAsg (jkm (jek mNil)) (jab 3))
      (sSeq (sFor (lIt (mSl (mVar 1) (oSo (mC (.int 1))) oNo)) (jab 4)
      (jfc (mVar 3) (jaq z_Xg (ja3 (mVar 4) (ja3 (mVar 2) (ja3 (mFn fLen (ja3 (mVar 3) mNil)) mNil))))))
      (jkx 3 (sRet (mTup (ja3 (mVar 2) (ja3 (mVar 3) mNil)))))))))
def z_Ye:Z.MF:=mFun 1 5 b_Ye
def jd0:Z.MS:=(sAsg (mBin dMod (mBin dAdd (mBin dMul (mVar 3) (mBin dAdd (mBin dMul (mC (.int 2)) (mVar 1)) (mC (.int 1013)))) (mVar 4)) (mC (.int 999999000001))) (jab 3))
def b_Xd:Z.MS:=(sSeq (sAsg (mBin dAdd (mC (.int 1)) (mBin dDiv (mFn fLen (ja3 (mVar 0) mNil)) (mC (.int 8)))) (jab 2))
      (sSeq (sAsg (mBin dAdd (mBin dMul (mC (.int 31)) (mVar 1)) (mC (.int 5))) (jab 3))
      (sSeq (sFor (lIt (mSlS (mVar 0) (oSo (mBin dMod (mVar 1) (mVar 2))) oNo (oSo (mVar 2)))) (jab 4)
      jd0)
      (sRet (mBin dMod (mBin dMul (mVar 3) (mBin dAdd (mBin dAdd (mBin dMod (mBin dDiv (mVar 3) (mC (.int 7))) (mC (.int 99991))) (mBin dMul (mC (.int 3)) (mVar 1))) (mC (.int 1)))) (mC (.int 999999000001)))))))
def z_Xd:Z.MF:=mFun 2 5 b_Xd
def b_Qk:Z.MS:=(sSeq (jdh jb6 "yard" (mVar 0) (mC .non))
      (jdh jbh "board" (mVar 0) (mC .non)))
def z_Qk:Z.MF:=mFun 1 1 b_Qk
def jhw:Z.MS:=(sIf (tOr (tNot (tTru (jaq z_Qp (ja3 (mBin dIx (mVar 1) (mVar 3)) (ja3 (mC (.str "show")) mNil))))) (tNot (tTru (jaq z_Xe (ja3 (jaj jco "say" (mBin dIx (mVar 1) (mVar 3)) (ja3 (mBin dIx (mBin dIx (mVar 2) (mVar 3)) (mC (.int 0))) mNil)) (ja3 (mC (.str "ok")) mNil))))))
      (sRet (mC (.bl false)))
      jb3)
def jgk:Z.MS:=(sIf (tNot (tTru (jaq z_Xi (ja3 (mBin dIx (mVar 1) (mBin dMod (mVar 4) (mC (.int 2)))) (ja3 (mBin dIx (mVar 2) (mBin dMod (mVar 4) (mC (.int 2)))) (ja3 (mBin dDiv (mVar 4) (mC (.int 2))) mNil))))))
      (sRet (mC (.bl false)))
      jb3)
def jgc:Z.MS:=(sSeq (sAsg (mSm jh2 (mC (.str "\n")) (ja3 (mBin dIx (mVar 2) (mVar 3)) mNil)) (jab 5))
      (sIf (tOr (tNot (tTru (jaq z_Xe (ja3 (jaj jco "say" (mBin dIx (mVar 1) (mVar 3)) (ja3 (mC (.str "show")) mNil)) (ja3 (mVar 5) mNil))))) (tNot (tTru (jaq z_Xe (ja3 (jaq z_Y9 (ja3 (jaq z_Ye (ja3 (mVar 5) mNil)) mNil)) (ja3 (mVar 5) mNil))))))
      (sRet (mC (.bl false)))
      jb3))
def jp8:Z.MS:=(sSeq (sAsg (jcc (jek (ja3 (jjf "Desk" z_Qk mNil) (ja3 (jjf "Desk" z_Qk mNil) mNil)))) (jab 1))
      (sSeq (sAsg (jcc (jeo 1 [0] (jps (ja3 (mC (.int 2)) mNil)) (jab 0) tYes (jkm (jek (ja3 (mBin dAdd (mC (.str "bars ")) (mFn fStr (ja3 (mBin dAdd (mC (.int 1)) (mBin dMod (jaq z_Xd (ja3 (mVar 1) (ja3 (mVar 0) mNil))) (mC (.int 10)))) mNil))) mNil))))) (jab 2))
      (sSeq (sFor (jps (ja3 (mC (.int 2)) mNil)) (jab 3)
      jhw)
      (sSeq (sFor (lIt (mSl (mVar 0) oNo (oSo (mC (.int 63))))) (jab 4)
      jgk)
      (sSeq (sFor (jps (ja3 (mC (.int 2)) mNil)) (jab 3)
      jgc)
      (sRet (mC (.bl true))))))))
def jx6:Z.MF:=mFun 1 6 jp8
end My
namespace My
open Z PySem
def sd(s:Str×List Int):D:= .tup (.str s.1::s.2.map .int)
def SwOk(c:Int)(s:Str×List Int):Prop:=
 (∃b,0<=b /\ b<c /\ (s=(("feed":Str),[b]) \/ s=(("earth":Str),[b]))) \/ ∃a b,0<=a /\ a<c /\ 0<=b /\ b<c /\ a≠b /\ (s=(("breaker":Str),[a,b]) \/ s=(("splitter":Str),[a,b]))
def jmn(c:Int)(sws:List (Str×List Int)):D:= .tup [.int c,.lst (sws.map sd)]
abbrev W(n:Int):Str:=numS n
theorem w_fin:∀n:Fin 11,(W n.val).cps.toList.length<=2 /\ 1<=(W n.val).cps.toList.length /\ (32∉(W n.val).cps.toList) /\ (10∉(W n.val).cps.toList):=by decide+kernel
theorem w_of{n:Int}(h0:0<=n)(h1:n<=10):(W n).length<=2 /\ 1<=(W n).length /\ (32∉(W n).cps.toList) /\ (10∉(W n).cps.toList):=by
 obtain⟨m,rfl⟩:∃m:Nat,n=m:=⟨n.toNat,by omega⟩
 have:=w_fin ⟨m,by omega⟩
 simpa [Str.length] using this
def rowT(s:Str×List Int):Str:=Str.join ⟨#[32]⟩ (s.1::s.2.map W)
theorem SwOk.bars{c:Int}{s:Str×List Int}(ok:SwOk c s):(∀b∈s.2,0<=b /\ b<c) /\ s.2.length<=2 /\ s.2≠[] /\ s.1.length<=8 /\ (32∉s.1.cps.toList) /\ (10∉s.1.cps.toList):=by
 have hs:∀k:Str,(k="feed" \/ k="earth" \/ k="breaker" \/ k="splitter")->k.length<=8 /\ (32∉k.cps.toList) /\ (10∉k.cps.toList):=by
  rintro k (rfl | rfl | rfl | rfl)<;>decide+kernel
 rcases ok with⟨b,h0,h1,rfl | rfl⟩ | ⟨a,b,h0,h1,h2,h3,_,rfl | rfl⟩
 ·exact⟨by simp;omega,by simp,by simp,hs _ (by simp)⟩
 ·exact⟨by simp;omega,by simp,by simp,hs _ (by simp)⟩
 ·exact⟨by simp;omega,by simp,by simp,hs _ (by simp)⟩
 ·exact⟨by simp;omega,by simp,by simp,hs _ (by simp)⟩
theorem jj5{l:List Nat}{m:Nat}(h:∀x∈l,x<=m):l.sum<=l.length*m:=by
 induction l with
 | nil=>simp
 | cons a l ih=>
  have h1:=h a (List.mem_cons_self ..)
  have h2:=ih λx hx=>h x (List.mem_cons_of_mem _ hx)
  simp only[List.sum_cons,List.length_cons,Nat.succ_mul]
  omega
theorem e32:Str.ofString " "=⟨#[32]⟩:=by decide+kernel
theorem e10:Str.ofString "\n"=⟨#[10]⟩:=by decide+kernel
theorem row_of(s:Str×List Int)(c:Int)(hc:c<=10)(ok:SwOk c s)(h:MH):z_Y3 [sd s] h= .ok (.str (rowT s)) h:=by
 obtain⟨hb,hl,hne,hk,_,_⟩:=ok.bars
 have comp:compLoop (jab 0) tYes (mFn fStr (ja3 (mVar 0) mNil)) [none] (s.2.map D.int) h= .ok ((s.2.map W).map D.str) h:=by
  have:=jbk (g:=jab 0) (t:=tYes) (h:=h) (m:=mFn fStr (ja3 (mVar 0) mNil)) (ρ0:=[none]) (λ(b:Int)=>D.int b) (λb=>[some (.int b)]) (λb=>D.str (W b)) s.2 (λb hm=>by
   refine⟨by simp,by simp,?_⟩
   have:=hb b hm
   have hl:b.natAbs.log2<1920:=Nat.lt_of_le_of_lt (Nat.log2_le_self _) (by omega)
   simp[chk,hl])
  rw[this,List.map_map];rfl
 have hlw:((s.1::s.2.map W).map (·.length)).sum<=16:=by
  have:((s.2.map W).map (·.length)).sum<=(s.2.map W).length*2:=by
   have:=jj5 (l:=(s.2.map W).map (·.length)) (m:=2) (by
    intro x hx
    simp only[List.mem_map] at hx
    obtain⟨y,⟨b,hb',rfl⟩,rfl⟩:=hx
    have:=hb b hb'
    exact(w_of this.1 (by omega)).1)
   simpa using this
  simp only[List.map_cons,List.sum_cons,List.length_map] at this ⊢
  omega
 have hz:s.1.length+((s.2.map W).map (·.length)).sum+(s.2.length+1)<=16777216:=by
  simp only[List.map_cons,List.sum_cons] at hlw
  omega
 have e1:(⟨#[32]⟩:Str).length=1:=rfl
 have hl2:s.2.length+1<=16777216:=by omega
 have hl3:1+s.2.length<=16777216:=by omega
 have hl4:s.2.length<16777216:=by omega
 have sp:jko (D.str s.1::(s.2.map W).map D.str)=some (s.1::s.2.map W):=by
  rw[<-List.map_cons,jit]
 simp only[z_Y3,b_Y3,sd]
 simp[-List.map_map,e32,comp,chk,hl2,hl3,hl4,e1,hz,jg4,rowT]
def jai(c:Int):Str:=rowT (("bars":Str),[c])
theorem jpm(c:Int):Str.empty++Str.ofString "bars "++W c=jai c:=by
 have:Str.ofString "bars "=Str.ofString "bars"++⟨#[32]⟩:=by decide+kernel
 rw[this]
 refine jif ?_
 unfold jai rowT
 rw[List.map_cons,List.map_nil,jdi]
 simp[Str.cps_append,Str.join,Str.empty]
def jdu(c:Int)(sws:List (Str×List Int)):Str:=Str.join ⟨#[10]⟩ (jai c::sws.map rowT)
def YOk(c:Int)(sws:List (Str×List Int)):Prop:=1<=c /\ c<=10 /\ sws.length<=12 /\ ∀s∈sws,SwOk c s
theorem jci{k:Str}{bs:List Int}(hk:k.length<=8)(k32:32∉k.cps.toList)(k10:10∉k.cps.toList)(hb:∀b∈bs,0<=b /\ b<=10)(hl:bs.length<=2):
  (rowT (k,bs)).length<=20 /\ (10∉(rowT (k,bs)).cps.toList) /\ Txt.split (rowT (k,bs)) ⟨#[32]⟩=k::bs.map W:=by
 have hw:∀p∈k::bs.map W,32∉p.cps.toList /\ 10∉p.cps.toList /\ p.length<=8:=by
  intro p hp
  rcases List.mem_cons.mp hp with rfl | hp
  ·exact⟨k32,k10,hk⟩
  ·obtain⟨b,hb',rfl⟩:=List.mem_map.mp hp
   have:=w_of (hb b hb').1 (hb b hb').2
   exact⟨this.2.2.1,this.2.2.2,by omega⟩
 refine⟨?_,?_,jhn (λz=>nomatch z) λp hp=>(hw p hp).1⟩
 ·have:=jey (c:=32) (k::bs.map W) (λz=>nomatch z)
  show(Str.join ⟨#[32]⟩ (k::bs.map W)).length<=20
  have h2:((k::bs.map W).map (·.length)).sum<=8+2*2:=by
   have:=jj5 (l:=(bs.map W).map (·.length)) (m:=2) (by
    intro x hx
    simp only[List.mem_map] at hx
    obtain⟨y,⟨b,hb',rfl⟩,rfl⟩:=hx
    exact(w_of (hb b hb').1 (hb b hb').2).1)
   simp only[List.length_map] at this
   simp only[List.map_cons,List.sum_cons]
   omega
  simp only[List.length_cons,List.length_map] at this
  omega
 ·unfold rowT
  have gen:∀ps:List Str,(∀p∈ps,10∉p.cps.toList)->10∉(Str.join ⟨#[32]⟩ ps).cps.toList:=by
   intro ps
   induction ps with
   | nil=>intro _;simp[Str.join,Str.empty]
   | cons p ps ih=>
    intro hp
    cases ps with
    | nil=>exact hp p (List.mem_cons_self ..)
    | cons q r=>
     rw[jdi]
     intro hm
     rcases List.mem_append.mp hm with hm | hm
     ·exact hp p (List.mem_cons_self ..) hm
     ·rcases List.mem_cons.mp hm with hm | hm
      ·exact absurd hm (by decide)
      ·exact ih (λa ha=>hp a (List.mem_cons_of_mem _ ha)) hm
  exact gen _ λp hp=>(hw p hp).2.1
theorem jcb:(Str.ofString "bars").length<=8 /\ 32∉(Str.ofString "bars").cps.toList /\ 10∉(Str.ofString "bars").cps.toList:=by decide+kernel
theorem jm2{c:Int}{sws:List (Str×List Int)}(ok:YOk c sws)(h:MH):z_Y9 [jmn c sws] h= .ok (.str (jdu c sws)) h:=by
 obtain⟨c1,c2,cl,cs⟩:=ok
 have comp:compLoop (jab 0) tYes (jaq z_Y3 (ja3 (mVar 0) mNil)) [none] (sws.map sd) h= .ok ((sws.map rowT).map D.str) h:=by
  have:=jbk (g:=jab 0) (t:=tYes) (h:=h) (m:=jaq z_Y3 (ja3 (mVar 0) mNil)) (ρ0:=[none]) sd (λs=>[some (sd s)]) (λs=>D.str (rowT s)) sws (λs hm=>by
   refine⟨by simp,by simp,?_⟩
   simp
   exact row_of s c c2 (cs s hm) h)
  rw[this,List.map_map];rfl
 have hlog:c.natAbs.log2<1920:=Nat.lt_of_le_of_lt (Nat.log2_le_self _) (by omega)
 have hbr:=jci (k:="bars") (bs:=[c]) jcb.1 jcb.2.1 jcb.2.2 (by simp;omega) (by simp)
 have hsum:(jai c).length+((sws.map rowT).map (·.length)).sum+(sws.length+1)<=16777216:=by
  have h1:(jai c).length<=20:=hbr.1
  have h2:=jj5 (l:=(sws.map rowT).map (·.length)) (m:=20) (by
   intro x hx
   simp only[List.mem_map] at hx
   obtain⟨y,⟨s,hs,rfl⟩,rfl⟩:=hx
   obtain⟨a1,a2,_,a4,a5,a6⟩:=(cs s hs).bars
   exact(jci (k:=s.1) (bs:=s.2) a4 a5 a6 (λb hb=>⟨(a1 b hb).1,by have:=(a1 b hb).2;omega⟩) a2).1)
  simp only[List.length_map] at h2
  omega
 have e1:(⟨#[10]⟩:Str).length=1:=rfl
 have bt:=jpm c
 have l1:(Str.empty++Str.ofString "bars ").length<=16777216:=by decide+kernel
 have l2:(jai c).length<=16777216:=Nat.le_trans hbr.1 (by decide)
 simp only[z_Y9,b_Y9,jmn]
 simp[-List.map_map,e10,comp,chk,hlog,l1,bt,l2,show sws.length<16777216 by omega,show 1+sws.length<=16777216 by omega,e1,hsum,jg4,jdu]
def jjo(c:Nat):Bool:=decide (48<=c /\ c<=57)
def jen(w:Str):Bool:=decide (1<=w.length)&&decide (w.length<=9)&& !(decide (w.cps.toList[0]?=some 48)&&decide (1<w.length))&&w.cps.toList.all jjo
theorem figs(c:Nat):(!(Builtin.Str.occurrences (Str.ofString "0123456789") ⟨#[c]⟩ 0 (Str.ofString "0123456789").length 1).isEmpty)=jjo c:=by
 rw[StrLaws.found_one]
 have e:(Str.ofString "0123456789").cps.toList=[48,49,50,51,52,53,54,55,56,57]:=by decide+kernel
 rw[e]
 unfold jjo
 by_cases h:48<=c /\ c<=57
 ·rw[decide_eq_true h,decide_eq_true]
  simp;omega
 ·rw[decide_eq_false h,decide_eq_false]
  simp;omega
theorem jom(c:Nat):decide ((⟨#[c]⟩:Str)=Str.ofString "0")=decide (c=48):=by
 have e:Str.ofString "0"=⟨#[48]⟩:=by decide+kernel
 rw[e];simp
theorem jqh(w:Str)(h:MH)(hw:w.length<16777216):z_Xh [.str w] h= .ok (.bl (jen w)) h:=by
 have hl:w.cps.toList.length=w.length:=by simp[Str.length]
 have hle:w.length<=16777216:=by omega
 have hsz:w.cps.size<16777216:=hw
 have comp:compLoop (jab 0) tYes (mBin (dIn false) (mVar 0) (mC (.str "0123456789"))) [none] (w.cps.toList.map λc=>D.str ⟨#[c]⟩) h= .ok ((w.cps.toList.map jjo).map D.bl) h:=by
  have:=jbk (g:=jab 0) (t:=tYes) (h:=h) (m:=mBin (dIn false) (mVar 0) (mC (.str "0123456789"))) (ρ0:=[none]) (λc:Nat=>D.str ⟨#[c]⟩) (λc=>[some (D.str ⟨#[c]⟩)]) (λc=>D.bl (jjo c)) w.cps.toList (λc hm=>by
   refine⟨by simp,by simp,?_⟩
   simp only[mBin,mVar,mC,dIn,jdb,List.getElem?_cons_zero]
   have:=figs c
   simp only[Bool.false_eq_true,if_false]
   rw[this])
  rw[this,List.map_map];rfl
 have hlt:(w.cps.toList.map λc=>D.str ⟨#[c]⟩).length<16777216:=by rw[List.length_map,hl];exact hw
 have e9:((w.length:Int)<=9)↔w.length<=9:=by omega
 have eall:(w.cps.toList.map jjo).all id=w.cps.toList.all jjo:=by simp[List.all_map]
 simp only[z_Xh,b_Xh]
 unfold jen
 by_cases h1:1<=w.length
 ·by_cases h2:w.length<=9
  ·obtain⟨c,r,ec⟩:∃c r,w.cps.toList=c::r:=by
    cases e:w.cps.toList with
    | nil=>rw[e] at hl;simp at hl;omega
    | cons c r=>exact⟨c,r,rfl⟩
   have i0:atI w.cps.toList 0=some c:=by rw[ec];simp
   have g0:w.cps.toList[0]?=some c:=by rw[ec];rfl
   have h1':(1:Int)<=(w.length:Int):=by omega
   have h2':(w.length:Int)<=9:=by omega
   by_cases h3:c=48
   ·by_cases h4:1<w.length
    ·have h4':(1:Int)<(w.length:Int):=by omega
     simp[-List.map_map, -Array.toList_map,chk,hle,h1,h2,h1',h2',i0,jom,h3,h4,h4',g0]
    ·have h4':¬(1:Int)<(w.length:Int):=by omega
     simp[-List.map_map, -Array.toList_map,chk,hle,h1,h2,h1',h2',i0,jom,h3,h4,h4',g0,comp,hsz]
   ·simp[-List.map_map, -Array.toList_map,chk,hle,h1,h2,h1',h2',i0,jom,h3,g0,comp,hsz]
  ·have h2':¬(w.length:Int)<=9:=by omega
   have h1':(1:Int)<=(w.length:Int):=by omega
   simp[chk,hle,h1,h2,h1',h2']
 ·have h1':¬(1:Int)<=(w.length:Int):=by omega
  simp[chk,hle,h1,h1']
def cntK(k:Str):Option Int:=if k="bars" then some 1 else if k="feed" then some 1 else if k="earth" then some 1 else if k="breaker" then some 2 else if k="splitter" then some 2 else none
theorem val_nb(k:Str):∃kvs,jbt= .dic kvs /\ valK kvs (.inr k)=(cntK k).map D.int:=by
 refine⟨_,rfl,?_⟩
 unfold valK cntK
 simp only[List.find?_cons,List.find?_nil]
 by_cases h1:k="bars"
 ·subst h1;simp
 by_cases h2:k="feed"
 ·subst h2;rfl
 by_cases h3:k="earth"
 ·subst h3;rfl
 by_cases h4:k="breaker"
 ·subst h4;rfl
 by_cases h5:k="splitter"
 ·subst h5;rfl
 have e:∀x:Str,k≠x->¬(x=k):=λx hx z=>hx z.symm
 simp[e _ h1,e _ h2,e _ h3,e _ h4,e _ h5,h1,h2,h3,h4,h5]
def numV(w:Str):Int:=(intText? w).getD 0
theorem ju9{w:Str}(h:jen w=true):intText? w=some (numV w) /\ w.length<=640:=by
 unfold jen at h
 simp only[Bool.and_eq_true,decide_eq_true_eq] at h
 obtain⟨⟨⟨h1,h2⟩,_⟩,h4⟩:=h
 have hd:PySem.NumText.AllDigits w.cps.toList:=by
  intro c hc
  have:=List.all_eq_true.mp h4 c hc
  unfold jjo at this
  exact of_decide_eq_true this
 have hne:w.cps.toList≠[]:=by
  intro e
  have:w.cps.toList.length=w.length:=by simp[Str.length]
  rw[e] at this;simp at this;omega
 have:=intText_digits hd hne (by omega)
 unfold numV
 rw[this]
 exact⟨rfl,by omega⟩
def jia(ws:List Str):Option (Str×List Int):=match ws with
 | []=>none
 | k::r=>match cntK k with
  | none=>none
  | some n=>if(r.length:Int)=n then(if r.all jen=true then some (k,r.map numV) else none) else none
theorem jx3{l:List Nat}{x:Nat}(h:x∈l):x<=l.sum:=by
 induction l with
 | nil=>cases h
 | cons a l ih=>
  rcases List.mem_cons.mp h with rfl | h
  ·simp
  ·have:=ih h;simp;omega
theorem jk4{x:Str}{c:Nat}{p:Str}(h:p∈Txt.split x ⟨#[c]⟩):p.length<=x.length:=by
 have e:=jey (c:=c) (Txt.split x ⟨#[c]⟩) (jez _ _)
 rw[StrLaws.join_split] at e
 have h1:p.length<=((Txt.split x ⟨#[c]⟩).map (·.length)).sum:=jx3 (List.mem_map.mpr ⟨p,h,rfl⟩)
 have h2:(Txt.split x ⟨#[c]⟩).length≠0:=λz=>jez x ⟨#[c]⟩ (List.eq_nil_of_length_eq_zero z)
 omega
theorem jfg(r:List Str)(h:MH)(hs:∀w∈r,w.length<16777216)(hl:r.length<16777216):z_Qu [.lst (r.map D.str)] h=if r.all jen=true then .ok (.lst ((r.map numV).map D.int)) h else .exc "NoRow" h:=by
 have comp:compLoop (jab 0) tYes (jaq z_Xh (ja3 (mVar 0) mNil)) [none] (r.map D.str) h= .ok ((r.map jen).map D.bl) h:=by
  have:=jbk (g:=jab 0) (t:=tYes) (h:=h) (m:=jaq z_Xh (ja3 (mVar 0) mNil)) (ρ0:=[none]) (λw:Str=>D.str w) (λw=>[some (D.str w)]) (λw=>D.bl (jen w)) r (λw hm=>by
   refine⟨by simp,by simp,?_⟩
   simp
   exact jqh w h (hs w hm))
  rw[this,List.map_map];rfl
 have compI:r.all jen=true->compLoop (jab 0) tYes (mFn fInt (ja3 (mVar 0) mNil)) [none] (r.map D.str) h= .ok ((r.map numV).map D.int) h:=λhall=>by
  have:=jbk (g:=jab 0) (t:=tYes) (h:=h) (m:=mFn fInt (ja3 (mVar 0) mNil)) (ρ0:=[none]) (λw:Str=>D.str w) (λw=>[some (D.str w)]) (λw=>D.int (numV w)) r (λw hm=>by
   refine⟨by simp,by simp,?_⟩
   obtain⟨q1,q2⟩:=ju9 (List.all_eq_true.mp hall w hm)
   simp[chk,q1,q2])
  rw[this,List.map_map];rfl
 have eall:(r.map jen).all id=r.all jen:=by simp[List.all_map]
 by_cases hall:r.all jen=true
 ·simp[-List.map_map, -List.all_eq_true,z_Qu,b_Qu,chk,hall,comp,compI hall,hl,eall]
 ·simp[-List.map_map, -List.all_eq_true,z_Qu,b_Qu,chk,hall,comp,hl,eall]
theorem parted(row:Str)(h:MH)(hr:row.length+1<16777216):z_Y2 [.str row] h=match jia (Txt.split row ⟨#[32]⟩) with
  | some s=> .ok (sd s) h
  | none=> .exc "NoRow" h:=by
 have hsl:=joe row 32
 have hsh:=λp (hp:p∈Txt.split row ⟨#[32]⟩)=>jk4 hp
 have hne:=jez row ⟨#[32]⟩
 generalize ew:Txt.split row ⟨#[32]⟩=ws at*
 have l32:¬((⟨#[32]⟩:Str).length=0):=by decide
 have hr0:row.length<=16777216:=by omega
 have hw0:ws.length<=16777216:=by omega
 have es:jfj (mVar 0) (ja3 (mC (.str " ")) mNil) [some (.str row),none,none] h= .ok (ws.map D.str) h:=by
  simp[e32,chk,l32,hr0,ew,hw0]
 cases ws with
 | nil=>exact absurd rfl hne
 | cons k r=>
  obtain⟨kvs,ek,ev⟩:=val_nb k
  have hrl:r.length<16777216:=by simp at hw0;omega
  have nt:=jfg r h (λw hm=>by have:=hsh w (List.mem_cons_of_mem _ hm);omega) hrl
  have es':jfj (mVar 0) (ja3 (mC (.str " ")) mNil) [some (.str row),none,none] h= .ok (D.str k::r.map D.str) h:=es
  unfold jia
  simp only[z_Y2,b_Y2,mFun,List.length_cons,List.length_nil,if_pos,List.map_cons,List.map_nil,sSeq,sAsg,jcc]
  simp only[List.replicate,List.cons_append,List.nil_append,Nat.reduceAdd,Nat.reduceSub,es',jdb,jcf,jab,List.set_cons_succ,List.set_cons_zero]
  cases ec:cntK k with
  | none=>
   rw[ec] at ev
   simp[ek,ev,chk]
  | some n=>
   rw[ec] at ev
   have hcm:n+1=1+n:=Int.add_comm ..
   by_cases hl:(r.length:Int)=n
   ·by_cases hall:r.all jen=true
    ·rw[if_pos hall] at nt
     simp[-List.map_map, -List.all_eq_true,ek,ev,chk,hl,hcm,hall,nt,hrl,show 1+r.length<=16777216 by omega,sd]
    ·rw[if_neg hall] at nt
     simp[-List.map_map, -List.all_eq_true,ek,ev,chk,hl,hcm,hall,nt,hrl]
   ·have hl':¬((r.length:Int)+1=1+n):=by omega
    simp[-List.map_map,ek,ev,chk,hl,hl']
theorem w_num:∀n:Fin 11,jen (W n.val)=true:=by decide+kernel
theorem jl6{n:Int}(h0:0<=n)(h1:n<=10):jen (W n)=true /\ numV (W n)=n:=by
 constructor
 ·obtain⟨m,rfl⟩:∃m:Nat,n=m:=⟨n.toNat,by omega⟩
  exact w_num ⟨m,by omega⟩
 ·unfold numV
  have:=PySem.W.KIN.num_reads (n:=n) h0 (by omega)
  show(intText? (Str.ofString (toString n))).getD 0=n
  rw[this];rfl
theorem jnk{k:Str}{bs:List Int}{m:Int}(hk:cntK k=some m)(hm:(bs.length:Int)=m)(hb:∀b∈bs,0<=b /\ b<=10):jia (k::bs.map W)=some (k,bs):=by
 unfold jia
 simp only[hk]
 rw[if_pos (by rw[List.length_map];exact hm),if_pos]
 ·have:(bs.map W).map numV=bs:=by
   rw[List.map_map]
   conv=>rhs;rw[<-List.map_id bs]
   exact List.map_congr_left λb hb'=>(jl6 (hb b hb').1 (hb b hb').2).2
  rw[this]
 ·rw[List.all_eq_true]
  intro w hw
  obtain⟨b,hb',rfl⟩:=List.mem_map.mp hw
  exact(jl6 (hb b hb').1 (hb b hb').2).1
theorem jgj{k:Str}{bs:List Int}{m:Int}(h:MH)(hk:cntK k=some m)(hm:(bs.length:Int)=m)(hb:∀b∈bs,0<=b /\ b<=10)(kl:k.length<=8)(k32:32∉k.cps.toList)(k10:10∉k.cps.toList)(hl:bs.length<=2):
  z_Y2 [.str (rowT (k,bs))] h= .ok (sd (k,bs)) h:=by
 obtain⟨f1,_,f3⟩:=jci kl k32 k10 hb hl
 rw[parted _ h (by omega),f3,jnk hk hm hb]
theorem s_ne:(Str.ofString "feed"≠Str.ofString "bars") /\ (Str.ofString "earth"≠Str.ofString "bars") /\ (Str.ofString "breaker"≠Str.ofString "bars") /\ (Str.ofString "splitter"≠Str.ofString "bars"):=by decide+kernel
theorem jgn(c:Int)(h:MH)(h1:1<=c)(h2:c<=10):z_Xp [.str (jai c)] h= .ok (.int c) h:=by
 have hp:=jgj (k:="bars") (bs:=[c]) h (m:=1) rfl rfl (by simp;omega) jcb.1 jcb.2.1 jcb.2.2 (by simp)
 have hp':z_Y2 [.str (jai c)] h= .ok (.tup [.str "bars",.int c]) h:=hp
 simp[z_Xp,b_Xp,hp',h1,h2,chk]
theorem SwOk.cnt{c:Int}{s:Str×List Int}(ok:SwOk c s):∃m,cntK s.1=some m /\ (s.2.length:Int)=m:=by
 rcases ok with⟨b,_,_,rfl | rfl⟩ | ⟨a,b,_,_,_,_,_,rfl | rfl⟩
 ·exact⟨1,rfl,rfl⟩
 ·exact⟨1,rfl,rfl⟩
 ·exact⟨2,rfl,rfl⟩
 ·exact⟨2,rfl,rfl⟩
theorem jfe(s:Str×List Int)(c:Int)(n:Nat)(h:MH)(h1:1<=c)(h2:c<=10)(ok:SwOk c s)(hn:n<12):z_Xg [.str (rowT s),.int c,.int n] h= .ok (sd s) h:=by
 obtain⟨a1,a2,a3,a4,a5,a6⟩:=ok.bars
 obtain⟨m,m1,m2⟩:=ok.cnt
 have hp:=jgj (k:=s.1) (bs:=s.2) h m1 m2 (λb hb=>⟨(a1 b hb).1,by have:=(a1 b hb).2;omega⟩) a4 a5 a6 a2
 have hp':z_Y2 [.str (rowT s)] h= .ok (sd s) h:=hp
 have hn':¬((12:Int)<=(n:Int)):=by omega
 obtain⟨e1,e2,e3,e4⟩:=s_ne
 rcases ok with⟨b,b0,b1,rfl | rfl⟩ | ⟨a,b,b0,b1,b2,b3,ne,rfl | rfl⟩
 ·simp[z_Xg,b_Xg,hp',sd,chk,e1,hn',maxI,show ¬c<=b by omega]
 ·simp[z_Xg,b_Xg,hp',sd,chk,e2,hn',maxI,show ¬c<=b by omega]
 ·have:¬c<=(if b>a then b else a):=by split<;>omega
  simp[z_Xg,b_Xg,hp',sd,chk,e3,hn',maxI,this,ne]
 ·have:¬c<=(if b>a then b else a):=by split<;>omega
  simp[z_Xg,b_Xg,hp',sd,chk,e4,hn',maxI,this,ne]
abbrev jnz:MS:=jfc (mVar 3) (jaq z_Xg (ja3 (mVar 4) (ja3 (mVar 2) (ja3 (mFn fLen (ja3 (mVar 3) mNil)) mNil))))
theorem jiu(c:Int)(h:MH)(h1:1<=c)(h2:c<=10)(t r:Option D):∀(todo dn:List (Str×List Int)) (x:Option D),(∀s∈todo,SwOk c s)->dn.length+todo.length<=12->
  ∃x',jc5 (jab 4) jnz (todo.map λs=>D.str (rowT s)) [t,r,some (.int c),some (.ref h.length),x] (h++[some (.lst (dn.map sd))])= .nx [t,r,some (.int c),some (.ref h.length),x'] (h++[some (.lst ((dn++todo).map sd))])
 | [],dn,x,_,_=>⟨x,by rw[List.map_nil,List.append_nil];unfold jc5;rfl⟩
 | s::todo,dn,x,hs,hl=>by
  have hl':dn.length<12:=by simp at hl;omega
  have e:=jfe s c dn.length (h++[some (.lst (dn.map sd))]) h1 h2 (hs s (List.mem_cons_self ..)) hl'
  obtain⟨x',ih⟩:=jiu c h h1 h2 t r todo (dn++[s]) (some (.str (rowT s))) (λa ha=>hs a (List.mem_cons_of_mem _ ha)) (by simp at hl ⊢;omega)
  refine⟨x',?_⟩
  have step:jnz [t,r,some (.int c),some (.ref h.length),some (.str (rowT s))] (h++[some (.lst (dn.map sd))])= .nx [t,r,some (.int c),some (.ref h.length),some (.str (rowT s))] (h++[some (.lst ((dn++[s]).map sd))]):=by
   simp[e,show dn.length<16777216 by omega]
  rw[List.map_cons]
  unfold jc5
  simp only[jab,List.set_cons_succ,List.set_cons_zero,step]
  rw[ih]
  simp
theorem jo5(n:Nat):∀sws:List (Str×List Int),D.bnds n (sws.map sd)=true
 | []=>by simp[D.bnds]
 | s::sws=>by
  have:∀bs:List Int,D.bnds n (bs.map D.int)=true:=by
   intro bs
   induction bs with
   | nil=>simp[D.bnds]
   | cons b bs ih=>simp only[List.map_cons,D.bnds,D.bnd,ih];rfl
  simp only[List.map_cons,D.bnds,sd,D.bnd,this,jo5 n sws,Bool.and_self]
theorem jn1{c:Int}{sws:List (Str×List Int)}(ok:YOk c sws):(jdu c sws).length+1<16777216 /\ Txt.split (jdu c sws) ⟨#[10]⟩=jai c::sws.map rowT:=by
 obtain⟨c1,c2,cl,cs⟩:=ok
 have hbr:=jci (k:="bars") (bs:=[c]) jcb.1 jcb.2.1 jcb.2.2 (by simp;omega) (by simp)
 have hw:∀p∈jai c::sws.map rowT,10∉p.cps.toList /\ p.length<=20:=by
  intro p hp
  rcases List.mem_cons.mp hp with rfl | hp
  ·exact⟨hbr.2.1,hbr.1⟩
  ·obtain⟨s,hs,rfl⟩:=List.mem_map.mp hp
   obtain⟨a1,a2,_,a4,a5,a6⟩:=(cs s hs).bars
   have:=jci (k:=s.1) (bs:=s.2) a4 a5 a6 (λb hb=>⟨(a1 b hb).1,by have:=(a1 b hb).2;omega⟩) a2
   exact⟨this.2.1,this.1⟩
 refine⟨?_,jhn (λz=>nomatch z) λp hp=>(hw p hp).1⟩
 have:=jey (c:=10) (jai c::sws.map rowT) (λz=>nomatch z)
 have h2:=jj5 (l:=(jai c::sws.map rowT).map (·.length)) (m:=20) (by
  intro x hx
  obtain⟨p,hp,rfl⟩:=List.mem_map.mp hx
  exact(hw p hp).2)
 unfold jdu
 simp only[List.length_cons,List.length_map] at this h2
 omega
theorem SwOk.str{c:Int}{s:Str×List Int}(ok:SwOk c s):jvk s.1=true:=by
 rcases ok with⟨b,_,_,rfl | rfl⟩ | ⟨a,b,_,_,_,_,_,rfl | rfl⟩<;>(show jvk (Str.ofString _)=true;decide+kernel)
inductive Sw where
 | feed (b:Nat) | earth (b:Nat) | breaker (a b:Nat) | splitter (a b:Nat)
def Sw.d:Sw->D
 | .feed b=> .tup [.str "feed",.int b]
 | .earth b=> .tup [.str "earth",.int b]
 | .breaker a b=> .tup [.str "breaker",.int a,.int b]
 | .splitter a b=> .tup [.str "splitter",.int a,.int b]
def Sw.o:Sw->D
 | .feed b=> .obj "Feed" [("bar",.int b)]
 | .earth b=> .obj "Earth" [("bar",.int b)]
 | .breaker a b=> .obj "Breaker" [("one",.int a),("other",.int b)]
 | .splitter a b=> .obj "Splitter" [("one",.int a),("other",.int b)]
def Sw.pair:Sw->Nat
 | .breaker a b=>2^a|||2^b
 | .splitter a b=>2^a|||2^b
 | _=>0
def Sw.fed:Sw->Nat
 | .feed b=>2^b
 | _=>0
def Sw.led:Sw->Nat
 | .earth b=>2^b
 | _=>0
def Sw.ok(n:Nat):Sw->Prop
 | .feed b=>b<n
 | .earth b=>b<n
 | .breaker a b=>a<n /\ b<n /\ a≠b
 | .splitter a b=>a<n /\ b<n /\ a≠b
theorem k_fe:¬(Str.ofString "earth"=Str.ofString "feed"):=by decide+kernel
theorem k_bf:¬(Str.ofString "breaker"=Str.ofString "feed"):=by decide+kernel
theorem k_be:¬(Str.ofString "breaker"=Str.ofString "earth"):=by decide+kernel
theorem k_sf:¬(Str.ofString "splitter"=Str.ofString "feed"):=by decide+kernel
theorem k_se:¬(Str.ofString "splitter"=Str.ofString "earth"):=by decide+kernel
theorem k_sb:¬(Str.ofString "splitter"=Str.ofString "breaker"):=by decide+kernel
theorem k_oo:¬(Str.ofString "one"=Str.ofString "other"):=by decide+kernel
theorem k_oo':(Str.ofString "other"==Str.ofString "one")=false:=by decide+kernel
theorem jpw(s:Sw)(h:MH)(hb:h.all (Cell.bnd h.length)=true):z_Xf [s.d] h= .ok s.o h:=by
 have hb':∀x∈h,Cell.bnd h.length x=true:=by simpa using hb
 cases s<;>simp[z_Xf,b_Xf,Sw.d,Sw.o,z_Qe,b_Qe,z_Qd,b_Qd,z_Q3,b_Q3,z_Q0,b_Q0,k_fe,k_bf,k_be,k_sf,k_se,k_sb,k_oo,jff,jfm,jd8,putF,D.bnd,D.bndf]<;>rw[if_neg (by omega),if_pos hb']
theorem jdw{α:Type}{g:MG}{t:MT}{m:ME}{ρ0:Ro}{h:MH}(e:α->D)(r:α->Ro)(tt:α->Bool)(f:α->D):∀(as:List α),(∀a∈as,g (e a) ρ0 h= .nx (r a) h /\ t (r a) h= .ok (tt a) h /\ m (r a) h= .ok (f a) h)->compLoop g t m ρ0 (as.map e) h= .ok ((as.filter tt).map f) h
 | [],_=>rfl
 | a::as,q=>by
  obtain⟨h1,h2,h3⟩:=q a (List.mem_cons_self ..)
  have ih:=jdw e r tt f as λb hb=>q b (List.mem_cons_of_mem _ hb)
  rw[List.map_cons]
  unfold compLoop
  rw[h1]
  cases y:tt a with
  | true=>simp only[h2,y,h3,ih,List.filter_cons,if_true,List.map_cons]
  | false=>simp only[h2,y,ih,List.filter_cons,if_false,Bool.false_eq_true]
def yd(n:Nat)(sws:List Sw):D:= .tup [.int n,.lst (sws.map Sw.d)]
def netO(sws:List Sw):D:= .obj "Net" [("switches",.lst (sws.map Sw.o))]
def Hb(h:MH):Prop:=∀n,h.length<=n->h.all (Cell.bnd n)=true
theorem Hb.nil:Hb []:=λ_ _=>rfl
theorem Hb.snoc{h:MH}{c:Option Cell}(a:Hb h)(b:∀n,h.length<n->Cell.bnd n c=true):Hb (h++[c]):=λn hn=>by
 simp only[List.length_append,List.length_cons,List.length_nil,List.all_append,List.all_cons,List.all_nil,Bool.and_true,Bool.and_eq_true] at hn ⊢
 exact⟨a n (by omega),b n (by omega)⟩
theorem js7(n:Nat)(sws:List Sw)(h:MH)(hl:sws.length<=12)(hb:Hb h):z_Qv [.ref h.length,yd n sws] (h++[some (.ins "Net" [])])= .ok .non (h++[some (.ins "Net" [("switches",.lst (sws.map Sw.o))])]):=by
 have hb2:Hb (h++[some (.ins "Net" [])]):=hb.snoc λn _=>by simp[Cell.bnd,D.bnds]
 have comp:compLoop (jab 0) tYes (jaq z_Xf (ja3 (mVar 0) mNil)) [none] (sws.map Sw.d) (h++[some (.ins "Net" [])])= .ok (sws.map Sw.o) (h++[some (.ins "Net" [])]):=
  jbk (g:=jab 0) (t:=tYes) (m:=jaq z_Xf (ja3 (mVar 0) mNil)) (ρ0:=[none]) Sw.d (λs=>[some s.d]) Sw.o sws (λs _=>by
   refine⟨by simp,by simp,?_⟩
   have:=jpw s _ (hb2 _ (Nat.le_refl _))
   simp[this])
 simp[-List.map_map,z_Qv,b_Qv,yd,comp,jbr,putF,show sws.length<16777216 by omega]
theorem jm3{m:ME}{ρ:Ro}{h:MH}(n:Nat)(sws:List Sw)(hl:sws.length<=12)(hb:Hb h)(e:m ρ h= .ok (yd n sws) h):jfu "Net" z_Qv (ja3 m mNil) ρ h= .ok (netO sws) (h++[none]):=by
 have:=js7 n sws h hl hb
 simp[e,this,netO]
def jde(st:Nat)(sws:List Sw):List (Sw×Nat):=sws.zipIdx.filter λp=>st.testBit p.2
theorem jrl(sws:List Sw)(f:Sw->D):jga (sws.map f)=sws.zipIdx.map λp=> .tup [.int (p.2:Int),f p.1]:=by
 unfold jga
 rw[List.mapIdx_eq_zipIdx_map,List.zipIdx_map,List.map_map]
 rfl
theorem jiz(st k:Nat)(h:MH):jgy [.int st,.int k] h= .ok (.bl (st.testBit k)) h:=by
 have:=bitk st k
 cases q:st.testBit k<;>simp[q] at this<;>simp[jgy,jwk,this]
theorem jj1(sws:List Sw)(st:Nat)(h:MH)(hl:sws.length<=12):z_Qf [netO sws,.int st] h= .ok (.lst ((jde st sws).map λp=>p.1.o)) h:=by
 have comp:compLoop (gTup [0,1]) (tTru (jaq jgy (ja3 (mVar 2) (ja3 (mVar 0) mNil)))) (mVar 1) [none,none,some (.int st)] (jga (sws.map Sw.o)) h= .ok ((jde st sws).map λp=>p.1.o) h:=by
  rw[jrl]
  refine jdw (λp:Sw×Nat=> .tup [.int (p.2:Int),p.1.o]) (λp=>[some (.int p.2),some p.1.o,some (.int st)]) (λp=>st.testBit p.2) (λp=>p.1.o) sws.zipIdx λp _=> ?_
  have:=jiz st p.2 h
  refine⟨by simp,?_,by simp⟩
  simp[this]
 have h2:(jga (sws.map Sw.o)).length=sws.length:=by simp[jga]
 simp[-List.map_map,z_Qf,b_Qf,netO,comp,jbr,h2,show sws.length<16777216 by omega]
theorem k_j1:(Str.ofString "joins"==Str.ofString "bar")=false:=by decide+kernel
theorem k_j2:(Str.ofString "joins"==Str.ofString "one")=false:=by decide+kernel
theorem k_j3:(Str.ofString "joins"==Str.ofString "other")=false:=by decide+kernel
theorem joins(s:Sw){n:Nat}(hn:n<=10)(ok:s.ok n)(h:MH):jaj jc2 "joins" (mVar 0) mNil [some s.o] h= .ok (.int s.pair) h:=by
 cases s with
 | feed b=>simp[Sw.o,jc2,k_j1,z_Qw,b_Qw,Sw.pair,List.lookup]
 | earth b=>simp[Sw.o,jc2,k_j1,z_Qw,b_Qw,Sw.pair,List.lookup]
 | breaker a b=>
  obtain⟨h1,h2,_⟩:=ok
  have:=bor (2^a) (2^b)
  simp[Sw.o,jc2,k_j2,k_j3,k_oo',z_Qj,b_Qj,Sw.pair,List.lookup,jfm,jd8,okp (show a<=100 by omega),okp (show b<=100 by omega)] at this ⊢
  exact this
 | splitter a b=>
  obtain⟨h1,h2,_⟩:=ok
  have:=bor (2^a) (2^b)
  simp[Sw.o,jc2,k_j2,k_j3,k_oo',z_Qc,b_Qc,Sw.pair,List.lookup,jfm,jd8,okp (show a<=100 by omega),okp (show b<=100 by omega)] at this ⊢
  exact this
def jei(st:Nat)(sws:List Sw):List Nat:=(jde st sws).map λp=>p.1.pair
def cB:MT:=(tB (mBin dNe (mVar 4) (mVar 5)))
def fB:MS:=(sIf (tTru (mBin dAnd (mVar 6) (mVar 4))) (sAsg (mBin dOr (mVar 4) (mVar 6)) (jab 4)) jb3)
theorem jjs(a b c d e:Option D)(h:MH):∀(ps:List Nat) (r:Nat) (x:Option D),∃x',jc5 (jab 6) fB (ps.map λp:Nat=>D.int p) [a,b,c,d,some (.int r),e,x] h= .nx [a,b,c,d,some (.int (Clo.pass ps r:Nat)),e,x'] h
 | [],r,x=>⟨x,rfl⟩
 | p::ps,r,x=>by
  obtain⟨x',ih⟩:=jjs a b c d e h ps (if p&&&r≠0 then r|||p else r) (some (.int p))
  refine⟨x',?_⟩
  rw[List.map_cons]
  unfold jc5
  have e1:=band p r
  have e2:=bor r p
  have e3:=ne0 (p&&&r)
  by_cases q:p&&&r≠0
  ·rw[if_pos q] at ih
   have:Clo.pass (p::ps) r=Clo.pass ps (r|||p):=by show Clo.pass ps (if p&&&r≠0 then r|||p else r)=_;rw[if_pos q]
   rw[this]
   have fb:fB [a,b,c,d,some (.int r),e,some (.int p)] h= .nx [a,b,c,d,some (.int (r|||p:Nat)),e,some (.int p)] h:=by
    simp[fB,e1,e2,e3,q]
   simp[fb]
   exact ih
  ·rw[if_neg q] at ih
   have:Clo.pass (p::ps) r=Clo.pass ps r:=by show Clo.pass ps (if p&&&r≠0 then r|||p else r)=_;rw[if_neg q]
   rw[this]
   have q':p&&&r=0:=by simpa using q
   have fb:fB [a,b,c,d,some (.int r),e,some (.int p)] h= .nx [a,b,c,d,some (.int r),e,some (.int p)] h:=by
    simp[fB,e1,e3,q']
   simp[fb]
   exact ih
def wB:MS:=(sSeq (sAsg (mVar 4) (jab 5)) (sFor (lIt (mVar 3)) (jab 6) fB))
theorem wB_ok(a b c:Option D)(ps:List Nat)(h:MH)(r:Nat)(y x:Option D):∃x',wB [a,b,c,some (.lst (ps.map λp:Nat=>D.int p)),some (.int r),y,x] h= .nx [a,b,c,some (.lst (ps.map λp:Nat=>D.int p)),some (.int (Clo.pass ps r:Nat)),some (.int r),x'] h:=by
 obtain⟨x',e⟩:=jjs a b c (some (.lst (ps.map λp:Nat=>D.int p))) (some (.int r)) h ps r x
 exact⟨x',by simp[wB,e]⟩
theorem jrc(a b c:Option D)(ps:List Nat)(s:Nat)(h:MH)(y:Option D)(hy:y=some .non)(x:Option D):∃x',jcm cB wB [a,b,c,some (.lst (ps.map λp:Nat=>D.int p)),some (.int s),y,x] h= .nx [a,b,c,some (.lst (ps.map λp:Nat=>D.int p)),some (.int (Clo.clo ps s:Nat)),some (.int (Clo.clo ps s:Nat)),x'] h:=by
 have W:∀x,∃x',jcm cB wB [a,b,c,some (.lst (ps.map λp:Nat=>D.int p)),some (.int (Clo.pass ps s:Nat)),some (.int s),x] h= .nx [a,b,c,some (.lst (ps.map λp:Nat=>D.int p)),some (.int (Clo.clo ps s:Nat)),some (.int (Clo.clo ps s:Nat)),x'] h:=by
  refine Clo.walk (P:=λr=>∀x,∃x',jcm cB wB [a,b,c,some (.lst (ps.map λp:Nat=>D.int p)),some (.int (Clo.pass ps r:Nat)),some (.int r),x] h= .nx [a,b,c,some (.lst (ps.map λp:Nat=>D.int p)),some (.int (Clo.clo ps s:Nat)),some (.int (Clo.clo ps s:Nat)),x'] h) (Clo.je1 ps) ?_ ?_ _ s (Clo.Mid.start ps s) (Nat.lt_succ_self _)
  ·intro r m e x
   have er:=(m.fin (Clo.je1 ps) e).eq
   refine⟨x,?_⟩
   rw[e,<-er]
   exact jr9 (by simp[cB])
  ·intro r m ne ih x
   obtain⟨x1,e1⟩:=wB_ok a b c ps h (Clo.pass ps r) (some (.int r)) x
   obtain⟨x2,e2⟩:=ih x1
   exact⟨x2,by rw[jmg (h1:=h) (by simp[cB];omega) e1,e2]⟩
 obtain⟨x1,e1⟩:=wB_ok a b c ps h s y x
 obtain⟨x2,e2⟩:=W x1
 exact⟨x2,by rw[jmg (h1:=h) (by subst hy;simp[cB,D.dat,D.py,D.deep,D.eq]) e1,e2]⟩
def jc1(n:Nat)(sws:List Sw):Prop:=1<=n /\ n<=10 /\ sws.length<=12 /\ ∀s∈sws,s.ok n
theorem jih{st:Nat}{sws:List Sw}{p:Sw×Nat}(h:p∈jde st sws):p.1∈sws:=by
 unfold jde at h
 have:=(List.mem_filter.mp h).1
 exact(List.mem_zipIdx this).2.2▸List.getElem_mem _
theorem k_jb:(Str.ofString "joined_bars"==Str.ofString "switches")=false:=by decide+kernel
theorem k_so:(Str.ofString "shut_ones"==Str.ofString "switches")=false:=by decide+kernel
theorem jrs(st:Nat)(sws:List Sw):(jde st sws).length<=sws.length:=by
 unfold jde
 exact Nat.le_trans (List.length_filter_le _ _) (by simp)
theorem jks(ok:jc1 n sws)(st s:Nat)(h:MH):z_Q8 [netO sws,.int st,.int s] h= .ok (.int (Clo.clo (jei st sws) s:Nat)) h:=by
 obtain⟨h1,h2,h3,h4⟩:=ok
 have e1:=jj1 sws st h h3
 have comp:compLoop (jab 0) tYes (jaj jc2 "joins" (mVar 0) mNil) [none] ((jde st sws).map λp=>p.1.o) h= .ok ((jei st sws).map λp:Nat=>D.int p) h:=by
  unfold jei
  rw[List.map_map]
  exact jbk (g:=jab 0) (t:=tYes) (m:=jaj jc2 "joins" (mVar 0) mNil) (ρ0:=[none]) (λp:Sw×Nat=>p.1.o) (λp=>[some p.1.o]) (λp=> .int (p.1.pair:Nat)) (jde st sws) λp hp=>⟨by simp,by simp,joins p.1 h2 (h4 _ (jih hp)) h⟩
 obtain⟨x',ew⟩:=jrc (some (netO sws)) (some (.int st)) (some (.int s)) (jei st sws) s h (some .non) rfl none
 have hl:=jrs st sws
 have a1:jaj jbl "shut_ones" (mVar 0) (ja3 (mVar 1) mNil) [some (netO sws),some (.int st),some (.int s),none,none,none,none] h= .ok (.lst ((jde st sws).map λp=>p.1.o)) h:=by
  simp only[netO] at e1
  simp[-List.map_map,netO,jbl,List.lookup,k_so,e1]
 have eb:b_Q8=sSeq (sAsg (jcc (jeo 1 [] (lIt (jaj jbl "shut_ones" (mVar 0) (ja3 (mVar 1) mNil))) (jab 0) tYes (jaj jc2 "joins" (mVar 0) mNil))) (jab 3)) (sSeq (sAsg (mVar 2) (jab 4)) (sSeq (sAsg (mC .non) (jab 5)) (sSeq (jcm cB wB) (sRet (mVar 4))))):=rfl
 simp[-List.map_map, -jaj,z_Q8,eb,a1,comp,ew,show(jde st sws).length<16777216 by omega]
theorem k_f1:(Str.ofString "feeds"==Str.ofString "bar")=false:=by decide+kernel
theorem k_f2:(Str.ofString "feeds"==Str.ofString "one")=false:=by decide+kernel
theorem k_f3:(Str.ofString "feeds"==Str.ofString "other")=false:=by decide+kernel
theorem feeds(s:Sw){n:Nat}(hn:n<=10)(ok:s.ok n){m:ME}{ρ:Ro}{h:MH}(e:m ρ h= .ok s.o h):jaj jd7 "feeds" m mNil ρ h= .ok (.int s.fed) h:=by
 cases s with
 | feed b=>
  have:b<n:=ok
  simp[e,Sw.o,jd7,k_f1,z_Qy,b_Qy,Sw.fed,List.lookup,jff,okp (show b<=100 by omega)]
 | earth b=>simp[e,Sw.o,jd7,k_f1,z_Ql,b_Ql,Sw.fed,List.lookup]
 | breaker a b=>simp[e,Sw.o,jd7,k_f2,k_f3,z_Ql,b_Ql,Sw.fed,List.lookup]
 | splitter a b=>simp[e,Sw.o,jd7,k_f2,k_f3,z_Ql,b_Ql,Sw.fed,List.lookup]
def jlz(st:Nat)(sws:List Sw):Nat:=Clo.all ((jde st sws).map λp=>p.1.fed) 0
def jfx(st:Nat)(sws:List Sw):Nat:=Clo.clo (jei st sws) (jlz st sws)
theorem jkl{J:ME}(val:Sw->Nat){n:Nat}(a b:Option D)(h:MH)(hJ:∀s:Sw,s.ok n->∀f:Nat,J [a,b,some (.int f),some s.o] h= .ok (.int (val s)) h):∀(ps:List (Sw×Nat)) (f:Nat) (x:Option D),(∀p∈ps,p.1.ok n)->
  ∃x',jc5 (jab 3) (sAsg (mBin dOr (mVar 2) J) (jab 2)) (ps.map λp=>p.1.o) [a,b,some (.int f),x] h= .nx [a,b,some (.int (Clo.all (ps.map λp=>val p.1) f:Nat)),x'] h
 | [],f,x,_=>⟨x,rfl⟩
 | p::ps,f,x,hp=>by
  obtain⟨x',ih⟩:=jkl val a b h hJ ps (f|||val p.1) (some p.1.o) λq m=>hp q (List.mem_cons_of_mem _ m)
  refine⟨x',?_⟩
  have e1:=hJ p.1 (hp p (List.mem_cons_self ..)) f
  have e2:=bor f (val p.1)
  rw[List.map_cons,List.map_cons]
  unfold jc5
  simp[-List.map_map,e1,e2]
  exact ih
theorem jqi(sws:List Sw)(st:Nat)(h:MH)(hl:sws.length<=12){m l:ME}{ρ:Ro}(e1:m ρ h= .ok (netO sws) h)(e2:l ρ h= .ok (.int st) h):jaj jbl "shut_ones" m (ja3 l mNil) ρ h= .ok (.lst ((jde st sws).map λp=>p.1.o)) h:=by
 have:=jj1 sws st h hl
 unfold netO at e1 this
 simp[-List.map_map,e1,e2,jbl,List.lookup,k_so,this]
theorem jg7(ok:jc1 n sws)(st s:Nat)(h:MH){m l k:ME}{ρ:Ro}(e1:m ρ h= .ok (netO sws) h)(e2:l ρ h= .ok (.int st) h)(e3:k ρ h= .ok (.int s) h):jaj jbm "joined_bars" m (ja3 l (ja3 k mNil)) ρ h= .ok (.int (Clo.clo (jei st sws) s:Nat)) h:=by
 have:=jks ok st s h
 unfold netO at e1 this
 simp[-List.map_map,e1,e2,e3,jbm,List.lookup,k_jb,this]
theorem jpo(ok:jc1 n sws)(st:Nat)(h:MH):z_Qh [netO sws,.int st] h= .ok (.int (jfx st sws:Nat)) h:=by
 obtain⟨x',e⟩:=jkl (J:=jaj jd7 "feeds" (mVar 3) mNil) Sw.fed (n:=n) (some (netO sws)) (some (.int st)) h (λs hs f=>feeds s ok.2.1 hs (by simp)) (jde st sws) 0 none λp hp=>ok.2.2.2 _ (jih hp)
 have e1:=jqi sws st h ok.2.2.1 (m:=mVar 0) (l:=mVar 1) (ρ:=[some (netO sws),some (.int st),some (.int 0),none]) (by simp) (by simp)
 have e2:=jg7 ok st (jlz st sws) h (m:=mVar 0) (l:=mVar 1) (k:=mVar 2) (ρ:=[some (netO sws),some (.int st),some (.int (jlz st sws:Nat)),x']) (by simp) (by simp) (by simp)
 have f0:Clo.all ((jde st sws).map λp=>p.1.fed) 0=jlz st sws:=rfl
 rw[f0] at e
 simp at e
 simp[-List.map_map, -jaj,z_Qh,b_Qh,e1,e,e2,jfx]
theorem k_lb:(Str.ofString "live_bars"==Str.ofString "switches")=false:=by decide+kernel
theorem jpf(ok:jc1 n sws)(st:Nat)(h:MH){m l:ME}{ρ:Ro}{h0:MH}(e1:m ρ h0= .ok (netO sws) h)(e2:l ρ h= .ok (.int st) h):jaj jce "live_bars" m (ja3 l mNil) ρ h0= .ok (.int (jfx st sws:Nat)) h:=by
 have:=jpo ok st h
 unfold netO at e1 this
 simp[-List.map_map,e1,e2,jce,List.lookup,k_lb,this]
theorem k_e1:(Str.ofString "earths"==Str.ofString "bar")=false:=by decide+kernel
theorem k_e2:(Str.ofString "earths"==Str.ofString "one")=false:=by decide+kernel
theorem k_e3:(Str.ofString "earths"==Str.ofString "other")=false:=by decide+kernel
theorem earths(s:Sw){n:Nat}(hn:n<=10)(ok:s.ok n){m:ME}{ρ:Ro}{h:MH}(e:m ρ h= .ok s.o h):jaj jcw "earths" m mNil ρ h= .ok (.int s.led) h:=by
 cases s with
 | earth b=>
  have:b<n:=ok
  simp[e,Sw.o,jcw,k_e1,z_Qm,b_Qm,Sw.led,List.lookup,jff,okp (show b<=100 by omega)]
 | feed b=>simp[e,Sw.o,jcw,k_e1,z_Qg,b_Qg,Sw.led,List.lookup]
 | breaker a b=>simp[e,Sw.o,jcw,k_e2,k_e3,z_Qg,b_Qg,Sw.led,List.lookup]
 | splitter a b=>simp[e,Sw.o,jcw,k_e2,k_e3,z_Qg,b_Qg,Sw.led,List.lookup]
def jgv(st:Nat)(sws:List Sw):Nat:=Clo.all ((jde st sws).map λp=>p.1.led) 0
def jer(st:Nat)(sws:List Sw):Nat:=Clo.clo (jei st sws) (jgv st sws)
theorem jr1(ok:jc1 n sws)(st:Nat)(h:MH):z_Qn [netO sws,.int st] h= .ok (.int (jgv st sws:Nat)) h:=by
 obtain⟨x',e⟩:=jkl (J:=jaj jcw "earths" (mVar 3) mNil) Sw.led (n:=n) (some (netO sws)) (some (.int st)) h (λs hs f=>earths s ok.2.1 hs (by simp)) (jde st sws) 0 none λp hp=>ok.2.2.2 _ (jih hp)
 have e1:=jqi sws st h ok.2.2.1 (m:=mVar 0) (l:=mVar 1) (ρ:=[some (netO sws),some (.int st),some (.int 0),none]) (by simp) (by simp)
 have f0:Clo.all ((jde st sws).map λp=>p.1.led) 0=jgv st sws:=rfl
 rw[f0] at e
 simp at e
 simp[-List.map_map, -jaj,z_Qn,b_Qn,e1,e]
theorem k_ld:(Str.ofString "led_bars"==Str.ofString "switches")=false:=by decide+kernel
theorem led_at(ok:jc1 n sws)(st:Nat)(h:MH){m l:ME}{ρ:Ro}{h0:MH}(e1:m ρ h0= .ok (netO sws) h)(e2:l ρ h= .ok (.int st) h):jaj jd4 "led_bars" m (ja3 l mNil) ρ h0= .ok (.int (jgv st sws:Nat)) h:=by
 have:=jr1 ok st h
 unfold netO at e1 this
 simp[-List.map_map,e1,e2,jd4,List.lookup,k_ld,this]
theorem jj4(ok:jc1 n sws)(st:Nat)(h:MH):z_Q1 [netO sws,.int st] h= .ok (.int (jer st sws:Nat)) h:=by
 have e1:=led_at ok st h (m:=mVar 0) (l:=mVar 1) (ρ:=[some (netO sws),some (.int st)]) (h0:=h) (by simp) (by simp)
 have e2:=jg7 ok st (jgv st sws) h (m:=mVar 0) (l:=mVar 1) (k:=jaj jd4 "led_bars" (mVar 0) (ja3 (mVar 1) mNil)) (ρ:=[some (netO sws),some (.int st)]) (by simp) (by simp) e1
 simp[-List.map_map, -jaj,z_Q1,b_Q1,e2,jer]
theorem k_eb:(Str.ofString "earthed_bars"==Str.ofString "switches")=false:=by decide+kernel
theorem jml(ok:jc1 n sws)(st:Nat)(h:MH){m l:ME}{ρ:Ro}{h0:MH}(e1:m ρ h0= .ok (netO sws) h)(e2:l ρ h= .ok (.int st) h):jaj jch "earthed_bars" m (ja3 l mNil) ρ h0= .ok (.int (jer st sws:Nat)) h:=by
 have:=jj4 ok st h
 unfold netO at e1 this
 simp[-List.map_map,e1,e2,jch,List.lookup,k_eb,this]
def ji2(st:Nat)(sws:List Sw):Bool:=decide (jfx st sws&&&jer st sws=0)
theorem jw4(ok:jc1 n sws)(st:Nat)(h:MH):z_Qx [netO sws,.int st] h= .ok (.bl (ji2 st sws)) h:=by
 have e1:=jpf ok st h (h0:=h) (m:=mVar 0) (l:=mVar 1) (ρ:=[some (netO sws),some (.int st)]) (by simp) (by simp)
 have e2:=jml ok st h (h0:=h) (m:=mVar 0) (l:=mVar 1) (ρ:=[some (netO sws),some (.int st)]) (by simp) (by simp)
 have e3:=band (jfx st sws) (jer st sws)
 have e4:((jfx st sws&&&jer st sws:Nat):Int)=0↔jfx st sws&&&jer st sws=0:=by omega
 simp[-jaj,z_Qx,b_Qx,e1,e2,e3,ji2]
theorem jqk{α:Type}{xs:List α}{k:Nat}{x:α}(e:xs[k]?=some x):atI xs (k:Int)=some x:=by
 obtain⟨hk,e'⟩:=List.getElem?_eq_some_iff.mp e
 simp[atI,ixN,hk,e']
theorem jjg{g:MG}{b:MS}{h:MH}(I:Ro->Prop):∀(ds:List D) (ρ:Ro),I ρ->(∀d∈ds,∀ρ,I ρ->∃ρ1,g d ρ h= .nx ρ1 h /\ ∃ρ2,b ρ1 h= .nx ρ2 h /\ I ρ2)->∃ρ',I ρ' /\ jc5 g b ds ρ h= .nx ρ' h
 | [],ρ,i,_=>⟨ρ,i,rfl⟩
 | d::ds,ρ,i,q=>by
  obtain⟨ρ1,e1,ρ2,e2,i2⟩:=q d (List.mem_cons_self ..) ρ i
  obtain⟨ρ',i',e'⟩:=jjg I ds ρ2 i2 λd m=>q d (List.mem_cons_of_mem _ m)
  refine⟨ρ',i',?_⟩
  unfold jc5
  simp only[e1,e2,e']
theorem ji8{sws:List Sw}{p:Sw×Nat}(h:p∈sws.zipIdx):sws[p.2]?=some p.1:=by
 have:=List.mem_zipIdx h
 obtain⟨_,h2,h3⟩:=this
 rw[List.getElem?_eq_getElem (by omega),h3]
 simp
def Sw.gen:Sw->Bool
 | .splitter _ _=>true
 | _=>false
theorem k_g1:(Str.ofString "gentle"==Str.ofString "bar")=false:=by decide+kernel
theorem k_g2:(Str.ofString "gentle"==Str.ofString "one")=false:=by decide+kernel
theorem k_g3:(Str.ofString "gentle"==Str.ofString "other")=false:=by decide+kernel
theorem gentle(s:Sw){m:ME}{ρ:Ro}{h:MH}(e:m ρ h= .ok s.o h):jaj jcv "gentle" m mNil ρ h= .ok (.bl s.gen) h:=by
 cases s with
 | splitter a b=>simp[e,Sw.o,jcv,k_g2,k_g3,z_Q5,b_Q5,Sw.gen,List.lookup]
 | feed b=>simp[e,Sw.o,jcv,k_g1,z_Qi,b_Qi,Sw.gen,List.lookup]
 | earth b=>simp[e,Sw.o,jcv,k_g1,z_Qi,b_Qi,Sw.gen,List.lookup]
 | breaker a b=>simp[e,Sw.o,jcv,k_g2,k_g3,z_Qi,b_Qi,Sw.gen,List.lookup]
theorem joinsG(s:Sw){n:Nat}(hn:n<=10)(ok:s.ok n){m:ME}{ρ:Ro}{h:MH}(e:m ρ h= .ok s.o h):jaj jc2 "joins" m mNil ρ h= .ok (.int s.pair) h:=by
 have:=joins s hn ok h
 unfold jaj at this ⊢
 rw[e]
 simpa using this
def low(a b:Nat):Nat:=2^min a b
theorem jvv:∀a b:Fin 10,a≠b->Builtin.bitAnd ((2^a.val|||2^b.val:Nat):Int) (-((2^a.val|||2^b.val:Nat):Int))=((2^min a.val b.val:Nat):Int):=by decide+kernel
theorem jp2{a b n:Nat}(hn:n<=10)(ha:a<n)(hb:b<n)(ab:a≠b)(h:MH):z_Xx [.int (2^a|||2^b:Nat)] h= .ok (.int (low a b:Nat)) h:=by
 have e:=jvv ⟨a,by omega⟩ ⟨b,by omega⟩ (λz=>ab (by simpa using z))
 simp only at e
 have:z_Xx [.int (2^a|||2^b:Nat)] h= .ok (.int (Builtin.bitAnd ((2^a|||2^b:Nat):Int) (-((2^a|||2^b:Nat):Int)))) h:=by simp[z_Xx,b_Xx]
 rw[this,e];rfl
def apart(st k:Nat):Nat:=st - (st&&&2^k)
def jfr(st k:Nat)(w:Sw)(sws:List Sw):Bool:=match w with
 | .splitter a b=>decide ((2^a|||2^b)&&&jfx (apart st k) sws≠0)&&decide ((2^a|||2^b) - ((2^a|||2^b)&&&Clo.clo (jei (apart st k) sws) (low a b))≠0)
 | _=>false
theorem jt3(ok:jc1 n sws)(st k:Nat)(w:Sw)(hw:sws[k]?=some w)(h:MH):z_Ya [netO sws,.int st,.int k] h= .ok (.bl (jfr st k w sws)) h:=by
 have wok:w.ok n:=ok.2.2.2 w (List.mem_of_getElem? hw)
 have hk:k<sws.length:=(List.getElem?_eq_some_iff.mp hw).1
 have hl:=ok.2.2.1
 have hx:atI (sws.map Sw.o) (k:Int)=some w.o:=jqk (by rw[List.getElem?_map,hw];rfl)
 have f1:mBin dIx (mFld jbr "switches" (mVar 0)) (mVar 2) [some (netO sws),some (.int st),some (.int k),none,none,none] h= .ok w.o h:=by simp[-List.map_map,netO,jbr,hx]
 have g1:=gentle w (m:=mVar 3) (ρ:=[some (netO sws),some (.int st),some (.int k),some w.o,none,none]) (h:=h) (by simp)
 have eb:b_Ya=(sSeq (sAsg (mBin dIx (mFld jbr "switches" (mVar 0)) (mVar 2)) (jab 3))
   (sSeq (sIf (tNot (tTru (jaj jcv "gentle" (mVar 3) mNil)))
   (sRet (mC (.bl false)))
   jb3)
   (sSeq (sAsg (mBin dAnd (mVar 1) (mUn dInv (mBin dShl (mC (.int 1)) (mVar 2)))) (jab 4))
   (sSeq (sAsg (jaj jc2 "joins" (mVar 3) mNil) (jab 5))
   (sSeq (sIf (tNot (tTru (mBin dAnd (mVar 5) (jaj jce "live_bars" (mVar 0) (ja3 (mVar 4) mNil)))))
   (sRet (mC (.bl false)))
   jb3)
   (sRet (mBin dNe (mBin dAnd (mVar 5) (mUn dInv (jaj jbm "joined_bars" (mVar 0) (ja3 (mVar 4) (ja3 (jaq z_Xx (ja3 (mVar 5) mNil)) mNil))))) (mC (.int 0))))))))):=rfl
 by_cases q:w.gen=false
 ·have:jfr st k w sws=false:=by cases w<;>first | rfl | (simp[Sw.gen] at q)
  rw[this]
  rw[q] at g1
  simp[-List.map_map, -jaj, -mFld, -dIx,z_Ya,eb]
  simp[-List.map_map, -jaj, -mFld, -dIx] at f1
  simp[-jaj, -mFld, -dIx,f1,g1]
 ·cases w with
  | splitter a b=>
   obtain⟨h1,h2,h3⟩:=wok
   let pr:=2^a|||2^b
   have epr:(Sw.splitter a b).pair=pr:=rfl
   have j1:=joinsG (.splitter a b) ok.2.1 ⟨h1,h2,h3⟩ (m:=mVar 3) (ρ:=[some (netO sws),some (.int st),some (.int k),some (Sw.splitter a b).o,some (.int (apart st k:Nat)),none]) (h:=h) (by simp)
   rw[epr] at j1
   have l1:=jpf ok (apart st k) h (h0:=h) (m:=mVar 0) (l:=mVar 4) (ρ:=[some (netO sws),some (.int st),some (.int k),some (Sw.splitter a b).o,some (.int (apart st k:Nat)),some (.int (pr:Nat))]) (by simp) (by simp)
   have lo:=jp2 ok.2.1 h1 h2 h3 h
   have c1:=jg7 ok (apart st k) (low a b) h (m:=mVar 0) (l:=mVar 4) (k:=jaq z_Xx (ja3 (mVar 5) mNil)) (ρ:=[some (netO sws),some (.int st),some (.int k),some (Sw.splitter a b).o,some (.int (apart st k:Nat)),some (.int (pr:Nat))]) (by simp) (by simp) (by simpa using lo)
   have d1:=bandn st (2^k)
   have d2:=band pr (jfx (apart st k) sws)
   have d3:=bandn pr (Clo.clo (jei (apart st k) sws) (low a b))
   have d4:=ne0 (pr&&&jfx (apart st k) sws)
   have o1:=okp (show k<=100 by omega)
   have el:jfr st k (.splitter a b) sws=(decide (pr&&&jfx (apart st k) sws≠0)&&decide (pr - (pr&&&Clo.clo (jei (apart st k) sws) (low a b))≠0)):=rfl
   rw[el]
   have ap:st - (st&&&2^k)=apart st k:=rfl
   rw[ap] at d1
   simp at d1
   clear_value pr
   have d5:((pr - (pr&&&Clo.clo (jei (apart st k) sws) (low a b)):Nat):Int)=0↔pr - (pr&&&Clo.clo (jei (apart st k) sws) (low a b))=0:=by omega
   generalize pr - (pr&&&Clo.clo (jei (apart st k) sws) (low a b))=u at d3 d5 ⊢
   simp[-List.map_map, -jaj, -mFld, -dIx,z_Ya,eb]
   simp[-List.map_map, -jaj, -mFld, -dIx] at f1
   rw[show(Sw.splitter a b).gen=true from rfl] at g1
   simp[-jaj, -mFld, -dIx,f1,g1,o1,d1,j1,l1,d2,d4]
   by_cases q2:pr&&&jfx (apart st k) sws=0
   ·simp[-jaj,q2]
   ·simp[-jaj,q2,c1,d3]
  | _=>simp[Sw.gen] at q
theorem jld(st k:Nat)(hk:k<=100)(h:MH):z_X4 [.int st,.int k] h= .ok (.int (st^^^2^k:Nat)) h:=by
 have:=bxor st (2^k)
 simp at this
 simp[z_X4,b_X4,okp hk,this]
theorem k_is':(Str.ofString "is_safe"==Str.ofString "switches")=false:=by decide+kernel
theorem jq4(ok:jc1 n sws)(st k:Nat)(hk:k<=100)(h:MH):z_Y4 [netO sws,.int st,.int k] h= .ok (.bl (!ji2 (st^^^2^k) sws)) h:=by
 have e1:=jld st k hk h
 have e2:=jw4 ok (st^^^2^k) h
 unfold netO at e2
 simp[-List.map_map,z_Y4,b_Y4,e1,netO,jfa,List.lookup,k_is',e2]
def jx5(st k:Nat)(w:Sw)(sws:List Sw)(h:MH):Res D:=
 if jfr st k w sws=true then .exc "Loaded" h else if ji2 (st^^^2^k) sws=true then .ok (.int (st^^^2^k:Nat)) h else .exc "Shorted" h
theorem jlg{n:Nat}{sws:List Sw}(k:Nat)(hk:k<sws.length)(h:MH):z_Qq [yd n sws,.int k] h= .ok .non h:=by
 simp[-List.map_map,z_Qq,b_Qq,yd,hk]
theorem jnx(ok:jc1 n sws)(st k:Nat)(w:Sw)(hw:sws[k]?=some w)(h:MH)(hb:Hb h):z_Xz [yd n sws,.int st,.int k] h=jx5 st k w sws h:=by
 have hk:k<sws.length:=(List.getElem?_eq_some_iff.mp hw).1
 have hl:=ok.2.2.1
 have e0:=jlg (n:=n) k hk h
 have e1:=jm3 (m:=mVar 0) (ρ:=[some (yd n sws),some (.int st),some (.int k),none]) (h:=h) n sws ok.2.2.1 hb (by simp)
 have e2:=jt3 ok st k w hw (h++[none])
 have e3:=jq4 ok st k (by omega) (h++[none])
 have e4:=jld st k (by omega) (h++[none])
 have hb2:∀x∈h,Cell.bnd h.length x=true:=by simpa using hb h.length (Nat.le_refl _)
 unfold jx5
 unfold yd at e0 e1
 cases q1:jfr st k w sws with
 | true=>
  rw[q1] at e2
  simp[-List.map_map, -jfu,z_Xz,b_Xz,yd,e0,e1,e2,hk]
  rw[if_neg (by omega),if_pos hb2]
 | false=>
  rw[q1] at e2
  cases q2:ji2 (st^^^2^k) sws with
  | true=>
   rw[q2] at e3
   simp[-List.map_map, -jfu,z_Xz,b_Xz,yd,e0,e1,e2,e3,e4,hk,D.bnd]
   rw[if_neg (by omega),if_pos hb2]
  | false=>
   rw[q2] at e3
   simp[-List.map_map, -jfu,z_Xz,b_Xz,yd,e0,e1,e2,e3,e4,hk]
   rw[if_neg (by omega),if_pos hb2]
theorem jqd{n:Nat}:∀{ds:List D},(∀d∈ds,D.bnd n d=true)->D.bnds n ds=true
 | [],_=>by simp[D.bnds]
 | d::ds,h=>by
  simp only[D.bnds,Bool.and_eq_true]
  exact⟨h d (List.mem_cons_self ..),jqd λx m=>h x (List.mem_cons_of_mem _ m)⟩
theorem jr3{α:Type}{h:List α}{c:Nat}{x:α}(hc:h[c]?=some x):h.set c x=h:=List.ext_getElem? λi=>by
 by_cases q:c=i
 ·subst q;rw[List.getElem?_set_self (List.getElem?_eq_some_iff.mp hc).1,hc]
 ·rw[List.getElem?_set_ne q]
@[simp] theorem jvq:(Str.ofString "net"==Str.ofString "yard")=false:=by decide+kernel
@[simp] theorem jvi:¬(Str.ofString "yard"=Str.ofString "net"):=by decide+kernel
@[simp] theorem jud:(Str.ofString "shut"==Str.ofString "yard")=false:=by decide+kernel
@[simp] theorem jug:¬(Str.ofString "yard"=Str.ofString "shut"):=by decide+kernel
@[simp] theorem jvy:(Str.ofString "shut"==Str.ofString "net")=false:=by decide+kernel
@[simp] theorem juy:¬(Str.ofString "net"=Str.ofString "shut"):=by decide+kernel
@[simp] theorem jsy:(Str.ofString "locks"==Str.ofString "yard")=false:=by decide+kernel
@[simp] theorem jqx:¬(Str.ofString "yard"=Str.ofString "locks"):=by decide+kernel
@[simp] theorem jub:(Str.ofString "locks"==Str.ofString "net")=false:=by decide+kernel
@[simp] theorem juj:¬(Str.ofString "net"=Str.ofString "locks"):=by decide+kernel
@[simp] theorem jqw:(Str.ofString "locks"==Str.ofString "shut")=false:=by decide+kernel
@[simp] theorem jsa:¬(Str.ofString "shut"=Str.ofString "locks"):=by decide+kernel
@[simp] theorem jsi:(Str.ofString "given"==Str.ofString "yard")=false:=by decide+kernel
@[simp] theorem jta:¬(Str.ofString "yard"=Str.ofString "given"):=by decide+kernel
@[simp] theorem jtq:(Str.ofString "given"==Str.ofString "net")=false:=by decide+kernel
@[simp] theorem jtg:¬(Str.ofString "net"=Str.ofString "given"):=by decide+kernel
@[simp] theorem jt6:(Str.ofString "given"==Str.ofString "shut")=false:=by decide+kernel
@[simp] theorem jsf:¬(Str.ofString "shut"=Str.ofString "given"):=by decide+kernel
@[simp] theorem jqr:(Str.ofString "given"==Str.ofString "locks")=false:=by decide+kernel
@[simp] theorem jqq:¬(Str.ofString "locks"=Str.ofString "given"):=by decide+kernel
@[simp] theorem jk5:(Str.ofString "last_number"==Str.ofString "yard")=false:=by decide+kernel
@[simp] theorem jkh:¬(Str.ofString "yard"=Str.ofString "last_number"):=by decide+kernel
@[simp] theorem jm6:(Str.ofString "last_number"==Str.ofString "net")=false:=by decide+kernel
@[simp] theorem jlk:¬(Str.ofString "net"=Str.ofString "last_number"):=by decide+kernel
@[simp] theorem jkr:(Str.ofString "last_number"==Str.ofString "shut")=false:=by decide+kernel
@[simp] theorem jkk:¬(Str.ofString "shut"=Str.ofString "last_number"):=by decide+kernel
@[simp] theorem jjx:(Str.ofString "last_number"==Str.ofString "locks")=false:=by decide+kernel
@[simp] theorem jk0:¬(Str.ofString "locks"=Str.ofString "last_number"):=by decide+kernel
@[simp] theorem jjz:(Str.ofString "last_number"==Str.ofString "given")=false:=by decide+kernel
@[simp] theorem jjy:¬(Str.ofString "given"=Str.ofString "last_number"):=by decide+kernel
structure Bd where
 n:Nat
 sws:List Sw
 st:Nat
 lk:Nat
 gv:List (Nat×Nat×Nat)
 la:Nat
def gvD(gv:List (Nat×Nat×Nat)):List (Sum Int Str×D):=gv.map λg=>(.inl (g.1:Int),.tup [.int (g.2.1:Nat),.int (g.2.2:Nat)])
def Bd.f(b:Bd)(r:Nat):List (Str×D):=[(Str.ofString "yard",yd b.n b.sws),(Str.ofString "net",netO b.sws),(Str.ofString "shut",.int b.st),(Str.ofString "locks",.int b.lk),(Str.ofString "given",.ref r),(Str.ofString "last_number",.int b.la)]
def Bd.cell(b:Bd)(r:Nat):Option Cell:=some (.ins "Board" (b.f r))
theorem jnl(n:Nat)(sws:List Sw)(m:Nat):(yd n sws).bnd m=true:=by
 simp only[yd,D.bnd,D.bnds,Bool.true_and,Bool.and_true]
 exact jqd λd hd=>by
  obtain⟨s,_,rfl⟩:=List.mem_map.mp hd
  cases s<;>simp[Sw.d,D.bnd,D.bnds]
theorem jur(sws:List Sw)(m:Nat):(netO sws).bnd m=true:=by
 have:D.bnds m (sws.map Sw.o)=true:=jqd λd hd=>by
  obtain⟨s,_,rfl⟩:=List.mem_map.mp hd
  cases s<;>simp[Sw.o,D.bnd,D.bnds,D.bndf]
 simp[netO,D.bnd,D.bnds,D.bndf,this]
@[simp] theorem in_yard:"Board"∈jb6:=by decide
@[simp] theorem in_net:"Board"∈jpr:=by decide
@[simp] theorem in_shut:"Board"∈jel:=by decide
@[simp] theorem in_locks:"Board"∈jfz:=by decide
@[simp] theorem in_given:"Board"∈jg2:=by decide
@[simp] theorem in_last:"Board"∈jdf:=by decide
@[simp] theorem bf_yard(b:Bd)(r:Nat):(b.f r).lookup (Str.ofString "yard")=some (yd b.n b.sws):=by simp[Bd.f,List.lookup]
@[simp] theorem bf_net(b:Bd)(r:Nat):(b.f r).lookup (Str.ofString "net")=some (netO b.sws):=by simp[Bd.f,List.lookup]
@[simp] theorem bf_shut(b:Bd)(r:Nat):(b.f r).lookup (Str.ofString "shut")=some (.int b.st):=by simp[Bd.f,List.lookup]
@[simp] theorem bf_locks(b:Bd)(r:Nat):(b.f r).lookup (Str.ofString "locks")=some (.int b.lk):=by simp[Bd.f,List.lookup]
@[simp] theorem bf_given(b:Bd)(r:Nat):(b.f r).lookup (Str.ofString "given")=some (.ref r):=by simp[Bd.f,List.lookup]
@[simp] theorem bf_last(b:Bd)(r:Nat):(b.f r).lookup (Str.ofString "last_number")=some (.int b.la):=by simp[Bd.f,List.lookup]
@[simp] theorem bp_shut(b:Bd)(r s:Nat):putF (Str.ofString "shut") (.int s) (b.f r)=({b with st:=s}).f r:=by simp[Bd.f,putF]
@[simp] theorem bp_locks(b:Bd)(r s:Nat):putF (Str.ofString "locks") (.int s) (b.f r)=({b with lk:=s}).f r:=by simp[Bd.f,putF]
@[simp] theorem bp_last(b:Bd)(r s:Nat):putF (Str.ofString "last_number") (.int s) (b.f r)=({b with la:=s}).f r:=by simp[Bd.f,putF]
@[simp] theorem bf_len(b:Bd)(r:Nat):(b.f r).length=6:=rfl
theorem bf_no(b:Bd)(r:Nat){m:Str}(h:([Str.ofString "yard",Str.ofString "net",Str.ofString "shut",Str.ofString "locks",Str.ofString "given",Str.ofString "last_number"]).contains m=false):(b.f r).lookup m=none:=by
 simp only[List.contains,List.elem_eq_mem,List.mem_cons,List.not_mem_nil,or_false,decide_eq_false_iff_not,not_or] at h
 obtain⟨h1,h2,h3,h4,h5,h6⟩:=h
 simp[Bd.f,List.lookup,beq_eq_false_iff_ne.mpr h1,beq_eq_false_iff_ne.mpr h2,beq_eq_false_iff_ne.mpr h3,beq_eq_false_iff_ne.mpr h4,beq_eq_false_iff_ne.mpr h5,beq_eq_false_iff_ne.mpr h6]
structure At (h:MH) (p r:Nat) (b:Bd):Prop where
 o:h[p]?=some (b.cell r)
 g:h[r]?=some (some (.dct (gvD b.gv)))
 hb:Hb h
 ok:jc1 b.n b.sws
theorem bd_cl(b:Bd){r m:Nat}(h:r<m):Cell.bnd m (b.cell r)=true:=by
 have h1:=jnl b.n b.sws m
 have h2:=jur b.sws m
 simp[Bd.cell,Bd.f,Cell.bnd,D.bnd,D.bnds,h1,h2,h]
theorem Hb.set{h:MH}{p:Nat}{c:Option Cell}(a:Hb h)(q:∀n,h.length<=n->Cell.bnd n c=true):Hb (h.set p c):=λn hn=>by
 rw[List.length_set] at hn
 have:=a n hn
 rw[List.all_eq_true] at this ⊢
 intro x hx
 rcases List.mem_or_eq_of_mem_set hx with hx | rfl
 ·exact this x hx
 ·exact q n hn
theorem At.ne(A:At h p r b):p≠r:=λe=>by
 have h1:=A.o
 rw[e,A.g] at h1
 simp[Bd.cell] at h1
theorem At.lt(A:At h p r b):r<h.length:=(List.getElem?_eq_some_iff.mp A.g).1
theorem At.lt'(A:At h p r b):p<h.length:=(List.getElem?_eq_some_iff.mp A.o).1
theorem At.put{b b':Bd}(A:At h p r b)(hg:b'.gv=b.gv)(ok:jc1 b'.n b'.sws):At (h.set p (b'.cell r)) p r b':=
 ⟨by rw[List.getElem?_set_self A.lt'],by rw[List.getElem?_set_ne A.ne,hg];exact A.g,A.hb.set λn hn=>bd_cl b' (Nat.lt_of_lt_of_le A.lt hn),ok⟩
def jjm(gv:List (Nat×Nat×Nat)):Nat:=Clo.all (gv.map λg=>g.2.2) 0
theorem jj8(a:Option D)(h:MH):∀(gv:List (Nat×Nat×Nat)) (f:Nat) (x:Option D),∃x',jc5 (jab 2) (sAsg (mBin dOr (mVar 1) (mBin dIx (mVar 2) (mC (.int 1)))) (jab 1)) ((gvD gv).map (·.2)) [a,some (.int f),x] h= .nx [a,some (.int (Clo.all (gv.map λg=>g.2.2) f:Nat)),x'] h
 | [],f,x=>⟨x,rfl⟩
 | g::gv,f,x=>by
  obtain⟨x',ih⟩:=jj8 a h gv (f|||g.2.2) (some (.tup [.int (g.2.1:Nat),.int (g.2.2:Nat)]))
  refine⟨x',?_⟩
  have e2:=bor f g.2.2
  simp only[gvD,List.map_cons]
  unfold jc5
  simp only[gvD] at ih
  simp[-List.map_map,e2]
  exact ih
theorem jwb(A:At h p r b):z_X1 [.ref p] h= .ok (.int (jjm b.gv:Nat)) h:=by
 obtain⟨x',e⟩:=jj8 (some (.ref p)) (h.set r none) b.gv 0 none
 have o:h[p]?=some (some (.ins "Board" (b.f r))):=A.o
 have g:=A.g
 have l:∀c:Option Cell,(h.set r c)[r]?=some c:=λc=>List.getElem?_set_self A.lt
 have hs:(h.set r none).set r (some (.dct (gvD b.gv)))=h:=by rw[List.set_set];exact jr3 g
 have f0:Clo.all (b.gv.map λg=>g.2.2) 0=jjm b.gv:=rfl
 rw[f0] at e
 simp at e
 simp[-List.map_map,z_X1,b_X1,o,g,e,l,hs]
theorem jkz(A:At h p r b){tab:List (String×MF)}{f:Str}{z:MF}{m:ME}{l:ML}{ρ:Ro}{ds:List D}(et:tab.lookup "Board"=some z)(hf:([Str.ofString "yard",Str.ofString "net",Str.ofString "shut",Str.ofString "locks",Str.ofString "given",Str.ofString "last_number"]).contains f=false)(e:m ρ h= .ok (.ref p) h)(el:l ρ h= .ok ds h):jaj tab f m l ρ h=z (.ref p::ds) h:=by
 have o:h[p]?=some (some (.ins "Board" (b.f r))):=A.o
 have ea:asO h (.ref p)=some ("Board",b.f r):=by simp[o]
 have ef:=bf_no b r hf
 simp only[jaj,e,jdb,ea,jox,et,chk,ef,if_true,el]
theorem jkp(A:At h p r b):z_Qa [.ref p] h= .ok (.int b.st) h:=by
 have o:h[p]?=some (some (.ins "Board" (b.f r))):=A.o
 simp[z_Qa,b_Qa,o]
def jo4(b:Bd)(k:Nat)(w:Sw):Option String:=
 if b.lk.testBit k=true then some "Locked" else if(jjm b.gv).testBit k=true then some "Held" else if jfr b.st k w b.sws=true then some "Loaded" else if ji2 (b.st^^^2^k) b.sws=true then none else some "Shorted"
theorem jvb(A:At h p r b)(k:Nat)(w:Sw)(hw:b.sws[k]?=some w):z_X7 [.ref p,.int k] h=match jo4 b k w with | some c=> .exc c h | none=> .ok (.int (b.st^^^2^k:Nat)) (h.set p (({b with st:=b.st^^^2^k}:Bd).cell r)):=by
 have hk:k<b.sws.length:=(List.getElem?_eq_some_iff.mp hw).1
 have e0:=jlg (n:=b.n) k hk h
 have e1:=jnx A.ok b.st k w hw h A.hb
 have hs:=jiz b.lk k h
 have hh:=jiz (jjm b.gv) k h
 have o:h[p]?=some (some (.ins "Board" (b.f r))):=A.o
 have l:∀c:Option Cell,(h.set p c)[p]?=some c:=λc=>List.getElem?_set_self A.lt'
 have f4:jaj jk7 "held" (mVar 0) mNil [some (.ref p),some (.int k)] h= .ok (.int (jjm b.gv:Nat)) h:=by
  rw[jkz A (z:=z_X1) (ds:=[]) rfl (by decide+kernel) (by simp) (by simp)]
  exact jwb A
 unfold jo4 jx5 at*
 by_cases q0:b.lk.testBit k=true
 ·rw[q0] at hs
  simp[z_X7,b_X7,o,e0,hs,q0]
 ·have q0:b.lk.testBit k=false:=by simpa using q0
  rw[q0] at hs
  by_cases q1:(jjm b.gv).testBit k=true
  ·rw[q1] at hh
   simp[-jaj,z_X7,b_X7,o,e0,hs,q0,f4,hh,q1]
  ·have q1:(jjm b.gv).testBit k=false:=by simpa using q1
   rw[q1] at hh
   cases q2:jfr b.st k w b.sws with
   | true=>
    rw[q2] at e1
    simp at e1
    simp[-jaj,z_X7,b_X7,o,e0,hs,q0,f4,hh,q1,e1]
   | false=>
    rw[q2] at e1
    cases q3:ji2 (b.st^^^2^k) b.sws with
    | false=>
     rw[q3] at e1
     simp at e1
     simp[-jaj,z_X7,b_X7,o,e0,hs,q0,f4,hh,q1,e1]
    | true=>
     rw[q3] at e1
     simp at e1
     generalize b.st^^^2^k=s2 at*
     simp[-jaj,z_X7,b_X7,o,e0,hs,q0,f4,hh,q1,e1,l,Bd.cell]
def Bd.new(n:Nat)(sws:List Sw):Bd:=⟨n,sws,0,0,[],0⟩
theorem jv5(ok:jc1 n sws){m:ME}{ρ:Ro}{h0 h:MH}(hb:Hb h)(e:m ρ h0= .ok (yd n sws) h):jjf "Board" z_Qb (ja3 m mNil) ρ h0= .ok (.ref h.length) (h++[(Bd.new n sws).cell (h.length+2),none,some (.dct [])]):=by
 have hb1:Hb (h++[some (Cell.ins "Board" [(Str.ofString "yard",yd n sws)])]):=hb.snoc λk hk=>by
  simp[Cell.bnd,D.bnds,jnl n sws k]
 have e1:=jm3 (m:=mFld jb6 "yard" (mVar 0)) (ρ:=[some (.ref h.length),some (yd n sws)]) (h:=h++[some (.ins "Board" [(Str.ofString "yard",yd n sws)])]) n sws ok.2.2.1 hb1 (by simp[List.lookup])
 have ix:∀h:MH,dIx (yd n sws) (.int 1) h= .ok (.lst (sws.map Sw.d)) h:=λh=>by simp[-List.map_map,yd]
 have ix0:∀h:MH,dIx (yd n sws) (.int 0) h= .ok (.int n) h:=λh=>by simp[yd]
 have yy:D.tup [.int n,.lst (sws.map Sw.d)]=yd n sws:=rfl
 have h1:=jnl n sws (h.length+1)
 have h2:=jur sws (h.length+1)
 have hbn:(h++[some (Cell.ins "Board" [])]).length=h.length+1:=by simp
 have nb:Cell.bnd (h.length+1) (some (Cell.ins "Board" (((Bd.new n sws).f (h.length+2)))))=false:=by
  simp[Bd.f,Bd.new,Cell.bnd,D.bnds,D.bnd]
 have key:z_Qb [.ref h.length,yd n sws] (h++[some (Cell.ins "Board" [])])= .ok .non (h++[(Bd.new n sws).cell (h.length+2),none,some (.dct [])]):=by
  have eb:b_Qb [some (.ref h.length),some (yd n sws)] (h++[some (Cell.ins "Board" [])])= .nx [some (.ref h.length),some (yd n sws)] (h++[(Bd.new n sws).cell (h.length+2),none,some (.dct [])]):=by
   simp[-List.map_map, -dIx, -jfu, -mFld,b_Qb,ix,ix0,yy,e1,putF,Bd.cell,Bd.f,Bd.new]
  unfold z_Qb mFun
  rw[if_pos (show[D.ref h.length,yd n sws].length=2 from rfl)]
  have e2:b_Qb ([D.ref h.length,yd n sws].map some++List.replicate (2 - [D.ref h.length,yd n sws].length) none) (h++[some (Cell.ins "Board" [])])= .nx [some (.ref h.length),some (yd n sws)] (h++[(Bd.new n sws).cell (h.length+2),none,some (.dct [])]):=eb
  rw[e2]
  have tk:(h++[(Bd.new n sws).cell (h.length+2),none,some (.dct [])]).take (h++[some (Cell.ins "Board" [])]).length=h++[(Bd.new n sws).cell (h.length+2)]:=by
   rw[hbn,List.take_append,List.take_of_length_le (Nat.le_succ _)]
   simp
  show fin _ _ _=_
  unfold fin
  rw[if_neg (by simp),tk,hbn,List.all_append]
  have:([(Bd.new n sws).cell (h.length+2)].all (Cell.bnd (h.length+1)))=false:=by
   simp only[List.all_cons,List.all_nil,Bool.and_true]
   exact nb
  rw[this]
  simp
 simp[e,key]
theorem at_new(ok:jc1 n sws){h:MH}(hb:Hb h):At (h++[(Bd.new n sws).cell (h.length+2),none,some (.dct [])]) h.length (h.length+2) (Bd.new n sws):=
 ⟨by simp,by simp[Bd.new,gvD],λk hk=>by
  simp only[List.length_append,List.length_cons,List.length_nil] at hk
  rw[List.all_append,hb k (by omega)]
  have:=bd_cl (Bd.new n sws) (show h.length+2<k by omega)
  simp only[List.all_cons,List.all_nil,Bool.and_true,this]
  simp[Cell.bnd,D.bnds],ok⟩
theorem jap{a b:MS}{ρ ρ':Ro}{h h':MH}(e:a ρ h= .nx ρ' h'):sSeq a b ρ h=b ρ' h':=by simp only[sSeq,e]
theorem jf8{a b:MS}{ρ:Ro}{d:D}{h h':MH}(e:a ρ h= .rt d h'):sSeq a b ρ h= .rt d h':=by simp only[sSeq,e]
theorem jcu{np nn:Nat}{b:MS}{ds:List D}{h h':MH}{d:D}(hl:ds.length=np)(e:b (ds.map some++List.replicate (nn - ds.length) none) h= .rt d h')(hn:h'.length<=h.length):mFun np nn b ds h= .ok d h':=by
 unfold mFun
 rw[if_pos hl,e]
 show fin h.length d h'=_
 unfold fin
 rw[if_pos hn]
@[simp] theorem jrr:(Str.ofString "board"==Str.ofString "yard")=false:=by decide+kernel
@[simp] theorem jse:¬(Str.ofString "yard"=Str.ofString "board"):=by decide+kernel
def dkF(y b:D):List (Str×D):=[(Str.ofString "yard",y),(Str.ofString "board",b)]
def dkC(y b:D):Option Cell:=some (.ins "Desk" (dkF y b))
@[simp] theorem dk_yard:"Desk"∈jb6:=by decide
@[simp] theorem dk_board:"Desk"∈jbh:=by decide
@[simp] theorem df_yard(y b:D):(dkF y b).lookup (Str.ofString "yard")=some y:=by simp[dkF,List.lookup]
@[simp] theorem df_board(y b:D):(dkF y b).lookup (Str.ofString "board")=some b:=by simp[dkF,List.lookup]
@[simp] theorem dp_yard(y b y':D):putF (Str.ofString "yard") y' (dkF y b)=dkF y' b:=by simp[dkF,putF]
@[simp] theorem dp_board(y b b':D):putF (Str.ofString "board") b' (dkF y b)=dkF y b':=by simp[dkF,putF]
@[simp] theorem df_len(y b:D):(dkF y b).length=2:=rfl
theorem jwe(y b:D){m:Str}(h:([Str.ofString "yard",Str.ofString "board"]).contains m=false):(dkF y b).lookup m=none:=by
 simp only[List.contains_cons,List.contains_nil,Bool.or_false,Bool.or_eq_false_iff] at h
 simp only[dkF,List.lookup,h.1,h.2]
theorem jee{h:MH}{d:Nat}{y b:D}(o:h[d]?=some (dkC y b)){tab:List (String×MF)}{f:Str}{z:MF}{m:ME}{l:ML}{ρ:Ro}{ds:List D}(et:tab.lookup "Desk"=some z)(hf:([Str.ofString "yard",Str.ofString "board"]).contains f=false)(em:m ρ h= .ok (.ref d) h)(el:l ρ h= .ok ds h):jaj tab f m l ρ h=z (.ref d::ds) h:=by
 unfold dkC at o
 simp[em,el,o,et,jwe y b hf]
structure Dk (h:MH) (d p r:Nat) (b:Bd):Prop where
 o:h[d]?=some (dkC (yd b.n b.sws) (.ref p))
 a:At h p r b
theorem jlp(ok:jc1 n sws){h:MH}(hb:Hb h){d:Nat}{y b:D}(o:h[d]?=some (dkC y b))(hy:∀m,h.length<=m->b.bnd m=true):z_X0 [.ref d,yd n sws] h= .ok (.str "ok") (((h.set d (dkC (yd n sws) b))++[(Bd.new n sws).cell (h.length+2),none,some (.dct [])]).set d (dkC (yd n sws) (.ref h.length))):=by
 have ld:d<h.length:=(List.getElem?_eq_some_iff.mp o).1
 have hl:(h.set d (dkC (yd n sws) b)).length=h.length:=List.length_set
 have hb1:Hb (h.set d (dkC (yd n sws) b)):=hb.set λm hm=>by
  have h1:=jnl n sws m
  have h2:=hy m hm
  simp[dkC,dkF,Cell.bnd,h1,h2,D.bnds,D.bndf]
 have mk:=jv5 ok (m:=mVar 1) (ρ:=[some (.ref d),some (yd n sws)]) (h0:=h.set d (dkC (yd n sws) b)) hb1 (by simp)
 rw[hl] at mk
 have o1:((h.set d (dkC (yd n sws) b))++[(Bd.new n sws).cell (h.length+2),none,some (.dct [])])[d]?=some (dkC (yd n sws) b):=by
  rw[List.getElem?_append_left (by rw[hl];exact ld),List.getElem?_set_self ld]
 have key:b_X0 [some (.ref d),some (yd n sws)] h= .rt (.str "ok") (((h.set d (dkC (yd n sws) b))++[(Bd.new n sws).cell (h.length+2),none,some (.dct [])]).set d (dkC (yd n sws) (.ref h.length))):=by
  unfold b_X0
  refine(jap (ρ':=[some (.ref d),some (yd n sws)]) (h':=h.set d (dkC (yd n sws) b)) (by
   unfold dkC at o ⊢
   simp[o])).trans ?_
  refine(jap (ρ':=[some (.ref d),some (yd n sws)]) (h':=((h.set d (dkC (yd n sws) b))++[(Bd.new n sws).cell (h.length+2),none,some (.dct [])]).set d (dkC (yd n sws) (.ref h.length))) (by
   generalize ((h.set d (dkC (yd n sws) b))++[(Bd.new n sws).cell (h.length+2),none,some (.dct [])])=H1 at*
   generalize h.set d (dkC (yd n sws) b)=H0 at*
   unfold dkC at o1 ⊢
   unfold jdh
   rw[mk]
   simp[o1])).trans ?_
  simp
 unfold z_X0 mFun
 rw[if_pos (show[D.ref d,yd n sws].length=2 from rfl)]
 have k2:b_X0 ([D.ref d,yd n sws].map some++List.replicate (2 - [D.ref d,yd n sws].length) none) h=_:=key
 rw[k2]
 show fin _ _ _=_
 unfold fin
 have l3:(((h.set d (dkC (yd n sws) b))++[(Bd.new n sws).cell (h.length+2),none,some (Cell.dct [])]).set d (dkC (yd n sws) (.ref h.length))).length=h.length+3:=by simp
 rw[if_neg (by omega),if_neg]
 intro z
 have z2:=(Bool.and_eq_true_iff.mp z).2
 rw[List.all_eq_true] at z2
 have:=z2 (dkC (yd n sws) (.ref h.length)) (by
  refine List.mem_of_getElem? (i:=d) ?_
  rw[List.getElem?_take_of_lt ld,List.getElem?_set_self (by simp;omega)])
 simp[dkC,dkF,Cell.bnd,D.bnd,D.bnds,D.bndf] at this
theorem jhq{H:MH}{d p n:Nat}{x y:D}(o:H[d]?=some (dkC y (.ref p)))(hd:d<n)(hp:n<=p):fin n x H= .ok x H:=by
 unfold fin
 by_cases z:H.length<=n
 ·rw[if_pos z]
 ·rw[if_neg z,if_neg]
  intro q
  have z2:=(Bool.and_eq_true_iff.mp q).2
  rw[List.all_eq_true] at z2
  have:=z2 (dkC y (.ref p)) (by
   refine List.mem_of_getElem? (i:=d) ?_
   rw[List.getElem?_take_of_lt hd];exact o)
  simp[dkC,dkF,Cell.bnd,D.bnd,D.bnds,D.bndf] at this
  omega
def beH(h:MH)(d n:Nat)(sws:List Sw)(b:D):MH:=((h.set d (dkC (yd n sws) b))++[(Bd.new n sws).cell (h.length+2),none,some (.dct [])]).set d (dkC (yd n sws) (.ref h.length))
theorem js2{h:MH}{d n:Nat}{sws:List Sw}{b:D}(ld:d<h.length):(beH h d n sws b)[d]?=some (dkC (yd n sws) (.ref h.length)):=by
 unfold beH
 rw[List.getElem?_set_self (by simp;omega)]
theorem jkq{h:MH}{d n:Nat}{sws:List Sw}{b:D}:(beH h d n sws b).length=h.length+3:=by simp[beH]
theorem jdy{h:MH}{d n j:Nat}{sws:List Sw}{b:D}(lj:j<h.length)(ne:j≠d):(beH h d n sws b)[j]?=h[j]?:=by
 unfold beH
 rw[List.getElem?_set_ne (Ne.symm ne),List.getElem?_append_left (by simpa using lj),List.getElem?_set_ne (Ne.symm ne)]
theorem jqj{h:MH}{d n:Nat}{b:D}(ok:jc1 n sws)(hb:Hb h)(ld:d<h.length)(hy:∀m,h.length<=m->b.bnd m=true):Dk (beH h d n sws b) d h.length (h.length+2) (Bd.new n sws):=by
 have hb1:Hb (h.set d (dkC (yd n sws) b)):=hb.set λm hm=>by
  have h1:=jnl n sws m
  have h2:=hy m hm
  simp[dkC,dkF,Cell.bnd,h1,h2,D.bnds,D.bndf]
 have A:=at_new ok hb1
 have hl:(h.set d (dkC (yd n sws) b)).length=h.length:=List.length_set
 rw[hl] at A
 refine⟨js2 ld,?_,?_,?_,ok⟩
 ·unfold beH
  rw[List.getElem?_set_ne (by omega)];exact A.o
 ·unfold beH
  rw[List.getElem?_set_ne (by omega)];exact A.g
 ·unfold beH
  refine A.hb.set λm hm=> ?_
  have h1:=jnl n sws m
  simp at hm
  simp[dkC,dkF,Cell.bnd,h1,D.bnds,D.bndf,D.bnd]
  omega
theorem je4{ws:List Str}{row k:Str}(e:Txt.split row ⟨#[32]⟩=k::ws)(lr:row.length<=16777216)(lw:ws.length<=100)(d:Nat)(B:MS)(h:MH):sSeq (sAsg (jcc (jfj (mVar 1) (ja3 (mC (.str " ")) mNil))) (jab 2)) (sSeq (sAsg (mBin dIx (mVar 2) (mC (.int 0))) (jab 3)) B) [some (.ref d),some (.str row),none,none,none] h=B [some (.ref d),some (.str row),some (.lst ((k::ws).map D.str)),some (.str k),none] h:=by
 have l1:(Str.ofString " ").length≠0:=by decide+kernel
 have l2:(Txt.split row ⟨#[32]⟩).length<=16777216:=by rw[e];simp;omega
 refine(jap (ρ':=[some (.ref d),some (.str row),some (.lst ((k::ws).map D.str)),none,none]) (h':=h) (by
  rw[<-e32] at e l2
  have l3:ws.length<=16777215:=by omega
  simp[-List.map_cons,l1,lr,l3,e])).trans ?_
 exact jap (by simp)
theorem jlu{n:Nat}(h1:1<=n)(h2:n<=10){h:MH}(hb:Hb h){d:Nat}{y b:D}(o:h[d]?=some (dkC y b))(hy:∀m,h.length<=m->b.bnd m=true):z_Xo [.ref d,.str (jai n)] h= .ok (.str "ok") (beH h d n [] b):=by
 have ld:d<h.length:=(List.getElem?_eq_some_iff.mp o).1
 have ok:jc1 n []:=⟨h1,h2,by simp,λs m=>(nomatch m)⟩
 obtain⟨f1,_,f3⟩:=jci (k:="bars") (bs:=[(n:Int)]) jcb.1 jcb.2.1 jcb.2.2 (by simp;omega) (by simp)
 have hd:=je4 (row:=jai n) (k:="bars") (ws:=[(n:Int)].map W) f3 (by have:(jai n).length<=20:=f1;omega) (by simp) d
 have ci:=jgn n h (by omega) (by omega)
 have bg:z_X0 [.ref d,.tup [.int (n:Int),.lst []]] h= .ok (.str "ok") (beH h d n [] b):=jlp ok hb o hy
 have key:b_Xo [some (.ref d),some (.str (jai n)),none,none,none] h= .rt (.str "ok") (beH h d n [] b):=by
  unfold b_Xo
  rw[hd]
  refine jf8 ?_
  have mm:=jee o (tab:=je3) (f:="begin") (z:=z_X0) (m:=mVar 0) (l:=ja3 (mTup (ja3 (jaq z_Xp (ja3 (mVar 1) mNil)) (ja3 (jcc (jek mNil)) mNil))) mNil) (ρ:=[some (.ref d),some (.str (jai n)),some (.lst ((Str.ofString "bars"::[(n:Int)].map W).map D.str)),some (.str (Str.ofString "bars")),none]) (ds:=[.tup [.int (n:Int),.lst []]]) rfl (by decide+kernel) (by simp) (by simp[ci])
  have mm:=mm.trans bg
  generalize beH h d n [] b=H at*
  simp only[sIf,tB,mBin,mVar,mC,List.getElem?_cons_succ,List.getElem?_cons_zero,jdb,dEq,decide_true,jcf,if_true,sRet,mm]
 unfold z_Xo mFun
 rw[if_pos (show[D.ref d,D.str (jai n)].length=2 from rfl)]
 have k2:b_Xo ([D.ref d,D.str (jai n)].map some++List.replicate (5 - [D.ref d,D.str (jai n)].length) none) h=_:=key
 rw[k2]
 exact jhq (js2 ld) ld (Nat.le_refl _)
def Sw.t:Sw->Str×List Int
 | .feed a=>("feed",[(a:Int)]) | .earth a=>("earth",[(a:Int)]) | .breaker a b=>("breaker",[(a:Int),(b:Int)]) | .splitter a b=>("splitter",[(a:Int),(b:Int)])
theorem sd_t(s:Sw):sd s.t=s.d:=by cases s<;>rfl
theorem t_ok{n:Nat}{s:Sw}(ok:s.ok n):SwOk n s.t:=by
 cases s with
 | feed a=>exact .inl ⟨a,by omega,by have:a<n:=ok;omega,.inl rfl⟩
 | earth a=>exact .inl ⟨a,by omega,by have:a<n:=ok;omega,.inr rfl⟩
 | breaker a b=>obtain⟨h1,h2,h3⟩:=ok;exact .inr ⟨a,b,by omega,by omega,by omega,by omega,by omega,.inl rfl⟩
 | splitter a b=>obtain⟨h1,h2,h3⟩:=ok;exact .inr ⟨a,b,by omega,by omega,by omega,by omega,by omega,.inr rfl⟩
def rowS(s:Sw):Str:=rowT s.t
theorem jw1:¬(Str.ofString "feed"=Str.ofString "bars") /\ ¬(Str.ofString "earth"=Str.ofString "bars") /\ ¬(Str.ofString "breaker"=Str.ofString "bars") /\ ¬(Str.ofString "splitter"=Str.ofString "bars"):=by decide+kernel
theorem jf9{n:Nat}(hn:n<=10){s:Sw}(ok:s.ok n):(rowS s).length<=20 /\ Txt.split (rowS s) ⟨#[32]⟩=s.t.1::s.t.2.map W /\ s.t.2.length<=2:=by
 obtain⟨b1,b2,b3,b4,b5,b6⟩:=(t_ok ok).bars
 obtain⟨f1,_,f3⟩:=jci (k:=s.t.1) (bs:=s.t.2) b4 b5 b6 (λb m=>by have:=b1 b m;omega) b2
 exact⟨f1,f3,b2⟩
theorem jg1{h:MH}{d p:Nat}{y:D}(o:h[d]?=some (dkC y (.ref p)))(hy:jmr y=false){k:Str}(hk:¬k=Str.ofString "bars")(x1 x2 x4:Option D)(A B:MS):sSeq (sIf (tB (mBin dEq (mVar 3) (mC (.str "bars")))) A jb3) (sSeq (sIf (tB (mBin dIs (mFld jb6 "yard" (mVar 0)) (mC .non))) (jcd "NoRow" (mC (.str "there is no yard yet"))) jb3) B) [some (.ref d),x1,x2,some (.str k),x4] h=B [some (.ref d),x1,x2,some (.str k),x4] h:=by
 refine(jap (ρ':=[some (.ref d),x1,x2,some (.str k),x4]) (h':=h) (by simp[hk])).trans ?_
 have e1:mFld jb6 "yard" (mVar 0) [some (.ref d),x1,x2,some (.str k),x4] h= .ok y h:=by
  unfold dkC at o
  simp[o]
 have e2:dIs y .non h= .ok (.bl false) h:=by
  have:dIs y .non h= .ok (.bl (jmr y)) h:=by cases y<;>rfl
  rw[this,hy]
 refine jap ?_
 simp only[sIf,tB,mBin,e1,mC,jdb,e2,jcf,Bool.false_eq_true,if_false,jb3]
theorem in4(s:Sw)(h:MH):dIn false (.str s.t.1) (.tup [.str "feed",.str "earth",.str "breaker",.str "splitter"]) h= .ok (.bl true) h:=by
 cases s<;>simp[Sw.t,eqF]
theorem jmk{h:MH}{d p r:Nat}{b:Bd}(D0:Dk h d p r b)(ok:jc1 b.n b.sws){s:Sw}(hs:s.ok b.n)(hl:b.sws.length<12):z_Xo [.ref d,.str (rowS s)] h= .ok (.str "ok") (beH h d b.n (b.sws++[s]) (.ref p)):=by
 have ld:d<h.length:=(List.getElem?_eq_some_iff.mp D0.o).1
 have lp:p<h.length:=D0.a.lt'
 have hn:=ok.2.1
 obtain⟨f1,f2,f3⟩:=jf9 hn hs
 have hd:=je4 (row:=rowS s) f2 (by omega) (by simp;omega) d
 have si:=jfe s.t b.n b.sws.length h (by have:=ok.1;omega) (by omega) (t_ok hs) hl
 rw[sd_t] at si
 have ok2:jc1 b.n (b.sws++[s]):=⟨ok.1,hn,by simp;omega,λw m=>by
  rcases List.mem_append.mp m with m | m
  ·exact ok.2.2.2 w m
  ·rw[List.mem_singleton.mp m];exact hs⟩
 have bg:z_X0 [.ref d,.tup [.int (b.n:Int),.lst (b.sws.map Sw.d++[s.d])]] h= .ok (.str "ok") (beH h d b.n (b.sws++[s]) (.ref p)):=by
  have this:z_X0 [.ref d,yd b.n (b.sws++[s])] h= .ok (.str "ok") (beH h d b.n (b.sws++[s]) (.ref p)):=jlp ok2 D0.a.hb D0.o (λm hm=>by simp[D.bnd];omega)
  have e:yd b.n (b.sws++[s])= .tup [.int (b.n:Int),.lst (b.sws.map Sw.d++[s.d])]:=by
   unfold yd
   rw[List.map_append];rfl
  rw[e] at this
  exact this
 have kn:¬s.t.1=Str.ofString "bars":=by
  obtain⟨a,b,c,e⟩:=jw1
  cases s<;>assumption
 have o:=D0.o
 have i0:∀h,dIx (yd b.n b.sws) (.int 0) h= .ok (.int (b.n:Nat)) h:=λh=>rfl
 have i1:∀h,dIx (yd b.n b.sws) (.int 1) h= .ok (.lst (b.sws.map Sw.d)) h:=λh=>rfl
 have ad:z_Q4 [.ref d,.str (rowS s)] h= .ok (.str "ok") (beH h d b.n (b.sws++[s]) (.ref p)):=by
  have key:b_Q4 [some (.ref d),some (.str (rowS s)),none,none] h= .rt (.str "ok") (beH h d b.n (b.sws++[s]) (.ref p)):=by
   have fy:∀x1 x2 x3,mFld jb6 "yard" (mVar 0) [some (.ref d),x1,x2,x3] h= .ok (yd b.n b.sws) h:=λx1 x2 x3=>by
    unfold dkC at o
    simp[o]
   unfold b_Q4
   refine(jap (ρ':=[some (.ref d),some (.str (rowS s)),some (.int (b.n:Nat)),none]) (h':=h) (by simp[-dIx, -mFld,fy,i0])).trans ?_
   refine(jap (ρ':=[some (.ref d),some (.str (rowS s)),some (.int (b.n:Nat)),some (.lst (b.sws.map Sw.d))]) (h':=h) (by simp[-dIx, -mFld, -List.map_map,fy,i1])).trans ?_
   have ll:(b.sws.map Sw.d).length=b.sws.length:=List.length_map ..
   have mm:=jee o (tab:=je3) (f:="begin") (z:=z_X0) (m:=mVar 0) (l:=ja3 (mTup (ja3 (mVar 2) (ja3 (mBin dAdd (mVar 3) (jcc (jek (ja3 (jaq z_Xg (ja3 (mVar 1) (ja3 (mVar 2) (ja3 (mFn fLen (ja3 (mVar 3) mNil)) mNil)))) mNil)))) mNil))) mNil) (ρ:=[some (.ref d),some (.str (rowS s)),some (.int (b.n:Nat)),some (.lst (b.sws.map Sw.d))]) (ds:=[.tup [.int (b.n:Int),.lst (b.sws.map Sw.d++[s.d])]]) rfl (by decide+kernel) (by simp) (by
    have l2:b.sws.length<=16777215:=by omega
    have si:z_Xg [.str (rowS s),.int (b.n:Int),.int (b.sws.length:Int)] h= .ok s.d h:=si
    generalize b.sws.map Sw.d=T at*
    generalize rowS s=R at*
    generalize s.d=S at*
    simp[ll,si,l2])
   have mm:=mm.trans bg
   generalize beH h d b.n (b.sws++[s]) (.ref p)=H at*
   simp only[sRet,mm,jcf]
  unfold z_Q4 mFun
  rw[if_pos (show[D.ref d,D.str (rowS s)].length=2 from rfl)]
  have k2:b_Q4 ([D.ref d,D.str (rowS s)].map some++List.replicate (4 - [D.ref d,D.str (rowS s)].length) none) h=_:=key
  rw[k2]
  exact jhq (js2 ld) ld (Nat.le_refl _)
 have key:b_Xo [some (.ref d),some (.str (rowS s)),none,none,none] h= .rt (.str "ok") (beH h d b.n (b.sws++[s]) (.ref p)):=by
  unfold b_Xo
  rw[hd,jg1 o rfl kn]
  refine jf8 ?_
  have mm:=jee o (tab:=jcz) (f:="add_switch") (z:=z_Q4) (m:=mVar 0) (l:=ja3 (mVar 1) mNil) (ρ:=[some (.ref d),some (.str (rowS s)),some (.lst ((s.t.1::s.t.2.map W).map D.str)),some (.str s.t.1),none]) (ds:=[.str (rowS s)]) rfl (by decide+kernel) (by simp) (by simp)
  have mm:=mm.trans ad
  have i4:=in4 s h
  generalize beH h d b.n (b.sws++[s]) (.ref p)=H at*
  generalize s.t.1=K at*
  have t4:mTup (ja3 (mC (.str "feed")) (ja3 (mC (.str "earth")) (ja3 (mC (.str "breaker")) (ja3 (mC (.str "splitter")) mNil)))) [some (.ref d),some (.str (rowS s)),some (.lst ((K::s.t.2.map W).map D.str)),some (.str K),none] h= .ok (.tup [.str "feed",.str "earth",.str "breaker",.str "splitter"]) h:=by simp
  simp only[sIf,tB,mBin,mVar,List.getElem?_cons_succ,List.getElem?_cons_zero,jdb,t4,i4,jcf,if_true,sRet,mm]
 unfold z_Xo mFun
 rw[if_pos (show[D.ref d,D.str (rowS s)].length=2 from rfl)]
 have k2:b_Xo ([D.ref d,D.str (rowS s)].map some++List.replicate (5 - [D.ref d,D.str (rowS s)].length) none) h=_:=key
 rw[k2]
 exact jhq (js2 ld) ld (Nat.le_refl _)
structure One (k:Str):Prop where
 sp:Txt.split k ⟨#[32]⟩=[k]
 ln:k.length<=10
 b:¬k=Str.ofString "bars"
 a1:¬Str.ofString "feed"=k
 a2:¬Str.ofString "earth"=k
 a3:¬Str.ofString "breaker"=k
 a4:¬Str.ofString "splitter"=k
 a5:¬Str.ofString "turn"=k
 a6:¬Str.ofString "lock"=k
 a7:¬Str.ofString "unlock"=k
 a8:¬Str.ofString "back"=k
 c1:¬k=Str.ofString "permit"
 c2:¬k=Str.ofString "locks"
 c3:¬k=Str.ofString "reach"
theorem jg0:One (Str.ofString "show"):=⟨by decide+kernel,by decide+kernel,by decide+kernel,by decide+kernel,by decide+kernel,by decide+kernel,by decide+kernel,by decide+kernel,by decide+kernel,by decide+kernel,by decide+kernel,by decide+kernel,by decide+kernel,by decide+kernel⟩
theorem jqu:One (Str.ofString "shut"):=⟨by decide+kernel,by decide+kernel,by decide+kernel,by decide+kernel,by decide+kernel,by decide+kernel,by decide+kernel,by decide+kernel,by decide+kernel,by decide+kernel,by decide+kernel,by decide+kernel,by decide+kernel,by decide+kernel⟩
theorem jod{k:Str}(u:One k){h:MH}{d p:Nat}{y:D}(o:h[d]?=some (dkC y (.ref p)))(hy:jmr y=false){x:D}(et:z_Xb [.ref d,.str k] h= .ok x h):z_Xo [.ref d,.str k] h= .ok x h:=by
 have hd:=je4 (row:=k) (ws:=[]) u.sp (by have:=u.ln;omega) (by simp) d
 have mm:=jee o (tab:=jkd) (f:="tell") (z:=z_Xb) (m:=mVar 0) (l:=ja3 (mVar 3) mNil) (ρ:=[some (.ref d),some (.str k),some (.lst ([k].map D.str)),some (.str k),none]) (ds:=[.str k]) rfl (by decide+kernel) (by simp) (by simp)
 have mm:=mm.trans et
 obtain⟨_,_,b,a1,a2,a3,a4,a5,a6,a7,a8,c1,c2,c3⟩:=u
 have key:b_Xo [some (.ref d),some (.str k),none,none,none] h= .rt x h:=by
  unfold b_Xo
  rw[hd,jg1 o hy b]
  refine(jap (ρ':=[some (.ref d),some (.str k),some (.lst ([k].map D.str)),some (.str k),none]) (h':=h) (by simp[eqF,a1,a2,a3,a4])).trans ?_
  refine(jap (ρ':=[some (.ref d),some (.str k),some (.lst ([k].map D.str)),some (.str k),none]) (h':=h) (by simp[eqF,a5,a6,a7,a8])).trans ?_
  refine(jap (ρ':=[some (.ref d),some (.str k),some (.lst ([k].map D.str)),some (.str k),none]) (h':=h) (by simp[c1])).trans ?_
  refine(jap (ρ':=[some (.ref d),some (.str k),some (.lst ([k].map D.str)),some (.str k),none]) (h':=h) (by simp[c2])).trans ?_
  refine(jap (ρ':=[some (.ref d),some (.str k),some (.lst ([k].map D.str)),some (.str k),none]) (h':=h) (by simp[c3])).trans ?_
  refine(jap (ρ':=[some (.ref d),some (.str k),some (.lst ([k].map D.str)),some (.str k),none]) (h':=h) (by simp)).trans ?_
  simp only[sRet,mm,jcf]
 exact jcu (np:=2) (nn:=5) (b:=b_Xo) (ds:=[.ref d,.str k]) rfl key (Nat.le_refl _)
theorem sh1:¬(Str.ofString "shut"=Str.ofString "live") /\ ¬(Str.ofString "shut"=Str.ofString "earthed") /\ ¬(Str.ofString "shut"=Str.ofString "locked") /\ ¬(Str.ofString "show"=Str.ofString "live") /\ ¬(Str.ofString "show"=Str.ofString "earthed") /\ ¬(Str.ofString "show"=Str.ofString "locked") /\ ¬(Str.ofString "show"=Str.ofString "shut"):=by decide+kernel
theorem yd_t(n:Nat)(sws:List Sw):yd n sws=jmn n (sws.map Sw.t):=by
 unfold yd jmn
 have e:sd∘Sw.t=Sw.d:=funext sd_t
 rw[List.map_map,e]
theorem jw6(ok:jc1 n sws):YOk n (sws.map Sw.t):=by
 refine⟨by have:=ok.1;omega,by have:=ok.2.1;omega,by rw[List.length_map];exact ok.2.2.1,λs m=> ?_⟩
 obtain⟨w,mw,rfl⟩:=List.mem_map.mp m
 exact t_ok (ok.2.2.2 w mw)
def txtS(n:Nat)(sws:List Sw):Str:=jdu n (sws.map Sw.t)
theorem jhv{h:MH}{d p r:Nat}{b:Bd}(D0:Dk h d p r b)(ok:jc1 b.n b.sws):z_Xo [.ref d,.str "show"] h= .ok (.str (txtS b.n b.sws)) h:=by
 refine jod jg0 D0.o rfl ?_
 have es:=jm2 (jw6 ok) h
 rw[<-yd_t] at es
 have o:=D0.o
 obtain⟨_,_,_,s4,s5,s6,s7⟩:=sh1
 have fy:mFld jb6 "yard" (mVar 0) [some (.ref d),some (.str (Str.ofString "show"))] h= .ok (yd b.n b.sws) h:=by
  unfold dkC at o
  simp[o]
 refine jcu (np:=2) (nn:=2) (b:=b_Xb) (ds:=[.ref d,.str "show"]) rfl ?_ (Nat.le_refl _)
 show b_Xb [some (.ref d),some (.str (Str.ofString "show"))] h= .rt (.str (jdu b.n (b.sws.map Sw.t))) h
 generalize yd b.n b.sws=Y at*
 generalize jdu b.n (b.sws.map Sw.t)=T at*
 simp[-mFld,b_Xb,s4,s5,s6,s7,fy,es]
def jf0(x:Nat):List Nat:=(List.range (Builtin.Int.intBits (x:Int))).filter λk=>x.testBit k
theorem jsn{x m:Nat}(hx:x<2^m):Builtin.Int.intBits (x:Int)<=m:=by
 by_cases h0:x=0
 ·subst h0;simp[Builtin.Int.intBits]
 ·have h2:=(Nat.log2_lt h0).mpr hx
  simp[Builtin.Int.intBits,h0]
  omega
theorem jvw(m:Nat):rng 0 m=(List.range m).map λk:Nat=>D.int k:=by
 unfold rng
 simp
theorem jnb(x:Nat)(hx:x<2^12)(h:MH):z_Qz [.int x] h= .ok (.lst ((jf0 x).map λk:Nat=>D.int k)) h:=by
 have hl:=jsn hx
 have comp:compLoop (jab 0) (tTru (jaq jgy (ja3 (mVar 1) (ja3 (mVar 0) mNil)))) (mVar 0) [none,some (.int x)] (rng 0 (Builtin.Int.intBits (x:Int))) h= .ok ((jf0 x).map λk:Nat=>D.int k) h:=by
  rw[jvw]
  exact jdw (g:=jab 0) (t:=tTru (jaq jgy (ja3 (mVar 1) (ja3 (mVar 0) mNil)))) (m:=mVar 0) (ρ0:=[none,some (.int x)]) (h:=h) (λk:Nat=>D.int k) (λk=>[some (.int k),some (.int x)]) (λk=>x.testBit k) (λk:Nat=>D.int k) (List.range (Builtin.Int.intBits (x:Int))) λk _=>by
   have:=jiz x k h
   refine⟨by simp,?_,by simp⟩
   simp[this]
 simp[-List.map_map,z_Qz,b_Qz,comp,show Builtin.Int.intBits (x:Int)<4611686018427387904 by omega,show Builtin.Int.intBits (x:Int)<16777216 by omega]
def swv(v:Sw->Nat)(sws:List Sw)(k:Nat):Nat:=match sws[k]? with
 | some w=>v w
 | none=>0
theorem jt8:∀k:Fin 12,jf0 (2^k.val)=[k.val]:=by decide+kernel
theorem jpl:jf0 0=[]:=by decide+kernel
theorem jlm{h:MH}{d p r:Nat}{b:Bd}(D0:Dk h d p r b){x:Str}(hst:b.st<2^12)(ej:z_Q2 [.lst ((jf0 b.st).map λk:Nat=>D.int k)] h= .ok (.str x) h):z_Xo [.ref d,.str "shut"] h= .ok (.str x) h:=by
 refine jod jqu D0.o rfl ?_
 have ni:=jnb b.st hst h
 have o:=D0.o
 obtain⟨s1,s2,s3,_⟩:=sh1
 have fb:mFld jbh "board" (mVar 0) [some (.ref d),some (.str (Str.ofString "shut"))] h= .ok (.ref p) h:=by
  unfold dkC at o
  simp[o]
 have ms:=jkz D0.a (tab:=jd2) (f:="standing") (z:=z_Qa) (m:=mFld jbh "board" (mVar 0)) (l:=mNil) (ρ:=[some (.ref d),some (.str (Str.ofString "shut"))]) (ds:=[]) rfl (by decide+kernel) fb (by simp)
 have ms:=ms.trans (jkp D0.a)
 refine jcu (np:=2) (nn:=2) (b:=b_Xb) (ds:=[.ref d,.str "shut"]) rfl ?_ (Nat.le_refl _)
 show b_Xb [some (.ref d),some (.str (Str.ofString "shut"))] h= .rt (.str x) h
 generalize (jf0 b.st).map (λk:Nat=>D.int k)=T at*
 simp[-mFld, -jaj,b_Xb,s1,s2,s3,ms,ni,ej]
theorem jop(h:MH):z_Q2 [.lst ((jf0 0).map λk:Nat=>D.int k)] h= .ok (.str "none") h:=by
 rw[jpl]
 simp[z_Q2,b_Q2]
theorem jsv{k:Nat}(hk:k<11)(h:MH):z_Q2 [.lst ((jf0 (2^k)).map λk:Nat=>D.int k)] h= .ok (.str (W k)) h:=by
 have e:jf0 (2^k)=[k]:=jt8 ⟨k,by omega⟩
 have lw:=(w_of (n:=k) (by omega) (by omega)).1
 have jn:Txt.join (Str.ofString " ") [W k]=W k:=by
  rw[e32,jg4]
  rfl
 have l1:(numS (k:Int)).length+1*(Str.ofString " ").length<=16777216:=by
  have:(Str.ofString " ").length=1:=by decide+kernel
  rw[this]
  have:(numS (k:Int)).length<=2:=lw
  omega
 rw[e]
 have lg:(k:Nat).log2<1920:=Nat.lt_of_le_of_lt (Nat.log2_le_self k) (by omega)
 have l2:(numS (k:Int)).length+(Str.ofString " ").length<=16777216:=by omega
 have jn:Txt.join (Str.ofString " ") [numS (k:Int)]=numS (k:Int):=jn
 simp[z_Q2,b_Q2,compLoop,lg,l2,jn]
theorem jmv{n:Nat}{sws:List Sw}{k a:Nat}(hw:sws[k]?=some (.feed a)):jo4 (Bd.new n sws) k (.feed a)=none:=by
 have sh:jde (2^k) sws=sws.zipIdx.filter λq=>decide (k=q.2):=by
  unfold jde
  congr 1
  funext q
  exact jty k q.2
 have le:jgv (2^k) sws=0:=by
  unfold jgv
  refine Nat.eq_of_testBit_eq λi=> ?_
  rw[Nat.zero_testBit]
  cases q:(Clo.all ((jde (2^k) sws).map λp=>p.1.led) 0).testBit i with
  | false=>rfl
  | true=>
   have hall:∀(ps:List Nat) (s:Nat),(∀x∈ps,x=0)->Clo.all ps s=s:=λps=>by
    induction ps with
    | nil=>exact λs _=>rfl
    | cons x ps ih=>
     intro s hx
     show Clo.all ps (s|||x)=s
     rw[hx x (List.mem_cons_self ..),Nat.or_zero]
     exact ih s λy m=>hx y (List.mem_cons_of_mem _ m)
   rw[hall _ 0 (λx m=>by
    obtain⟨⟨w,j⟩,mj,rfl⟩:=List.mem_map.mp m
    rw[sh] at mj
    obtain⟨m1,m2⟩:=List.mem_filter.mp mj
    have e:k=j:=of_decide_eq_true m2
    have:=ji8 m1
    rw[<-e,hw] at this
    cases this
    rfl)] at q
   simp at q
 have ez:jer (2^k) sws=0:=by
  unfold jer
  rw[le]
  refine Nat.eq_of_testBit_eq λi=> ?_
  have:=(Clo.is (jei (2^k) sws) 0).le 0 (Clo.jt9 _) (λp m n=>by simp at n)
  rw[Nat.zero_testBit]
  cases q:(Clo.clo (jei (2^k) sws) 0).testBit i with
  | false=>rfl
  | true=>have:=this i q;simp at this
 have hg:jjm (Bd.new n sws).gv=0:=rfl
 have hl:(Bd.new n sws).lk=0:=rfl
 have hs:(Bd.new n sws).st=0:=rfl
 have hw2:(Bd.new n sws).sws=sws:=rfl
 unfold jo4
 rw[hg,hl,hs,hw2,Nat.zero_xor]
 have sf:ji2 (2^k) sws=true:=by unfold ji2;rw[ez];simp
 have ld:jfr 0 k (.feed a) sws=false:=rfl
 simp[sf,ld]
theorem tn1:¬(Str.ofString "turn"=Str.ofString "bars") /\ ¬(Str.ofString "feed"=Str.ofString "turn") /\ ¬(Str.ofString "earth"=Str.ofString "turn") /\ ¬(Str.ofString "breaker"=Str.ofString "turn") /\ ¬(Str.ofString "splitter"=Str.ofString "turn"):=by decide+kernel
theorem tn2:(Str.ofString "turn").length<=8 /\ 32∉(Str.ofString "turn").cps.toList /\ 10∉(Str.ofString "turn").cps.toList:=by decide+kernel
def jdc(k:Nat):Str:=rowT (Str.ofString "turn",[(k:Int)])
theorem jw9{k:Nat}(hk:k<=10)(h:MH):z_X6 [.lst [.str (W k)]] h= .ok (.int (k:Nat)) h:=by
 have lw:=(w_of (n:=k) (by omega) (by omega)).1
 obtain⟨n1,n2⟩:=jl6 (n:=k) (by omega) (by omega)
 have nt:=jfg [W k] h (by simp;omega) (by simp)
 have nt:z_Qu [.lst [.str (W k)]] h= .ok (.lst [.int (k:Nat)]) h:=by
  simp[n1,n2] at nt
  exact nt
 have e1:dNe (.int 1) (.int 1) h= .ok (.bl false) h:=rfl
 simp[z_X6,b_X6,nt]
theorem jrn{h:MH}{d p r:Nat}{b:Bd}(D0:Dk h d p r b){k:Nat}{w:Sw}(hk:k<=10)(hw:b.sws[k]?=some w)(ht:jo4 b k w=none)(hs:b.st.testBit k=false):z_Xo [.ref d,.str (jdc k)] h= .ok (.str "shut") (h.set p (({b with st:=b.st^^^2^k}:Bd).cell r)):=by
 obtain⟨f1,_,f3⟩:=jci (k:=Str.ofString "turn") (bs:=[(k:Int)]) tn2.1 tn2.2.1 tn2.2.2 (by simp;omega) (by simp)
 have hd:=je4 (row:=jdc k) (k:=Str.ofString "turn") (ws:=[(k:Int)].map W) f3 (by have:(jdc k).length<=20:=f1;omega) (by simp) d
 have tu:=jvb D0.a k w hw
 rw[ht] at tu
 have tu:z_X7 [.ref p,.int (k:Nat)] h= .ok (.int (b.st^^^2^k:Nat)) (h.set p (({b with st:=b.st^^^2^k}:Bd).cell r)):=tu
 have on:=jw9 hk h
 have o:=D0.o
 have hh:=jiz (b.st^^^2^k) k (h.set p (({b with st:=b.st^^^2^k}:Bd).cell r))
 have tb:(b.st^^^2^k).testBit k=true:=by
  rw[Nat.testBit_xor,hs,jty];simp
 rw[tb] at hh
 obtain⟨t1,a1,a2,a3,a4⟩:=tn1
 have dn:z_X9 [.ref d,.str "turn",.int (k:Nat)] h= .ok (.str "shut") (h.set p (({b with st:=b.st^^^2^k}:Bd).cell r)):=by
  refine jcu (np:=3) (nn:=3) (b:=b_X9) (ds:=[.ref d,.str "turn",.int (k:Nat)]) rfl ?_ (by rw[List.length_set];exact Nat.le_refl _)
  show b_X9 [some (.ref d),some (.str (Str.ofString "turn")),some (.int (k:Nat))] h=_
  have fb:mFld jbh "board" (mVar 0) [some (.ref d),some (.str (Str.ofString "turn")),some (.int (k:Nat))] h= .ok (.ref p) h:=by
   unfold dkC at o
   simp[o]
  have mt:=jkz D0.a (tab:=jkb) (f:="turn") (z:=z_X7) (m:=mFld jbh "board" (mVar 0)) (l:=ja3 (mVar 2) mNil) (ρ:=[some (.ref d),some (.str (Str.ofString "turn")),some (.int (k:Nat))]) (ds:=[.int (k:Nat)]) rfl (by decide+kernel) fb (by simp)
  have mt:=mt.trans tu
  generalize h.set p (({b with st:=b.st^^^2^k}:Bd).cell r)=H at*
  generalize b.st^^^2^k=s2 at*
  simp[-mFld, -jaj,b_X9,mt,hh]
 have key:b_Xo [some (.ref d),some (.str (jdc k)),none,none,none] h= .rt (.str "shut") (h.set p (({b with st:=b.st^^^2^k}:Bd).cell r)):=by
  unfold b_Xo
  rw[hd,jg1 o rfl t1]
  refine(jap (ρ':=[some (.ref d),some (.str (jdc k)),some (.lst ((Str.ofString "turn"::[(k:Int)].map W).map D.str)),some (.str (Str.ofString "turn")),none]) (h':=h) (by simp[eqF,a1,a2,a3,a4])).trans ?_
  refine jf8 ?_
  have mm:=jee o (tab:=jku) (f:="done") (z:=z_X9) (m:=mVar 0) (l:=ja3 (mVar 3) (ja3 (jaq z_X6 (ja3 (mSl (mVar 2) (oSo (mC (.int 1))) oNo) mNil)) mNil)) (ρ:=[some (.ref d),some (.str (jdc k)),some (.lst ((Str.ofString "turn"::[(k:Int)].map W).map D.str)),some (.str (Str.ofString "turn")),none]) (ds:=[.str "turn",.int (k:Nat)]) rfl (by decide+kernel) (by simp) (by simp[on])
  have mm:=mm.trans dn
  have i4:tB (mBin (dIn false) (mVar 3) (mTup (ja3 (mC (.str "turn")) (ja3 (mC (.str "lock")) (ja3 (mC (.str "unlock")) (ja3 (mC (.str "back")) mNil)))))) [some (.ref d),some (.str (jdc k)),some (.lst ((Str.ofString "turn"::[(k:Int)].map W).map D.str)),some (.str (Str.ofString "turn")),none] h= .ok true h:=by simp[eqF]
  generalize h.set p (({b with st:=b.st^^^2^k}:Bd).cell r)=H at*
  simp only[sIf,i4,jcf,if_true,sRet,mm]
 exact jcu (np:=2) (nn:=5) (b:=b_Xo) (ds:=[.ref d,.str (jdc k)]) rfl key (by rw[List.length_set];exact Nat.le_refl _)
theorem jkt{np nn:Nat}{b:MS}{ds:List D}{h:MH}{c:String}(hl:ds.length=np)(e:b (ds.map some++List.replicate (nn - ds.length) none) h= .exc c h):mFun np nn b ds h= .exc c h:=by
 unfold mFun
 rw[if_pos hl,e]
 exact if_pos (Nat.le_refl _)
theorem jlh{a b:MS}{ρ:Ro}{c:String}{h h':MH}(e:a ρ h= .exc c h'):sSeq a b ρ h= .exc c h':=by simp only[sSeq,e]
theorem jrm{h:MH}{d:Nat}(o:h[d]?=some (dkC .non .non)):z_Xo [.ref d,.str "show"] h= .exc "NoRow" h:=by
 have hd:=je4 (row:=Str.ofString "show") (ws:=[]) jg0.sp (by have:=jg0.ln;omega) (by simp) d
 refine jkt (np:=2) (nn:=5) (b:=b_Xo) (ds:=[.ref d,.str "show"]) rfl ?_
 show b_Xo [some (.ref d),some (.str (Str.ofString "show")),none,none,none] h=_
 unfold b_Xo
 rw[hd]
 have nb:=jg0.b
 refine(jap (ρ':=[some (.ref d),some (.str (Str.ofString "show")),some (.lst ([Str.ofString "show"].map D.str)),some (.str (Str.ofString "show")),none]) (h':=h) (by simp[nb])).trans ?_
 refine jlh ?_
 have e1:mFld jb6 "yard" (mVar 0) [some (.ref d),some (.str (Str.ofString "show")),some (.lst ([Str.ofString "show"].map D.str)),some (.str (Str.ofString "show")),none] h= .ok .non h:=by
  unfold dkC at o
  simp[o]
 have e2:dIs .non .non h= .ok (.bl true) h:=rfl
 simp only[sIf,tB,mBin,e1,mC,jdb,e2,jcf,if_true,jcd]
theorem jjt{n:Nat}(hn:n<=10){s:Sw}(hs:s.ok n)(h:MH):z_Xg [.str (rowS s),.int (n:Nat),.int 12] h= .exc "NoRow" h:=by
 have ok:=t_ok hs
 obtain⟨a1,a2,a3,a4,a5,a6⟩:=ok.bars
 obtain⟨m,m1,m2⟩:=ok.cnt
 have hp:=jgj (k:=s.t.1) (bs:=s.t.2) h m1 m2 (λb hb=>⟨(a1 b hb).1,by have:=(a1 b hb).2;omega⟩) a4 a5 a6 a2
 have hp':z_Y2 [.str (rowS s)] h= .ok (sd s.t) h:=hp
 obtain⟨e1,e2,e3,e4⟩:=jw1
 generalize rowS s=R at*
 cases s<;>simp[z_Xg,b_Xg,hp',sd,Sw.t,e1,e2,e3,e4]
theorem say_13{h:MH}{d p r:Nat}{b:Bd}(D0:Dk h d p r b)(ok:jc1 b.n b.sws){s:Sw}(hs:s.ok b.n)(hl:b.sws.length=12):z_Xo [.ref d,.str (rowS s)] h= .exc "NoRow" h:=by
 have hn:=ok.2.1
 obtain⟨f1,f2,f3⟩:=jf9 hn hs
 have hd:=je4 (row:=rowS s) f2 (by omega) (by simp;omega) d
 have si:=jjt hn hs h
 have kn:¬s.t.1=Str.ofString "bars":=by
  obtain⟨a,b,c,e⟩:=jw1
  cases s<;>assumption
 have o:=D0.o
 have i0:∀h,dIx (yd b.n b.sws) (.int 0) h= .ok (.int (b.n:Nat)) h:=λh=>rfl
 have i1:∀h,dIx (yd b.n b.sws) (.int 1) h= .ok (.lst (b.sws.map Sw.d)) h:=λh=>rfl
 have ad:z_Q4 [.ref d,.str (rowS s)] h= .exc "NoRow" h:=by
  refine jkt (np:=2) (nn:=4) (b:=b_Q4) (ds:=[.ref d,.str (rowS s)]) rfl ?_
  show b_Q4 [some (.ref d),some (.str (rowS s)),none,none] h=_
  have fy:∀x1 x2 x3,mFld jb6 "yard" (mVar 0) [some (.ref d),x1,x2,x3] h= .ok (yd b.n b.sws) h:=λx1 x2 x3=>by
   unfold dkC at o
   simp[o]
  unfold b_Q4
  refine(jap (ρ':=[some (.ref d),some (.str (rowS s)),some (.int (b.n:Nat)),none]) (h':=h) (by simp[-dIx, -mFld,fy,i0])).trans ?_
  refine(jap (ρ':=[some (.ref d),some (.str (rowS s)),some (.int (b.n:Nat)),some (.lst (b.sws.map Sw.d))]) (h':=h) (by simp[-dIx, -mFld, -List.map_map,fy,i1])).trans ?_
  have ll:(b.sws.map Sw.d).length=12:=by rw[List.length_map];exact hl
  have na:=jwe (yd b.n b.sws) (.ref p) (m:=Str.ofString "begin") (by decide+kernel)
  unfold dkC at o
  generalize b.sws.map Sw.d=T at*
  generalize rowS s=R at*
  simp[o,na,ll,si,je3,List.lookup]
 refine jkt (np:=2) (nn:=5) (b:=b_Xo) (ds:=[.ref d,.str (rowS s)]) rfl ?_
 show b_Xo [some (.ref d),some (.str (rowS s)),none,none,none] h=_
 unfold b_Xo
 rw[hd,jg1 o rfl kn]
 refine jlh ?_
 have mm:=jee o (tab:=jcz) (f:="add_switch") (z:=z_Q4) (m:=mVar 0) (l:=ja3 (mVar 1) mNil) (ρ:=[some (.ref d),some (.str (rowS s)),some (.lst ((s.t.1::s.t.2.map W).map D.str)),some (.str s.t.1),none]) (ds:=[.str (rowS s)]) rfl (by decide+kernel) (by simp) (by simp)
 have mm:=mm.trans ad
 have i4:=in4 s h
 generalize s.t.1=K at*
 have t4:mTup (ja3 (mC (.str "feed")) (ja3 (mC (.str "earth")) (ja3 (mC (.str "breaker")) (ja3 (mC (.str "splitter")) mNil)))) [some (.ref d),some (.str (rowS s)),some (.lst ((K::s.t.2.map W).map D.str)),some (.str K),none] h= .ok (.tup [.str "feed",.str "earth",.str "breaker",.str "splitter"]) h:=by simp
 simp only[sIf,tB,mBin,mVar,List.getElem?_cons_succ,List.getElem?_cons_zero,jdb,t4,i4,jcf,if_true,sRet,mm,Res.toS]
theorem jw5{c:Int}{sws:List (Str×List Int)}(ok:YOk c sws)(h:MH)(hh:h.all (Cell.bnd h.length)=true):z_Ye [.str (jdu c sws)] h= .ok (jmn c sws) h:=by
 obtain⟨t1,t2⟩:=jn1 ok
 obtain⟨c1,c2,cl,cs⟩:=ok
 have es:jfj (mVar 0) (ja3 (mC (.str "\n")) mNil) [some (.str (jdu c sws)),none,none,none,none] h= .ok (D.str (jai c)::sws.map (λs=>D.str (rowT s))) h:=by
  have l10:¬((⟨#[10]⟩:Str).length=0):=by decide
  simp[e10,chk,l10,show(jdu c sws).length<=16777216 by omega,t2,show sws.length+1<=16777216 by omega]
 have ec:=jgn c h c1 c2
 obtain⟨x',el⟩:=jiu c h c1 c2 (some (.str (jdu c sws))) (some (.lst (D.str (jai c)::sws.map (λs=>D.str (rowT s))))) sws [] none cs (by simp;omega)
 have el':jc5 (jab 4) jnz (sws.map λs=>D.str (rowT s)) [some (.str (jdu c sws)),some (.lst (D.str (jai c)::sws.map (λs=>D.str (rowT s)))),some (.int c),some (.ref h.length),none] (h++[some (.lst [])])= .nx [some (.str (jdu c sws)),some (.lst (D.str (jai c)::sws.map (λs=>D.str (rowT s)))),some (.int c),some (.ref h.length),x'] (h++[some (.lst (sws.map sd))]):=el
 simp only[z_Ye,b_Ye,mFun,List.length_cons,List.length_nil,if_pos,List.map_cons,List.map_nil,sSeq,sAsg,jcc]
 simp only[List.replicate,List.cons_append,List.nil_append,Nat.reduceAdd,Nat.reduceSub,es,jdb,jcf,jab,List.set_cons_succ,List.set_cons_zero]
 have e0:(jaq z_Xp (ja3 (mBin dIx (mVar 1) (mC (.int 0))) mNil)) [some (.str (jdu c sws)),some (.lst (D.str (jai c)::sws.map (λs=>D.str (rowT s)))),none,none,none] h= .ok (.int c) h:=by
  simp[ec]
 simp only[e0,jcf,List.set_cons_succ,List.set_cons_zero]
 have e1:(jkm (jek mNil)) [some (.str (jdu c sws)),some (.lst (D.str (jai c)::sws.map (λs=>D.str (rowT s)))),some (.int c),none,none] h= .ok (.ref h.length) (h++[some (.lst [])]):=by simp[chk]
 simp only[e1,jcf,List.set_cons_succ,List.set_cons_zero]
 have e2:(lIt (mSl (mVar 1) (oSo (mC (.int 1))) oNo)) [some (.str (jdu c sws)),some (.lst (D.str (jai c)::sws.map (λs=>D.str (rowT s)))),some (.int c),some (.ref h.length),none] (h++[some (.lst [])])= .ok (none,sws.map λs=>D.str (rowT s)) (h++[some (.lst [])]):=by simp
 simp only[sFor,e2,jcf,jbz,el']
 simp[chk,jmn,D.bnd,D.bnds,jo5,hh, -List.all_eq_true]
theorem jn3(ok:jc1 n sws){h:MH}(hb:Hb h):z_Ye [.str (txtS n sws)] h= .ok (yd n sws) h /\ z_Y9 [yd n sws] h= .ok (.str (txtS n sws)) h:=by
 have r:=jw5 (jw6 ok) h (hb h.length (Nat.le_refl _))
 have s:=jm2 (jw6 ok) h
 rw[yd_t]
 exact⟨r,s⟩
theorem jq1{x:Int}(h:0<=x):∃a:Nat,x=a:=⟨x.toNat,(Int.toNat_of_nonneg h).symm⟩
theorem jsm{x y n:Int}(hx:0<=x)(hx2:x<n)(hy:0<=y)(hy2:y<n - 1):(x+1+y) % n≠x:=by
 intro e
 by_cases z:x+1+y<n
 ·rw[Int.emod_eq_of_lt (by omega) z] at e;omega
 ·have:(x+1+y) % n=x+1+y - n:=by rw[<-Int.sub_emod_right,Int.emod_eq_of_lt (by omega) (by omega)]
  omega
theorem jo7(a b c:Str):a++b++c=a++(b++c):=jif (by simp[Str.cps_append])
theorem blk:Str.ofString "feed "=Str.ofString "feed"++⟨#[32]⟩ /\ Str.ofString "earth "=Str.ofString "earth"++⟨#[32]⟩ /\ Str.ofString "breaker "=Str.ofString "breaker"++⟨#[32]⟩ /\ Str.ofString "splitter "=Str.ofString "splitter"++⟨#[32]⟩ /\ Str.ofString "turn "=Str.ofString "turn"++⟨#[32]⟩ /\ Str.ofString "bars "=Str.ofString "bars"++⟨#[32]⟩:=by decide+kernel
theorem row1(k:Str)(a:Int):k++⟨#[32]⟩++numS a=rowT (k,[a]):=rfl
theorem row2(k:Str)(a b:Int):k++⟨#[32]⟩++numS a++Str.ofString " "++numS b=rowT (k,[a,b]):=by
 rw[e32]
 show _=k++⟨#[32]⟩++(numS a++⟨#[32]⟩++numS b)
 simp only[jo7]
theorem jhd(a b:Str):(a++b).length=a.length+b.length:=by simp[Str.length,Str.cps_append]
theorem jmo(c:Int)(n:Nat)(h1:1<=n)(h2:n<=10)(h:MH):∃s:Sw,s.ok n /\ z_Q7 [.int c,.int (n:Nat)] h= .ok (.str (rowS s)) h:=by
 have hn:0<n:=by omega
 have hn0:(0:Int)<(n:Int):=by omega
 obtain⟨a,ea⟩:=jq1 (x:=c / 4 % (n:Int)) (Int.emod_nonneg _ (by omega))
 have la:a<n:=by have:=Int.emod_lt_of_pos (c / 4) (b:=(n:Int)) hn0;omega
 have m2:c % 2=0 \/ c % 2=1:=by omega
 have lga:(a:Nat).log2<1920:=Nat.lt_of_le_of_lt (Nat.log2_le_self a) (by omega)
 have lwa:(numS (a:Int)).length<=2:=(w_of (n:=a) (by omega) (by omega)).1
 obtain⟨k1,k2,k3,k4,_⟩:=blk
 have g1:(Str.ofString "feed ").length<=9 /\ (Str.ofString "earth ").length<=9 /\ (Str.ofString "breaker ").length<=9 /\ (Str.ofString "splitter ").length<=9 /\ (Str.ofString " ").length<=9:=by decide+kernel
 obtain⟨g1,g2,g3,g4,g5⟩:=g1
 have eq1:∀(_:n=1),dEq (.int (n:Nat)) (.int 1) h= .ok (.bl true) h:=λz=>by subst z;rfl
 by_cases q0:c % 4<2 \/ n=1
 ·rcases m2 with m2 | m2
  ·refine⟨.feed a,la,?_⟩
   have e:Str.ofString "feed "++numS (a:Int)=rowS (.feed a):=by rw[k1];exact row1 _ _
   have l1:(Str.ofString "feed ").length+(numS (a:Int)).length<=16777216:=by omega
   by_cases z:c % 4<2
   ·simp[z_Q7,b_Q7,ea,hn,z,m2,lga,l1,e]
   ·have e1:=eq1 (q0.resolve_left z)
    simp[-dEq,z_Q7,b_Q7,ea,hn,z,e1,m2,lga,l1,e]
  ·refine⟨.earth a,la,?_⟩
   have e:Str.ofString "earth "++numS (a:Int)=rowS (.earth a):=by rw[k2];exact row1 _ _
   have l1:(Str.ofString "earth ").length+(numS (a:Int)).length<=16777216:=by omega
   by_cases z:c % 4<2
   ·simp[z_Q7,b_Q7,ea,hn,z,m2,lga,l1,e]
   ·have e1:=eq1 (q0.resolve_left z)
    simp[-dEq,z_Q7,b_Q7,ea,hn,z,e1,m2,lga,l1,e]
 ·have z:¬c % 4<2:=λy=>q0 (.inl y)
  have n1:¬n=1:=λy=>q0 (.inr y)
  have n1':¬(n:Int)=1:=by omega
  have hn1:(1:Int)<(n:Int):=by omega
  obtain⟨b,eb⟩:=jq1 (x:=((a:Int)+1+c / 40 % ((n:Int) - 1)) % (n:Int)) (Int.emod_nonneg _ (by omega))
  have lb:b<n:=by have:=Int.emod_lt_of_pos ((a:Int)+1+c / 40 % ((n:Int) - 1)) (b:=(n:Int)) hn0;omega
  have ab:a≠b:=λy=>by
   have:=jsm (x:=a) (y:=c / 40 % ((n:Int) - 1)) (n:=n) (by omega) (by omega) (Int.emod_nonneg _ (by omega)) (Int.emod_lt_of_pos _ (by omega))
   omega
  have lgb:(b:Nat).log2<1920:=Nat.lt_of_le_of_lt (Nat.log2_le_self b) (by omega)
  have lwb:(numS (b:Int)).length<=2:=(w_of (n:=b) (by omega) (by omega)).1
  rcases m2 with m2 | m2
  ·refine⟨.breaker a b,⟨la,lb,ab⟩,?_⟩
   have e:Str.ofString "breaker "++numS (a:Int)++Str.ofString " "++numS (b:Int)=rowS (.breaker a b):=by rw[k3];exact row2 _ _ _
   have l1:(Str.ofString "breaker ").length+(numS (a:Int)).length<=16777216:=by omega
   have l2:(Str.ofString "breaker "++numS (a:Int)).length+(Str.ofString " ").length<=16777216:=by rw[jhd];omega
   have l3:(Str.ofString "breaker "++numS (a:Int)++Str.ofString " ").length+(numS (b:Int)).length<=16777216:=by rw[jhd,jhd];omega
   simp[-Int.emod_emod_of_dvd,z_Q7,b_Q7,ea,eb,hn,n1,n1',hn1,z,m2,lga,lgb,l1,l2,l3,e]
  ·refine⟨.splitter a b,⟨la,lb,ab⟩,?_⟩
   have e:Str.ofString "splitter "++numS (a:Int)++Str.ofString " "++numS (b:Int)=rowS (.splitter a b):=by rw[k4];exact row2 _ _ _
   have l1:(Str.ofString "splitter ").length+(numS (a:Int)).length<=16777216:=by omega
   have l2:(Str.ofString "splitter "++numS (a:Int)).length+(Str.ofString " ").length<=16777216:=by rw[jhd];omega
   have l3:(Str.ofString "splitter "++numS (a:Int)++Str.ofString " ").length+(numS (b:Int)).length<=16777216:=by rw[jhd,jhd];omega
   simp[-Int.emod_emod_of_dvd,z_Q7,b_Q7,ea,eb,hn,n1,n1',hn1,z,m2,lga,lgb,l1,l2,l3,e]
def Sw.isF:Sw->Bool
 | .feed _=>true | _=>false
theorem sl_f:∀a:Fin 10,decide (Txt.slice (rowS (.feed a.val)) none (some 4)=Str.ofString "feed")=true /\ (rowS (.feed a.val)).length<=16777216:=by decide+kernel
theorem sl_e:∀a:Fin 10,decide (Txt.slice (rowS (.earth a.val)) none (some 4)=Str.ofString "feed")=false /\ (rowS (.earth a.val)).length<=16777216:=by decide+kernel
theorem sl_b:∀a b:Fin 10,decide (Txt.slice (rowS (.breaker a.val b.val)) none (some 4)=Str.ofString "feed")=false /\ (rowS (.breaker a.val b.val)).length<=16777216:=by decide+kernel
theorem sl_s:∀a b:Fin 10,decide (Txt.slice (rowS (.splitter a.val b.val)) none (some 4)=Str.ofString "feed")=false /\ (rowS (.splitter a.val b.val)).length<=16777216:=by decide+kernel
theorem juf{n:Nat}(hn:n<=10){s:Sw}(ok:s.ok n):decide (Txt.slice (rowS s) none (some 4)=Str.ofString "feed")=s.isF /\ (rowS s).length<=16777216:=by
 cases s with
 | feed a=>exact sl_f ⟨a,by have:a<n:=ok;omega⟩
 | earth a=>exact sl_e ⟨a,by have:a<n:=ok;omega⟩
 | breaker a b=>exact sl_b ⟨a,by have:=ok.1;omega⟩ ⟨b,by have:=ok.2.1;omega⟩
 | splitter a b=>exact sl_s ⟨a,by have:=ok.1;omega⟩ ⟨b,by have:=ok.2.1;omega⟩
def rowL(n:Nat)(sws:List Sw):List D:= .str (jai n)::sws.map λs=>D.str (rowS s)
theorem jpg(ok:jc1 n sws){h:MH}{R:Nat}(o:h[R]?=some (some (.lst (rowL n sws)))):∀(m i:Nat) (x:Option D),i+m=sws.length->(∃y,jc5 (jab 1) jav ((List.range' i m).map λk:Nat=>D.int (1+k)) [some (.ref R),x] h= .nx [some (.ref R),y] h) \/ (∃k a,sws[k]?=some (.feed a) /\ jc5 (jab 1) jav ((List.range' i m).map λk:Nat=>D.int (1+k)) [some (.ref R),x] h= .rt (.int (k:Nat)) h)
 | 0,i,x,_=> .inl ⟨x,rfl⟩
 | m+1,i,x,e=>by
  have li:i<sws.length:=by omega
  obtain⟨s1,s2⟩:=juf ok.2.1 (ok.2.2.2 _ (List.getElem_mem li))
  have ix:dIx (.ref R) (.int (1+(i:Int))) h= .ok (.str (rowS sws[i])) h:=by
   have:atI (rowL n sws) (1+(i:Int))=some (.str (rowS sws[i])):=by
    have:=jqk (xs:=rowL n sws) (k:=i+1) (x:= .str (rowS sws[i])) (by simp[rowL,li])
    rw[<-this];congr 1;omega
   simp[o,this]
  have ih:=jpg ok o m (i+1) (some (.int (1+(i:Int)))) (by omega)
  rw[List.range'_succ,List.map_cons]
  have st:jav [some (.ref R),some (.int (1+(i:Int)))] h=if sws[i].isF=true then .rt (.int (i:Nat)) h else .nx [some (.ref R),some (.int (1+(i:Int)))] h:=by
   generalize rowS sws[i]=T at*
   cases q:sws[i].isF with
   | true=>
    rw[q] at s1
    have s1:=of_decide_eq_true s1
    simp[-dIx,jav,ix,s1,s2]
    omega
   | false=>
    rw[q] at s1
    have s1:=of_decide_eq_false s1
    simp[-dIx,jav,ix,s1,s2]
  cases q:sws[i].isF with
  | true=>
   rw[q,if_pos rfl] at st
   refine .inr ?_
   cases w:sws[i] with
   | feed a=>
    refine⟨i,a,by rw[List.getElem?_eq_getElem li,w],?_⟩
    unfold jc5
    simp only[jab,List.set_cons_succ,List.set_cons_zero,st]
   | earth a=>rw[w] at q;cases q
   | breaker a b=>rw[w] at q;cases q
   | splitter a b=>rw[w] at q;cases q
  | false=>
   rw[q,if_neg (by simp)] at st
   have un:jc5 (jab 1) jav (D.int (1+(i:Int))::(List.range' (i+1) m).map λk:Nat=>D.int (1+k)) [some (.ref R),x] h=jc5 (jab 1) jav ((List.range' (i+1) m).map λk:Nat=>D.int (1+k)) [some (.ref R),some (.int (1+(i:Int)))] h:=by
    rw[jc5]
    simp only[jab,List.set_cons_succ,List.set_cons_zero,st]
   rw[un]
   exact ih
theorem jms(ok:jc1 n sws){h:MH}{R:Nat}(o:h[R]?=some (some (.lst (rowL n sws)))):z_Q6 [.ref R] h= .ok (.int (-1)) h \/ ∃k a:Nat,sws[k]?=some (.feed a) /\ z_Q6 [.ref R] h= .ok (.int (k:Nat)) h:=by
 have hl:=ok.2.2.1
 have er:rng 1 sws.length=(List.range' 0 sws.length).map λk:Nat=>D.int (1+k):=by
  unfold rng
  rw[List.range_eq_range']
 have ll:(rowL n sws).length=sws.length+1:=by simp[rowL]
 have lr:jwy (ja3 (mC (.int 1)) (ja3 (mFn fLen (ja3 (mVar 0) mNil)) mNil)) [some (.ref R),none] h= .ok (none,rng 1 sws.length) h:=by
  have l2:sws.length+1<4611686018427387904:=by omega
  have e:((sws.length:Int)+1 - 1).toNat=sws.length:=by omega
  generalize rowL n sws=T at*
  simp[o,ll]
  omega
 rcases jpg ok o sws.length 0 none (by omega) with⟨y,e⟩ | ⟨k,a,hk,e⟩
 ·rw[<-er] at e
  refine .inl (jcu (np:=1) (nn:=2) (b:=b_Q6) (ds:=[.ref R]) rfl ?_ (Nat.le_refl _))
  show b_Q6 [some (.ref R),none] h=_
  unfold b_Q6
  refine(jap (ρ':=[some (.ref R),y]) (h':=h) (by rw[jfy,lr];simp only[jcf,jbz];exact e)).trans ?_
  simp
 ·rw[<-er] at e
  refine .inr ⟨k,a,hk,jcu (np:=1) (nn:=2) (b:=b_Q6) (ds:=[.ref R]) rfl ?_ (Nat.le_refl _)⟩
  show b_Q6 [some (.ref R),none] h=_
  unfold b_Q6
  exact jf8 (by rw[jfy,lr];simp only[jcf,jbz];exact e)
theorem jdl(x y:Str)(h:MH):z_Xe [.str x,.str y] h= .ok (.bl (decide (x=y))) h:=by
 by_cases q:x=y<;>simp[z_Xe,b_Xe,q]
theorem bar_sl:∀n:Fin 11,Txt.slice (jai (n.val:Int)) (some 5) none=W n.val /\ (jai (n.val:Int)).length<=16777216:=by decide+kernel
theorem jx7{n:Nat}(hn:n<=10){sws:List Sw}{h:MH}{R:Nat}(o:h[R]?=some (some (.lst (rowL n sws))))(ρ:Ro)(hr:ρ[1]?=some (some (.ref R))):mFn fInt (ja3 (mSl (mBin dIx (mVar 1) (mC (.int 0))) (oSo (mC (.int 5))) oNo) mNil) ρ h= .ok (.int (n:Nat)) h:=by
 obtain⟨e1,e2⟩:=bar_sl ⟨n,by omega⟩
 have e1:Txt.slice (jai (n:Int)) (some 5) none=W n:=e1
 have e2:(jai (n:Int)).length<=16777216:=e2
 obtain⟨n1,n2⟩:=jl6 (n:=n) (by omega) (by omega)
 obtain⟨n3,n4⟩:=ju9 n1
 rw[n2] at n3
 have ix:dIx (.ref R) (.int 0) h= .ok (.str (jai n)) h:=by simp[o,rowL]
 generalize jai (n:Int)=T at*
 simp[-dIx,hr,ix,e1,e2,n3,n4]
theorem wl_nr:w_Y8.lookup "NoRow"=some true:=by decide+kernel
theorem jhj{h:MH}{d:Nat}{y b:D}{row:Str}(o:h[d]?=some (dkC y b))(e:z_Xo [.ref d,.str row] h= .exc "NoRow" h):z_Qp [.ref d,.str row] h= .ok (.bl true) h:=by
 have na:=jwe y b (m:=Str.ofString "say") (by decide+kernel)
 have wl:=wl_nr
 unfold dkC at o
 simp[z_Qp,b_Qp,o,na,e,wl,jco,List.lookup]
structure Dq (h:MH) (d R p r n:Nat) (sws:List Sw):Prop where
 k:Dk h d p r (Bd.new n sws)
 ok:jc1 n sws
 w:h[R]?=some (some (.lst (rowL n sws)))
theorem ji4{h:MH}{d:Nat}{y b:D}(o:h[d]?=some (dkC y b)){m:ME}{l:ML}{ρ:Ro}{row:Str}(em:m ρ h= .ok (.ref d) h)(el:l ρ h= .ok [.str row] h):jaj jco "say" m l ρ h=z_Xo [.ref d,.str row] h:=jee o (tab:=jco) (f:="say") (z:=z_Xo) rfl (by decide+kernel) em el
theorem Dk.setR{h:MH}{d p r R:Nat}{b:Bd}(D0:Dk h d p r b)(h1:R≠d)(h2:R≠p)(h3:R≠r){x:Option Cell}(hx:∀n,Cell.bnd n x=true):Dk (h.set R x) d p r b:=by
 refine⟨by rw[List.getElem?_set_ne h1];exact D0.o,?_,?_,?_,D0.a.ok⟩
 ·rw[List.getElem?_set_ne h2];exact D0.a.o
 ·rw[List.getElem?_set_ne h3];exact D0.a.g
 ·exact D0.a.hb.set λn _=>hx n
theorem Dk.turn{h:MH}{d p r:Nat}{b:Bd}(D0:Dk h d p r b)(h1:d≠p)(s:Nat):Dk (h.set p (({b with st:=s}:Bd).cell r)) d p r {b with st:=s}:=
 ⟨by rw[List.getElem?_set_ne (Ne.symm h1)];exact D0.o,D0.a.put rfl D0.a.ok⟩
theorem jg5(n:Nat)(sws:List Sw)(m:Nat):Cell.bnd m (some (.lst (rowL n sws)))=true:=by
 have:∀ss:List Sw,D.bnds m (ss.map λs=>D.str (rowS s))=true:=λss=>by
  induction ss with
  | nil=>simp[D.bnds]
  | cons a l ih=>simp[D.bnds,D.bnd,ih]
 simp[Cell.bnd,rowL,D.bnds,D.bnd,this]
theorem jsh(n:Nat)(sws:List Sw)(s:Sw):rowL n sws++[.str (rowS s)]=rowL n (sws++[s]):=by simp[rowL]
theorem add_ok{h:MH}{d p r R n:Nat}{b:Bd}{sws:List Sw}(D0:Dk h d p r b)(ok:jc1 b.n b.sws)(hw:h[R]?=some (some (.lst (rowL b.n b.sws))))(h1:R≠d)(h2:R≠p)(h3:R≠r){s:Sw}(hs:s.ok b.n)(hl:b.sws.length<12)(x2 x3 x5:Option D):
  (sSeq (jfc (mVar 1) (mVar 4)) (sRet (mAnd (jaq z_Xe (ja3 (jaj jco "say" (mVar 0) (ja3 (mVar 4) mNil)) (ja3 (mC (.str "ok")) mNil))) (jaq z_Xe (ja3 (jaj jco "say" (mVar 0) (ja3 (mC (.str "shut")) mNil)) (ja3 (mC (.str "none")) mNil)))))) [some (.ref d),some (.ref R),x2,x3,some (.str (rowS s)),x5] h= .rt (.bl true) (beH (h.set R (some (.lst (rowL b.n (b.sws++[s]))))) d b.n (b.sws++[s]) (.ref p)) /\ Dq (beH (h.set R (some (.lst (rowL b.n (b.sws++[s]))))) d b.n (b.sws++[s]) (.ref p)) d R h.length (h.length+2) b.n (b.sws++[s]):=by
 have lR:R<h.length:=(List.getElem?_eq_some_iff.mp hw).1
 have ld:d<h.length:=(List.getElem?_eq_some_iff.mp D0.o).1
 have D1:=D0.setR h1 h2 h3 (x:=some (.lst (rowL b.n (b.sws++[s])))) λm=>jg5 _ _ m
 have hl1:(h.set R (some (.lst (rowL b.n (b.sws++[s]))))).length=h.length:=List.length_set
 have e1:=jmk D1 ok hs hl
 have ok2:jc1 b.n (b.sws++[s]):=⟨ok.1,ok.2.1,by simp;omega,λw m=>by
  rcases List.mem_append.mp m with m | m
  ·exact ok.2.2.2 w m
  ·rw[List.mem_singleton.mp m];exact hs⟩
 have D2:=jqj (d:=d) (b:= .ref p) ok2 D1.a.hb (by rw[hl1];exact ld) (λm hm=>by
  have:=D1.a.lt'
  simp[D.bnd];omega)
 rw[hl1] at D2
 have st0:(Bd.new b.n (b.sws++[s])).st=0:=rfl
 have e2:=jlm D2 (x:="none") (by rw[st0];decide) (by rw[st0];exact jop _)
 have wr:(beH (h.set R (some (.lst (rowL b.n (b.sws++[s]))))) d b.n (b.sws++[s]) (.ref p))[R]?=some (some (.lst (rowL b.n (b.sws++[s])))):=by
  rw[jdy (by rw[hl1];exact lR) h1,List.getElem?_set_self lR]
 refine⟨?_,⟨D2,ok2,wr⟩⟩
 have o1:=D1.o
 have o2:=D2.o
 have lr:(rowL b.n b.sws).length<16777216:=by simp[rowL];omega
 have am:=jsh b.n b.sws s
 generalize beH (h.set R (some (.lst (rowL b.n (b.sws++[s]))))) d b.n (b.sws++[s]) (.ref p)=H2 at*
 refine(jap (ρ':=[some (.ref d),some (.ref R),x2,x3,some (.str (rowS s)),x5]) (h':=h.set R (some (.lst (rowL b.n (b.sws++[s]))))) (by
  rw[<-am]
  generalize rowL b.n b.sws=T at*
  simp[hw,lr])).trans ?_
 generalize h.set R (some (.lst (rowL b.n (b.sws++[s]))))=H1 at*
 have m1:=ji4 o1 (m:=mVar 0) (l:=ja3 (mVar 4) mNil) (ρ:=[some (.ref d),some (.ref R),x2,x3,some (.str (rowS s)),x5]) (row:=rowS s) (by simp) (by simp)
 have m1:=m1.trans e1
 have m2:=ji4 o2 (m:=mVar 0) (l:=ja3 (mC (.str "shut")) mNil) (ρ:=[some (.ref d),some (.ref R),x2,x3,some (.str (rowS s)),x5]) (row:="shut") (by simp) (by simp)
 have m2:=m2.trans e2
 have t1:=jdl "ok" "ok" H2
 have t2:=jdl "none" "none" H2
 generalize rowS s=RS_ at*
 simp at t1 t2
 simp[-jaj,m1,m2,t1,t2]
theorem row_ok{h:MH}{d p r R n:Nat}{sws:List Sw}(Q:Dq h d R p r n sws)(h1:R≠d)(h2:R≠p)(h3:R≠r)(h4:d≠p)(c:Int):
  ∃(H:MH) (p' r':Nat) (sws':List Sw),Dq H d R p' r' n sws' /\ h.length<=H.length /\ (p'=p /\ r'=r /\ H.length=h.length \/ h.length<=p' /\ h.length<=r') /\ (∀j,j<h.length->j≠d->j≠R->j≠p->H[j]?=h[j]?) /\ z_Xl [.ref d,.ref R,.int c] h= .ok (.bl true) H:=by
 have ok:=Q.ok
 have hl:=ok.2.2.1
 have ld:d<h.length:=(List.getElem?_eq_some_iff.mp Q.k.o).1
 have lR:R<h.length:=(List.getElem?_eq_some_iff.mp Q.w).1
 obtain⟨s,hs,es⟩:=jmo c n ok.1 ok.2.1 h
 have ll:(rowL n sws).length=sws.length+1:=by simp[rowL]
 have eb:=jx7 ok.2.1 Q.w [some (.ref d),some (.ref R),some (.int c),none,none,none] rfl
 by_cases q:sws.length=12
 ·have er:=jhj Q.k.o (say_13 Q.k ok hs q)
  refine⟨h,p,r,sws,Q,Nat.le_refl _,.inl ⟨rfl,rfl,rfl⟩,λj _ _ _ _=>rfl,?_⟩
  refine jcu (np:=3) (nn:=6) (b:=b_Xl) (ds:=[.ref d,.ref R,.int c]) rfl ?_ (Nat.le_refl _)
  show b_Xl [some (.ref d),some (.ref R),some (.int c),none,none,none] h=_
  unfold b_Xl
  refine(jap (ρ':=[some (.ref d),some (.ref R),some (.int c),some (.int (n:Nat)),none,none]) (h':=h) (by simp only[sAsg,eb,jcf,jab,List.set_cons_succ,List.set_cons_zero])).trans ?_
  refine(jap (ρ':=[some (.ref d),some (.ref R),some (.int c),some (.int (n:Nat)),some (.str (rowS s)),none]) (h':=h) (by simp[es])).trans ?_
  refine jf8 ?_
  have o:=Q.w
  rw[q] at ll
  generalize rowL n sws=T at*
  generalize rowS s=RR at*
  simp[o,ll,er]
 ·have q12:sws.length<12:=by omega
  have mid:∃(h2_:MH) (b:Bd) (x5:Option D),b.n=n /\ b.sws=sws /\ Dk h2_ d p r b /\ h2_[R]?=some (some (.lst (rowL n sws))) /\ h2_.length=h.length /\ (∀j,j≠p->h2_[j]?=h[j]?) /\ ∀B:MS,b_Xl=b_Xl->(sSeq (sAsg (jaq z_Q6 (ja3 (mVar 1) mNil)) (jab 5)) (sSeq (sIf (tAnd (tB (mBin dGe (mVar 5) (mC (.int 0)))) (tNot (tTru (jaq z_Xe (ja3 (jaj jco "say" (mVar 0) (ja3 (mBin dAdd (mC (.str "turn ")) (mFn fStr (ja3 (mVar 5) mNil))) mNil)) (ja3 (mC (.str "shut")) mNil)))))) (sRet (mC (.bl false))) jb3) (sSeq (sIf (tAnd (tB (mBin dGe (mVar 5) (mC (.int 0)))) (tNot (tTru (jaq z_Xe (ja3 (jaj jco "say" (mVar 0) (ja3 (mC (.str "shut")) mNil)) (ja3 (mFn fStr (ja3 (mVar 5) mNil)) mNil)))))) (sRet (mC (.bl false))) jb3) B))) [some (.ref d),some (.ref R),some (.int c),some (.int (n:Nat)),some (.str (rowS s)),none] h=B [some (.ref d),some (.ref R),some (.int c),some (.int (n:Nat)),some (.str (rowS s)),x5] h2_:=by
   rcases jms ok Q.w with ef | ⟨k,a,hk,ef⟩
   ·refine⟨h,Bd.new n sws,some (.int (-1)),rfl,rfl,Q.k,Q.w,rfl,λ_ _=>rfl,λB _=> ?_⟩
    generalize rowS s=RR at*
    refine(jap (ρ':=[some (.ref d),some (.ref R),some (.int c),some (.int (n:Nat)),some (.str RR),some (.int (-1))]) (h':=h) (by simp[ef])).trans ?_
    refine(jap (ρ':=[some (.ref d),some (.ref R),some (.int c),some (.int (n:Nat)),some (.str RR),some (.int (-1))]) (h':=h) (by simp[-jaj])).trans ?_
    exact jap (by simp[-jaj])
   ·have lk:k<sws.length:=(List.getElem?_eq_some_iff.mp hk).1
    have z0:(Bd.new n sws).st=0:=rfl
    have e1:=jrn Q.k (k:=k) (w:= .feed a) (by omega) hk (jmv hk) (by rw[z0];simp)
    rw[z0,Nat.zero_xor] at e1
    have D1:=Q.k.turn h4 (2^k)
    have e2:=jlm D1 (x:=W k) (by show 2^k<2^12;exact Nat.pow_lt_pow_right (by decide) (by omega)) (jsv (by omega) _)
    have lg:(k:Nat).log2<1920:=Nat.lt_of_le_of_lt (Nat.log2_le_self k) (by omega)
    have lw:(numS (k:Int)).length<=2:=(w_of (n:=k) (by omega) (by omega)).1
    have tr:Str.ofString "turn "++numS (k:Int)=jdc k:=by rw[blk.2.2.2.2.1];exact row1 _ _
    have lt:(Str.ofString "turn ").length<=5:=by decide+kernel
    have l1:(Str.ofString "turn ").length+(numS (k:Int)).length<=16777216:=by omega
    refine⟨_,{Bd.new n sws with st:=2^k},some (.int (k:Nat)),rfl,rfl,D1,by rw[List.getElem?_set_ne (Ne.symm h2)];exact Q.w,List.length_set,λj hj=>by rw[List.getElem?_set_ne (Ne.symm hj)],λB _=> ?_⟩
    have o0:=Q.k.o
    have o1:=D1.o
    generalize h.set p (({Bd.new n sws with st:=2^k}:Bd).cell r)=H1 at*
    generalize rowS s=RR at*
    have m1:=ji4 o0 (m:=mVar 0) (l:=ja3 (mBin dAdd (mC (.str "turn ")) (mFn fStr (ja3 (mVar 5) mNil))) mNil) (ρ:=[some (.ref d),some (.ref R),some (.int c),some (.int (n:Nat)),some (.str RR),some (.int (k:Nat))]) (row:=jdc k) (by simp) (by simp[lg,l1,tr])
    have m1:=m1.trans e1
    have m2:=ji4 o1 (m:=mVar 0) (l:=ja3 (mC (.str "shut")) mNil) (ρ:=[some (.ref d),some (.ref R),some (.int c),some (.int (n:Nat)),some (.str RR),some (.int (k:Nat))]) (row:="shut") (by simp) (by simp)
    have m2:=m2.trans e2
    have t1:=jdl "shut" "shut" H1
    have t2:=jdl (numS (k:Int)) (numS (k:Int)) H1
    simp at t1 t2
    refine(jap (ρ':=[some (.ref d),some (.ref R),some (.int c),some (.int (n:Nat)),some (.str RR),some (.int (k:Nat))]) (h':=h) (by simp[ef])).trans ?_
    refine(jap (ρ':=[some (.ref d),some (.ref R),some (.int c),some (.int (n:Nat)),some (.str RR),some (.int (k:Nat))]) (h':=H1) (by simp[-jaj,m1,t1])).trans ?_
    exact jap (by simp[-jaj,m2,t2,lg])
  obtain⟨h2_,b,x5,rfl,rfl,D2,w2,len2,fr,em⟩:=mid
  obtain⟨ea,Q2⟩:=add_ok (n:=0) (sws:=[]) D2 ok w2 h1 h2 h3 hs q12 (some (.int c)) (some (.int (b.n:Nat))) x5
  rw[len2] at Q2
  refine⟨_,h.length,h.length+2,b.sws++[s],Q2,?_,.inr ⟨Nat.le_refl _,by omega⟩,λj lj j1 j2 j3=> ?_,?_⟩
  ·rw[jkq,List.length_set,len2];omega
  ·rw[jdy (by rw[List.length_set,len2];exact lj) j1,List.getElem?_set_ne (Ne.symm j2),fr j j3]
  ·unfold z_Xl mFun
   rw[if_pos (show[D.ref d,D.ref R,D.int c].length=3 from rfl)]
   have key:b_Xl ([D.ref d,D.ref R,D.int c].map some++List.replicate (6 - [D.ref d,D.ref R,D.int c].length) none) h= .rt (.bl true) (beH (h2_.set R (some (.lst (rowL b.n (b.sws++[s]))))) d b.n (b.sws++[s]) (.ref p)):=by
    show b_Xl [some (.ref d),some (.ref R),some (.int c),none,none,none] h=_
    unfold b_Xl
    refine(jap (ρ':=[some (.ref d),some (.ref R),some (.int c),some (.int (b.n:Nat)),none,none]) (h':=h) (by simp only[sAsg,eb,jcf,jab,List.set_cons_succ,List.set_cons_zero])).trans ?_
    refine(jap (ρ':=[some (.ref d),some (.ref R),some (.int c),some (.int (b.n:Nat)),some (.str (rowS s)),none]) (h':=h) (by simp[es])).trans ?_
    refine(jap (ρ':=[some (.ref d),some (.ref R),some (.int c),some (.int (b.n:Nat)),some (.str (rowS s)),none]) (h':=h) (by
     have o:=Q.w
     have n13:¬b.sws.length+1=13:=by omega
     have n13':¬(b.sws.length:Int)+1=13:=by omega
     generalize rowL b.n b.sws=T at*
     generalize rowS s=RR at*
     simp[o,ll,n13'])).trans ?_
    rw[em _ rfl]
    exact ea
   rw[key]
   exact jhq Q2.k.o ld (Nat.le_refl _)
theorem jpk(n:Nat)(sws:List Sw):Txt.join (Str.ofString "\n") (jai n::sws.map rowS)=txtS n sws:=by
 rw[jg4,e10]
 unfold txtS jdu
 rw[List.map_map]
 rfl
theorem jq8(n:Nat)(sws:List Sw):jko (rowL n sws)=some (jai n::sws.map rowS):=by
 have:rowL n sws=(jai n::sws.map rowS).map D.str:=by
  unfold rowL
  rw[List.map_cons,List.map_map];rfl
 rw[this,jit]
theorem jt1(ok:jc1 n sws):((jai n::sws.map rowS).map (·.length)).sum+(jai n::sws.map rowS).length*(Str.ofString "\n").length<=16777216:=by
 have l1:(Str.ofString "\n").length=1:=by decide+kernel
 have hb:(jai (n:Int)).length<=20:=(jci (k:=Str.ofString "bars") (bs:=[(n:Int)]) jcb.1 jcb.2.1 jcb.2.2 (by have:=ok.2.1;simp;omega) (by simp)).1
 have:=jj5 (l:=(jai n::sws.map rowS).map (·.length)) (m:=20) (λx m=>by
  obtain⟨s,ms,rfl⟩:=List.mem_map.mp m
  rcases List.mem_cons.mp ms with rfl | ms
  ·exact hb
  ·obtain⟨w,mw,rfl⟩:=List.mem_map.mp ms
   exact(jf9 ok.2.1 (ok.2.2.2 w mw)).1)
 have hl:=ok.2.2.1
 simp only[List.length_map,List.length_cons] at this ⊢
 rw[l1]
 omega
theorem jjh(ok:jc1 n sws){h:MH}{R:Nat}(o:h[R]?=some (some (.lst (rowL n sws)))):jh2 (Str.ofString "\n") [.ref R] h= .ok (.str (txtS n sws)) h:=by
 have s1:=jq8 n sws
 have s2:=jt1 ok
 have s3:=jpk n sws
 generalize rowL n sws=T at*
 generalize jai n::sws.map rowS=U at*
 simp only[jh2,asL,o,Option.bind_some,s1,jox,jdb,chk,s2,if_true,s3]
theorem jvl{h:MH}{d p r R n:Nat}{sws:List Sw}(Q:Dq h d R p r n sws)(c:Int)(hc:¬c % 16=5)(hc2:11<c % 16):z_Xi [.ref d,.ref R,.int c] h= .ok (.bl true) h:=by
 have e1:=jhv Q.k Q.ok
 have jr:=jjh Q.ok Q.w
 have m1:=ji4 Q.k.o (m:=mVar 0) (l:=ja3 (mC (.str "show")) mNil) (ρ:=[some (.ref d),some (.ref R),some (.int c),some (.int (c % 16))]) (row:="show") (by simp) (by simp)
 have m1:=m1.trans e1
 have t1:=jdl (txtS n sws) (txtS n sws) h
 simp at t1
 have e0:(Bd.new n sws).n=n:=rfl
 have e9:(Bd.new n sws).sws=sws:=rfl
 rw[e0,e9] at m1
 refine jcu (np:=3) (nn:=4) (b:=b_Xi) (ds:=[.ref d,.ref R,.int c]) rfl ?_ (Nat.le_refl _)
 show b_Xi [some (.ref d),some (.ref R),some (.int c),none] h=_
 generalize txtS n sws=T at*
 simp[-jaj, -jh2,b_Xi,hc,hc2,m1,jr,t1]
theorem jly{h:MH}{d R:Nat}(c:Int){H:MH}(hc:¬c % 16=5)(hc2:¬11<c % 16){p':Nat}{y:D}(o:H[d]?=some (dkC y (.ref p')))(ld:d<h.length)(hp:H.length<=h.length \/ h.length<=p')(e:z_Xl [.ref d,.ref R,.int (c / 16)] h= .ok (.bl true) H):z_Xi [.ref d,.ref R,.int c] h= .ok (.bl true) H:=by
 have key:b_Xi [some (.ref d),some (.ref R),some (.int c),none] h= .rt (.bl true) H:=by
  simp[-jaj,b_Xi,hc,hc2,e]
 unfold z_Xi mFun
 rw[if_pos (show[D.ref d,D.ref R,D.int c].length=3 from rfl)]
 have k2:b_Xi ([D.ref d,D.ref R,D.int c].map some++List.replicate (4 - [D.ref d,D.ref R,D.int c].length) none) h= .rt (.bl true) H:=key
 rw[k2]
 show fin h.length _ H=_
 rcases hp with hp | hp
 ·unfold fin;rw[if_pos hp]
 ·exact jhq o ld hp
theorem jry(n:Nat):txtS n []=jai n:=rfl
theorem jo3{h:MH}{d p r R n:Nat}{sws:List Sw}(Q:Dq h d R p r n sws)(h1:R≠d)(h2:R≠p)(h3:R≠r)(c:Int)(hc:c % 16=5):
  ∃(H:MH) (m:Nat),Dq H d R h.length (h.length+2) m [] /\ h.length<=H.length /\ (∀j,j<h.length->j≠d->j≠R->H[j]?=h[j]?) /\ z_Xi [.ref d,.ref R,.int c] h= .ok (.bl true) H:=by
 obtain⟨m,em⟩:=jq1 (x:=1+c / 16 % 10) (by omega)
 have m1:1<=m:=by omega
 have m2:m<=10:=by omega
 have ld:d<h.length:=(List.getElem?_eq_some_iff.mp Q.k.o).1
 have lR:R<h.length:=(List.getElem?_eq_some_iff.mp Q.w).1
 have D1:=Q.k.setR h1 h2 h3 (x:=some (.lst (rowL m []))) λk=>jg5 _ _ k
 have hl1:(h.set R (some (.lst (rowL m [])))).length=h.length:=List.length_set
 have okm:jc1 m []:=⟨m1,m2,by simp,λs ms=>(nomatch ms)⟩
 have hy:∀k,(h.set R (some (.lst (rowL m [])))).length<=k->(D.ref p).bnd k=true:=λk hk=>by
  have:=D1.a.lt'
  simp[D.bnd];omega
 have e1:=jlu m1 m2 D1.a.hb D1.o hy
 have D2:=jqj (d:=d) (b:= .ref p) okm D1.a.hb (by rw[hl1];exact ld) hy
 rw[hl1] at D2
 have e2:=jhv D2 okm
 have e0:(Bd.new m []).n=m:=rfl
 have e9:(Bd.new m []).sws=[]:=rfl
 rw[e0,e9,jry] at e2
 have w1:(h.set R (some (.lst (rowL m []))))[R]?=some (some (.lst (rowL m []))):=List.getElem?_set_self lR
 have w2:(beH (h.set R (some (.lst (rowL m [])))) d m [] (.ref p))[R]?=some (some (.lst (rowL m []))):=by
  rw[jdy (by rw[hl1];exact lR) h1];exact w1
 have o1:=D1.o
 have o2:=D2.o
 refine⟨beH (h.set R (some (.lst (rowL m [])))) d m [] (.ref p),m,⟨D2,okm,w2⟩,by rw[jkq,hl1];omega,λj lj j1 j2=>by rw[jdy (by rw[hl1];exact lj) j1,List.getElem?_set_ne (Ne.symm j2)],?_⟩
 have lg:(m:Nat).log2<1920:=Nat.lt_of_le_of_lt (Nat.log2_le_self m) (by omega)
 have lw:(numS (m:Int)).length<=2:=(w_of (n:=m) (by omega) (by omega)).1
 have tr:Str.ofString "bars "++numS (m:Int)=jai m:=by rw[blk.2.2.2.2.2];exact row1 _ _
 have lt:(Str.ofString "bars ").length<=5:=by decide+kernel
 have l1:(Str.ofString "bars ").length+(numS (m:Int)).length<=16777216:=by omega
 have key:b_Xi [some (.ref d),some (.ref R),some (.int c),none] h= .rt (.bl true) (beH (h.set R (some (.lst (rowL m [])))) d m [] (.ref p)):=by
  unfold b_Xi
  refine(jap (ρ':=[some (.ref d),some (.ref R),some (.int c),some (.int 5)]) (h':=h) (by simp[hc])).trans ?_
  refine jf8 ?_
  have t5:tB (mBin dEq (mVar 3) (mC (.int 5))) [some (.ref d),some (.ref R),some (.int c),some (.int 5)] h= .ok true h:=by simp
  simp only[sIf,t5,jcf,if_true]
  refine(jap (ρ':=[some (.ref d),some (.ref R),some (.int c),some (.int 5)]) (h':=h.set R (some (.lst []))) (by
   have o:=Q.w
   generalize rowL n sws=T at*
   simp[o])).trans ?_
  refine(jap (ρ':=[some (.ref d),some (.ref R),some (.int c),some (.int 5)]) (h':=h.set R (some (.lst (rowL m [])))) (by
   have g:(h.set R (some (Cell.lst [])))[R]?=some (some (.lst [])):=List.getElem?_set_self lR
   have rl:rowL m []=[.str (jai m)]:=rfl
   rw[rl]
   simp[g,em,lg,l1,tr])).trans ?_
  have ix1:dIx (.ref R) (.int 0) (h.set R (some (.lst (rowL m []))))= .ok (.str (jai m)) (h.set R (some (.lst (rowL m [])))):=by
   have rl:rowL m []=[.str (jai m)]:=rfl
   rw[rl] at w1 ⊢
   simp[w1]
  have ix2:dIx (.ref R) (.int 0) (beH (h.set R (some (.lst (rowL m [])))) d m [] (.ref p))= .ok (.str (jai m)) (beH (h.set R (some (.lst (rowL m [])))) d m [] (.ref p)):=by
   have rl:rowL m []=[.str (jai m)]:=rfl
   generalize beH (h.set R (some (.lst (rowL m [])))) d m [] (.ref p)=H2 at*
   rw[rl] at w2
   simp[w2]
  generalize beH (h.set R (some (.lst (rowL m [])))) d m [] (.ref p)=H2 at*
  generalize h.set R (some (.lst (rowL m [])))=H1 at*
  have q1:=ji4 o1 (m:=mVar 0) (l:=ja3 (mBin dIx (mVar 1) (mC (.int 0))) mNil) (ρ:=[some (.ref d),some (.ref R),some (.int c),some (.int 5)]) (row:=jai m) (by simp) (by simp[-dIx,ix1])
  have q1:=q1.trans e1
  have q2:=ji4 o2 (m:=mVar 0) (l:=ja3 (mC (.str "show")) mNil) (ρ:=[some (.ref d),some (.ref R),some (.int c),some (.int 5)]) (row:="show") (by simp) (by simp)
  have q2:=q2.trans e2
  have t1:=jdl "ok" "ok" H2
  have t2:=jdl (jai m) (jai m) H2
  simp at t1 t2
  simp[-jaj, -dIx,q1,q2,t1,t2,ix2]
 unfold z_Xi mFun
 rw[if_pos (show[D.ref d,D.ref R,D.int c].length=3 from rfl)]
 have k2:b_Xi ([D.ref d,D.ref R,D.int c].map some++List.replicate (4 - [D.ref d,D.ref R,D.int c].length) none) h=_:=key
 rw[k2]
 exact jhq D2.o ld (Nat.le_refl _)
theorem jon(ns:List Int)(k:Nat)(hk:k<=1)(h:MH):∃v:Int,z_Xd [.arg ns,.int (k:Nat)] h= .ok (.int v) h:=by
 obtain⟨s,es⟩:∃s:Int,1+(ns.length:Int) / 8=s:=⟨_,rfl⟩
 have s0:0<s:=by omega
 have om:∀i j:Int,j.natAbs<18446744073709551616->jn5 i j:=λi j h=> .inr h
 obtain⟨ρ',⟨f,x4,rfl⟩,lp⟩:=jjg (g:=jab 4) (b:=jd0) (h:=h) (λρ=>∃f x4,ρ=[some (.arg ns),some (.int (k:Nat)),some (.int s),some (.int f),x4]) ((jh4 ns (some ((k:Int) % s)) none s).map D.int) [some (.arg ns),some (.int (k:Nat)),some (.int s),some (.int (31*(k:Int)+5)),none] ⟨_,_,rfl⟩ (λd m ρ ⟨f,x4,hr⟩=>by
  obtain⟨v,_,rfl⟩:=List.mem_map.mp m
  subst hr
  have o1:=om f (2*(k:Int)+1013) (by omega)
  have o2:=om 2 (k:Int) (by omega)
  exact⟨_,rfl,_,by
   show jd0 [some (.arg ns),some (.int (k:Nat)),some (.int s),some (.int f),some (.int v)] h= .nx [some (.arg ns),some (.int (k:Nat)),some (.int s),some (.int ((f*(2*(k:Int)+1013)+v) % 999999000001)),some (.int v)] h
   simp[jd0,o1,o2],_,_,rfl⟩)
 have o1:=om f (f / 7 % 99991+3*(k:Int)+1) (by omega)
 have o2:=om 3 (k:Int) (by omega)
 have o3:=om 31 (k:Int) (by omega)
 refine⟨f*(f / 7 % 99991+3*(k:Int)+1) % 999999000001,jcu (np:=2) (nn:=5) (b:=b_Xd) (ds:=[.arg ns,.int (k:Nat)]) rfl ?_ (Nat.le_refl _)⟩
 show b_Xd [some (.arg ns),some (.int (k:Nat)),none,none,none] h=_
 unfold b_Xd
 refine(jap (ρ':=[some (.arg ns),some (.int (k:Nat)),some (.int s),none,none]) (h':=h) (by simp[es])).trans ?_
 refine(jap (ρ':=[some (.arg ns),some (.int (k:Nat)),some (.int s),some (.int (31*(k:Int)+5)),none]) (h':=h) (by simp[o3])).trans ?_
 refine(jap (ρ':=[some (.arg ns),some (.int (k:Nat)),some (.int s),some (.int f),x4]) (h':=h) ?_).trans ?_
 ·have li:lIt (mSlS (mVar 0) (oSo (mBin dMod (mVar 1) (mVar 2))) oNo (oSo (mVar 2))) [some (.arg ns),some (.int (k:Nat)),some (.int s),some (.int (31*(k:Int)+5)),none] h= .ok (none,(jh4 ns (some ((k:Int) % s)) none s).map D.int) h:=by
   simp[s0]
  rw[jfy,li]
  simp only[jcf,jbz]
  exact lp
 ·simp[o1,o2]
theorem Dq.frame{h H:MH}{d R p r n:Nat}{sws:List Sw}(Q:Dq h d R p r n sws)(hB:Hb H)(e1:H[d]?=h[d]?)(e2:H[R]?=h[R]?)(e3:H[p]?=h[p]?)(e4:H[r]?=h[r]?):Dq H d R p r n sws:=
 ⟨⟨by rw[e1];exact Q.k.o,⟨by rw[e3];exact Q.k.a.o,by rw[e4];exact Q.k.a.g,hB,Q.k.a.ok⟩⟩,Q.ok,by rw[e2];exact Q.w⟩
structure Two (h:MH) (p0 r0 n0:Nat) (s0:List Sw) (p1 r1 n1:Nat) (s1:List Sw):Prop where
 a:Dq h 0 2 p0 r0 n0 s0
 b:Dq h 1 3 p1 r1 n1 s1
 lo:4<=p0 /\ 4<=r0 /\ 4<=p1 /\ 4<=r1
 ne:p0≠p1 /\ p0≠r1 /\ p1≠r0
theorem jm0{h:MH}{d R p r n:Nat}{sws:List Sw}(Q:Dq h d R p r n sws)(h1:R≠d)(h2:R≠p)(h3:R≠r)(h4:d≠p)(c:Int):
  ∃(H:MH) (p' r' n':Nat) (sws':List Sw),Dq H d R p' r' n' sws' /\ h.length<=H.length /\ (p'=p /\ r'=r \/ h.length<=p' /\ h.length<=r') /\ (∀j,j<h.length->j≠d->j≠R->j≠p->H[j]?=h[j]?) /\ z_Xi [.ref d,.ref R,.int c] h= .ok (.bl true) H:=by
 have ld:d<h.length:=(List.getElem?_eq_some_iff.mp Q.k.o).1
 by_cases q5:c % 16=5
 ·obtain⟨H,m,Q',l,fr,e⟩:=jo3 Q h1 h2 h3 c q5
  exact⟨H,_,_,_,_,Q',l,.inr ⟨Nat.le_refl _,by omega⟩,λj a b c _=>fr j a b c,e⟩
 ·by_cases q11:11<c % 16
  ·exact⟨h,p,r,n,sws,Q,Nat.le_refl _,.inl ⟨rfl,rfl⟩,λj _ _ _ _=>rfl,jvl Q c q5 q11⟩
  ·obtain⟨H,p',r',sws',Q',l,pr,fr,e⟩:=row_ok Q h1 h2 h3 h4 (c / 16)
   rcases pr with⟨e1,e2,e3⟩ | ⟨e1,e2⟩
   ·exact⟨H,p',r',n,sws',Q',l,.inl ⟨e1,e2⟩,fr,jly c q5 q11 Q'.k.o ld (.inl (by omega)) e⟩
   ·exact⟨H,p',r',n,sws',Q',l,.inr ⟨e1,e2⟩,fr,jly c q5 q11 Q'.k.o ld (.inr e1) e⟩
theorem jr7{h:MH}{p0 r0 n0 p1 r1 n1:Nat}{s0 s1:List Sw}(T:Two h p0 r0 n0 s0 p1 r1 n1 s1)(x0 x3 x5:Option D)(v:Int):∃(H:MH) (p0' r0' n0':Nat) (s0':List Sw) (p1' r1' n1':Nat) (s1':List Sw),Two H p0' r0' n0' s0' p1' r1' n1' s1' /\ jgk [x0,some (.lst [.ref 0,.ref 1]),some (.lst [.ref 2,.ref 3]),x3,some (.int v),x5] h= .nx [x0,some (.lst [.ref 0,.ref 1]),some (.lst [.ref 2,.ref 3]),x3,some (.int v),x5] H:=by
 obtain⟨l1,l2,l3,l4⟩:=T.lo
 obtain⟨n1,n2,n3⟩:=T.ne
 have a0:=T.a.k.a.lt'
 have a1:=T.a.k.a.lt
 have b0:=T.b.k.a.lt'
 have b1:=T.b.k.a.lt
 have lR:3<h.length:=(List.getElem?_eq_some_iff.mp T.b.w).1
 have m2:v % 2=0 \/ v % 2=1:=by omega
 rcases m2 with m2 | m2
 ·obtain⟨H,p',r',n',s',Q',l,pr,fr,e⟩:=jm0 T.a (by omega) (by omega) (by omega) (by omega) (v / 2)
  have Qb:=T.b.frame Q'.k.a.hb (fr 1 (by omega) (by omega) (by omega) (by omega)) (fr 3 (by omega) (by omega) (by omega) (by omega)) (fr _ b0 (by omega) (by omega) (by omega)) (fr _ b1 (by omega) (by omega) (by omega))
  refine⟨H,p',r',n',s',_,_,_,_,⟨Q',Qb,by omega,by omega⟩,?_⟩
  simp[jgk,m2,e]
 ·obtain⟨H,p',r',n',s',Q',l,pr,fr,e⟩:=jm0 T.b (by omega) (by omega) (by omega) (by omega) (v / 2)
  have Qa:=T.a.frame Q'.k.a.hb (fr 0 (by omega) (by omega) (by omega) (by omega)) (fr 2 (by omega) (by omega) (by omega) (by omega)) (fr _ a0 (by omega) (by omega) (by omega)) (fr _ a1 (by omega) (by omega) (by omega))
  refine⟨H,_,_,_,_,p',r',n',s',⟨Qa,Q',by omega,by omega⟩,?_⟩
  simp[jgk,m2,e]
theorem jlf(h:MH):z_Qk [.ref h.length] (h++[some (.ins "Desk" [])])= .ok .non (h++[dkC .non .non]):=by
 have key:b_Qk [some (.ref h.length)] (h++[some (.ins "Desk" [])])= .nx [some (.ref h.length)] (h++[dkC .non .non]):=by
  simp[b_Qk,putF,dkC,dkF]
 unfold z_Qk mFun
 rw[if_pos (show[D.ref h.length].length=1 from rfl)]
 have k2:b_Qk ([D.ref h.length].map some++List.replicate (1 - [D.ref h.length].length) none) (h++[some (.ins "Desk" [])])=_:=key
 rw[k2]
 show fin _ _ _=_
 unfold fin
 rw[if_pos (by simp)]
theorem jcj{g:MG}{b:MS}{d:D}{ds:List D}{ρ ρ1 ρ2:Ro}{h h1 h2:MH}(e1:g d ρ h= .nx ρ1 h1)(e2:b ρ1 h1= .nx ρ2 h2):jc5 g b (d::ds) ρ h=jc5 g b ds ρ2 h2:=by
 simp only[jc5,e1,e2]
theorem loopT{g:MG}{b:MS}(I:Ro->MH->Prop)(hs:∀(v:Int) ρ h,I ρ h->∃ρ1 h1,g (.int v) ρ h= .nx ρ1 h1 /\ ∃ρ2 h2,b ρ1 h1= .nx ρ2 h2 /\ I ρ2 h2):∀(vs:List Int) (ρ:Ro) (h:MH),I ρ h->∃ρ' h',I ρ' h' /\ jc5 g b (vs.map D.int) ρ h= .nx ρ' h'
 | [],ρ,h,i=>⟨ρ,h,i,rfl⟩
 | v::vs,ρ,h,i=>by
  obtain⟨ρ1,h1,e1,ρ2,h2,e2,i2⟩:=hs v ρ h i
  obtain⟨ρ',h',i',e'⟩:=loopT I hs vs ρ2 h2 i2
  refine⟨ρ',h',i',?_⟩
  rw[List.map_cons,jcj e1 e2]
  exact e'
theorem jma{h:MH}{p0 r0 n0 p1 r1 n1:Nat}{s0 s1:List Sw}(T:Two h p0 r0 n0 s0 p1 r1 n1 s1)(x0 x4 x5:Option D)(k:Nat)(hk:k<=1):∃z5,jgc [x0,some (.lst [.ref 0,.ref 1]),some (.lst [.ref 2,.ref 3]),some (.int (k:Nat)),x4,x5] h= .nx [x0,some (.lst [.ref 0,.ref 1]),some (.lst [.ref 2,.ref 3]),some (.int (k:Nat)),x4,z5] h:=by
 have key:∀{d R p r n:Nat} {sws:List Sw} (Q:Dq h d R p r n sws),dIx (.lst [.ref 0,.ref 1]) (.int (k:Nat)) h= .ok (.ref d) h->dIx (.lst [.ref 2,.ref 3]) (.int (k:Nat)) h= .ok (.ref R) h->∃z5,jgc [x0,some (.lst [.ref 0,.ref 1]),some (.lst [.ref 2,.ref 3]),some (.int (k:Nat)),x4,x5] h= .nx [x0,some (.lst [.ref 0,.ref 1]),some (.lst [.ref 2,.ref 3]),some (.int (k:Nat)),x4,z5] h:=fun{d R p r n sws} Q i1 i2=>by
  have jr:=jjh Q.ok Q.w
  have e1:=jhv Q.k Q.ok
  have e0:(Bd.new n sws).n=n:=rfl
  have e9:(Bd.new n sws).sws=sws:=rfl
  rw[e0,e9] at e1
  obtain⟨f1,f2⟩:=jn3 Q.ok Q.k.a.hb
  have o:=Q.k.o
  have t1:=jdl (txtS n sws) (txtS n sws) h
  simp at t1
  generalize txtS n sws=T at*
  generalize yd n sws=Y at*
  refine⟨some (.str T),?_⟩
  have q1:=ji4 o (m:=mBin dIx (mVar 1) (mVar 3)) (l:=ja3 (mC (.str "show")) mNil) (ρ:=[x0,some (.lst [.ref 0,.ref 1]),some (.lst [.ref 2,.ref 3]),some (.int (k:Nat)),x4,some (.str T)]) (row:="show") (by simp[-dIx,i1]) (by simp)
  have q1:=q1.trans e1
  simp[-jaj, -dIx, -jh2,jgc,i2,jr,q1,t1,f1,f2]
 have hk:k=0 \/ k=1:=by omega
 rcases hk with rfl | rfl
 ·exact key T.a (by simp) (by simp)
 ·exact key T.b (by simp) (by simp)
theorem jpu{h:MH}{d R n:Nat}(hb:Hb h)(o:h[d]?=some (dkC .non .non))(w:h[R]?=some (some (.lst (rowL n []))))(n1:1<=n)(n2:n<=10)(ne:R≠d)(x0 x4 x5:Option D){k:Nat}(i1:dIx (.lst [.ref 0,.ref 1]) (.int (k:Nat)) h= .ok (.ref d) h)(i2:dIx (.lst [.ref 2,.ref 3]) (.int (k:Nat)) h= .ok (.ref R) h):Dq (beH h d n [] .non) d R h.length (h.length+2) n [] /\ jhw [x0,some (.lst [.ref 0,.ref 1]),some (.lst [.ref 2,.ref 3]),some (.int (k:Nat)),x4,x5] h= .nx [x0,some (.lst [.ref 0,.ref 1]),some (.lst [.ref 2,.ref 3]),some (.int (k:Nat)),x4,x5] (beH h d n [] .non):=by
 have ld:d<h.length:=(List.getElem?_eq_some_iff.mp o).1
 have lR:R<h.length:=(List.getElem?_eq_some_iff.mp w).1
 have okm:jc1 n []:=⟨n1,n2,by simp,λs ms=>(nomatch ms)⟩
 have hy:∀m,h.length<=m->D.non.bnd m=true:=λm _=>rfl
 have rf:=jhj o (jrm o)
 have e1:=jlu n1 n2 hb o hy
 have D2:=jqj (d:=d) (b:= .non) okm hb ld hy
 have w2:(beH h d n [] .non)[R]?=some (some (.lst (rowL n []))):=by
  rw[jdy lR ne];exact w
 refine⟨⟨D2,okm,w2⟩,?_⟩
 have ix:dIx (.ref R) (.int 0) h= .ok (.str (jai n)) h:=by
  have rl:rowL n []=[.str (jai n)]:=rfl
  rw[rl] at w
  simp[w]
 have t1:=jdl "ok" "ok" (beH h d n [] .non)
 simp at t1
 generalize beH h d n [] .non=H2 at*
 have q1:=ji4 o (m:=mBin dIx (mVar 1) (mVar 3)) (l:=ja3 (mBin dIx (mBin dIx (mVar 2) (mVar 3)) (mC (.int 0))) mNil) (ρ:=[x0,some (.lst [.ref 0,.ref 1]),some (.lst [.ref 2,.ref 3]),some (.int (k:Nat)),x4,x5]) (row:=jai n) (by simp[-dIx,i1]) (by simp[-dIx,i2,ix])
 have q1:=q1.trans e1
 simp[-jaj, -dIx,jhw,i1,rf,q1,t1]
def h0(n0 n1:Nat):MH:=[dkC .non .non,dkC .non .non,some (.lst (rowL n0 [])),some (.lst (rowL n1 []))]
theorem hb0(n0 n1:Nat):Hb (h0 n0 n1):=λk _=>by
 have b0:=jg5 n0 [] k
 have b1:=jg5 n1 [] k
 simp only[Cell.bnd] at b0 b1
 simp[h0,Cell.bnd,b0,b1,dkC,dkF,D.bnd,D.bnds]
theorem two0{n0 n1:Nat}(a1:1<=n0)(a2:n0<=10)(b1:1<=n1)(b2:n1<=10)(x0 x3 x4 x5:Option D):∃H,Two H 4 6 n0 [] 7 9 n1 [] /\ jc5 (jab 3) jhw (rng 0 2) [x0,some (.lst [.ref 0,.ref 1]),some (.lst [.ref 2,.ref 3]),x3,x4,x5] (h0 n0 n1)= .nx [x0,some (.lst [.ref 0,.ref 1]),some (.lst [.ref 2,.ref 3]),some (.int 1),x4,x5] H:=by
 obtain⟨Q0,e0⟩:=jpu (hb0 n0 n1) (d:=0) (R:=2) (n:=n0) rfl rfl a1 a2 (by omega) x0 x4 x5 (k:=0) (by simp) (by simp)
 have f1:(beH (h0 n0 n1) 0 n0 [] .non)[1]?=some (dkC .non .non):=by rw[jdy (by simp[h0]) (by omega)];rfl
 have f3:(beH (h0 n0 n1) 0 n0 [] .non)[3]?=some (some (.lst (rowL n1 []))):=by rw[jdy (by simp[h0]) (by omega)];rfl
 obtain⟨Q1,e1⟩:=jpu Q0.k.a.hb (d:=1) (R:=3) (n:=n1) f1 f3 b1 b2 (by omega) x0 x4 x5 (k:=1) (by simp) (by simp)
 have l4:(h0 n0 n1).length=4:=rfl
 have l7:(beH (h0 n0 n1) 0 n0 [] .non).length=7:=jkq
 rw[l7] at Q1
 rw[l4] at Q0
 generalize beH (h0 n0 n1) 0 n0 [] .non=H1 at*
 have Q0':=Q0.frame Q1.k.a.hb (jdy (by omega) (by omega)) (jdy (by omega) (by omega)) (jdy (by omega) (by omega)) (jdy (by omega) (by omega))
 refine⟨_,⟨Q0',Q1,by omega,by omega⟩,?_⟩
 generalize beH H1 1 n1 [] .non=H2 at*
 generalize h0 n0 n1=H0 at*
 have r2:rng 0 2=[.int 0,.int 1]:=rfl
 rw[r2,jcj (by rfl) e0,jcj (by rfl) e1]
 rfl
theorem jrx(ns:List Int)(C0 C1:Option Cell):∃n0 n1:Nat,(1<=n0 /\ n0<=10 /\ 1<=n1 /\ n1<=10) /\ compLoop (jab 0) tYes (jkm (jek (ja3 (mBin dAdd (mC (.str "bars ")) (mFn fStr (ja3 (mBin dAdd (mC (.int 1)) (mBin dMod (jaq z_Xd (ja3 (mVar 1) (ja3 (mVar 0) mNil))) (mC (.int 10)))) mNil))) mNil))) [none,some (.arg ns)] (rng 0 2) [C0,C1]= .ok [.ref 2,.ref 3] [C0,C1,some (.lst (rowL n0 [])),some (.lst (rowL n1 []))]:=by
 obtain⟨v0,e0⟩:=jon ns 0 (by omega) [C0,C1]
 have e0:z_Xd [.arg ns,.int 0] [C0,C1]= .ok (.int v0) [C0,C1]:=e0
 obtain⟨m,em⟩:=jq1 (x:=1+v0 % 10) (by omega)
 obtain⟨v1,e1⟩:=jon ns 1 (by omega) [C0,C1,some (.lst (rowL m []))]
 have e1:z_Xd [.arg ns,.int 1] [C0,C1,some (.lst (rowL m []))]= .ok (.int v1) [C0,C1,some (.lst (rowL m []))]:=e1
 obtain⟨m',em'⟩:=jq1 (x:=1+v1 % 10) (by omega)
 refine⟨m,m',by omega,?_⟩
 have key:∀m:Nat,m<=10->m.log2<1920 /\ (Str.ofString "bars ").length+(numS (m:Int)).length<=16777216 /\ Str.ofString "bars "++numS (m:Int)=jai m:=λm hm=>by
  have lw:(numS (m:Int)).length<=2:=(w_of (n:=m) (by omega) (by omega)).1
  have lt:(Str.ofString "bars ").length<=5:=by decide+kernel
  exact⟨Nat.lt_of_le_of_lt (Nat.log2_le_self m) (by omega),by omega,by rw[blk.2.2.2.2.2];exact row1 _ _⟩
 obtain⟨g1,l1,t1⟩:=key m (by omega)
 obtain⟨g2,l2,t2⟩:=key m' (by omega)
 have r2:rng 0 2=[.int 0,.int 1]:=rfl
 have rl:∀m:Nat,rowL m []=[.str (jai m)]:=λ_=>rfl
 rw[r2]
 simp only[rl] at e1 ⊢
 simp[compLoop,e0,em,g1,l1,t1,e1,em',g2,l2,t2]
theorem law_true(ns:List Int)(_:ns.length<=63):∃h,jx6 [.arg ns] []= .ok (.bl true) h:=by
 obtain⟨n0,n1,⟨a1,a2,b1,b2⟩,ec⟩:=jrx ns (dkC .non .non) (dkC .non .non)
 have ec:compLoop _ _ _ _ _ _= .ok _ (h0 n0 n1):=ec
 obtain⟨H,T,e0⟩:=two0 a1 a2 b1 b2 (some (.arg ns)) none none none
 obtain⟨ρ',H',⟨x4,p0,r0,m0,s0,p1,r1,m1,s1,T',rfl⟩,e1⟩:=loopT (g:=jab 4) (b:=jgk) (λρ h=>∃x4 p0 r0 n0 s0 p1 r1 n1 s1,Two h p0 r0 n0 s0 p1 r1 n1 s1 /\ ρ=[some (.arg ns),some (.lst [.ref 0,.ref 1]),some (.lst [.ref 2,.ref 3]),some (.int 1),x4,none]) (λv ρ h ⟨x4,p0,r0,n0,s0,p1,r1,n1,s1,T,hr⟩=>by
  subst hr
  obtain⟨H,p0',r0',n0',s0',p1',r1',n1',s1',T',e⟩:=jr7 T (some (.arg ns)) (some (.int 1)) none v
  exact⟨_,_,rfl,_,_,e,_,_,_,_,_,_,_,_,_,T',rfl⟩) (cut ns none (some 63)) _ H ⟨none,_,_,_,_,_,_,_,_,T,rfl⟩
 obtain⟨z5,l0⟩:=jma T' (some (.arg ns)) x4 none 0 (by omega)
 obtain⟨z6,l1⟩:=jma T' (some (.arg ns)) x4 z5 1 (by omega)
 have e2:jc5 (jab 3) jgc (rng 0 2) [some (.arg ns),some (.lst [.ref 0,.ref 1]),some (.lst [.ref 2,.ref 3]),some (.int 1),x4,none] H'= .nx [some (.arg ns),some (.lst [.ref 0,.ref 1]),some (.lst [.ref 2,.ref 3]),some (.int 1),x4,z6] H':=by
  have r2:rng 0 2=[.int 0,.int 1]:=rfl
  rw[r2,jcj (by rfl) l0,jcj (by rfl) l1]
  rfl
 have d0:z_Qk [.ref 0] [some (.ins "Desk" [])]= .ok .non [dkC .non .non]:=jlf []
 have d1:z_Qk [.ref 1] [dkC .non .non,some (.ins "Desk" [])]= .ok .non [dkC .non .non,dkC .non .non]:=jlf [dkC .non .non]
 generalize h0 n0 n1=H0 at*
 generalize dkC .non .non=C at*
 have key:jp8 [some (.arg ns),none,none,none,none,none] []= .rt (.bl true) H':=by
  unfold jp8
  refine(jap (ρ':=[some (.arg ns),some (.lst [.ref 0,.ref 1]),none,none,none,none]) (h':=[C,C]) (by simp[d0,d1])).trans ?_
  refine(jap (ρ':=[some (.arg ns),some (.lst [.ref 0,.ref 1]),some (.lst [.ref 2,.ref 3]),none,none,none]) (h':=H0) ?_).trans ?_
  ·simp[-jkm, -mBin, -dMod,caps,ec]
  refine(jap (ρ':=[some (.arg ns),some (.lst [.ref 0,.ref 1]),some (.lst [.ref 2,.ref 3]),some (.int 1),none,none]) (h':=H) ?_).trans ?_
  ·simp[e0]
  refine(jap (ρ':=[some (.arg ns),some (.lst [.ref 0,.ref 1]),some (.lst [.ref 2,.ref 3]),some (.int 1),x4,none]) (h':=H') ?_).trans ?_
  ·have li:lIt (mSl (mVar 0) oNo (oSo (mC (.int 63)))) [some (.arg ns),some (.lst [.ref 0,.ref 1]),some (.lst [.ref 2,.ref 3]),some (.int 1),none,none] H= .ok (none,(cut ns none (some 63)).map D.int) H:=by
    have:cut (ns.map D.int) none (some 63)=(cut ns none (some 63)).map D.int:=by simp[cut,List.map_drop,List.map_take]
    simp[this]
   rw[jfy,li]
   simp only[jcf,jbz]
   exact e1
  refine(jap (ρ':=[some (.arg ns),some (.lst [.ref 0,.ref 1]),some (.lst [.ref 2,.ref 3]),some (.int 1),x4,z6]) (h':=H') ?_).trans ?_
  ·simp[e2]
  simp
 have k2:jp8 ([D.arg ns].map some++List.replicate (6 - [D.arg ns].length) none) []= .rt (.bl true) H':=key
 unfold jx6 mFun
 rw[if_pos (show[D.arg ns].length=1 from rfl),k2]
 show ∃h,fin _ _ _=_
 unfold fin
 split
 ·exact⟨_,rfl⟩
 ·split<;>exact⟨_,rfl⟩
end My
namespace My
open PySem L2
def top(i:Nat):Stmt:=PySem.Challenge.pw_earthward_k37_rows_make_a_yard.main.body.getD i (.Pass ⟨0,0,0,0⟩)
abbrev s_Ql:Stmt:=jau (top 19) 0
abbrev s_Qg:Stmt:=jau (top 19) 1
abbrev s_Qw:Stmt:=jau (top 19) 2
abbrev s_Qi:Stmt:=jau (top 19) 3
abbrev s_Qe:Stmt:=jau (top 20) 0
abbrev s_Qy:Stmt:=jau (top 20) 1
abbrev s_Qd:Stmt:=jau (top 21) 0
abbrev s_Qm:Stmt:=jau (top 21) 1
abbrev s_Q3:Stmt:=jau (top 22) 0
abbrev s_Qj:Stmt:=jau (top 22) 1
abbrev s_Q0:Stmt:=jau (top 23) 0
abbrev s_Qc:Stmt:=jau (top 23) 1
abbrev s_Q5:Stmt:=jau (top 23) 2
abbrev s_Xf:Stmt:=top 24
abbrev s_has:Stmt:=top 26
abbrev s_Qv:Stmt:=jau (top 27) 0
abbrev s_Qf:Stmt:=jau (top 27) 1
abbrev s_Q8:Stmt:=jau (top 27) 2
abbrev s_Qh:Stmt:=jau (top 27) 3
abbrev s_Qn:Stmt:=jau (top 27) 4
abbrev s_Q1:Stmt:=jau (top 27) 5
abbrev s_Qx:Stmt:=jau (top 27) 6
abbrev s_Yf:Stmt:=top 28
abbrev s_Xu:Stmt:=top 29
abbrev s_Xx:Stmt:=top 30
abbrev s_Qz:Stmt:=top 31
abbrev s_Qq:Stmt:=top 36
abbrev s_X4:Stmt:=top 37
abbrev s_Ya:Stmt:=top 38
abbrev s_Y4:Stmt:=top 39
abbrev s_Xz:Stmt:=top 40
abbrev s_Qo:Stmt:=top 46
abbrev s_Qb:Stmt:=jau (top 49) 0
abbrev s_Qa:Stmt:=jau (top 49) 1
abbrev s_Qr:Stmt:=jau (top 49) 2
abbrev s_X1:Stmt:=jau (top 49) 3
abbrev s_X7:Stmt:=jau (top 49) 5
abbrev s_X8:Stmt:=jau (top 49) 6
abbrev s_Qs:Stmt:=jau (top 49) 7
abbrev s_Qt:Stmt:=jau (top 49) 8
abbrev s_Q9:Stmt:=jau (top 49) 9
abbrev s_Xh:Stmt:=top 62
abbrev s_Qu:Stmt:=top 63
abbrev s_Y2:Stmt:=top 64
abbrev s_Xp:Stmt:=top 65
abbrev s_Xg:Stmt:=top 66
abbrev s_Ye:Stmt:=top 67
abbrev s_Y3:Stmt:=top 68
abbrev s_Y9:Stmt:=top 69
abbrev s_Q2:Stmt:=top 71
abbrev s_X6:Stmt:=top 72
abbrev s_X3:Stmt:=top 73
abbrev s_Qk:Stmt:=jau (top 75) 0
abbrev s_Xo:Stmt:=jau (top 75) 1
abbrev s_X0:Stmt:=jau (top 75) 2
abbrev s_Q4:Stmt:=jau (top 75) 3
abbrev s_X9:Stmt:=jau (top 75) 4
abbrev s_X5:Stmt:=jau (top 75) 5
abbrev s_Xb:Stmt:=jau (top 75) 6
abbrev s_Xd:Stmt:=top 77
abbrev s_Q7:Stmt:=top 78
abbrev s_Xe:Stmt:=top 79
abbrev s_Qp:Stmt:=top 80
abbrev s_Q6:Stmt:=top 81
abbrev s_Xl:Stmt:=top 82
abbrev s_Xi:Stmt:=top 83
abbrev s_law:Stmt:=top 84
theorem sc_Ql:FnScope ["self"] ["self"] (ja7 s_Ql):=scof
theorem sc_Qg:FnScope ["self"] ["self"] (ja7 s_Qg):=scof
theorem sc_Qw:FnScope ["self"] ["self"] (ja7 s_Qw):=scof
theorem sc_Qi:FnScope ["self"] ["self"] (ja7 s_Qi):=scof
theorem sc_Qe:FnScope ["self","bar"] ["self","bar"] (ja7 s_Qe):=scof
theorem sc_Qy:FnScope ["self"] ["self"] (ja7 s_Qy):=scof
theorem sc_Qd:FnScope ["self","bar"] ["self","bar"] (ja7 s_Qd):=scof
theorem sc_Qm:FnScope ["self"] ["self"] (ja7 s_Qm):=scof
theorem sc_Q3:FnScope ["self","one","other"] ["self","one","other"] (ja7 s_Q3):=scof
theorem sc_Qj:FnScope ["self"] ["self"] (ja7 s_Qj):=scof
theorem sc_Q0:FnScope ["self","one","other"] ["self","one","other"] (ja7 s_Q0):=scof
theorem sc_Qc:FnScope ["self"] ["self"] (ja7 s_Qc):=scof
theorem sc_Q5:FnScope ["self"] ["self"] (ja7 s_Q5):=scof
theorem sc_Xf:FnScope ["switch","kind"] ["switch"] (ja7 s_Xf):=scof
theorem sc_has:FnScope ["some","number"] ["some","number"] (ja7 s_has):=scof
theorem sc_Qv:FnScope ["self","yard"] ["self","yard"] (ja7 s_Qv):=scof
theorem sc_Qf:FnScope ["self","standing"] ["self","standing"] (ja7 s_Qf):=scof
theorem jk6:FnScope ["self","standing","some","pairs","reached","ahead","pair"] ["self","standing","some"] (ja7 s_Q8):=scof
theorem jsr:FnScope ["self","standing","fed","switch"] ["self","standing"] (ja7 s_Qh):=scof
theorem jt7:FnScope ["self","standing","led","switch"] ["self","standing"] (ja7 s_Qn):=scof
theorem sc_Q1:FnScope ["self","standing"] ["self","standing"] (ja7 s_Q1):=scof
theorem sc_Qx:FnScope ["self","standing"] ["self","standing"] (ja7 s_Qx):=scof
theorem sc_Xx:FnScope ["some"] ["some"] (ja7 s_Xx):=scof
theorem sc_Qz:FnScope ["some"] ["some"] (ja7 s_Qz):=scof
theorem sc_Qq:FnScope ["yard","number"] ["yard","number"] (ja7 s_Qq):=scof
theorem sc_X4:FnScope ["standing","number"] ["standing","number"] (ja7 s_X4):=scof
theorem jri:FnScope ["net","standing","number","switch","apart","ends"] ["net","standing","number"] (ja7 s_Ya):=scof
theorem sc_Y4:FnScope ["net","standing","number"] ["net","standing","number"] (ja7 s_Y4):=scof
theorem sc_Xz:FnScope ["yard","standing","number","net"] ["yard","standing","number"] (ja7 s_Xz):=scof
theorem sc_Qb:FnScope ["self","yard"] ["self","yard"] (ja7 s_Qb):=scof
theorem sc_Qa:FnScope ["self"] ["self"] (ja7 s_Qa):=scof
theorem jt0:FnScope ["self","some","given"] ["self"] (ja7 s_X1):=scof
theorem sc_X7:FnScope ["self","number"] ["self","number"] (ja7 s_X7):=scof
theorem sc_Xh:FnScope ["word"] ["word"] (ja7 s_Xh):=scof
theorem sc_Qu:FnScope ["words"] ["words"] (ja7 s_Qu):=scof
theorem jv9:FnScope ["row","words","kind"] ["row"] (ja7 s_Y2):=scof
theorem sc_Xp:FnScope ["row","told"] ["row"] (ja7 s_Xp):=scof
theorem sc_Xg:FnScope ["row","bars","switches_ahead","switch"] ["row","bars","switches_ahead"] (ja7 s_Xg):=scof
theorem jp4:FnScope ["text","rows","bars","switches","row"] ["text"] (ja7 s_Ye):=scof
theorem sc_Y3:FnScope ["switch"] ["switch"] (ja7 s_Y3):=scof
theorem sc_Y9:FnScope ["yard","count"] ["yard"] (ja7 s_Y9):=scof
theorem sc_Q2:FnScope ["numbers"] ["numbers"] (ja7 s_Q2):=scof
theorem sc_X6:FnScope ["words"] ["words"] (ja7 s_X6):=scof
theorem sc_Qk:FnScope ["self"] ["self"] (ja7 s_Qk):=scof
theorem jro:FnScope ["self","row","words","kind","number"] ["self","row"] (ja7 s_Xo):=scof
theorem sc_X0:FnScope ["self","yard"] ["self","yard"] (ja7 s_X0):=scof
theorem jwr:FnScope ["self","row","bars","switches"] ["self","row"] (ja7 s_Q4):=scof
theorem sc_X9:FnScope ["self","kind","number"] ["self","kind","number"] (ja7 s_X9):=scof
theorem sc_Xb:FnScope ["self","kind"] ["self","kind"] (ja7 s_Xb):=scof
theorem jp0:FnScope ["script","k","step","found","cell"] ["script","k"] (ja7 s_Xd):=scof
theorem jvn:FnScope ["cell","bars","one","other"] ["cell","bars"] (ja7 s_Q7):=scof
theorem sc_Xe:FnScope ["found","due"] ["found","due"] (ja7 s_Xe):=scof
theorem jwc:FnScope ["desk","row","refused"] ["desk","row"] (ja7 s_Qp):=scof
theorem sc_Q6:FnScope ["rows","k"] ["rows"] (ja7 s_Q6):=scof
theorem jra:FnScope ["desk","rows","cell","bars","row","feed"] ["desk","rows","cell"] (ja7 s_Xl):=scof
theorem sc_Xi:FnScope ["desk","rows","cell","kind"] ["desk","rows","cell"] (ja7 s_Xi):=scof
theorem jgi:FnScope ["script","desks","rows","k","cell","due"] ["script"] (ja7 s_law):=scof
set_option genInjectivity false in
structure Txt (P:Program) (w:World) (K:W.Frag) (mg:Str->Option Value) where
 c_Xw:Addr
 C_Xw:ClsT K mg "Switch" c_Xw
 f_Ql:Addr
 fd_Ql:FuncData
 mt_Ql:Meth K c_Xw "feeds" f_Ql
 H_Ql:FnM K "feeds" "Switch.feeds" s_Ql f_Ql fd_Ql ["self"]
 f_Qg:Addr
 fd_Qg:FuncData
 mt_Qg:Meth K c_Xw "earths" f_Qg
 H_Qg:FnM K "earths" "Switch.earths" s_Qg f_Qg fd_Qg ["self"]
 f_Qw:Addr
 fd_Qw:FuncData
 mt_Qw:Meth K c_Xw "joins" f_Qw
 H_Qw:FnM K "joins" "Switch.joins" s_Qw f_Qw fd_Qw ["self"]
 f_Qi:Addr
 fd_Qi:FuncData
 mt_Qi:Meth K c_Xw "gentle" f_Qi
 H_Qi:FnM K "gentle" "Switch.gentle" s_Qi f_Qi fd_Qi ["self"]
 c_Yb:Addr
 C_Yb:ClsT K mg "Feed" c_Yb
 f_Qe:Addr
 fd_Qe:FuncData
 mt_Qe:Meth K c_Yb "__init__" f_Qe
 H_Qe:FnM K "__init__" "Feed.__init__" s_Qe f_Qe fd_Qe ["self","bar"]
 f_Qy:Addr
 fd_Qy:FuncData
 mt_Qy:Meth K c_Yb "feeds" f_Qy
 H_Qy:FnM K "feeds" "Feed.feeds" s_Qy f_Qy fd_Qy ["self"]
 mt_Feed_earths:Meth K c_Yb "earths" f_Qg
 mt_Feed_joins:Meth K c_Yb "joins" f_Qw
 mt_Feed_gentle:Meth K c_Yb "gentle" f_Qi
 na_Feed_bar:jbb K c_Yb "bar"
 c_Y7:Addr
 C_Y7:ClsT K mg "Earth" c_Y7
 f_Qd:Addr
 fd_Qd:FuncData
 mt_Qd:Meth K c_Y7 "__init__" f_Qd
 H_Qd:FnM K "__init__" "Earth.__init__" s_Qd f_Qd fd_Qd ["self","bar"]
 f_Qm:Addr
 fd_Qm:FuncData
 mt_Qm:Meth K c_Y7 "earths" f_Qm
 H_Qm:FnM K "earths" "Earth.earths" s_Qm f_Qm fd_Qm ["self"]
 mt_Earth_feeds:Meth K c_Y7 "feeds" f_Ql
 mt_Earth_joins:Meth K c_Y7 "joins" f_Qw
 mt_Earth_gentle:Meth K c_Y7 "gentle" f_Qi
 na_Earth_bar:jbb K c_Y7 "bar"
 c_Xt:Addr
 C_Xt:ClsT K mg "Breaker" c_Xt
 f_Q3:Addr
 fd_Q3:FuncData
 mt_Q3:Meth K c_Xt "__init__" f_Q3
 H_Q3:FnM K "__init__" "Breaker.__init__" s_Q3 f_Q3 fd_Q3 ["self","one","other"]
 f_Qj:Addr
 fd_Qj:FuncData
 mt_Qj:Meth K c_Xt "joins" f_Qj
 H_Qj:FnM K "joins" "Breaker.joins" s_Qj f_Qj fd_Qj ["self"]
 mt_Breaker_feeds:Meth K c_Xt "feeds" f_Ql
 mt_Breaker_earths:Meth K c_Xt "earths" f_Qg
 mt_Breaker_gentle:Meth K c_Xt "gentle" f_Qi
 na_Breaker_one:jbb K c_Xt "one"
 na_Breaker_other:jbb K c_Xt "other"
 c_Xm:Addr
 C_Xm:ClsT K mg "Splitter" c_Xm
 f_Q0:Addr
 fd_Q0:FuncData
 mt_Q0:Meth K c_Xm "__init__" f_Q0
 H_Q0:FnM K "__init__" "Splitter.__init__" s_Q0 f_Q0 fd_Q0 ["self","one","other"]
 f_Qc:Addr
 fd_Qc:FuncData
 mt_Qc:Meth K c_Xm "joins" f_Qc
 H_Qc:FnM K "joins" "Splitter.joins" s_Qc f_Qc fd_Qc ["self"]
 f_Q5:Addr
 fd_Q5:FuncData
 mt_Q5:Meth K c_Xm "gentle" f_Q5
 H_Q5:FnM K "gentle" "Splitter.gentle" s_Q5 f_Q5 fd_Q5 ["self"]
 mt_Splitter_feeds:Meth K c_Xm "feeds" f_Ql
 mt_Splitter_earths:Meth K c_Xm "earths" f_Qg
 na_Splitter_one:jbb K c_Xm "one"
 na_Splitter_other:jbb K c_Xm "other"
 c_Net:Addr
 C_Net:ClsT K mg "Net" c_Net
 f_Qv:Addr
 fd_Qv:FuncData
 mt_Qv:Meth K c_Net "__init__" f_Qv
 H_Qv:FnM K "__init__" "Net.__init__" s_Qv f_Qv fd_Qv ["self","yard"]
 f_Qf:Addr
 fd_Qf:FuncData
 mt_Qf:Meth K c_Net "shut_ones" f_Qf
 H_Qf:FnM K "shut_ones" "Net.shut_ones" s_Qf f_Qf fd_Qf ["self","standing"]
 f_Q8:Addr
 fd_Q8:FuncData
 mt_Q8:Meth K c_Net "joined_bars" f_Q8
 H_Q8:FnM K "joined_bars" "Net.joined_bars" s_Q8 f_Q8 fd_Q8 ["self","standing","some"]
 f_Qh:Addr
 fd_Qh:FuncData
 mt_Qh:Meth K c_Net "live_bars" f_Qh
 H_Qh:FnM K "live_bars" "Net.live_bars" s_Qh f_Qh fd_Qh ["self","standing"]
 f_Qn:Addr
 fd_Qn:FuncData
 mt_Qn:Meth K c_Net "led_bars" f_Qn
 H_Qn:FnM K "led_bars" "Net.led_bars" s_Qn f_Qn fd_Qn ["self","standing"]
 f_Q1:Addr
 fd_Q1:FuncData
 mt_Q1:Meth K c_Net "earthed_bars" f_Q1
 H_Q1:FnM K "earthed_bars" "Net.earthed_bars" s_Q1 f_Q1 fd_Q1 ["self","standing"]
 f_Qx:Addr
 fd_Qx:FuncData
 mt_Qx:Meth K c_Net "is_safe" f_Qx
 H_Qx:FnM K "is_safe" "Net.is_safe" s_Qx f_Qx fd_Qx ["self","standing"]
 na_Net_switches:jbb K c_Net "switches"
 c_Xy:Addr
 C_Xy:ClsT K mg "Bundle" c_Xy
 na_Bundle_common:jbb K c_Xy "common"
 na_Bundle_goals:jbb K c_Xy "goals"
 na_Bundle_net:jbb K c_Xy "net"
 na_Bundle_pairs:jbb K c_Xy "pairs"
 na_Bundle_place:jbb K c_Xy "place"
 na_Bundle_power:jbb K c_Xy "power"
 na_Bundle_yard:jbb K c_Xy "yard"
 c_Y5:Addr
 C_Y5:ClsT K mg "Board" c_Y5
 f_Qb:Addr
 fd_Qb:FuncData
 mt_Qb:Meth K c_Y5 "__init__" f_Qb
 H_Qb:FnM K "__init__" "Board.__init__" s_Qb f_Qb fd_Qb ["self","yard"]
 f_Qa:Addr
 fd_Qa:FuncData
 mt_Qa:Meth K c_Y5 "standing" f_Qa
 H_Qa:FnM K "standing" "Board.standing" s_Qa f_Qa fd_Qa ["self"]
 f_Qr:Addr
 fd_Qr:FuncData
 mt_Qr:Meth K c_Y5 "locked" f_Qr
 H_Qr:FnM K "locked" "Board.locked" s_Qr f_Qr fd_Qr ["self"]
 f_X1:Addr
 fd_X1:FuncData
 mt_X1:Meth K c_Y5 "held" f_X1
 H_X1:FnM K "held" "Board.held" s_X1 f_X1 fd_X1 ["self"]
 f_X7:Addr
 fd_X7:FuncData
 mt_X7:Meth K c_Y5 "turn" f_X7
 H_X7:FnM K "turn" "Board.turn" s_X7 f_X7 fd_X7 ["self","number"]
 f_X8:Addr
 fd_X8:FuncData
 mt_X8:Meth K c_Y5 "lock" f_X8
 H_X8:FnM K "lock" "Board.lock" s_X8 f_X8 fd_X8 ["self","number"]
 f_Qs:Addr
 fd_Qs:FuncData
 mt_Qs:Meth K c_Y5 "unlock" f_Qs
 H_Qs:FnM K "unlock" "Board.unlock" s_Qs f_Qs fd_Qs ["self","number"]
 f_Qt:Addr
 fd_Qt:FuncData
 mt_Qt:Meth K c_Y5 "permit" f_Qt
 H_Qt:FnM K "permit" "Board.permit" s_Qt f_Qt fd_Qt ["self","place"]
 f_Q9:Addr
 fd_Q9:FuncData
 mt_Q9:Meth K c_Y5 "give_back" f_Q9
 H_Q9:FnM K "give_back" "Board.give_back" s_Q9 f_Q9 fd_Q9 ["self","number"]
 na_Board_given:jbb K c_Y5 "given"
 na_Board_last_number:jbb K c_Y5 "last_number"
 na_Board_locks:jbb K c_Y5 "locks"
 na_Board_net:jbb K c_Y5 "net"
 na_Board_shut:jbb K c_Y5 "shut"
 na_Board_yard:jbb K c_Y5 "yard"
 c_Yc:Addr
 C_Yc:ClsT K mg "Desk" c_Yc
 f_Qk:Addr
 fd_Qk:FuncData
 mt_Qk:Meth K c_Yc "__init__" f_Qk
 H_Qk:FnM K "__init__" "Desk.__init__" s_Qk f_Qk fd_Qk ["self"]
 f_Xo:Addr
 fd_Xo:FuncData
 mt_Xo:Meth K c_Yc "say" f_Xo
 H_Xo:FnM K "say" "Desk.say" s_Xo f_Xo fd_Xo ["self","row"]
 f_X0:Addr
 fd_X0:FuncData
 mt_X0:Meth K c_Yc "begin" f_X0
 H_X0:FnM K "begin" "Desk.begin" s_X0 f_X0 fd_X0 ["self","yard"]
 f_Q4:Addr
 fd_Q4:FuncData
 mt_Q4:Meth K c_Yc "add_switch" f_Q4
 H_Q4:FnM K "add_switch" "Desk.add_switch" s_Q4 f_Q4 fd_Q4 ["self","row"]
 f_X9:Addr
 fd_X9:FuncData
 mt_X9:Meth K c_Yc "done" f_X9
 H_X9:FnM K "done" "Desk.done" s_X9 f_X9 fd_X9 ["self","kind","number"]
 f_X5:Addr
 fd_X5:FuncData
 mt_X5:Meth K c_Yc "reach" f_X5
 H_X5:FnM K "reach" "Desk.reach" s_X5 f_X5 fd_X5 ["self","words"]
 f_Xb:Addr
 fd_Xb:FuncData
 mt_Xb:Meth K c_Yc "tell" f_Xb
 H_Xb:FnM K "tell" "Desk.tell" s_Xb f_Xb fd_Xb ["self","kind"]
 na_Desk_board:jbb K c_Yc "board"
 na_Desk_yard:jbb K c_Yc "yard"
 c_Yg:Addr
 ac_Yg:W.nsIn K mainGlobals "Held"=some (some (.ref c_Yg))
 xq_Yg:W.excIn K c_Yg [.type "ValueError",.type "Exception",.type "BaseException",.type "object"] "ValueError.__new__"=true
 xm_Yg:mg "Held"=some (.ref c_Yg)
 c_Y0:Addr
 ac_Y0:W.nsIn K mainGlobals "Loaded"=some (some (.ref c_Y0))
 xq_Y0:W.excIn K c_Y0 [.type "ValueError",.type "Exception",.type "BaseException",.type "object"] "ValueError.__new__"=true
 xm_Y0:mg "Loaded"=some (.ref c_Y0)
 c_Xv:Addr
 ac_Xv:W.nsIn K mainGlobals "Locked"=some (some (.ref c_Xv))
 xq_Xv:W.excIn K c_Xv [.type "ValueError",.type "Exception",.type "BaseException",.type "object"] "ValueError.__new__"=true
 xm_Xv:mg "Locked"=some (.ref c_Xv)
 c_Y6:Addr
 ac_Y6:W.nsIn K mainGlobals "NoBar"=some (some (.ref c_Y6))
 xq_Y6:W.excIn K c_Y6 [.type "ValueError",.type "Exception",.type "BaseException",.type "object"] "ValueError.__new__"=true
 xm_Y6:mg "NoBar"=some (.ref c_Y6)
 c_Y1:Addr
 ac_Y1:W.nsIn K mainGlobals "NoLock"=some (some (.ref c_Y1))
 xq_Y1:W.excIn K c_Y1 [.type "ValueError",.type "Exception",.type "BaseException",.type "object"] "ValueError.__new__"=true
 xm_Y1:mg "NoLock"=some (.ref c_Y1)
 c_Xa:Addr
 ac_Xa:W.nsIn K mainGlobals "NoMeasure"=some (some (.ref c_Xa))
 xq_Xa:W.excIn K c_Xa [.type "ValueError",.type "Exception",.type "BaseException",.type "object"] "ValueError.__new__"=true
 xm_Xa:mg "NoMeasure"=some (.ref c_Xa)
 c_Xk:Addr
 ac_Xk:W.nsIn K mainGlobals "NoPermit"=some (some (.ref c_Xk))
 xq_Xk:W.excIn K c_Xk [.type "ValueError",.type "Exception",.type "BaseException",.type "object"] "ValueError.__new__"=true
 xm_Xk:mg "NoPermit"=some (.ref c_Xk)
 c_Y8:Addr
 ac_Y8:W.nsIn K mainGlobals "NoRow"=some (some (.ref c_Y8))
 xq_Y8:W.excIn K c_Y8 [.type "ValueError",.type "Exception",.type "BaseException",.type "object"] "ValueError.__new__"=true
 xm_Y8:mg "NoRow"=some (.ref c_Y8)
 c_Xn:Addr
 ac_Xn:W.nsIn K mainGlobals "NoSwitch"=some (some (.ref c_Xn))
 xq_Xn:W.excIn K c_Xn [.type "ValueError",.type "Exception",.type "BaseException",.type "object"] "ValueError.__new__"=true
 xm_Xn:mg "NoSwitch"=some (.ref c_Xn)
 c_Xr:Addr
 ac_Xr:W.nsIn K mainGlobals "NotDead"=some (some (.ref c_Xr))
 xq_Xr:W.excIn K c_Xr [.type "ValueError",.type "Exception",.type "BaseException",.type "object"] "ValueError.__new__"=true
 xm_Xr:mg "NotDead"=some (.ref c_Xr)
 c_X2:Addr
 ac_X2:W.nsIn K mainGlobals "NotEarthed"=some (some (.ref c_X2))
 xq_X2:W.excIn K c_X2 [.type "ValueError",.type "Exception",.type "BaseException",.type "object"] "ValueError.__new__"=true
 xm_X2:mg "NotEarthed"=some (.ref c_X2)
 c_Xc:Addr
 ac_Xc:W.nsIn K mainGlobals "NotLocked"=some (some (.ref c_Xc))
 xq_Xc:W.excIn K c_Xc [.type "ValueError",.type "Exception",.type "BaseException",.type "object"] "ValueError.__new__"=true
 xm_Xc:mg "NotLocked"=some (.ref c_Xc)
 c_Xs:Addr
 ac_Xs:W.nsIn K mainGlobals "NotOpen"=some (some (.ref c_Xs))
 xq_Xs:W.excIn K c_Xs [.type "ValueError",.type "Exception",.type "BaseException",.type "object"] "ValueError.__new__"=true
 xm_Xs:mg "NotOpen"=some (.ref c_Xs)
 c_Yd:Addr
 ac_Yd:W.nsIn K mainGlobals "Same"=some (some (.ref c_Yd))
 xq_Yd:W.excIn K c_Yd [.type "ValueError",.type "Exception",.type "BaseException",.type "object"] "ValueError.__new__"=true
 xm_Yd:mg "Same"=some (.ref c_Yd)
 c_Xq:Addr
 ac_Xq:W.nsIn K mainGlobals "Shorted"=some (some (.ref c_Xq))
 xq_Xq:W.excIn K c_Xq [.type "ValueError",.type "Exception",.type "BaseException",.type "object"] "ValueError.__new__"=true
 xm_Xq:mg "Shorted"=some (.ref c_Xq)
 c_Xj:Addr
 ac_Xj:W.nsIn K mainGlobals "WardError"=some (some (.ref c_Xj))
 xq_Xj:W.excIn K c_Xj [.type "ValueError",.type "Exception",.type "BaseException",.type "object"] "ValueError.__new__"=true
 xm_Xj:mg "WardError"=some (.ref c_Xj)
 f_Xf:Addr
 fd_Xf:FuncData
 H_Xf:FnT K mg "switch_of" "switch_of" s_Xf f_Xf fd_Xf ["switch"]
 f_has:Addr
 fd_has:FuncData
 H_has:FnT K mg "has" "has" s_has f_has fd_has ["some","number"]
 f_Yf:Addr
 fd_Yf:FuncData
 H_Yf:FnT K mg "live" "live" s_Yf f_Yf fd_Yf ["yard","standing"]
 f_Xu:Addr
 fd_Xu:FuncData
 H_Xu:FnT K mg "earthed" "earthed" s_Xu f_Xu fd_Xu ["yard","standing"]
 f_Xx:Addr
 fd_Xx:FuncData
 H_Xx:FnT K mg "lowest" "lowest" s_Xx f_Xx fd_Xx ["some"]
 f_Qz:Addr
 fd_Qz:FuncData
 H_Qz:FnT K mg "numbers_in" "numbers_in" s_Qz f_Qz fd_Qz ["some"]
 f_Qq:Addr
 fd_Qq:FuncData
 H_Qq:FnT K mg "check_switch" "check_switch" s_Qq f_Qq fd_Qq ["yard","number"]
 f_X4:Addr
 fd_X4:FuncData
 H_X4:FnT K mg "after_turn" "after_turn" s_X4 f_X4 fd_X4 ["standing","number"]
 f_Ya:Addr
 fd_Ya:FuncData
 H_Ya:FnT K mg "loads" "loads" s_Ya f_Ya fd_Ya ["net","standing","number"]
 f_Y4:Addr
 fd_Y4:FuncData
 H_Y4:FnT K mg "shorts" "shorts" s_Y4 f_Y4 fd_Y4 ["net","standing","number"]
 f_Xz:Addr
 fd_Xz:FuncData
 H_Xz:FnT K mg "turned" "turned" s_Xz f_Xz fd_Xz ["yard","standing","number"]
 f_Qo:Addr
 fd_Qo:FuncData
 H_Qo:FnT K mg "fewest_locks" "fewest_locks" s_Qo f_Qo fd_Qo ["yard","place"]
 f_Xh:Addr
 fd_Xh:FuncData
 H_Xh:FnT K mg "is_number" "is_number" s_Xh f_Xh fd_Xh ["word"]
 f_Qu:Addr
 fd_Qu:FuncData
 H_Qu:FnT K mg "numbers_told" "numbers_told" s_Qu f_Qu fd_Qu ["words"]
 f_Y2:Addr
 fd_Y2:FuncData
 H_Y2:FnT K mg "parted" "parted" s_Y2 f_Y2 fd_Y2 ["row"]
 f_Xp:Addr
 fd_Xp:FuncData
 H_Xp:FnT K mg "count_in" "count_in" s_Xp f_Xp fd_Xp ["row"]
 f_Xg:Addr
 fd_Xg:FuncData
 H_Xg:FnT K mg "switch_in" "switch_in" s_Xg f_Xg fd_Xg ["row","bars","switches_ahead"]
 f_Ye:Addr
 fd_Ye:FuncData
 H_Ye:FnT K mg "read" "read" s_Ye f_Ye fd_Ye ["text"]
 f_Y3:Addr
 fd_Y3:FuncData
 H_Y3:FnT K mg "row_of" "row_of" s_Y3 f_Y3 fd_Y3 ["switch"]
 f_Y9:Addr
 fd_Y9:FuncData
 H_Y9:FnT K mg "shown" "shown" s_Y9 f_Y9 fd_Y9 ["yard"]
 f_Q2:Addr
 fd_Q2:FuncData
 H_Q2:FnT K mg "joined_by_blanks" "joined_by_blanks" s_Q2 f_Q2 fd_Q2 ["numbers"]
 f_X6:Addr
 fd_X6:FuncData
 H_X6:FnT K mg "one_number" "one_number" s_X6 f_X6 fd_X6 ["words"]
 f_X3:Addr
 fd_X3:FuncData
 H_X3:FnT K mg "place_told" "place_told" s_X3 f_X3 fd_X3 ["words","bars"]
 f_Xd:Addr
 fd_Xd:FuncData
 H_Xd:FnT K mg "_law_draw" "_law_draw" s_Xd f_Xd fd_Xd ["script","k"]
 f_Q7:Addr
 fd_Q7:FuncData
 H_Q7:FnT K mg "_law_switch_row" "_law_switch_row" s_Q7 f_Q7 fd_Q7 ["cell","bars"]
 f_Xe:Addr
 fd_Xe:FuncData
 H_Xe:FnT K mg "_law_text" "_law_text" s_Xe f_Xe fd_Xe ["found","due"]
 f_Qp:Addr
 fd_Qp:FuncData
 H_Qp:FnT K mg "_law_refused" "_law_refused" s_Qp f_Qp fd_Qp ["desk","row"]
 f_Q6:Addr
 fd_Q6:FuncData
 H_Q6:FnT K mg "_law_first_feed" "_law_first_feed" s_Q6 f_Q6 fd_Q6 ["rows"]
 f_Xl:Addr
 fd_Xl:FuncData
 H_Xl:FnT K mg "_law_row" "_law_row" s_Xl f_Xl fd_Xl ["desk","rows","cell"]
 f_Xi:Addr
 fd_Xi:FuncData
 H_Xi:FnT K mg "_law_deed" "_law_deed" s_Xi f_Xi fd_Xi ["desk","rows","cell"]
 f_law:Addr
 fd_law:FuncData
 H_law:FnT K mg "law" "law" s_law f_law fd_law ["script"]
 b_len:mg "len"=none
 b_sum:mg "sum"=none
 b_all:mg "all"=none
 b_any:mg "any"=none
 b_isinstance:mg "isinstance"=none
 b_max:mg "max"=none
 b_sorted:mg "sorted"=none
 b_int:mg "int"=none
 b_str:mg "str"=none
 b_list:mg "list"=none
 b_tuple:mg "tuple"=none
 b_range:mg "range"=none
 b_reversed:mg "reversed"=none
 b_enumerate:mg "enumerate"=none
 b_dict:mg "dict"=none
 b_ValueError:mg "ValueError"=none
 b_zip:mg "zip"=none
 a_NUMBERS_BEHIND:Addr
 c_NUMBERS_BEHIND:GV mg "NUMBERS_BEHIND" (.ref a_NUMBERS_BEHIND)
 c_MOST_BARS:GV mg "MOST_BARS" (.int 10)
 c_MOST_SWITCHES:GV mg "MOST_SWITCHES" (.int 12)
 c_MOST_FIGURES:GV mg "MOST_FIGURES" (.int 9)
 c_FIGURES:GV mg "FIGURES" (.str "0123456789")
 w_Y8:Clause K c_Y8
 su_Held_NoRow:W.mroIn K c_Yg (.ref c_Y8)=some false
 su_Loaded_NoRow:W.mroIn K c_Y0 (.ref c_Y8)=some false
 su_Locked_NoRow:W.mroIn K c_Xv (.ref c_Y8)=some false
 su_NoBar_NoRow:W.mroIn K c_Y6 (.ref c_Y8)=some false
 su_NoLock_NoRow:W.mroIn K c_Y1 (.ref c_Y8)=some false
 su_NoMeasure_NoRow:W.mroIn K c_Xa (.ref c_Y8)=some false
 su_NoPermit_NoRow:W.mroIn K c_Xk (.ref c_Y8)=some false
 su_NoRow_NoRow:W.mroIn K c_Y8 (.ref c_Y8)=some true
 su_NoSwitch_NoRow:W.mroIn K c_Xn (.ref c_Y8)=some false
 su_NotDead_NoRow:W.mroIn K c_Xr (.ref c_Y8)=some false
 su_NotEarthed_NoRow:W.mroIn K c_X2 (.ref c_Y8)=some false
 su_NotLocked_NoRow:W.mroIn K c_Xc (.ref c_Y8)=some false
 su_NotOpen_NoRow:W.mroIn K c_Xs (.ref c_Y8)=some false
 su_Same_NoRow:W.mroIn K c_Yd (.ref c_Y8)=some false
 su_Shorted_NoRow:W.mroIn K c_Xq (.ref c_Y8)=some false
 d_NUMBERS_BEHIND:jsc P w K a_NUMBERS_BEHIND [(.inr "bars",(.int 1)),(.inr "feed",(.int 1)),(.inr "earth",(.int 1)),(.inr "breaker",(.int 2)),(.inr "splitter",(.int 2))]
 Bl:∀(s:Shared) (u:Value),BindsTo s fd_law ⟨[u],[]⟩ [("script",u)]
section
variable {P : Program} {w : World} {K : W.Frag} {mg : Str -> Option Value} (T : Txt P w K mg)
theorem Txt.x_Yg:Exc K mg "Held" T.c_Yg:=⟨T.ac_Yg,⟨_,_,_,_,T.xq_Yg,PySem.F.excBase_ValueError⟩,T.xm_Yg⟩
theorem Txt.x_Y0:Exc K mg "Loaded" T.c_Y0:=⟨T.ac_Y0,⟨_,_,_,_,T.xq_Y0,PySem.F.excBase_ValueError⟩,T.xm_Y0⟩
theorem Txt.x_Xv:Exc K mg "Locked" T.c_Xv:=⟨T.ac_Xv,⟨_,_,_,_,T.xq_Xv,PySem.F.excBase_ValueError⟩,T.xm_Xv⟩
theorem Txt.x_Y6:Exc K mg "NoBar" T.c_Y6:=⟨T.ac_Y6,⟨_,_,_,_,T.xq_Y6,PySem.F.excBase_ValueError⟩,T.xm_Y6⟩
theorem Txt.x_Y1:Exc K mg "NoLock" T.c_Y1:=⟨T.ac_Y1,⟨_,_,_,_,T.xq_Y1,PySem.F.excBase_ValueError⟩,T.xm_Y1⟩
theorem Txt.x_Xa:Exc K mg "NoMeasure" T.c_Xa:=⟨T.ac_Xa,⟨_,_,_,_,T.xq_Xa,PySem.F.excBase_ValueError⟩,T.xm_Xa⟩
theorem Txt.x_Xk:Exc K mg "NoPermit" T.c_Xk:=⟨T.ac_Xk,⟨_,_,_,_,T.xq_Xk,PySem.F.excBase_ValueError⟩,T.xm_Xk⟩
theorem Txt.x_Y8:Exc K mg "NoRow" T.c_Y8:=⟨T.ac_Y8,⟨_,_,_,_,T.xq_Y8,PySem.F.excBase_ValueError⟩,T.xm_Y8⟩
theorem Txt.x_Xn:Exc K mg "NoSwitch" T.c_Xn:=⟨T.ac_Xn,⟨_,_,_,_,T.xq_Xn,PySem.F.excBase_ValueError⟩,T.xm_Xn⟩
theorem Txt.x_Xr:Exc K mg "NotDead" T.c_Xr:=⟨T.ac_Xr,⟨_,_,_,_,T.xq_Xr,PySem.F.excBase_ValueError⟩,T.xm_Xr⟩
theorem Txt.x_X2:Exc K mg "NotEarthed" T.c_X2:=⟨T.ac_X2,⟨_,_,_,_,T.xq_X2,PySem.F.excBase_ValueError⟩,T.xm_X2⟩
theorem Txt.x_Xc:Exc K mg "NotLocked" T.c_Xc:=⟨T.ac_Xc,⟨_,_,_,_,T.xq_Xc,PySem.F.excBase_ValueError⟩,T.xm_Xc⟩
theorem Txt.x_Xs:Exc K mg "NotOpen" T.c_Xs:=⟨T.ac_Xs,⟨_,_,_,_,T.xq_Xs,PySem.F.excBase_ValueError⟩,T.xm_Xs⟩
theorem Txt.x_Yd:Exc K mg "Same" T.c_Yd:=⟨T.ac_Yd,⟨_,_,_,_,T.xq_Yd,PySem.F.excBase_ValueError⟩,T.xm_Yd⟩
theorem Txt.x_Xq:Exc K mg "Shorted" T.c_Xq:=⟨T.ac_Xq,⟨_,_,_,_,T.xq_Xq,PySem.F.excBase_ValueError⟩,T.xm_Xq⟩
theorem Txt.x_Xj:Exc K mg "WardError" T.c_Xj:=⟨T.ac_Xj,⟨_,_,_,_,T.xq_Xj,PySem.F.excBase_ValueError⟩,T.xm_Xj⟩
theorem Txt.k_Yb:GV mg "Feed" (.ref T.c_Yb):=T.C_Yb.k
theorem Txt.k_Y7:GV mg "Earth" (.ref T.c_Y7):=T.C_Y7.k
theorem Txt.k_Xt:GV mg "Breaker" (.ref T.c_Xt):=T.C_Xt.k
theorem Txt.k_Xm:GV mg "Splitter" (.ref T.c_Xm):=T.C_Xm.k
theorem Txt.k_Net:GV mg "Net" (.ref T.c_Net):=T.C_Net.k
theorem Txt.k_Xy:GV mg "Bundle" (.ref T.c_Xy):=T.C_Xy.k
theorem Txt.k_Y5:GV mg "Board" (.ref T.c_Y5):=T.C_Y5.k
theorem Txt.k_Yc:GV mg "Desk" (.ref T.c_Yc):=T.C_Yc.k
end
def cmOf{P:Program}{w:World}{K:W.Frag}{mg:Str->Option Value}(T:Txt P w K mg)(n:String):Addr:=
 if n="Held" then T.c_Yg else
 if n="Loaded" then T.c_Y0 else
 if n="Locked" then T.c_Xv else
 if n="NoBar" then T.c_Y6 else
 if n="NoLock" then T.c_Y1 else
 if n="NoMeasure" then T.c_Xa else
 if n="NoPermit" then T.c_Xk else
 if n="NoRow" then T.c_Y8 else
 if n="NoSwitch" then T.c_Xn else
 if n="NotDead" then T.c_Xr else
 if n="NotEarthed" then T.c_X2 else
 if n="NotLocked" then T.c_Xc else
 if n="NotOpen" then T.c_Xs else
 if n="Same" then T.c_Yd else
 if n="Shorted" then T.c_Xq else
 if n="WardError" then T.c_Xj else
 if n="Switch" then T.c_Xw else
 if n="Feed" then T.c_Yb else
 if n="Earth" then T.c_Y7 else
 if n="Breaker" then T.c_Xt else
 if n="Splitter" then T.c_Xm else
 if n="Net" then T.c_Net else
 if n="Bundle" then T.c_Xy else
 if n="Board" then T.c_Y5 else
 if n="Desk" then T.c_Yc else
 0
abbrev ct{P:Program}{w:World}{K:W.Frag}{mg:Str->Option Value}(T:Txt P w K mg):Ct:=⟨P,w,K,cmOf T⟩
section
variable {P : Program} {w : World} {K : W.Frag} {mg : Str -> Option Value} {base : Heap} (T : Txt P w K mg)
theorem cm_Yg:cmOf T "Held"=T.c_Yg:=by simp[cmOf]
theorem cm_Y0:cmOf T "Loaded"=T.c_Y0:=by simp[cmOf]
theorem cm_Xv:cmOf T "Locked"=T.c_Xv:=by simp[cmOf]
theorem cm_Y6:cmOf T "NoBar"=T.c_Y6:=by simp[cmOf]
theorem cm_Y1:cmOf T "NoLock"=T.c_Y1:=by simp[cmOf]
theorem cm_Xa:cmOf T "NoMeasure"=T.c_Xa:=by simp[cmOf]
theorem cm_Xk:cmOf T "NoPermit"=T.c_Xk:=by simp[cmOf]
theorem jhb:cmOf T "NoRow"=T.c_Y8:=by simp[cmOf]
theorem cm_Xn:cmOf T "NoSwitch"=T.c_Xn:=by simp[cmOf]
theorem cm_Xr:cmOf T "NotDead"=T.c_Xr:=by simp[cmOf]
theorem cm_X2:cmOf T "NotEarthed"=T.c_X2:=by simp[cmOf]
theorem cm_Xc:cmOf T "NotLocked"=T.c_Xc:=by simp[cmOf]
theorem cm_Xs:cmOf T "NotOpen"=T.c_Xs:=by simp[cmOf]
theorem cm_Yd:cmOf T "Same"=T.c_Yd:=by simp[cmOf]
theorem cm_Xq:cmOf T "Shorted"=T.c_Xq:=by simp[cmOf]
theorem jqv:cmOf T "Switch"=T.c_Xw:=by simp[cmOf]
theorem jmz:cmOf T "Feed"=T.c_Yb:=by simp[cmOf]
theorem jmj:cmOf T "Earth"=T.c_Y7:=by simp[cmOf]
theorem jkv:cmOf T "Breaker"=T.c_Xt:=by simp[cmOf]
theorem jky:cmOf T "Splitter"=T.c_Xm:=by simp[cmOf]
theorem jev:cmOf T "Net"=T.c_Net:=by simp[cmOf]
theorem cm_Xy:cmOf T "Bundle"=T.c_Xy:=by simp[cmOf]
theorem jeg:cmOf T "Board"=T.c_Y5:=by simp[cmOf]
theorem jhc:cmOf T "Desk"=T.c_Yc:=by simp[cmOf]
theorem jlc:jdt (ct T) "bar" jff:=(fldc (jmz T) T.C_Yb.cl T.na_Feed_bar (fldc (jmj T) T.C_Y7.cl T.na_Earth_bar jd5))
theorem jcg:jdt (ct T) "board" jbh:=(fldc (jhc T) T.C_Yc.cl T.na_Desk_board jd5)
theorem jmd:jdt (ct T) "given" jg2:=(fldc (jeg T) T.C_Y5.cl T.na_Board_given jd5)
theorem jh7:jdt (ct T) "last_number" jdf:=(fldc (jeg T) T.C_Y5.cl T.na_Board_last_number jd5)
theorem jlt:jdt (ct T) "locks" jfz:=(fldc (jeg T) T.C_Y5.cl T.na_Board_locks jd5)
theorem FD_net:jdt (ct T) "net" jpr:=(fldc (cm_Xy T) T.C_Xy.cl T.na_Bundle_net (fldc (jeg T) T.C_Y5.cl T.na_Board_net jd5))
theorem jlj:jdt (ct T) "one" jfm:=(fldc (jkv T) T.C_Xt.cl T.na_Breaker_one (fldc (jky T) T.C_Xm.cl T.na_Splitter_one jd5))
theorem jg6:jdt (ct T) "other" jd8:=(fldc (jkv T) T.C_Xt.cl T.na_Breaker_other (fldc (jky T) T.C_Xm.cl T.na_Splitter_other jd5))
theorem jh1:jdt (ct T) "shut" jel:=(fldc (jeg T) T.C_Y5.cl T.na_Board_shut jd5)
theorem jeh:jdt (ct T) "switches" jbr:=(fldc (jev T) T.C_Net.cl T.na_Net_switches jd5)
theorem jca:jdt (ct T) "yard" jb6:=(fldc (cm_Xy T) T.C_Xy.cl T.na_Bundle_yard (fldc (jeg T) T.C_Y5.cl T.na_Board_yard (fldc (jhc T) T.C_Yc.cl T.na_Desk_yard jd5)))
theorem sub_Y8:jk2 (ct T) T.c_Y8 w_Y8:=(subc (cm_Yg T) T.su_Held_NoRow (subc (cm_Y0 T) T.su_Loaded_NoRow (subc (cm_Xv T) T.su_Locked_NoRow (subc (cm_Y6 T) T.su_NoBar_NoRow (subc (cm_Y1 T) T.su_NoLock_NoRow (subc (cm_Xa T) T.su_NoMeasure_NoRow (subc (cm_Xk T) T.su_NoPermit_NoRow (subc (jhb T) T.su_NoRow_NoRow (subc (cm_Xn T) T.su_NoSwitch_NoRow (subc (cm_Xr T) T.su_NotDead_NoRow (subc (cm_X2 T) T.su_NotEarthed_NoRow (subc (cm_Xc T) T.su_NotLocked_NoRow (subc (cm_Xs T) T.su_NotOpen_NoRow (subc (cm_Yd T) T.su_Same_NoRow (subc (cm_Xq T) T.su_Shorted_NoRow jv6)))))))))))))))
seal PE PA PS PSs
local macro_rules | `(tactic| trivial) => `(tactic| first | exact Or.inl rfl | exact Or.inr rfl)
theorem ok_Q7:FnOk P w K mg base (CXE P w) 1 T.f_Q7 T.fd_Q7 ["cell","bars"] (spZ (ct T) z_Q7):=by
 refine okZ2 (b:=b_Q7) T.H_Q7.F jvn λcdv A outer s H E hr=> ?_
 have hu:=hr.units
 refine⟨_,(ja4 (jb0 (i:=2) jvn.nd rfl (by trivial) (jat jd1 (jat jem (pv 0) ja8) (pv 1)))
   (ja4 (jb9 (PW.pt (jru (jar (op_lt) (jat jd1 (pv 0) ja8) ja8 (jb1 _)) (jm4 (jar (jbp hu) (pv 1) ja8 (jb1 _))))) (ja6 (jag (jat (jbc (K:=K) rfl) (ixq P w K hu (je7 (ja0 jaf (ja0 jaf ja5))) (jat jd1 (pv 0) ja8)) (jbo (jck) (by rfl) T.b_str jed (ja0 (pv 2) ja5))))) jal)
   (ja4 (jb0 (i:=3) jvn.nd rfl (by trivial) (jat jd1 (jat (jbc (K:=K) rfl) (jat (jbc (K:=K) rfl) (pv 2) ja8) (jat jd1 (jat jem (pv 0) ja8) (jat jum (pv 1) ja8))) (pv 1)))
   (ja6 (jag (jat (jbc (K:=K) rfl) (jat (jbc (K:=K) rfl) (jat (jbc (K:=K) rfl) (ixq P w K hu (je7 (ja0 jaf (ja0 jaf ja5))) (jat jd1 (pv 0) ja8)) (jbo (jck) (by rfl) T.b_str jed (ja0 (pv 2) ja5))) jaf) (jbo (jck) (by rfl) T.b_str jed (ja0 (pv 3) ja5)))))))),?_⟩
 exact(jaa (jaz (s_op jd6 (s_op jgq ja1 jae) ja1) jac)
   (jaa (jb7 (jt4 (jao (s_op s2_lt (s_op jd6 ja1 jae) jae)) (jao (s_op jcr ja1 jae))) (jah (s_op jc4 (s_ix (jby (je8 (ja2 jas (ja2 jas ja9)))) (s_op jd6 ja1 jae)) (s_cb jf3 (ja2 ja1 ja9)))) jam)
   (jaa (jaz (s_op jd6 (s_op jc4 (s_op jc4 ja1 jae) (s_op jd6 (s_op jgq ja1 jae) (s_op ju5 ja1 jae))) ja1) jac)
   (jah (s_op jc4 (s_op jc4 (s_op jc4 (s_ix (jby (je8 (ja2 jas (ja2 jas ja9)))) (s_op jd6 ja1 jae)) (s_cb jf3 (ja2 ja1 ja9))) jas) (s_cb jf3 (ja2 ja1 ja9)))))))
theorem ok_Q6:FnOk P w K mg base (CXE P w) 1 T.f_Q6 T.fd_Q6 ["rows"] (spZ (ct T) z_Q6):=by
 refine okZ2 (b:=b_Q6) T.H_Q6.F sc_Q6 λcdv A outer s H E hr=> ?_
 have hu:=hr.units
 refine⟨_,(ja4 (jea ownE rfl (joi rfl T.b_range (ja0 ja8 (ja0 (jbn (jbu (P:=P) (w:=w) (K:=K) rfl rfl rfl) (by rfl) T.b_len jdq (ja0 (pv 0) ja5)) ja5))) (jbd (i:=1) sc_Q6.nd rfl (by trivial)) (ja6 (jb9 (jar (jbp hu) (jcl (sl_K (K:=K) rfl) (ixq P w K hu (pv 0) (pv 1)) jcy (jcq ja8)) jaf (jb1 _)) (ja6 (jag (jat jum (pv 1) ja8))) jal)))
   (ja6 (jag (jsd jtx ja8)))),?_⟩
 exact(jaa (jf1 (jwf (ja2 jae (ja2 (s_cb jdr (ja2 ja1 ja9)) ja9))) jac (jb7 (jao (s_op jcr (s_sl (s_ix ja1 ja1) jfv (jf7 jae)) jas)) (jah (s_op ju5 ja1 jae)) jam))
   (jah (s_un jto jae)))
theorem jp1:FnOk P w K mg base (CXE P w) 1 T.f_Q2 T.fd_Q2 ["numbers"] (spZ (ct T) z_Q2):=by
 refine okZ2 (b:=b_Q2) T.H_Q2.F sc_Q2 λcdv A outer s H E hr=> ?_
 have hu:=hr.units
 refine⟨_,(ja4 (jb9 (jd9 (jb2 (K:=K) rfl (pv 0) (λ_=>rfl))) (ja6 (jag jaf)) jal)
   (ja6 (jag (je2 (K:=K) rfl (jgf PySem.F.plainAttrs_str PySem.F.slot_str_join PySem.F.type_str_join (jep (K:=K) rfl) jaf (ja0 (jhy (CompOk.mk (tgs:=["number"]) (cap:=[]) (idx:=[]) rfl rfl (by decide+kernel) (by decide+kernel) (List.forall_mem_nil _) rfl .nil) rfl (pi_K (K:=K) rfl (pv 0)) (jct (by decide)) (λ_ _ _ _=>(jbd (i:=0) (show List.Nodup (α:=PySem.Str) ["number"] by decide+kernel) rfl (by trivial))) (λ_ _ _ _=>jes) (λ_ _ _ _=>(jbo (jck) (by rfl) T.b_str jed (ja0 (pv 0) ja5)))) ja5)))))),?_⟩
 exact(jaa (jb7 (jda (jbq ja1)) (jah jas) jam)
   (jah (s_sm jh0 jas (ja2 (jby (je0 (si_V ja1) jac ji5 (s_cb jf3 (ja2 ja1 ja9)))) ja9))))
theorem ok_Xh:FnOk P w K mg base (CXE P w) 1 T.f_Xh T.fd_Xh ["word"] (spZ (ct T) z_Xh):=by
 refine okZ2 (b:=b_Xh) T.H_Xh.F sc_Xh λcdv A outer s H E hr=> ?_
 have hu:=hr.units
 refine⟨_,(ja4 (jb9 (jd9 (ji0 (joj) (joj) ja8 (jbn (jbu (P:=P) (w:=w) (K:=K) rfl rfl rfl) (by rfl) T.b_len jdq (ja0 (pv 0) ja5)) (jmx T.c_MOST_FIGURES))) (ja6 (jag jf2)) jal)
   (ja4 (jb9 (PW.pt (jla (jar (jbp hu) (ixq P w K hu (pv 0) ja8) jaf (jb1 _)) (ji3 (jar (op_gt) (jbn (jbu (P:=P) (w:=w) (K:=K) rfl rfl rfl) (by rfl) T.b_len jdq (ja0 (pv 0) ja5)) ja8 (jb1 _))))) (ja6 (jag jf2)) jal)
   (ja6 (jag (jbn (jjp (K:=K) rfl rfl) (by rfl) T.b_all juo (ja0 (jhy (CompOk.mk (tgs:=["sign"]) (cap:=[]) (idx:=[]) rfl rfl (by decide+kernel) (by decide+kernel) (List.forall_mem_nil _) rfl .nil) rfl (pi_K (K:=K) rfl (pv 0)) (jct (by decide)) (λ_ _ _ _=>(jbd (i:=0) (show List.Nodup (α:=PySem.Str) ["sign"] by decide+kernel) rfl (by trivial))) (λ_ _ _ _=>jes) (λ_ _ _ _=>(jgw (jno (P:=P) (w:=w) (K:=K) rfl rfl rfl hu) (pv 0) (jmx T.c_FIGURES) (by with_unfolding_all rfl)))) ja5)))))),?_⟩
 exact(jaa (jb7 (jda (jao (jl2 job job jae (s_cb jdr (ja2 ja1 ja9)) jae))) (jah s_bl) jam)
   (jaa (jb7 (jlr (jao (s_op jcr (s_ix ja1 jae) jas)) (jao (s_op s2_gt (s_cb jdr (ja2 ja1 ja9)) jae))) (jah s_bl) jam)
   (jah (s_cb jua (ja2 (jby (je0 (si_V ja1) jac ji5 (s_op js3 ja1 jas))) ja9)))))
theorem ok_Qu:FnOk P w K mg base (CXE P w) 2 T.f_Qu T.fd_Qu ["words"] (spZ (ct T) z_Qu):=by
 refine okZ2 (b:=b_Qu) T.H_Qu.F sc_Qu λcdv A outer s H E hr=> ?_
 have hu:=hr.units
 refine⟨_,(ja4 (jb9 (jd9 (jb2 (K:=K) rfl (jbn (jjp (K:=K) rfl rfl) (by rfl) T.b_all juo (ja0 (jhy (CompOk.mk (tgs:=["word"]) (cap:=[]) (idx:=[]) rfl rfl (by decide+kernel) (by decide+kernel) (List.forall_mem_nil _) rfl .nil) rfl (pi_K (K:=K) rfl (pv 0)) (jct (by decide)) (λ_ _ _ _=>(jbd (i:=0) (show List.Nodup (α:=PySem.Str) ["word"] by decide+kernel) rfl (by trivial))) (λ_ _ _ _=>jes) (λ_ _ _ _=>(pe_g (gOf T.H_Xh (ok_Xh T)) (hm hr) jgm (ja0 (pv 0) ja5)))) ja5)) (λ_=>rfl))) (ja6 (jbi T.x_Y8 jaf (hr.mono (Nat.zero_le _)))) jal)
   (ja6 (jag (jhy (CompOk.mk (tgs:=["word"]) (cap:=[]) (idx:=[]) rfl rfl (by decide+kernel) (by decide+kernel) (List.forall_mem_nil _) rfl .nil) rfl (pi_K (K:=K) rfl (pv 0)) (jct (by decide)) (λ_ _ _ _=>(jbd (i:=0) (show List.Nodup (α:=PySem.Str) ["word"] by decide+kernel) rfl (by trivial))) (λ_ _ _ _=>jes) (λ_ _ _ _=>(jbo (jin) (by rfl) T.b_int ju0 (ja0 (pv 0) ja5))))))),?_⟩
 exact(jaa (jb7 (jda (jbq (s_cb jua (ja2 (jby (je0 (si_V ja1) jac ji5 (jan (ja2 ja1 ja9)))) ja9)))) (jbj (jhb T) jas) jam)
   (jah (jby (je0 (si_V ja1) jac ji5 (s_cb jtu (ja2 ja1 ja9))))))
theorem ok_X6:FnOk P w K mg base (CXE P w) 3 T.f_X6 T.fd_X6 ["words"] (spZ (ct T) z_X6):=by
 refine okZ2 (b:=b_X6) T.H_X6.F sc_X6 λcdv A outer s H E hr=> ?_
 have hu:=hr.units
 refine⟨_,(ja4 (jb9 (jar (jho hu) (jbn (jbu (P:=P) (w:=w) (K:=K) rfl rfl rfl) (by rfl) T.b_len jdq (ja0 (pv 0) ja5)) ja8 (jb1 _)) (ja6 (jbi T.x_Y8 jaf (hr.mono (Nat.zero_le _)))) jal)
   (ja6 (jag (ixq P w K hu (pe_g (gOf T.H_Qu (ok_Qu T)) (hm hr) jak (ja0 (pv 0) ja5)) ja8)))),?_⟩
 exact(jaa (jb7 (jao (s_op jne (s_cb jdr (ja2 ja1 ja9)) jae)) (jbj (jhb T) jas) jam)
   (jah (s_ix (jan (ja2 ja1 ja9)) jae)))
theorem ok_X3:FnOk P w K mg base (CXE P w) 1 T.f_X3 T.fd_X3 ["words","bars"] (spZ (ct T) z_X3):=by
 exact jcs
theorem ok_Y2:FnOk P w K mg base (CXE P w) 3 T.f_Y2 T.fd_Y2 ["row"] (spZ (ct T) z_Y2):=by
 refine okZ2 (b:=b_Y2) T.H_Y2.F jv9 λcdv A outer s H E hr=> ?_
 have hu:=hr.units
 refine⟨_,(ja4 (jb0 (i:=1) jv9.nd rfl (by trivial) (je2 (K:=K) rfl (jgf PySem.F.plainAttrs_str PySem.F.slot_str_split PySem.F.type_str_split jic (pv 0) (ja0 jaf ja5))))
   (ja4 (jb0 (i:=2) jv9.nd rfl (by trivial) (ixq P w K hu (pv 1) ja8))
   (ja4 (jb9 (PW.pt (jru (jar (jq7 (P:=P) (w:=w) (K:=K) rfl rfl rfl hu) (pv 2) (jmx T.c_NUMBERS_BEHIND) (by with_unfolding_all rfl)) (jm4 (jar (jho hu) (jbn (jbu (P:=P) (w:=w) (K:=K) rfl rfl rfl) (by rfl) T.b_len jdq (ja0 (pv 1) ja5)) (jat (jbc (K:=K) rfl) ja8 (ixq P w K hu (jmx T.c_NUMBERS_BEHIND) (pv 2))) (jb1 _))))) (ja6 (jbi T.x_Y8 jaf (hr.mono (Nat.zero_le _)))) jal)
   (ja6 (jag (jbo (jk9 (K:=K) rfl) (by rfl) T.b_tuple jrb (ja0 (jat (jbc (K:=K) rfl) (je7 (ja0 (pv 2) ja5)) (pe_g (gOf T.H_Qu (ok_Qu T)) (hm hr) jak (ja0 (jcl (sl_K (K:=K) rfl) (pv 1) (jcq ja8) jcy) ja5))) ja5))))))),?_⟩
 exact(jaa (jaz (jby (jka ja1 (ja2 jas ja9))) jac)
   (jaa (jaz (s_ix ja1 jae) jac)
   (jaa (jb7 (jt4 (jao (s_op js3 ja1 (s_c λ_ _=>by unfold jbt;simp only[RV];exact⟨_,_,rfl,T.d_NUMBERS_BEHIND,rfl⟩))) (jao (s_op jne (s_cb jdr (ja2 ja1 ja9)) (s_op jc4 jae (s_ix (s_c λ_ _=>by unfold jbt;simp only[RV];exact⟨_,_,rfl,T.d_NUMBERS_BEHIND,rfl⟩) ja1))))) (jbj (jhb T) jas) jam)
   (jah (s_cb jqz (ja2 (s_op jc4 (jby (je8 (ja2 ja1 ja9))) (jan (ja2 (s_sl ja1 (jf7 jae) jfv) ja9))) ja9))))))
theorem ok_Xp:FnOk P w K mg base (CXE P w) 4 T.f_Xp T.fd_Xp ["row"] (spZ (ct T) z_Xp):=by
 refine okZ2 (b:=b_Xp) T.H_Xp.F sc_Xp λcdv A outer s H E hr=> ?_
 have hu:=hr.units
 refine⟨_,(ja4 (jb0 (i:=1) sc_Xp.nd rfl (by trivial) (pe_g (gOf T.H_Y2 (ok_Y2 T)) (hm hr) jak (ja0 (pv 0) ja5)))
   (ja4 (jb9 (jar (jho hu) (ixq P w K hu (pv 1) ja8) jaf (jb1 _)) (ja6 (jbi T.x_Y8 jaf (hr.mono (Nat.zero_le _)))) jal)
   (ja4 (jb9 (jd9 (ji0 (joj) (joj) ja8 (ixq P w K hu (pv 1) ja8) (jmx T.c_MOST_BARS))) (ja6 (jbi T.x_Xa jaf (hr.mono (Nat.zero_le _)))) jal)
   (ja6 (jag (ixq P w K hu (pv 1) ja8)))))),?_⟩
 exact(jaa (jaz (jan (ja2 ja1 ja9)) jac)
   (jaa (jb7 (jao (s_op jne (s_ix ja1 jae) jas)) (jbj (jhb T) jas) jam)
   (jaa (jb7 (jda (jao (jl2 job job jae (s_ix ja1 jae) jae))) (jbj (cm_Xa T) jas) jam)
   (jah (s_ix ja1 jae)))))
theorem ok_Qo:FnOk P w K mg base (CXE P w) 1 T.f_Qo T.fd_Qo ["yard","place"] (spZ (ct T) z_Qo):=by
 exact jcs
theorem ok_Xg:FnOk P w K mg base (CXE P w) 4 T.f_Xg T.fd_Xg ["row","bars","switches_ahead"] (spZ (ct T) z_Xg):=by
 refine okZ2 (b:=b_Xg) T.H_Xg.F sc_Xg λcdv A outer s H E hr=> ?_
 have hu:=hr.units
 refine⟨_,(ja4 (jb0 (i:=3) sc_Xg.nd rfl (by trivial) (pe_g (gOf T.H_Y2 (ok_Y2 T)) (hm hr) jak (ja0 (pv 0) ja5)))
   (ja4 (jb9 (jar (jbp hu) (ixq P w K hu (pv 3) ja8) jaf (jb1 _)) (ja6 (jbi T.x_Y8 jaf (hr.mono (Nat.zero_le _)))) jal)
   (ja4 (jb9 (jar (jrh) (pv 2) (jmx T.c_MOST_SWITCHES) (jb1 _)) (ja6 (jbi T.x_Y8 jaf (hr.mono (Nat.zero_le _)))) jal)
   (ja4 (jb9 (jar (jrh) (jbn (jp6 (K:=K) rfl rfl) (by rfl) T.b_max bt_max (ja0 (jcl (sl_K (K:=K) rfl) (pv 3) (jcq ja8) jcy) ja5)) (pv 1) (jb1 _)) (ja6 (jbi T.x_Y6 jaf (hr.mono (Nat.zero_le _)))) jal)
   (ja4 (jb9 (PW.pt (jla (jar (jbp hu) (jbn (jbu (P:=P) (w:=w) (K:=K) rfl rfl rfl) (by rfl) T.b_len jdq (ja0 (pv 3) ja5)) ja8 (jb1 _)) (ji3 (jar (jbp hu) (ixq P w K hu (pv 3) ja8) (ixq P w K hu (pv 3) ja8) (jb1 _))))) (ja6 (jbi T.x_Yd jaf (hr.mono (Nat.zero_le _)))) jal)
   (ja6 (jag (pv 3)))))))),?_⟩
 exact(jaa (jaz (jan (ja2 ja1 ja9)) jac)
   (jaa (jb7 (jao (s_op jcr (s_ix ja1 jae) jas)) (jbj (jhb T) jas) jam)
   (jaa (jb7 (jao (s_op jss ja1 jae)) (jbj (jhb T) jas) jam)
   (jaa (jb7 (jao (s_op jss (s_cb sl_max (ja2 (s_sl ja1 (jf7 jae) jfv) ja9)) ja1)) (jbj (cm_Y6 T) jas) jam)
   (jaa (jb7 (jlr (jao (s_op jcr (s_cb jdr (ja2 ja1 ja9)) jae)) (jao (s_op jcr (s_ix ja1 jae) (s_ix ja1 jae)))) (jbj (cm_Yd T) jas) jam)
   (jah ja1))))))
theorem ok_Q3:FnOk P w K mg base (CXE P w) 1 T.f_Q3 T.fd_Q3 ["self","one","other"] (spZ (ct T) z_Q3):=by
 refine okZ2 (b:=b_Q3) T.H_Q3.F sc_Q3 λcdv A outer s H E hr=> ?_
 have hu:=hr.units
 refine⟨_,(ja4 (jbv (K:=K) rfl (jcp (pv 0) (pv 1) rfl))
   (ja6 (jbv (K:=K) rfl (jcp (pv 0) (pv 2) rfl)))),?_⟩
 exact(jaa (jcn (jlj T) ja1 ja1)
   (jcn (jg6 T) ja1 ja1))
theorem ok_Qd:FnOk P w K mg base (CXE P w) 1 T.f_Qd T.fd_Qd ["self","bar"] (spZ (ct T) z_Qd):=by
 refine okZ2 (b:=b_Qd) T.H_Qd.F sc_Qd λcdv A outer s H E hr=> ?_
 have hu:=hr.units
 refine⟨_,(ja6 (jbv (K:=K) rfl (jcp (pv 0) (pv 1) rfl))),?_⟩
 exact(jcn (jlc T) ja1 ja1)
theorem ok_Qe:FnOk P w K mg base (CXE P w) 1 T.f_Qe T.fd_Qe ["self","bar"] (spZ (ct T) z_Qe):=by
 refine okZ2 (b:=b_Qe) T.H_Qe.F sc_Qe λcdv A outer s H E hr=> ?_
 have hu:=hr.units
 refine⟨_,(ja6 (jbv (K:=K) rfl (jcp (pv 0) (pv 1) rfl))),?_⟩
 exact(jcn (jlc T) ja1 ja1)
theorem ok_Q0:FnOk P w K mg base (CXE P w) 1 T.f_Q0 T.fd_Q0 ["self","one","other"] (spZ (ct T) z_Q0):=by
 refine okZ2 (b:=b_Q0) T.H_Q0.F sc_Q0 λcdv A outer s H E hr=> ?_
 have hu:=hr.units
 refine⟨_,(ja4 (jbv (K:=K) rfl (jcp (pv 0) (pv 1) rfl))
   (ja6 (jbv (K:=K) rfl (jcp (pv 0) (pv 2) rfl)))),?_⟩
 exact(jaa (jcn (jlj T) ja1 ja1)
   (jcn (jg6 T) ja1 ja1))
theorem ok_Xf:FnOk P w K mg base (CXE P w) 3 T.f_Xf T.fd_Xf ["switch"] (spZ (ct T) z_Xf):=by
 refine okZ2 (b:=b_Xf) T.H_Xf.F sc_Xf λcdv A outer s H E hr=> ?_
 have hu:=hr.units
 refine⟨_,(ja4 (jb0 (i:=1) sc_Xf.nd rfl (by trivial) (ixq P w K hu (pv 0) ja8))
   (ja4 (jb9 (jar (jbp hu) (pv 1) jaf (jb1 _)) (ja6 (jag (jk1 (mOf T.C_Yb T.mt_Qe T.H_Qe (ok_Qe T)) (hm hr) jak (ja0 (ixq P w K hu (pv 0) ja8) ja5)))) jal)
   (ja4 (jb9 (jar (jbp hu) (pv 1) jaf (jb1 _)) (ja6 (jag (jk1 (mOf T.C_Y7 T.mt_Qd T.H_Qd (ok_Qd T)) (hm hr) jak (ja0 (ixq P w K hu (pv 0) ja8) ja5)))) jal)
   (ja4 (jb9 (jar (jbp hu) (pv 1) jaf (jb1 _)) (ja6 (jag (jk1 (mOf T.C_Xt T.mt_Q3 T.H_Q3 (ok_Q3 T)) (hm hr) jak (ja0 (ixq P w K hu (pv 0) ja8) (ja0 (ixq P w K hu (pv 0) ja8) ja5))))) jal)
   (ja6 (jag (jk1 (mOf T.C_Xm T.mt_Q0 T.H_Q0 (ok_Q0 T)) (hm hr) jak (ja0 (ixq P w K hu (pv 0) ja8) (ja0 (ixq P w K hu (pv 0) ja8) ja5))))))))),?_⟩
 exact(jaa (jaz (s_ix ja1 jae) jac)
   (jaa (jb7 (jao (s_op jcr ja1 jas)) (jah (jhf (jmz T) (ja2 (s_ix ja1 jae) ja9))) jam)
   (jaa (jb7 (jao (s_op jcr ja1 jas)) (jah (jhf (jmj T) (ja2 (s_ix ja1 jae) ja9))) jam)
   (jaa (jb7 (jao (s_op jcr ja1 jas)) (jah (jhf (jkv T) (ja2 (s_ix ja1 jae) (ja2 (s_ix ja1 jae) ja9)))) jam)
   (jah (jhf (jky T) (ja2 (s_ix ja1 jae) (ja2 (s_ix ja1 jae) ja9))))))))
theorem ok_Qv:FnOk P w K mg base (CXE P w) 4 T.f_Qv T.fd_Qv ["self","yard"] (spZ (ct T) z_Qv):=by
 refine okZ2 (b:=b_Qv) T.H_Qv.F sc_Qv λcdv A outer s H E hr=> ?_
 have hu:=hr.units
 refine⟨_,(ja6 (jbv (K:=K) rfl (jcp (pv 0) (jhy (CompOk.mk (tgs:=["switch"]) (cap:=[]) (idx:=[]) rfl rfl (by decide+kernel) (by decide+kernel) (List.forall_mem_nil _) rfl .nil) rfl (pi_K (K:=K) rfl (ixq P w K hu (pv 1) ja8)) (jct (by decide)) (λ_ _ _ _=>(jbd (i:=0) (show List.Nodup (α:=PySem.Str) ["switch"] by decide+kernel) rfl (by trivial))) (λ_ _ _ _=>jes) (λ_ _ _ _=>(pe_g (gOf T.H_Xf (ok_Xf T)) (hm hr) jgm (ja0 (pv 0) ja5)))) rfl))),?_⟩
 exact(jcn (jeh T) ja1 (jby (je0 (si_V (s_ix ja1 jae)) jac ji5 (jan (ja2 ja1 ja9)))))
theorem ok_Qb:FnOk P w K mg base (CXE P w) 6 T.f_Qb T.fd_Qb ["self","yard"] (spZ (ct T) z_Qb):=by
 refine okZ2 (b:=b_Qb) T.H_Qb.F sc_Qb λcdv A outer s H E hr=> ?_
 have hu:=hr.units
 refine⟨_,(ja4 (jbv (K:=K) rfl (jcp (pv 0) (jhk (ja0 (ixq P w K hu (pv 1) ja8) (ja0 (jbo (jmy (K:=K) rfl) (by rfl) T.b_list jvt (ja0 (ixq P w K hu (pv 1) ja8) ja5)) ja5))) rfl))
   (ja4 (jbv (K:=K) rfl (jcp (pv 0) (jk1 (mOf T.C_Net T.mt_Qv T.H_Qv (ok_Qv T)) (hm hr) jak (ja0 (jaw (K:=K) rfl (jb5 (pv 0) rfl)) ja5)) rfl))
   (ja4 (jbv (K:=K) rfl (jcp (pv 0) ja8 rfl))
   (ja4 (jbv (K:=K) rfl (jcp (pv 0) ja8 rfl))
   (ja4 (jbv (K:=K) rfl (jcp (pv 0) jr6 rfl))
   (ja6 (jbv (K:=K) rfl (jcp (pv 0) ja8 rfl)))))))),?_⟩
 exact(jaa (jcn (jca T) ja1 (jni (ja2 (s_ix ja1 jae) (ja2 (jby (n_list (ja2 (s_ix ja1 jae) ja9))) ja9))))
   (jaa (jcn (FD_net T) ja1 (jhf (jev T) (ja2 (jc0 (jca T) ja1) ja9)))
   (jaa (jcn (jh1 T) ja1 jae)
   (jaa (jcn (jlt T) ja1 jae)
   (jaa (jcn (jmd T) ja1 s_dnew)
   (jcn (jh7 T) ja1 jae))))))
theorem ok_X0:FnOk P w K mg base (CXE P w) 8 T.f_X0 T.fd_X0 ["self","yard"] (spZ (ct T) z_X0):=by
 refine okZ2 (b:=b_X0) T.H_X0.F sc_X0 λcdv A outer s H E hr=> ?_
 have hu:=hr.units
 refine⟨_,(ja4 (jbv (K:=K) rfl (jcp (pv 0) (pv 1) rfl))
   (ja4 (jbv (K:=K) rfl (jcp (pv 0) (jk1 (mOf T.C_Y5 T.mt_Qb T.H_Qb (ok_Qb T)) (hm hr) jak (ja0 (pv 1) ja5)) rfl))
   (ja6 (jag jaf)))),?_⟩
 exact(jaa (jcn (jca T) ja1 ja1)
   (jaa (jcn (jcg T) ja1 (jkj (jeg T) (ja2 ja1 ja9)))
   (jah jas)))
theorem jm7:jc8 (ct T) mg base 8 "begin" je3:=by
 exact(mtc (jhc T) T.C_Yc.cl T.mt_X0 (ok_X0 T) (by decide) T.H_X0.B jbx)
theorem ok_Q4:FnOk P w K mg base (CXE P w) 9 T.f_Q4 T.fd_Q4 ["self","row"] (spZ (ct T) z_Q4):=by
 refine okZ2 (b:=b_Q4) T.H_Q4.F jwr λcdv A outer s H E hr=> ?_
 have hu:=hr.units
 refine⟨_,(ja4 (jb0 (i:=2) jwr.nd rfl (by trivial) (ixq P w K hu (jaw (K:=K) rfl (jb5 (pv 0) rfl)) ja8))
   (ja4 (jb0 (i:=3) jwr.nd rfl (by trivial) (ixq P w K hu (jaw (K:=K) rfl (jb5 (pv 0) rfl)) ja8))
   (ja6 (jag (mdq P w K mg base 8 (jc9 (pv 0) (hm hr) jak (ja0 (jhk (ja0 (pv 2) (ja0 (jat (jbc (K:=K) rfl) (pv 3) (je7 (ja0 (pe_g (gOf T.H_Xg (ok_Xg T)) (hm hr) jak (ja0 (pv 1) (ja0 (pv 2) (ja0 (jbn (jbu (P:=P) (w:=w) (K:=K) rfl rfl rfl) (by rfl) T.b_len jdq (ja0 (pv 3) ja5)) ja5)))) ja5))) ja5))) ja5))))))),?_⟩
 exact(jaa (jaz (s_ix (jc0 (jca T) ja1) jae) jac)
   (jaa (jaz (s_ix (jc0 (jca T) ja1) jae) jac)
   (jah (jay (jm7 T) ja1 (ja2 (jni (ja2 ja1 (ja2 (s_op jc4 ja1 (jby (je8 (ja2 (jan (ja2 ja1 (ja2 ja1 (ja2 (s_cb jdr (ja2 ja1 ja9)) ja9)))) ja9)))) ja9))) ja9)))))
theorem jjj:FnOk P w K mg base (CXE P w) 1 T.f_has T.fd_has ["some","number"] (spZ (ct T) jgy):=by
 refine okZ2 (b:=jwk) T.H_has.F sc_has λcdv A outer s H E hr=> ?_
 have hu:=hr.units
 refine⟨_,(ja6 (jag (jgw (jbp hu) (jat jgb (jat op_shr (pv 0) (pv 1)) ja8) ja8 (jb1 _)))),?_⟩
 exact(jah (s_op jcr (s_op jh3 (s_op s2_shr ja1 ja1) jae) jae))
theorem ok_Q9:FnOk P w K mg base (CXE P w) 1 T.f_Q9 T.fd_Q9 ["self","number"] (spZ (ct T) z_Q9):=by
 exact jcs
theorem ok_X8:FnOk P w K mg base (CXE P w) 1 T.f_X8 T.fd_X8 ["self","number"] (spZ (ct T) z_X8):=by
 exact jcs
theorem ok_Qq:FnOk P w K mg base (CXE P w) 1 T.f_Qq T.fd_Qq ["yard","number"] (spZ (ct T) z_Qq):=by
 refine okZ2 (b:=b_Qq) T.H_Qq.F sc_Qq λcdv A outer s H E hr=> ?_
 have hu:=hr.units
 refine⟨_,(ja6 (jb9 (jd9 (ji0 (joj) (op_lt) ja8 (pv 1) (jbn (jbu (P:=P) (w:=w) (K:=K) rfl rfl rfl) (by rfl) T.b_len jdq (ja0 (ixq P w K hu (pv 0) ja8) ja5)))) (ja6 (jbi T.x_Xn jaf (hr.mono (Nat.zero_le _)))) jal)),?_⟩
 exact(jb7 (jda (jao (jl2 job s2_lt jae ja1 (s_cb jdr (ja2 (s_ix ja1 jae) ja9))))) (jbj (cm_Xn T) jas) jam)
theorem ok_Xx:FnOk P w K mg base (CXE P w) 1 T.f_Xx T.fd_Xx ["some"] (spZ (ct T) z_Xx):=by
 refine okZ2 (b:=b_Xx) T.H_Xx.F sc_Xx λcdv A outer s H E hr=> ?_
 have hu:=hr.units
 refine⟨_,(ja6 (jag (jat jgb (pv 0) (jsd jtx (pv 0))))),?_⟩
 exact(jah (s_op jh3 ja1 (s_un jto ja1)))
theorem jtc:FnOk P w K mg base (CXE P w) 1 T.f_Qi T.fd_Qi ["self"] (spZ (ct T) z_Qi):=by
 refine okZ2 (b:=b_Qi) T.H_Qi.F sc_Qi λcdv A outer s H E hr=> ?_
 have hu:=hr.units
 refine⟨_,(ja6 (jag jf2)),?_⟩
 exact(jah s_bl)
theorem ok_Q5:FnOk P w K mg base (CXE P w) 1 T.f_Q5 T.fd_Q5 ["self"] (spZ (ct T) z_Q5):=by
 refine okZ2 (b:=b_Q5) T.H_Q5.F sc_Q5 λcdv A outer s H E hr=> ?_
 have hu:=hr.units
 refine⟨_,(ja6 (jag jf2)),?_⟩
 exact(jah s_bl)
theorem jv0:FnOk P w K mg base (CXE P w) 1 T.f_Qw T.fd_Qw ["self"] (spZ (ct T) z_Qw):=by
 refine okZ2 (b:=b_Qw) T.H_Qw.F sc_Qw λcdv A outer s H E hr=> ?_
 have hu:=hr.units
 refine⟨_,(ja6 (jag ja8)),?_⟩
 exact(jah jae)
theorem ok_Qj:FnOk P w K mg base (CXE P w) 1 T.f_Qj T.fd_Qj ["self"] (spZ (ct T) z_Qj):=by
 refine okZ2 (b:=b_Qj) T.H_Qj.F sc_Qj λcdv A outer s H E hr=> ?_
 have hu:=hr.units
 refine⟨_,(ja6 (jag (jat jnm (jat jfi ja8 (jaw (K:=K) rfl (jb5 (pv 0) rfl))) (jat jfi ja8 (jaw (K:=K) rfl (jb5 (pv 0) rfl)))))),?_⟩
 exact(jah (s_op jn2 (s_op jfp jae (jc0 (jlj T) ja1)) (s_op jfp jae (jc0 (jg6 T) ja1))))
theorem ok_Qc:FnOk P w K mg base (CXE P w) 1 T.f_Qc T.fd_Qc ["self"] (spZ (ct T) z_Qc):=by
 refine okZ2 (b:=b_Qc) T.H_Qc.F sc_Qc λcdv A outer s H E hr=> ?_
 have hu:=hr.units
 refine⟨_,(ja6 (jag (jat jnm (jat jfi ja8 (jaw (K:=K) rfl (jb5 (pv 0) rfl))) (jat jfi ja8 (jaw (K:=K) rfl (jb5 (pv 0) rfl)))))),?_⟩
 exact(jah (s_op jn2 (s_op jfp jae (jc0 (jlj T) ja1)) (s_op jfp jae (jc0 (jg6 T) ja1))))
theorem ok_Qf:FnOk P w K mg base (CXE P w) 2 T.f_Qf T.fd_Qf ["self","standing"] (spZ (ct T) z_Qf):=by
 refine okZ2 (b:=b_Qf) T.H_Qf.F sc_Qf λcdv A outer s H E hr=> ?_
 have hu:=hr.units
 refine⟨_,(ja6 (jag (jhy (CompOk.mk (tgs:=["number","switch"]) (cap:=["standing"]) (idx:=[1]) rfl rfl (by decide+kernel) (by decide+kernel) (List.forall_mem_cons.mpr ⟨rfl,(List.forall_mem_nil _)⟩) rfl (.cons rfl (by trivial) (by trivial) rfl rfl .nil)) rfl (jsw (K:=K) rfl (jvj rfl T.b_enumerate (ja0 (jaw (K:=K) rfl (jb5 (pv 0) rfl)) ja5))) (jvp (jjv (by decide) (jjv (by decide) jsu))) (λ_ _ _ _=>(jwh (K:=K) rfl (pg_seq (n:=2) rfl (jmi (jbd (i:=0) (show List.Nodup (α:=PySem.Str) ["number","switch","standing"] by decide+kernel) rfl (by trivial)) (jmi (jbd (i:=1) (show List.Nodup (α:=PySem.Str) ["number","switch","standing"] by decide+kernel) rfl (by trivial)) jws))))) (λ_ _ _ _=>(ju7 (jb2 (K:=K) rfl (pe_g (gOf T.H_has (jjj T)) (hm hr) jgm (ja0 (pv 2) (ja0 (pv 0) ja5))) (λ_=>rfl)))) (λ_ _ _ _=>(pv 1))))),?_⟩
 exact(jah (jby (je0 (jvu (ja2 (jc0 (jeh T) ja1) ja9)) (sg_tup rfl (jmh (jmh juv))) (jbq (jan (ja2 ja1 (ja2 ja1 ja9)))) ja1)))
theorem jlw:jc8 (ct T) mg base 1 "joins" jc2:=by
 exact(mtc (jqv T) T.C_Xw.cl T.mt_Qw (jv0 T) (by decide) T.H_Qw.B (mtc (jmz T) T.C_Yb.cl T.mt_Feed_joins (jv0 T) (by decide) T.H_Qw.B (mtc (jmj T) T.C_Y7.cl T.mt_Earth_joins (jv0 T) (by decide) T.H_Qw.B (mtc (jkv T) T.C_Xt.cl T.mt_Qj (ok_Qj T) (by decide) T.H_Qj.B (mtc (jky T) T.C_Xm.cl T.mt_Qc (ok_Qc T) (by decide) T.H_Qc.B jbx)))))
theorem jdv:jc8 (ct T) mg base 2 "shut_ones" jbl:=by
 exact(mtc (jev T) T.C_Net.cl T.mt_Qf (ok_Qf T) (by decide) T.H_Qf.B jbx)
theorem ok_Q8:FnOk P w K mg base (CXE P w) 3 T.f_Q8 T.fd_Q8 ["self","standing","some"] (spZ (ct T) z_Q8):=by
 refine okZ2 (b:=b_Q8) T.H_Q8.F jk6 λcdv A outer s H E hr=> ?_
 have hu:=hr.units
 refine⟨_,(ja4 (jm5 (i:=3) jk6.nd rfl (by trivial) (CompOk.mk (tgs:=["switch"]) (cap:=[]) (idx:=[]) rfl rfl (by decide+kernel) (by decide+kernel) (List.forall_mem_nil _) rfl .nil) rfl (pi_K (K:=K) rfl (mdq P w K mg base 2 (jc9 (pv 0) (hm hr) jak (ja0 (pv 1) ja5)))) (jct (by decide)) (λ_ _ _ _=>(jbd (i:=0) (show List.Nodup (α:=PySem.Str) ["switch"] by decide+kernel) rfl (by trivial))) (λ_ _ _ _=>jes) (λ_ _ _ _=>(mdq P w K mg base 1 (jec (pv 0) (hm hr) jgm))))
   (ja4 (jb0 (i:=4) jk6.nd rfl (by trivial) (pv 2))
   (ja4 (jb0 (i:=5) jk6.nd rfl (by trivial) jm1)
   (ja4 (jsp ownE (jar (jho hu) (pv 4) (pv 5) (jb1 _)) (ja4 (jb0 (i:=5) jk6.nd rfl (by trivial) (pv 4))
   (ja6 (jea ownE rfl (pi_K (K:=K) rfl (pv 3)) (jbd (i:=6) jk6.nd rfl (by trivial)) (ja6 (jb9 (jb2 (K:=K) rfl (jat jgb (pv 6) (pv 4)) (λ_=>rfl)) (ja6 (jb0 (i:=4) jk6.nd rfl (by trivial) (jat jnm (pv 4) (pv 6)))) jal))))))
   (ja6 (jag (pv 4))))))),?_⟩
 exact(jaa (juk (jby (je0 (si_V (jay (jdv T) ja1 (ja2 ja1 ja9))) jac ji5 (jay (jlw T) ja1 ja9))))
   (jaa (jaz ja1 jac)
   (jaa (jaz jrz jac)
   (jaa (jqy (jao (s_op jne ja1 ja1)) (jaa (jaz ja1 jac)
   (jf1 (si_V ja1) jac (jb7 (jbq (s_op jh3 ja1 ja1)) (jaz (s_op jn2 ja1 ja1) jac) jam))))
   (jah ja1)))))
theorem js9:FnOk P w K mg base (CXE P w) 1 T.f_Ql T.fd_Ql ["self"] (spZ (ct T) z_Ql):=by
 refine okZ2 (b:=b_Ql) T.H_Ql.F sc_Ql λcdv A outer s H E hr=> ?_
 have hu:=hr.units
 refine⟨_,(ja6 (jag ja8)),?_⟩
 exact(jah jae)
theorem ok_Qy:FnOk P w K mg base (CXE P w) 1 T.f_Qy T.fd_Qy ["self"] (spZ (ct T) z_Qy):=by
 refine okZ2 (b:=b_Qy) T.H_Qy.F sc_Qy λcdv A outer s H E hr=> ?_
 have hu:=hr.units
 refine⟨_,(ja6 (jag (jat jfi ja8 (jaw (K:=K) rfl (jb5 (pv 0) rfl))))),?_⟩
 exact(jah (s_op jfp jae (jc0 (jlc T) ja1)))
theorem jrg:jc8 (ct T) mg base 1 "feeds" jd7:=by
 exact(mtc (jqv T) T.C_Xw.cl T.mt_Ql (js9 T) (by decide) T.H_Ql.B (mtc (jmz T) T.C_Yb.cl T.mt_Qy (ok_Qy T) (by decide) T.H_Qy.B (mtc (jmj T) T.C_Y7.cl T.mt_Earth_feeds (js9 T) (by decide) T.H_Ql.B (mtc (jkv T) T.C_Xt.cl T.mt_Breaker_feeds (js9 T) (by decide) T.H_Ql.B (mtc (jky T) T.C_Xm.cl T.mt_Splitter_feeds (js9 T) (by decide) T.H_Ql.B jbx)))))
theorem jdd:jc8 (ct T) mg base 3 "joined_bars" jbm:=by
 exact(mtc (jev T) T.C_Net.cl T.mt_Q8 (ok_Q8 T) (by decide) T.H_Q8.B jbx)
theorem ok_Qh:FnOk P w K mg base (CXE P w) 4 T.f_Qh T.fd_Qh ["self","standing"] (spZ (ct T) z_Qh):=by
 refine okZ2 (b:=b_Qh) T.H_Qh.F jsr λcdv A outer s H E hr=> ?_
 have hu:=hr.units
 refine⟨_,(ja4 (jb0 (i:=2) jsr.nd rfl (by trivial) ja8)
   (ja4 (jea ownE rfl (pi_K (K:=K) rfl (mdq P w K mg base 2 (jc9 (pv 0) (hm hr) jak (ja0 (pv 1) ja5)))) (jbd (i:=3) jsr.nd rfl (by trivial)) (ja6 (jb0 (i:=2) jsr.nd rfl (by trivial) (jat jnm (pv 2) (mdq P w K mg base 1 (jec (pv 3) (hm hr) jak))))))
   (ja6 (jag (mdq P w K mg base 3 (jc9 (pv 0) (hm hr) jak (ja0 (pv 1) (ja0 (pv 2) ja5)))))))),?_⟩
 exact(jaa (jaz jae jac)
   (jaa (jf1 (si_V (jay (jdv T) ja1 (ja2 ja1 ja9))) jac (jaz (s_op jn2 ja1 (jay (jrg T) ja1 ja9)) jac))
   (jah (jay (jdd T) ja1 (ja2 ja1 (ja2 ja1 ja9))))))
theorem jpa:jc8 (ct T) mg base 1 "gentle" jcv:=by
 exact(mtc (jqv T) T.C_Xw.cl T.mt_Qi (jtc T) (by decide) T.H_Qi.B (mtc (jmz T) T.C_Yb.cl T.mt_Feed_gentle (jtc T) (by decide) T.H_Qi.B (mtc (jmj T) T.C_Y7.cl T.mt_Earth_gentle (jtc T) (by decide) T.H_Qi.B (mtc (jkv T) T.C_Xt.cl T.mt_Breaker_gentle (jtc T) (by decide) T.H_Qi.B (mtc (jky T) T.C_Xm.cl T.mt_Q5 (ok_Q5 T) (by decide) T.H_Q5.B jbx)))))
theorem jfn:jc8 (ct T) mg base 4 "live_bars" jce:=by
 exact(mtc (jev T) T.C_Net.cl T.mt_Qh (ok_Qh T) (by decide) T.H_Qh.B jbx)
theorem ok_Ya:FnOk P w K mg base (CXE P w) 5 T.f_Ya T.fd_Ya ["net","standing","number"] (spZ (ct T) z_Ya):=by
 refine okZ2 (b:=b_Ya) T.H_Ya.F jri λcdv A outer s H E hr=> ?_
 have hu:=hr.units
 refine⟨_,(ja4 (jb0 (i:=3) jri.nd rfl (by trivial) (ixq P w K hu (jaw (K:=K) rfl (jb5 (pv 0) rfl)) (pv 2)))
   (ja4 (jb9 (jd9 (jb2 (K:=K) rfl (mdq P w K mg base 1 (jec (pv 3) (hm hr) jak)) (λ_=>rfl))) (ja6 (jag jf2)) jal)
   (ja4 (jb0 (i:=4) jri.nd rfl (by trivial) (jat jgb (pv 1) (jsd jtv (jat jfi ja8 (pv 2)))))
   (ja4 (jb0 (i:=5) jri.nd rfl (by trivial) (mdq P w K mg base 1 (jec (pv 3) (hm hr) jak)))
   (ja4 (jb9 (jd9 (jb2 (K:=K) rfl (jat jgb (pv 5) (mdq P w K mg base 4 (jc9 (pv 0) (hm hr) jak (ja0 (pv 4) ja5)))) (λ_=>rfl))) (ja6 (jag jf2)) jal)
   (ja6 (jag (jgw (jho hu) (jat jgb (pv 5) (jsd jtv (mdq P w K mg base 3 (jc9 (pv 0) (hm hr) jak (ja0 (pv 4) (ja0 (pe_g (gOf T.H_Xx (ok_Xx T)) (hm hr) jak (ja0 (pv 5) ja5)) ja5)))))) ja8 (jb1 _))))))))),?_⟩
 exact(jaa (jaz (s_ix (jc0 (jeh T) ja1) ja1) jac)
   (jaa (jb7 (jda (jbq (jay (jpa T) ja1 ja9))) (jah s_bl) jam)
   (jaa (jaz (s_op jh3 ja1 (s_un ju4 (s_op jfp jae ja1))) jac)
   (jaa (jaz (jay (jlw T) ja1 ja9) jac)
   (jaa (jb7 (jda (jbq (s_op jh3 ja1 (jay (jfn T) ja1 (ja2 ja1 ja9))))) (jah s_bl) jam)
   (jah (s_op jne (s_op jh3 ja1 (s_un ju4 (jay (jdd T) ja1 (ja2 ja1 (ja2 (jan (ja2 ja1 ja9)) ja9))))) jae)))))))
theorem ok_X4:FnOk P w K mg base (CXE P w) 1 T.f_X4 T.fd_X4 ["standing","number"] (spZ (ct T) z_X4):=by
 refine okZ2 (b:=b_X4) T.H_X4.F sc_X4 λcdv A outer s H E hr=> ?_
 have hu:=hr.units
 refine⟨_,(ja6 (jag (jat op_xor (pv 0) (jat jfi ja8 (pv 1))))),?_⟩
 exact(jah (s_op s2_xor ja1 (s_op jfp jae ja1)))
theorem jsq:FnOk P w K mg base (CXE P w) 1 T.f_Qg T.fd_Qg ["self"] (spZ (ct T) z_Qg):=by
 refine okZ2 (b:=b_Qg) T.H_Qg.F sc_Qg λcdv A outer s H E hr=> ?_
 have hu:=hr.units
 refine⟨_,(ja6 (jag ja8)),?_⟩
 exact(jah jae)
theorem ok_Qm:FnOk P w K mg base (CXE P w) 1 T.f_Qm T.fd_Qm ["self"] (spZ (ct T) z_Qm):=by
 refine okZ2 (b:=b_Qm) T.H_Qm.F sc_Qm λcdv A outer s H E hr=> ?_
 have hu:=hr.units
 refine⟨_,(ja6 (jag (jat jfi ja8 (jaw (K:=K) rfl (jb5 (pv 0) rfl))))),?_⟩
 exact(jah (s_op jfp jae (jc0 (jlc T) ja1)))
theorem jol:jc8 (ct T) mg base 1 "earths" jcw:=by
 exact(mtc (jqv T) T.C_Xw.cl T.mt_Qg (jsq T) (by decide) T.H_Qg.B (mtc (jmz T) T.C_Yb.cl T.mt_Feed_earths (jsq T) (by decide) T.H_Qg.B (mtc (jmj T) T.C_Y7.cl T.mt_Qm (ok_Qm T) (by decide) T.H_Qm.B (mtc (jkv T) T.C_Xt.cl T.mt_Breaker_earths (jsq T) (by decide) T.H_Qg.B (mtc (jky T) T.C_Xm.cl T.mt_Splitter_earths (jsq T) (by decide) T.H_Qg.B jbx)))))
theorem ok_Qn:FnOk P w K mg base (CXE P w) 3 T.f_Qn T.fd_Qn ["self","standing"] (spZ (ct T) z_Qn):=by
 refine okZ2 (b:=b_Qn) T.H_Qn.F jt7 λcdv A outer s H E hr=> ?_
 have hu:=hr.units
 refine⟨_,(ja4 (jb0 (i:=2) jt7.nd rfl (by trivial) ja8)
   (ja4 (jea ownE rfl (pi_K (K:=K) rfl (mdq P w K mg base 2 (jc9 (pv 0) (hm hr) jak (ja0 (pv 1) ja5)))) (jbd (i:=3) jt7.nd rfl (by trivial)) (ja6 (jb0 (i:=2) jt7.nd rfl (by trivial) (jat jnm (pv 2) (mdq P w K mg base 1 (jec (pv 3) (hm hr) jak))))))
   (ja6 (jag (pv 2))))),?_⟩
 exact(jaa (jaz jae jac)
   (jaa (jf1 (si_V (jay (jdv T) ja1 (ja2 ja1 ja9))) jac (jaz (s_op jn2 ja1 (jay (jol T) ja1 ja9)) jac))
   (jah ja1)))
theorem jl5:jc8 (ct T) mg base 3 "led_bars" jd4:=by
 exact(mtc (jev T) T.C_Net.cl T.mt_Qn (ok_Qn T) (by decide) T.H_Qn.B jbx)
theorem ok_Q1:FnOk P w K mg base (CXE P w) 4 T.f_Q1 T.fd_Q1 ["self","standing"] (spZ (ct T) z_Q1):=by
 refine okZ2 (b:=b_Q1) T.H_Q1.F sc_Q1 λcdv A outer s H E hr=> ?_
 have hu:=hr.units
 refine⟨_,(ja6 (jag (mdq P w K mg base 3 (jc9 (pv 0) (hm hr) jak (ja0 (pv 1) (ja0 (mdq P w K mg base 3 (jc9 (pv 0) (hm hr) jak (ja0 (pv 1) ja5))) ja5)))))),?_⟩
 exact(jah (jay (jdd T) ja1 (ja2 ja1 (ja2 (jay (jl5 T) ja1 (ja2 ja1 ja9)) ja9))))
theorem jgg:jc8 (ct T) mg base 4 "earthed_bars" jch:=by
 exact(mtc (jev T) T.C_Net.cl T.mt_Q1 (ok_Q1 T) (by decide) T.H_Q1.B jbx)
theorem ok_Qx:FnOk P w K mg base (CXE P w) 5 T.f_Qx T.fd_Qx ["self","standing"] (spZ (ct T) z_Qx):=by
 refine okZ2 (b:=b_Qx) T.H_Qx.F sc_Qx λcdv A outer s H E hr=> ?_
 have hu:=hr.units
 refine⟨_,(ja6 (jag (jgw (jbp hu) (jat jgb (mdq P w K mg base 4 (jc9 (pv 0) (hm hr) jak (ja0 (pv 1) ja5))) (mdq P w K mg base 4 (jc9 (pv 0) (hm hr) jak (ja0 (pv 1) ja5)))) ja8 (jb1 _)))),?_⟩
 exact(jah (s_op jcr (s_op jh3 (jay (jfn T) ja1 (ja2 ja1 ja9)) (jay (jgg T) ja1 (ja2 ja1 ja9))) jae))
theorem jn6:jc8 (ct T) mg base 5 "is_safe" jfa:=by
 exact(mtc (jev T) T.C_Net.cl T.mt_Qx (ok_Qx T) (by decide) T.H_Qx.B jbx)
theorem ok_Y4:FnOk P w K mg base (CXE P w) 6 T.f_Y4 T.fd_Y4 ["net","standing","number"] (spZ (ct T) z_Y4):=by
 refine okZ2 (b:=b_Y4) T.H_Y4.F sc_Y4 λcdv A outer s H E hr=> ?_
 have hu:=hr.units
 refine⟨_,(ja6 (jag (jx1 (K:=K) rfl (mdq P w K mg base 5 (jc9 (pv 0) (hm hr) jak (ja0 (pe_g (gOf T.H_X4 (ok_X4 T)) (hm hr) jak (ja0 (pv 1) (ja0 (pv 2) ja5))) ja5)))))),?_⟩
 exact(jah (s_notT (jay (jn6 T) ja1 (ja2 (jan (ja2 ja1 (ja2 ja1 ja9))) ja9))))
theorem ok_Xz:FnOk P w K mg base (CXE P w) 7 T.f_Xz T.fd_Xz ["yard","standing","number"] (spZ (ct T) z_Xz):=by
 refine okZ2 (b:=b_Xz) T.H_Xz.F sc_Xz λcdv A outer s H E hr=> ?_
 have hu:=hr.units
 refine⟨_,(ja4 (jdj (pe_g (gOf T.H_Qq (ok_Qq T)) (hm hr) jak (ja0 (pv 0) (ja0 (pv 2) ja5))))
   (ja4 (jb0 (i:=3) sc_Xz.nd rfl (by trivial) (jk1 (mOf T.C_Net T.mt_Qv T.H_Qv (ok_Qv T)) (hm hr) jak (ja0 (pv 0) ja5)))
   (ja4 (jb9 (jb2 (K:=K) rfl (pe_g (gOf T.H_Ya (ok_Ya T)) (hm hr) jak (ja0 (pv 3) (ja0 (pv 1) (ja0 (pv 2) ja5)))) (λ_=>rfl)) (ja6 (jbi T.x_Y0 jaf (hr.mono (Nat.zero_le _)))) jal)
   (ja4 (jb9 (jb2 (K:=K) rfl (pe_g (gOf T.H_Y4 (ok_Y4 T)) (hm hr) jak (ja0 (pv 3) (ja0 (pv 1) (ja0 (pv 2) ja5)))) (λ_=>rfl)) (ja6 (jbi T.x_Xq jaf (hr.mono (Nat.zero_le _)))) jal)
   (ja6 (jag (pe_g (gOf T.H_X4 (ok_X4 T)) (hm hr) jak (ja0 (pv 1) (ja0 (pv 2) ja5))))))))),?_⟩
 exact(jaa (jf5 (jan (ja2 ja1 (ja2 ja1 ja9))))
   (jaa (jaz (jhf (jev T) (ja2 ja1 ja9)) jac)
   (jaa (jb7 (jbq (jan (ja2 ja1 (ja2 ja1 (ja2 ja1 ja9))))) (jbj (cm_Y0 T) jas) jam)
   (jaa (jb7 (jbq (jan (ja2 ja1 (ja2 ja1 (ja2 ja1 ja9))))) (jbj (cm_Xq T) jas) jam)
   (jah (jan (ja2 ja1 (ja2 ja1 ja9))))))))
theorem ok_X1:FnOk P w K mg base (CXE P w) 1 T.f_X1 T.fd_X1 ["self"] (spZ (ct T) z_X1):=by
 refine okZ2 (b:=b_X1) T.H_X1.F jt0 λcdv A outer s H E hr=> ?_
 have hu:=hr.units
 refine⟨_,(ja4 (jb0 (i:=1) jt0.nd rfl (by trivial) ja8)
   (ja4 (jwd ownE rfl (jaw (K:=K) rfl (jb5 (pv 0) rfl)) (jbd (i:=2) jt0.nd rfl (by trivial)) (ja6 (jb0 (i:=1) jt0.nd rfl (by trivial) (jat jnm (pv 1) (ixq P w K hu (pv 2) ja8)))))
   (ja6 (jag (pv 1))))),?_⟩
 exact(jaa (jaz jae jac)
   (jaa (jw0 (jc0 (jmd T) ja1) jac (jaz (s_op jn2 ja1 (s_ix ja1 jae)) jac))
   (jah ja1)))
theorem jw8:jc8 (ct T) mg base 1 "held" jk7:=by
 exact(mtc (jeg T) T.C_Y5.cl T.mt_X1 (ok_X1 T) (by decide) T.H_X1.B jbx)
theorem ok_X7:FnOk P w K mg base (CXE P w) 8 T.f_X7 T.fd_X7 ["self","number"] (spZ (ct T) z_X7):=by
 refine okZ2 (b:=b_X7) T.H_X7.F sc_X7 λcdv A outer s H E hr=> ?_
 have hu:=hr.units
 refine⟨_,(ja4 (jdj (pe_g (gOf T.H_Qq (ok_Qq T)) (hm hr) jak (ja0 (jaw (K:=K) rfl (jb5 (pv 0) rfl)) (ja0 (pv 1) ja5))))
   (ja4 (jb9 (jb2 (K:=K) rfl (pe_g (gOf T.H_has (jjj T)) (hm hr) jak (ja0 (jaw (K:=K) rfl (jb5 (pv 0) rfl)) (ja0 (pv 1) ja5))) (λ_=>rfl)) (ja6 (jbi T.x_Xv jaf (hr.mono (Nat.zero_le _)))) jal)
   (ja4 (jb9 (jb2 (K:=K) rfl (pe_g (gOf T.H_has (jjj T)) (hm hr) jak (ja0 (mdq P w K mg base 1 (jec (pv 0) (hm hr) jak)) (ja0 (pv 1) ja5))) (λ_=>rfl)) (ja6 (jbi T.x_Yg jaf (hr.mono (Nat.zero_le _)))) jal)
   (ja4 (jbv (K:=K) rfl (jcp (pv 0) (pe_g (gOf T.H_Xz (ok_Xz T)) (hm hr) jak (ja0 (jaw (K:=K) rfl (jb5 (pv 0) rfl)) (ja0 (jaw (K:=K) rfl (jb5 (pv 0) rfl)) (ja0 (pv 1) ja5)))) rfl))
   (ja6 (jag (jaw (K:=K) rfl (jb5 (pv 0) rfl)))))))),?_⟩
 exact(jaa (jf5 (jan (ja2 (jc0 (jca T) ja1) (ja2 ja1 ja9))))
   (jaa (jb7 (jbq (jan (ja2 (jc0 (jlt T) ja1) (ja2 ja1 ja9)))) (jbj (cm_Xv T) jas) jam)
   (jaa (jb7 (jbq (jan (ja2 (jay (jw8 T) ja1 ja9) (ja2 ja1 ja9)))) (jbj (cm_Yg T) jas) jam)
   (jaa (jcn (jh1 T) ja1 (jan (ja2 (jc0 (jca T) ja1) (ja2 (jc0 (jh1 T) ja1) (ja2 ja1 ja9)))))
   (jah (jc0 (jh1 T) ja1))))))
theorem ok_Qs:FnOk P w K mg base (CXE P w) 1 T.f_Qs T.fd_Qs ["self","number"] (spZ (ct T) z_Qs):=by
 exact jcs
theorem jj7:jc8 (ct T) mg base 1 "give_back" jfq:=by
 exact(mtc (jeg T) T.C_Y5.cl T.mt_Q9 (ok_Q9 T) (by decide) T.H_Q9.B jbx)
theorem jvd:jc8 (ct T) mg base 1 "lock" jqf:=by
 exact(mtc (jeg T) T.C_Y5.cl T.mt_X8 (ok_X8 T) (by decide) T.H_X8.B jbx)
theorem jut:jc8 (ct T) mg base 8 "turn" jkb:=by
 exact(mtc (jeg T) T.C_Y5.cl T.mt_X7 (ok_X7 T) (by decide) T.H_X7.B jbx)
theorem jpz:jc8 (ct T) mg base 1 "unlock" jj2:=by
 exact(mtc (jeg T) T.C_Y5.cl T.mt_Qs (ok_Qs T) (by decide) T.H_Qs.B jbx)
theorem ok_X9:FnOk P w K mg base (CXE P w) 9 T.f_X9 T.fd_X9 ["self","kind","number"] (spZ (ct T) z_X9):=by
 refine okZ2 (b:=b_X9) T.H_X9.F sc_X9 λcdv A outer s H E hr=> ?_
 have hu:=hr.units
 refine⟨_,(ja4 (jb9 (jar (jbp hu) (pv 1) jaf (jb1 _)) (ja6 (jag (jrf (jb2 (K:=K) rfl (pe_g (gOf T.H_has (jjj T)) (hm hr) jak (ja0 (mdq P w K mg base 8 (jc9 (jaw (K:=K) rfl (jb5 (pv 0) rfl)) (hm hr) jak (ja0 (pv 2) ja5))) (ja0 (pv 2) ja5))) (λ_=>rfl)) jaf jaf))) jal)
   (ja4 (jb9 (jar (jbp hu) (pv 1) jaf (jb1 _)) (ja6 (jdj (mdq P w K mg base 1 (jc9 (jaw (K:=K) rfl (jb5 (pv 0) rfl)) (hm hr) jak (ja0 (pv 2) ja5))))) jal)
   (ja4 (jb9 (jar (jbp hu) (pv 1) jaf (jb1 _)) (ja6 (jdj (mdq P w K mg base 1 (jc9 (jaw (K:=K) rfl (jb5 (pv 0) rfl)) (hm hr) jak (ja0 (pv 2) ja5))))) jal)
   (ja4 (jb9 (jar (jbp hu) (pv 1) jaf (jb1 _)) (ja6 (jdj (mdq P w K mg base 1 (jc9 (jaw (K:=K) rfl (jb5 (pv 0) rfl)) (hm hr) jak (ja0 (pv 2) ja5))))) jal)
   (ja6 (jag jaf)))))),?_⟩
 exact(jaa (jb7 (jao (s_op jcr ja1 jas)) (jah (s_if (jbq (jan (ja2 (jay (jut T) (jc0 (jcg T) ja1) (ja2 ja1 ja9)) (ja2 ja1 ja9)))) jas jas)) jam)
   (jaa (jb7 (jao (s_op jcr ja1 jas)) (jf5 (jay (jvd T) (jc0 (jcg T) ja1) (ja2 ja1 ja9))) jam)
   (jaa (jb7 (jao (s_op jcr ja1 jas)) (jf5 (jay (jpz T) (jc0 (jcg T) ja1) (ja2 ja1 ja9))) jam)
   (jaa (jb7 (jao (s_op jcr ja1 jas)) (jf5 (jay (jj7 T) (jc0 (jcg T) ja1) (ja2 ja1 ja9))) jam)
   (jah jas)))))
theorem ok_Qt:FnOk P w K mg base (CXE P w) 1 T.f_Qt T.fd_Qt ["self","place"] (spZ (ct T) z_Qt):=by
 exact jcs
theorem ok_X5:FnOk P w K mg base (CXE P w) 1 T.f_X5 T.fd_X5 ["self","words"] (spZ (ct T) z_X5):=by
 exact jcs
theorem ok_Y3:FnOk P w K mg base (CXE P w) 1 T.f_Y3 T.fd_Y3 ["switch"] (spZ (ct T) z_Y3):=by
 refine okZ2 (b:=b_Y3) T.H_Y3.F sc_Y3 λcdv A outer s H E hr=> ?_
 have hu:=hr.units
 refine⟨_,(ja6 (jag (je2 (K:=K) rfl (jgf PySem.F.plainAttrs_str PySem.F.slot_str_join PySem.F.type_str_join (jep (K:=K) rfl) jaf (ja0 (jat (jbc (K:=K) rfl) (je7 (ja0 (ixq P w K hu (pv 0) ja8) ja5)) (jhy (CompOk.mk (tgs:=["bar"]) (cap:=[]) (idx:=[]) rfl rfl (by decide+kernel) (by decide+kernel) (List.forall_mem_nil _) rfl .nil) rfl (pi_K (K:=K) rfl (jcl (sl_K (K:=K) rfl) (pv 0) (jcq ja8) jcy)) (jct (by decide)) (λ_ _ _ _=>(jbd (i:=0) (show List.Nodup (α:=PySem.Str) ["bar"] by decide+kernel) rfl (by trivial))) (λ_ _ _ _=>jes) (λ_ _ _ _=>(jbo (jck) (by rfl) T.b_str jed (ja0 (pv 0) ja5))))) ja5))))),?_⟩
 exact(jah (s_sm jh0 jas (ja2 (s_op jc4 (jby (je8 (ja2 (s_ix ja1 jae) ja9))) (jby (je0 (si_V (s_sl ja1 (jf7 jae) jfv)) jac ji5 (s_cb jf3 (ja2 ja1 ja9))))) ja9)))
theorem ok_Y9:FnOk P w K mg base (CXE P w) 2 T.f_Y9 T.fd_Y9 ["yard"] (spZ (ct T) z_Y9):=by
 refine okZ2 (b:=b_Y9) T.H_Y9.F sc_Y9 λcdv A outer s H E hr=> ?_
 have hu:=hr.units
 refine⟨_,(ja4 (jb0 (i:=1) sc_Y9.nd rfl (by trivial) (ixq P w K hu (pv 0) ja8))
   (ja6 (jag (je2 (K:=K) rfl (jgf PySem.F.plainAttrs_str PySem.F.slot_str_join PySem.F.type_str_join (jep (K:=K) rfl) jaf (ja0 (jat (jbc (K:=K) rfl) (je7 (ja0 (pe_js (ji7 jaf (ji7 (jti (pv 1)) jtj))) ja5)) (jhy (CompOk.mk (tgs:=["switch"]) (cap:=[]) (idx:=[]) rfl rfl (by decide+kernel) (by decide+kernel) (List.forall_mem_nil _) rfl .nil) rfl (pi_K (K:=K) rfl (ixq P w K hu (pv 0) ja8)) (jct (by decide)) (λ_ _ _ _=>(jbd (i:=0) (show List.Nodup (α:=PySem.Str) ["switch"] by decide+kernel) rfl (by trivial))) (λ_ _ _ _=>jes) (λ_ _ _ _=>(pe_g (gOf T.H_Y3 (ok_Y3 T)) (hm hr) jgm (ja0 (pv 0) ja5))))) ja5)))))),?_⟩
 exact(jaa (jaz (s_ix ja1 jae) jac)
   (jah (s_sm jh0 jas (ja2 (s_op jc4 (jby (je8 (ja2 (s_js (jhu jas (jhu (s_fmt ja1) jtn))) ja9))) (jby (je0 (si_V (s_ix ja1 jae)) jac ji5 (jan (ja2 ja1 ja9))))) ja9))))
theorem jt2:FnOk P w K mg base (CXE P w) 2 T.f_Qz T.fd_Qz ["some"] (spZ (ct T) z_Qz):=by
 refine okZ2 (b:=b_Qz) T.H_Qz.F sc_Qz λcdv A outer s H E hr=> ?_
 have hu:=hr.units
 refine⟨_,(ja6 (jag (jhy (CompOk.mk (tgs:=["number"]) (cap:=["some"]) (idx:=[0]) rfl rfl (by decide+kernel) (by decide+kernel) (List.forall_mem_cons.mpr ⟨rfl,(List.forall_mem_nil _)⟩) rfl (.cons rfl (by trivial) (by trivial) rfl rfl .nil)) rfl (jeq rfl T.b_range (ja0 (joo (K:=K) rfl (jup PySem.F.plainAttrs_int PySem.F.slot_int_bit_length PySem.F.type_int_bit_length jwp (pv 0))) ja5)) (jct (by decide)) (λ_ _ _ _=>(jbd (i:=0) (show List.Nodup (α:=PySem.Str) ["number","some"] by decide+kernel) rfl (by trivial))) (λ_ _ _ _=>(ju7 (jb2 (K:=K) rfl (pe_g (gOf T.H_has (jjj T)) (hm hr) jgm (ja0 (pv 1) (ja0 (pv 0) ja5))) (λ_=>rfl)))) (λ_ _ _ _=>(pv 0))))),?_⟩
 exact(jah (jby (je0 (jij (ja2 (s_bits ja1) ja9)) jac (jbq (jan (ja2 ja1 (ja2 ja1 ja9)))) ja1)))
theorem ok_Yf:FnOk P w K mg base (CXE P w) 1 T.f_Yf T.fd_Yf ["yard","standing"] (spZ (ct T) z_Yf):=by
 exact jcs
theorem ok_Xu:FnOk P w K mg base (CXE P w) 1 T.f_Xu T.fd_Xu ["yard","standing"] (spZ (ct T) z_Xu):=by
 exact jcs
theorem ok_Qr:FnOk P w K mg base (CXE P w) 1 T.f_Qr T.fd_Qr ["self"] (spZ (ct T) z_Qr):=by
 exact jcs
theorem ok_Qa:FnOk P w K mg base (CXE P w) 1 T.f_Qa T.fd_Qa ["self"] (spZ (ct T) z_Qa):=by
 refine okZ2 (b:=b_Qa) T.H_Qa.F sc_Qa λcdv A outer s H E hr=> ?_
 have hu:=hr.units
 refine⟨_,(ja6 (jag (jaw (K:=K) rfl (jb5 (pv 0) rfl)))),?_⟩
 exact(jah (jc0 (jh1 T) ja1))
theorem jo6:jc8 (ct T) mg base 1 "locked" jjw:=by
 exact(mtc (jeg T) T.C_Y5.cl T.mt_Qr (ok_Qr T) (by decide) T.H_Qr.B jbx)
theorem jef:jc8 (ct T) mg base 1 "standing" jd2:=by
 exact(mtc (jeg T) T.C_Y5.cl T.mt_Qa (ok_Qa T) (by decide) T.H_Qa.B jbx)
theorem ok_Xb:FnOk P w K mg base (CXE P w) 3 T.f_Xb T.fd_Xb ["self","kind"] (spZ (ct T) z_Xb):=by
 refine okZ2 (b:=b_Xb) T.H_Xb.F sc_Xb λcdv A outer s H E hr=> ?_
 have hu:=hr.units
 refine⟨_,(ja4 (jb9 (jar (jbp hu) (pv 1) jaf (jb1 _)) (ja6 (jag (pe_g (gOf T.H_Q2 (jp1 T)) (hm hr) jak (ja0 (pe_g (gOf T.H_Qz (jt2 T)) (hm hr) jak (ja0 (pe_g (gOf T.H_Yf (ok_Yf T)) (hm hr) jak (ja0 (jaw (K:=K) rfl (jb5 (pv 0) rfl)) (ja0 (mdq P w K mg base 1 (jec (jaw (K:=K) rfl (jb5 (pv 0) rfl)) (hm hr) jak)) ja5))) ja5)) ja5)))) jal)
   (ja4 (jb9 (jar (jbp hu) (pv 1) jaf (jb1 _)) (ja6 (jag (pe_g (gOf T.H_Q2 (jp1 T)) (hm hr) jak (ja0 (pe_g (gOf T.H_Qz (jt2 T)) (hm hr) jak (ja0 (pe_g (gOf T.H_Xu (ok_Xu T)) (hm hr) jak (ja0 (jaw (K:=K) rfl (jb5 (pv 0) rfl)) (ja0 (mdq P w K mg base 1 (jec (jaw (K:=K) rfl (jb5 (pv 0) rfl)) (hm hr) jak)) ja5))) ja5)) ja5)))) jal)
   (ja4 (jb9 (jar (jbp hu) (pv 1) jaf (jb1 _)) (ja6 (jag (pe_g (gOf T.H_Q2 (jp1 T)) (hm hr) jak (ja0 (pe_g (gOf T.H_Qz (jt2 T)) (hm hr) jak (ja0 (mdq P w K mg base 1 (jec (jaw (K:=K) rfl (jb5 (pv 0) rfl)) (hm hr) jak)) ja5)) ja5)))) jal)
   (ja4 (jb9 (jar (jbp hu) (pv 1) jaf (jb1 _)) (ja6 (jag (pe_g (gOf T.H_Q2 (jp1 T)) (hm hr) jak (ja0 (pe_g (gOf T.H_Qz (jt2 T)) (hm hr) jak (ja0 (mdq P w K mg base 1 (jec (jaw (K:=K) rfl (jb5 (pv 0) rfl)) (hm hr) jak)) ja5)) ja5)))) jal)
   (ja4 (jb9 (jar (jbp hu) (pv 1) jaf (jb1 _)) (ja6 (jag (pe_g (gOf T.H_Y9 (ok_Y9 T)) (hm hr) jak (ja0 (jaw (K:=K) rfl (jb5 (pv 0) rfl)) ja5)))) jal)
   (ja6 (jbi T.x_Y8 jaf (hr.mono (Nat.zero_le _))))))))),?_⟩
 exact(jaa (jb7 (jao (s_op jcr ja1 jas)) (jah (jan (ja2 (jan (ja2 (jan (ja2 (jc0 (jca T) ja1) (ja2 (jay (jef T) (jc0 (jcg T) ja1) ja9) ja9))) ja9)) ja9))) jam)
   (jaa (jb7 (jao (s_op jcr ja1 jas)) (jah (jan (ja2 (jan (ja2 (jan (ja2 (jc0 (jca T) ja1) (ja2 (jay (jef T) (jc0 (jcg T) ja1) ja9) ja9))) ja9)) ja9))) jam)
   (jaa (jb7 (jao (s_op jcr ja1 jas)) (jah (jan (ja2 (jan (ja2 (jay (jo6 T) (jc0 (jcg T) ja1) ja9) ja9)) ja9))) jam)
   (jaa (jb7 (jao (s_op jcr ja1 jas)) (jah (jan (ja2 (jan (ja2 (jay (jef T) (jc0 (jcg T) ja1) ja9) ja9)) ja9))) jam)
   (jaa (jb7 (jao (s_op jcr ja1 jas)) (jah (jan (ja2 (jc0 (jca T) ja1) ja9))) jam)
   (jbj (jhb T) jas))))))
theorem jii:jc8 (ct T) mg base 9 "add_switch" jcz:=by
 exact(mtc (jhc T) T.C_Yc.cl T.mt_Q4 (ok_Q4 T) (by decide) T.H_Q4.B jbx)
theorem jwj:jc8 (ct T) mg base 9 "done" jku:=by
 exact(mtc (jhc T) T.C_Yc.cl T.mt_X9 (ok_X9 T) (by decide) T.H_X9.B jbx)
theorem jph:jc8 (ct T) mg base 1 "permit" jji:=by
 exact(mtc (jeg T) T.C_Y5.cl T.mt_Qt (ok_Qt T) (by decide) T.H_Qt.B jbx)
theorem jr4:jc8 (ct T) mg base 1 "reach" jmb:=by
 exact(mtc (jhc T) T.C_Yc.cl T.mt_X5 (ok_X5 T) (by decide) T.H_X5.B jbx)
theorem jvm:jc8 (ct T) mg base 3 "tell" jkd:=by
 exact(mtc (jhc T) T.C_Yc.cl T.mt_Xb (ok_Xb T) (by decide) T.H_Xb.B jbx)
theorem ok_Xo:FnOk P w K mg base (CXE P w) 10 T.f_Xo T.fd_Xo ["self","row"] (spZ (ct T) z_Xo):=by
 refine okZ2 (b:=b_Xo) T.H_Xo.F jro λcdv A outer s H E hr=> ?_
 have hu:=hr.units
 refine⟨_,(ja4 (jb0 (i:=2) jro.nd rfl (by trivial) (je2 (K:=K) rfl (jgf PySem.F.plainAttrs_str PySem.F.slot_str_split PySem.F.type_str_split jic (pv 1) (ja0 jaf ja5))))
   (ja4 (jb0 (i:=3) jro.nd rfl (by trivial) (ixq P w K hu (pv 2) ja8))
   (ja4 (jb9 (jar (jbp hu) (pv 3) jaf (jb1 _)) (ja6 (jag (mdq P w K mg base 8 (jc9 (pv 0) (hm hr) jak (ja0 (jhk (ja0 (pe_g (gOf T.H_Xp (ok_Xp T)) (hm hr) jak (ja0 (pv 1) ja5)) (ja0 (je7 ja5) ja5))) ja5))))) jal)
   (ja4 (jb9 (jar (op_isB) (jaw (K:=K) rfl (jb5 (pv 0) rfl)) jm1 (jb1 _)) (ja6 (jbi T.x_Y8 jaf (hr.mono (Nat.zero_le _)))) jal)
   (ja4 (jb9 (jar (jno (P:=P) (w:=w) (K:=K) rfl rfl rfl hu) (pv 3) (jhk (ja0 jaf (ja0 jaf (ja0 jaf (ja0 jaf ja5))))) (by with_unfolding_all rfl)) (ja6 (jag (mdq P w K mg base 9 (jc9 (pv 0) (hm hr) jak (ja0 (pv 1) ja5))))) jal)
   (ja4 (jb9 (jar (jno (P:=P) (w:=w) (K:=K) rfl rfl rfl hu) (pv 3) (jhk (ja0 jaf (ja0 jaf (ja0 jaf (ja0 jaf ja5))))) (by with_unfolding_all rfl)) (ja6 (jag (mdq P w K mg base 9 (jc9 (pv 0) (hm hr) jak (ja0 (pv 3) (ja0 (pe_g (gOf T.H_X6 (ok_X6 T)) (hm hr) jak (ja0 (jcl (sl_K (K:=K) rfl) (pv 2) (jcq ja8) jcy) ja5)) ja5)))))) jal)
   (ja4 (jb9 (jar (jbp hu) (pv 3) jaf (jb1 _)) (ja4 (jb0 (i:=4) jro.nd rfl (by trivial) (mdq P w K mg base 1 (jc9 (jaw (K:=K) rfl (jb5 (pv 0) rfl)) (hm hr) jak (ja0 (pe_g (gOf T.H_X3 (ok_X3 T)) (hm hr) jak (ja0 (jcl (sl_K (K:=K) rfl) (pv 2) (jcq ja8) jcy) (ja0 (ixq P w K hu (jaw (K:=K) rfl (jb5 (pv 0) rfl)) ja8) ja5))) ja5))))
   (ja6 (jag (pe_js (ji7 jaf (ji7 (jti (pv 4)) jtj)))))) jal)
   (ja4 (jb9 (jar (jbp hu) (pv 3) jaf (jb1 _)) (ja6 (jag (pe_g (gOf T.H_Q2 (jp1 T)) (hm hr) jak (ja0 (ixq P w K hu (pe_g (gOf T.H_Qo (ok_Qo T)) (hm hr) jak (ja0 (jaw (K:=K) rfl (jb5 (pv 0) rfl)) (ja0 (pe_g (gOf T.H_X3 (ok_X3 T)) (hm hr) jak (ja0 (jcl (sl_K (K:=K) rfl) (pv 2) (jcq ja8) jcy) (ja0 (ixq P w K hu (jaw (K:=K) rfl (jb5 (pv 0) rfl)) ja8) ja5))) ja5))) ja8) ja5)))) jal)
   (ja4 (jb9 (jar (jbp hu) (pv 3) jaf (jb1 _)) (ja6 (jag (mdq P w K mg base 1 (jc9 (pv 0) (hm hr) jak (ja0 (jcl (sl_K (K:=K) rfl) (pv 2) (jcq ja8) jcy) ja5))))) jal)
   (ja4 (jb9 (jar (jho hu) (jbn (jbu (P:=P) (w:=w) (K:=K) rfl rfl rfl) (by rfl) T.b_len jdq (ja0 (pv 2) ja5)) ja8 (jb1 _)) (ja6 (jbi T.x_Y8 jaf (hr.mono (Nat.zero_le _)))) jal)
   (ja6 (jag (mdq P w K mg base 3 (jc9 (pv 0) (hm hr) jak (ja0 (pv 3) ja5))))))))))))))),?_⟩
 exact(jaa (jaz (jby (jka ja1 (ja2 jas ja9))) jac)
   (jaa (jaz (s_ix ja1 jae) jac)
   (jaa (jb7 (jao (s_op jcr ja1 jas)) (jah (jay (jm7 T) ja1 (ja2 (jni (ja2 (jan (ja2 ja1 ja9)) (ja2 (jby (je8 ja9)) ja9))) ja9))) jam)
   (jaa (jb7 (jao (s_op s2_is (jc0 (jca T) ja1) jrz)) (jbj (jhb T) jas) jam)
   (jaa (jb7 (jao (s_op js3 ja1 (jni (ja2 jas (ja2 jas (ja2 jas (ja2 jas ja9))))))) (jah (jay (jii T) ja1 (ja2 ja1 ja9))) jam)
   (jaa (jb7 (jao (s_op js3 ja1 (jni (ja2 jas (ja2 jas (ja2 jas (ja2 jas ja9))))))) (jah (jay (jwj T) ja1 (ja2 ja1 (ja2 (jan (ja2 (s_sl ja1 (jf7 jae) jfv) ja9)) ja9)))) jam)
   (jaa (jb7 (jao (s_op jcr ja1 jas)) (jaa (jaz (jay (jph T) (jc0 (jcg T) ja1) (ja2 (jan (ja2 (s_sl ja1 (jf7 jae) jfv) (ja2 (s_ix (jc0 (jca T) ja1) jae) ja9))) ja9)) jac)
   (jah (s_js (jhu jas (jhu (s_fmt ja1) jtn))))) jam)
   (jaa (jb7 (jao (s_op jcr ja1 jas)) (jah (jan (ja2 (s_ix (jan (ja2 (jc0 (jca T) ja1) (ja2 (jan (ja2 (s_sl ja1 (jf7 jae) jfv) (ja2 (s_ix (jc0 (jca T) ja1) jae) ja9))) ja9))) jae) ja9))) jam)
   (jaa (jb7 (jao (s_op jcr ja1 jas)) (jah (jay (jr4 T) ja1 (ja2 (s_sl ja1 (jf7 jae) jfv) ja9))) jam)
   (jaa (jb7 (jao (s_op jne (s_cb jdr (ja2 ja1 ja9)) jae)) (jbj (jhb T) jas) jam)
   (jah (jay (jvm T) ja1 (ja2 ja1 ja9)))))))))))))
theorem jeb:jc8 (ct T) mg base 10 "say" jco:=by
 exact(mtc (jhc T) T.C_Yc.cl T.mt_Xo (ok_Xo T) (by decide) T.H_Xo.B jbx)
theorem ok_Qp:FnOk P w K mg base (CXE P w) 11 T.f_Qp T.fd_Qp ["desk","row"] (spZ (ct T) z_Qp):=by
 refine okZ2 (b:=b_Qp) T.H_Qp.F jwc λcdv A outer s H E hr=> ?_
 have hu:=hr.units
 refine⟨_,(ja4 (jb0 (i:=2) jwc.nd rfl (by trivial) jf2)
   (ja4 (ps_try rfl rfl (jqn (js4 (jvs (P:=P) (w:=w) (K:=K) (mg:=mg) (base:=base) rfl rfl rfl rfl rfl (pex_md (k:=10) (pv 0) (hm hr) (ja0 (pv 1) ja5)))) jr5) (jtb (K:=K) rfl (jv1 rfl T.x_Y8.mg_ T.w_Y8 (λea=>(ja6 (jb0 (i:=2) jwc.nd rfl (by trivial) jf2))) ph_nil)))
   (ja6 (jag (pv 2))))),?_⟩
 exact(jaa (jaz s_bl jac)
   (jaa (ss_try (sx_one (jwm (js0 (jeb T) (λ_=>ja1) (ja2 ja1 ja9)))) (jv4 (sub_Y8 T) (jaz s_bl jac) (λc=>sh_nil)))
   (jah ja1)))
theorem jha:FnOk P w K mg base (CXE P w) 1 T.f_Xe T.fd_Xe ["found","due"] (spZ (ct T) z_Xe):=by
 refine okZ2 (b:=b_Xe) T.H_Xe.F sc_Xe λcdv A outer s H E hr=> ?_
 have hu:=hr.units
 refine⟨_,(ja6 (jag (joy (jbn (jnu (K:=K) rfl) (by rfl) T.b_isinstance jid (ja0 (pv 0) (ja0 (pe_ty T.b_str jed) ja5))) (jo9 (jgw (jbp hu) (pv 0) (pv 1) (jb1 _)))))),?_⟩
 exact(jah (jq5 (s_cb sl_isi (ja2 ja1 (ja2 s_ty ja9))) (s_op jcr ja1 ja1)))
theorem ok_Xl:FnOk P w K mg base (CXE P w) 12 T.f_Xl T.fd_Xl ["desk","rows","cell"] (spZ (ct T) z_Xl):=by
 refine okZ2 (b:=b_Xl) T.H_Xl.F jra λcdv A outer s H E hr=> ?_
 have hu:=hr.units
 refine⟨_,(ja4 (jb0 (i:=3) jra.nd rfl (by trivial) (jbo (jin) (by rfl) T.b_int ju0 (ja0 (jcl (sl_K (K:=K) rfl) (ixq P w K hu (pv 1) ja8) (jcq ja8) jcy) ja5)))
   (ja4 (jb0 (i:=4) jra.nd rfl (by trivial) (pe_g (gOf T.H_Q7 (ok_Q7 T)) (hm hr) jak (ja0 (pv 2) (ja0 (pv 3) ja5))))
   (ja4 (jb9 (jar (jbp hu) (jbn (jbu (P:=P) (w:=w) (K:=K) rfl rfl rfl) (by rfl) T.b_len jdq (ja0 (pv 1) ja5)) ja8 (jb1 _)) (ja6 (jag (pe_g (gOf T.H_Qp (ok_Qp T)) (hm hr) jak (ja0 (pv 0) (ja0 (pv 4) ja5))))) jal)
   (ja4 (jb0 (i:=5) jra.nd rfl (by trivial) (pe_g (gOf T.H_Q6 (ok_Q6 T)) (hm hr) jak (ja0 (pv 1) ja5)))
   (ja4 (jb9 (PW.pt (jla (jar (jrh) (pv 5) ja8 (jb1 _)) (ji3 (jd9 (jb2 (K:=K) rfl (pe_g (gOf T.H_Xe (jha T)) (hm hr) jak (ja0 (mdq P w K mg base 10 (jc9 (pv 0) (hm hr) jak (ja0 (jat (jbc (K:=K) rfl) jaf (jbo (jck) (by rfl) T.b_str jed (ja0 (pv 5) ja5))) ja5))) (ja0 jaf ja5))) (λ_=>rfl)))))) (ja6 (jag jf2)) jal)
   (ja4 (jb9 (PW.pt (jla (jar (jrh) (pv 5) ja8 (jb1 _)) (ji3 (jd9 (jb2 (K:=K) rfl (pe_g (gOf T.H_Xe (jha T)) (hm hr) jak (ja0 (mdq P w K mg base 10 (jc9 (pv 0) (hm hr) jak (ja0 jaf ja5))) (ja0 (jbo (jck) (by rfl) T.b_str jed (ja0 (pv 5) ja5)) ja5))) (λ_=>rfl)))))) (ja6 (jag jf2)) jal)
   (ja4 (jdj (je2 (K:=K) rfl (jgf PySem.F.plainAttrs_list PySem.F.slot_list_append PySem.F.type_list_append jew (pv 1) (ja0 (pv 4) ja5))))
   (ja6 (jag (joy (pe_g (gOf T.H_Xe (jha T)) (hm hr) jak (ja0 (mdq P w K mg base 10 (jc9 (pv 0) (hm hr) jak (ja0 (pv 4) ja5))) (ja0 jaf ja5))) (jo9 (pe_g (gOf T.H_Xe (jha T)) (hm hr) jak (ja0 (mdq P w K mg base 10 (jc9 (pv 0) (hm hr) jak (ja0 jaf ja5))) (ja0 jaf ja5)))))))))))))),?_⟩
 exact(jaa (jaz (s_cb jtu (ja2 (s_sl (s_ix ja1 jae) (jf7 jae) jfv) ja9)) jac)
   (jaa (jaz (jan (ja2 ja1 (ja2 ja1 ja9))) jac)
   (jaa (jb7 (jao (s_op jcr (s_cb jdr (ja2 ja1 ja9)) jae)) (jah (jan (ja2 ja1 (ja2 ja1 ja9)))) jam)
   (jaa (jaz (jan (ja2 ja1 ja9)) jac)
   (jaa (jb7 (jlr (jao (s_op jss ja1 jae)) (jda (jbq (jan (ja2 (jay (jeb T) ja1 (ja2 (s_op jc4 jas (s_cb jf3 (ja2 ja1 ja9))) ja9)) (ja2 jas ja9)))))) (jah s_bl) jam)
   (jaa (jb7 (jlr (jao (s_op jss ja1 jae)) (jda (jbq (jan (ja2 (jay (jeb T) ja1 (ja2 jas ja9)) (ja2 (s_cb jf3 (ja2 ja1 ja9)) ja9)))))) (jah s_bl) jam)
   (jaa (jgd ja1 ja1)
   (jah (jq5 (jan (ja2 (jay (jeb T) ja1 (ja2 ja1 ja9)) (ja2 jas ja9))) (jan (ja2 (jay (jeb T) ja1 (ja2 jas ja9)) (ja2 jas ja9))))))))))))
theorem ok_Xi:FnOk P w K mg base (CXE P w) 13 T.f_Xi T.fd_Xi ["desk","rows","cell"] (spZ (ct T) z_Xi):=by
 refine okZ2 (b:=b_Xi) T.H_Xi.F sc_Xi λcdv A outer s H E hr=> ?_
 have hu:=hr.units
 refine⟨_,(ja4 (jb0 (i:=3) sc_Xi.nd rfl (by trivial) (jat jd1 (pv 2) ja8))
   (ja4 (jb9 (jar (jbp hu) (pv 3) ja8 (jb1 _)) (ja4 (jdj (joo (K:=K) rfl (jup PySem.F.plainAttrs_list PySem.F.slot_list_clear PySem.F.type_list_clear jso (pv 1))))
   (ja4 (jdj (je2 (K:=K) rfl (jgf PySem.F.plainAttrs_list PySem.F.slot_list_append PySem.F.type_list_append jew (pv 1) (ja0 (jat (jbc (K:=K) rfl) jaf (jbo (jck) (by rfl) T.b_str jed (ja0 (jat (jbc (K:=K) rfl) ja8 (jat jd1 (jat jem (pv 2) ja8) ja8)) ja5))) ja5))))
   (ja6 (jag (joy (pe_g (gOf T.H_Xe (jha T)) (hm hr) jak (ja0 (mdq P w K mg base 10 (jc9 (pv 0) (hm hr) jak (ja0 (ixq P w K hu (pv 1) ja8) ja5))) (ja0 jaf ja5))) (jo9 (pe_g (gOf T.H_Xe (jha T)) (hm hr) jak (ja0 (mdq P w K mg base 10 (jc9 (pv 0) (hm hr) jak (ja0 jaf ja5))) (ja0 (ixq P w K hu (pv 1) ja8) ja5))))))))) jal)
   (ja4 (jb9 (jar (op_gt) (pv 3) ja8 (jb1 _)) (ja6 (jag (pe_g (gOf T.H_Xe (jha T)) (hm hr) jak (ja0 (mdq P w K mg base 10 (jc9 (pv 0) (hm hr) jak (ja0 jaf ja5))) (ja0 (je2 (K:=K) rfl (jgf PySem.F.plainAttrs_str PySem.F.slot_str_join PySem.F.type_str_join (jep (K:=K) rfl) jaf (ja0 (pv 1) ja5))) ja5))))) jal)
   (ja6 (jag (pe_g (gOf T.H_Xl (ok_Xl T)) (hm hr) jak (ja0 (pv 0) (ja0 (pv 1) (ja0 (jat jem (pv 2) ja8) ja5))))))))),?_⟩
 exact(jaa (jaz (s_op jd6 ja1 jae) jac)
   (jaa (jb7 (jao (s_op jcr ja1 jae)) (jaa (js6 ja1)
   (jaa (jgd ja1 (s_op jc4 jas (s_cb jf3 (ja2 (s_op jc4 jae (s_op jd6 (s_op jgq ja1 jae) jae)) ja9))))
   (jah (jq5 (jan (ja2 (jay (jeb T) ja1 (ja2 (s_ix ja1 jae) ja9)) (ja2 jas ja9))) (jan (ja2 (jay (jeb T) ja1 (ja2 jas ja9)) (ja2 (s_ix ja1 jae) ja9))))))) jam)
   (jaa (jb7 (jao (s_op s2_gt ja1 jae)) (jah (jan (ja2 (jay (jeb T) ja1 (ja2 jas ja9)) (ja2 (s_sm jh0 jas (ja2 ja1 ja9)) ja9)))) jam)
   (jah (jan (ja2 ja1 (ja2 ja1 (ja2 (s_op jgq ja1 jae) ja9))))))))
theorem ok_Ye:FnOk P w K mg base (CXE P w) 5 T.f_Ye T.fd_Ye ["text"] (spZ (ct T) z_Ye):=by
 refine okZ2 (b:=b_Ye) T.H_Ye.F jp4 λcdv A outer s H E hr=> ?_
 have hu:=hr.units
 refine⟨_,(ja4 (jb0 (i:=1) jp4.nd rfl (by trivial) (je2 (K:=K) rfl (jgf PySem.F.plainAttrs_str PySem.F.slot_str_split PySem.F.type_str_split jic (pv 0) (ja0 jaf ja5))))
   (ja4 (jb0 (i:=2) jp4.nd rfl (by trivial) (pe_g (gOf T.H_Xp (ok_Xp T)) (hm hr) jak (ja0 (ixq P w K hu (pv 1) ja8) ja5)))
   (ja4 (jb0 (i:=3) jp4.nd rfl (by trivial) (je7 ja5))
   (ja4 (jea ownE rfl (pi_K (K:=K) rfl (jcl (sl_K (K:=K) rfl) (pv 1) (jcq ja8) jcy)) (jbd (i:=4) jp4.nd rfl (by trivial)) (ja6 (jdj (je2 (K:=K) rfl (jgf PySem.F.plainAttrs_list PySem.F.slot_list_append PySem.F.type_list_append jew (pv 3) (ja0 (pe_g (gOf T.H_Xg (ok_Xg T)) (hm hr) jak (ja0 (pv 4) (ja0 (pv 2) (ja0 (jbn (jbu (P:=P) (w:=w) (K:=K) rfl rfl rfl) (by rfl) T.b_len jdq (ja0 (pv 3) ja5)) ja5)))) ja5))))))
   (ja6 (jag (jhk (ja0 (pv 2) (ja0 (pv 3) ja5))))))))),?_⟩
 exact(jaa (jaz (jby (jka ja1 (ja2 jas ja9))) jac)
   (jaa (jaz (jan (ja2 (s_ix ja1 jae) ja9)) jac)
   (jaa (jaz (ju2 (je8 ja9)) jac)
   (jaa (jf1 (si_V (s_sl ja1 (jf7 jae) jfv)) jac (jgd ja1 (jan (ja2 ja1 (ja2 ja1 (ja2 (s_cb jdr (ja2 ja1 ja9)) ja9))))))
   (jqb (i:=3) (jah (jni (ja2 ja1 (ja2 ja1 ja9)))))))))
theorem ok_Xd:FnOk P w K mg base (CXE P w) 1 T.f_Xd T.fd_Xd ["script","k"] (spZ (ct T) z_Xd):=by
 refine okZ2 (b:=b_Xd) T.H_Xd.F jp0 λcdv A outer s H E hr=> ?_
 have hu:=hr.units
 refine⟨_,(ja4 (jb0 (i:=2) jp0.nd rfl (by trivial) (jat (jbc (K:=K) rfl) ja8 (jat jem (jbn (jbu (P:=P) (w:=w) (K:=K) rfl rfl rfl) (by rfl) T.b_len jdq (ja0 (pv 0) ja5)) ja8)))
   (ja4 (jb0 (i:=3) jp0.nd rfl (by trivial) (jat (jbc (K:=K) rfl) (jat jgx ja8 (pv 1)) ja8))
   (ja4 (jea ownE rfl (pi_K (K:=K) rfl (jmu (K:=K) rfl (pv 0) (jcq (jat jd1 (pv 1) (pv 2))) jcy (jcq (pv 2)))) (jbd (i:=4) jp0.nd rfl (by trivial)) (ja6 (jb0 (i:=3) jp0.nd rfl (by trivial) (jat jd1 (jat (jbc (K:=K) rfl) (jat jgx (pv 3) (jat (jbc (K:=K) rfl) (jat jgx ja8 (pv 1)) ja8)) (pv 4)) ja8))))
   (ja6 (jag (jat jd1 (jat jgx (pv 3) (jat (jbc (K:=K) rfl) (jat (jbc (K:=K) rfl) (jat jd1 (jat jem (pv 3) ja8) ja8) (jat jgx ja8 (pv 1))) ja8)) ja8)))))),?_⟩
 exact(jaa (jaz (s_op jc4 jae (s_op jgq (s_cb jdr (ja2 ja1 ja9)) jae)) jac)
   (jaa (jaz (s_op jc4 (s_op jjb jae ja1) jae) jac)
   (jaa (jf1 (si_V (s_slX ja1 (jf7 (s_op jd6 ja1 ja1)) jfv (jf7 ja1))) jac (jaz (s_op jd6 (s_op jc4 (s_op jjb ja1 (s_op jc4 (s_op jjb jae ja1) jae)) ja1) jae) jac))
   (jah (s_op jd6 (s_op jjb ja1 (s_op jc4 (s_op jc4 (s_op jd6 (s_op jgq ja1 jae) jae) (s_op jjb jae ja1)) jae)) jae)))))
theorem ok_Qk:FnOk P w K mg base (CXE P w) 1 T.f_Qk T.fd_Qk ["self"] (spZ (ct T) z_Qk):=by
 refine okZ2 (b:=b_Qk) T.H_Qk.F sc_Qk λcdv A outer s H E hr=> ?_
 have hu:=hr.units
 refine⟨_,(ja4 (jbv (K:=K) rfl (jcp (pv 0) jm1 rfl))
   (ja6 (jbv (K:=K) rfl (jcp (pv 0) jm1 rfl)))),?_⟩
 exact(jaa (jcn (jca T) ja1 jrz)
   (jcn (jcg T) ja1 jrz))
theorem ok_law:FnOk P w K mg base (CXE P w) 14 T.f_law T.fd_law ["script"] (spZ (ct T) jx6):=by
 refine okZ2 (b:=jp8) T.H_law.F jgi λcdv A outer s H E hr=> ?_
 have hu:=hr.units
 refine⟨_,(ja4 (jb0 (i:=1) jgi.nd rfl (by trivial) (je7 (ja0 (jte (mOf T.C_Yc T.mt_Qk T.H_Qk (ok_Qk T)) (hm hr) jak) (ja0 (jte (mOf T.C_Yc T.mt_Qk T.H_Qk (ok_Qk T)) (hm hr) jak) ja5))))
   (ja4 (jm5 (i:=2) jgi.nd rfl (by trivial) (CompOk.mk (tgs:=["k"]) (cap:=["script"]) (idx:=[0]) rfl rfl (by decide+kernel) (by decide+kernel) (List.forall_mem_cons.mpr ⟨rfl,(List.forall_mem_nil _)⟩) rfl (.cons rfl (by trivial) (by trivial) rfl rfl .nil)) rfl (jeq rfl T.b_range (ja0 ja8 ja5)) (jct (by decide)) (λ_ _ _ _=>(jbd (i:=0) (show List.Nodup (α:=PySem.Str) ["k","script"] by decide+kernel) rfl (by trivial))) (λ_ _ _ _=>jes) (λ_ _ _ _=>(je7 (ja0 (jat (jbc (K:=K) rfl) jaf (jbo (jck) (by rfl) T.b_str jed (ja0 (jat (jbc (K:=K) rfl) ja8 (jat jd1 (pe_g (gOf T.H_Xd (ok_Xd T)) (hm hr) jgm (ja0 (pv 1) (ja0 (pv 0) ja5))) ja8)) ja5))) ja5))))
   (ja4 (jea ownE rfl (jeq rfl T.b_range (ja0 ja8 ja5)) (jbd (i:=3) jgi.nd rfl (by trivial)) (ja6 (jb9 (PW.pt (jru (jd9 (jb2 (K:=K) rfl (pe_g (gOf T.H_Qp (ok_Qp T)) (hm hr) jak (ja0 (ixq P w K hu (pv 1) (pv 3)) (ja0 jaf ja5))) (λ_=>rfl))) (jm4 (jd9 (jb2 (K:=K) rfl (pe_g (gOf T.H_Xe (jha T)) (hm hr) jak (ja0 (mdq P w K mg base 10 (jc9 (ixq P w K hu (pv 1) (pv 3)) (hm hr) jak (ja0 (ixq P w K hu (ixq P w K hu (pv 2) (pv 3)) ja8) ja5))) (ja0 jaf ja5))) (λ_=>rfl)))))) (ja6 (jag jf2)) jal)))
   (ja4 (jea ownE rfl (pi_K (K:=K) rfl (jcl (sl_K (K:=K) rfl) (pv 0) jcy (jcq ja8))) (jbd (i:=4) jgi.nd rfl (by trivial)) (ja6 (jb9 (jd9 (jb2 (K:=K) rfl (pe_g (gOf T.H_Xi (ok_Xi T)) (hm hr) jak (ja0 (ixq P w K hu (pv 1) (jat jd1 (pv 4) ja8)) (ja0 (ixq P w K hu (pv 2) (jat jd1 (pv 4) ja8)) (ja0 (jat jem (pv 4) ja8) ja5)))) (λ_=>rfl))) (ja6 (jag jf2)) jal)))
   (ja4 (jea ownE rfl (jeq rfl T.b_range (ja0 ja8 ja5)) (jbd (i:=3) jgi.nd rfl (by trivial)) (ja4 (jb0 (i:=5) jgi.nd rfl (by trivial) (je2 (K:=K) rfl (jgf PySem.F.plainAttrs_str PySem.F.slot_str_join PySem.F.type_str_join (jep (K:=K) rfl) jaf (ja0 (ixq P w K hu (pv 2) (pv 3)) ja5))))
   (ja6 (jb9 (PW.pt (jru (jd9 (jb2 (K:=K) rfl (pe_g (gOf T.H_Xe (jha T)) (hm hr) jak (ja0 (mdq P w K mg base 10 (jc9 (ixq P w K hu (pv 1) (pv 3)) (hm hr) jak (ja0 jaf ja5))) (ja0 (pv 5) ja5))) (λ_=>rfl))) (jm4 (jd9 (jb2 (K:=K) rfl (pe_g (gOf T.H_Xe (jha T)) (hm hr) jak (ja0 (pe_g (gOf T.H_Y9 (ok_Y9 T)) (hm hr) jak (ja0 (pe_g (gOf T.H_Ye (ok_Ye T)) (hm hr) jak (ja0 (pv 5) ja5)) ja5)) (ja0 (pv 5) ja5))) (λ_=>rfl)))))) (ja6 (jag jf2)) jal))))
   (ja6 (jag jf2))))))),?_⟩
 exact(jaa (jaz (jby (je8 (ja2 (jkj (jhc T) ja9) (ja2 (jkj (jhc T) ja9) ja9)))) jac)
   (jaa (juk (jby (je0 (jij (ja2 jae ja9)) jac ji5 (ju2 (je8 (ja2 (s_op jc4 jas (s_cb jf3 (ja2 (s_op jc4 jae (s_op jd6 (jan (ja2 ja1 (ja2 ja1 ja9))) jae)) ja9))) ja9))))))
   (jaa (jf1 (jij (ja2 jae ja9)) jac (jb7 (jt4 (jda (jbq (jan (ja2 (s_ix ja1 ja1) (ja2 jas ja9))))) (jda (jbq (jan (ja2 (jay (jeb T) (s_ix ja1 ja1) (ja2 (s_ix (s_ix ja1 ja1) jae) ja9)) (ja2 jas ja9)))))) (jah s_bl) jam))
   (jaa (jf1 (si_V (s_sl ja1 jfv (jf7 jae))) jac (jb7 (jda (jbq (jan (ja2 (s_ix ja1 (s_op jd6 ja1 jae)) (ja2 (s_ix ja1 (s_op jd6 ja1 jae)) (ja2 (s_op jgq ja1 jae) ja9)))))) (jah s_bl) jam))
   (jaa (jf1 (jij (ja2 jae ja9)) jac (jaa (jaz (s_sm jh0 jas (ja2 (s_ix ja1 ja1) ja9)) jac)
   (jb7 (jt4 (jda (jbq (jan (ja2 (jay (jeb T) (s_ix ja1 ja1) (ja2 jas ja9)) (ja2 ja1 ja9))))) (jda (jbq (jan (ja2 (jan (ja2 (jan (ja2 ja1 ja9)) ja9)) (ja2 ja1 ja9)))))) (jah s_bl) jam)))
   (jah s_bl))))))
end
end My
local macro_rules | `(tactic| k_head) => do
 let hw:=Lean.mkIdent `hw
 let hc:=Lean.mkIdent `hc
 `(tactic| refine PySem.W.holds_open (q:=My.vw) (loose:=[(PySem.Str.ofString "NUMBERS_BEHIND")]) (Xt:=(λs=>PySem.W.xlAt My.vw [] s&&PySem.W.recOk (PySem.Challenge.rw_earthward_k37_rows_make_a_yard).row.records s)) (XP:=PySem.W.XL My.vw []) (Yf:=PySem.W.Hook.obs (PySem.W.kHook My.pre.heap_39 My.wAl My.wHk)) (Ya:=PySem.W.Hook.val (PySem.W.kHook My.pre.heap_39 My.wAl My.wHk)) (YP:=PySem.W.Hook.says (PySem.W.kHook My.pre.heap_39 My.wAl My.wHk)) (N:=9417) My.left (PySem.W.Hook.of (PySem.W.kHook My.pre.heap_39 My.wAl My.wHk)) (PySem.W.Hook.keeps (PySem.W.kHook My.pre.heap_39 My.wAl My.wHk)) (λs e=>PySem.W.xl_of s (Bool.and_eq_true_iff.mp e).1) PySem.W.XL.keeps (by rfl) (by rfl) (by rfl) (λs e=>PySem.W.recFacts_of (Bool.and_eq_true_iff.mp e).2) (by rfl) (by first | assumption | decide+kernel) (by decide+kernel) ⟨rfl,rfl,rfl,rfl,rfl,by decide+kernel⟩ ?$hw ?$hc)
set_option maxRecDepth 100000 in
set_option maxHeartbeats 0 in
theorem PySem.Challenge.cw_earthward_k37_rows_make_a_yard_holds : PySem.Challenge.rw_earthward_k37_rows_make_a_yard.Holds := by
 w_on;o_law;k_head;(case hw=>w_witness2)
 k_fill
 refine L2.walk_ofE (l:=PySem.Challenge.rw_earthward_k37_rows_make_a_yard) (n:=63) (k:=14) (x:="script") (CX:=λw=>L2.CXE (PySem.Challenge.rw_earthward_k37_rows_make_a_yard).prog w) (sp:=L2.spL) rfl (by decide) rfl ⟨rfl,by decide,by decide⟩ (λw h Y=>PySem.W.kIn_of Y) ?F ?S ?C
 case F=>
  intro w mg fa h KX G hmg
  have T:Nonempty (My.Txt (PySem.Challenge.rw_earthward_k37_rows_make_a_yard).prog w (L2.KOf KX) mg):=by
   dsimp only[L2.KOf]
   open L2 in refine' ⟨⟨_,clm KX G ?_ ?_ ?_ ?_ ?_ ?_ ?_,_,_,⟨?_,?_,?_⟩,fnm ?_ ?_ ?_,_,_,⟨?_,?_,?_⟩,fnm ?_ ?_ ?_,_,_,⟨?_,?_,?_⟩,fnm ?_ ?_ ?_,_,_,⟨?_,?_,?_⟩,fnm ?_ ?_ ?_,_,clm KX G ?_ ?_ ?_ ?_ ?_ ?_ ?_,_,_,⟨?_,?_,?_⟩,fnm ?_ ?_ ?_,_,_,⟨?_,?_,?_⟩,fnm ?_ ?_ ?_,⟨?_,?_,?_⟩,⟨?_,?_,?_⟩,⟨?_,?_,?_⟩,naOf ?_,_,clm KX G ?_ ?_ ?_ ?_ ?_ ?_ ?_,_,_,⟨?_,?_,?_⟩,fnm ?_ ?_ ?_,_,_,⟨?_,?_,?_⟩,fnm ?_ ?_ ?_,⟨?_,?_,?_⟩,⟨?_,?_,?_⟩,⟨?_,?_,?_⟩,naOf ?_,_,clm KX G ?_ ?_ ?_ ?_ ?_ ?_ ?_,_,_,⟨?_,?_,?_⟩,fnm ?_ ?_ ?_,_,_,⟨?_,?_,?_⟩,fnm ?_ ?_ ?_,⟨?_,?_,?_⟩,⟨?_,?_,?_⟩,⟨?_,?_,?_⟩,naOf ?_,naOf ?_,_,clm KX G ?_ ?_ ?_ ?_ ?_ ?_ ?_,_,_,⟨?_,?_,?_⟩,fnm ?_ ?_ ?_,_,_,⟨?_,?_,?_⟩,fnm ?_ ?_ ?_,_,_,⟨?_,?_,?_⟩,fnm ?_ ?_ ?_,⟨?_,?_,?_⟩,⟨?_,?_,?_⟩,naOf ?_,naOf ?_,_,clm KX G ?_ ?_ ?_ ?_ ?_ ?_ ?_,_,_,⟨?_,?_,?_⟩,fnm ?_ ?_ ?_,_,_,⟨?_,?_,?_⟩,fnm ?_ ?_ ?_,_,_,⟨?_,?_,?_⟩,fnm ?_ ?_ ?_,_,_,⟨?_,?_,?_⟩,fnm ?_ ?_ ?_,_,_,⟨?_,?_,?_⟩,fnm ?_ ?_ ?_,_,_,⟨?_,?_,?_⟩,fnm ?_ ?_ ?_,_,_,⟨?_,?_,?_⟩,fnm ?_ ?_ ?_,naOf ?_,_,clm KX G ?_ ?_ ?_ ?_ ?_ ?_ ?_,naOf ?_,naOf ?_,naOf ?_,naOf ?_,naOf ?_,naOf ?_,naOf ?_,_,clm KX G ?_ ?_ ?_ ?_ ?_ ?_ ?_,_,_,⟨?_,?_,?_⟩,fnm ?_ ?_ ?_,_,_,⟨?_,?_,?_⟩,fnm ?_ ?_ ?_,_,_,⟨?_,?_,?_⟩,fnm ?_ ?_ ?_,_,_,⟨?_,?_,?_⟩,fnm ?_ ?_ ?_,_,_,⟨?_,?_,?_⟩,fnm ?_ ?_ ?_,_,_,⟨?_,?_,?_⟩,fnm ?_ ?_ ?_,_,_,⟨?_,?_,?_⟩,fnm ?_ ?_ ?_,_,_,⟨?_,?_,?_⟩,fnm ?_ ?_ ?_,_,_,⟨?_,?_,?_⟩,fnm ?_ ?_ ?_,naOf ?_,naOf ?_,naOf ?_,naOf ?_,naOf ?_,naOf ?_,_,clm KX G ?_ ?_ ?_ ?_ ?_ ?_ ?_,_,_,⟨?_,?_,?_⟩,fnm ?_ ?_ ?_,_,_,⟨?_,?_,?_⟩,fnm ?_ ?_ ?_,_,_,⟨?_,?_,?_⟩,fnm ?_ ?_ ?_,_,_,⟨?_,?_,?_⟩,fnm ?_ ?_ ?_,_,_,⟨?_,?_,?_⟩,fnm ?_ ?_ ?_,_,_,⟨?_,?_,?_⟩,fnm ?_ ?_ ?_,_,_,⟨?_,?_,?_⟩,fnm ?_ ?_ ?_,naOf ?_,naOf ?_,140,?_,?_,PySem.W.mg_of KX G ?_,104,?_,?_,PySem.W.mg_of KX G ?_,128,?_,?_,PySem.W.mg_of KX G ?_,68,?_,?_,PySem.W.mg_of KX G ?_,152,?_,?_,PySem.W.mg_of KX G ?_,56,?_,?_,PySem.W.mg_of KX G ?_,212,?_,?_,PySem.W.mg_of KX G ?_,_,?_,?_,PySem.W.mg_of KX G ?_,92,?_,?_,PySem.W.mg_of KX G ?_,200,?_,?_,PySem.W.mg_of KX G ?_,188,?_,?_,PySem.W.mg_of KX G ?_,176,?_,?_,PySem.W.mg_of KX G ?_,164,?_,?_,PySem.W.mg_of KX G ?_,80,?_,?_,PySem.W.mg_of KX G ?_,116,?_,?_,PySem.W.mg_of KX G ?_,31,?_,?_,PySem.W.mg_of KX G ?_,_,_,fnt KX G ?_ (fnm ?_ ?_ ?_),_,_,fnt KX G ?_ (fnm ?_ ?_ ?_),_,_,fnt KX G ?_ (fnm ?_ ?_ ?_),_,_,fnt KX G ?_ (fnm ?_ ?_ ?_),_,_,fnt KX G ?_ (fnm ?_ ?_ ?_),_,_,fnt KX G ?_ (fnm ?_ ?_ ?_),_,_,fnt KX G ?_ (fnm ?_ ?_ ?_),_,_,fnt KX G ?_ (fnm ?_ ?_ ?_),_,_,fnt KX G ?_ (fnm ?_ ?_ ?_),_,_,fnt KX G ?_ (fnm ?_ ?_ ?_),_,_,fnt KX G ?_ (fnm ?_ ?_ ?_),_,_,fnt KX G ?_ (fnm ?_ ?_ ?_),_,_,fnt KX G ?_ (fnm ?_ ?_ ?_),_,_,fnt KX G ?_ (fnm ?_ ?_ ?_),_,_,fnt KX G ?_ (fnm ?_ ?_ ?_),_,_,fnt KX G ?_ (fnm ?_ ?_ ?_),_,_,fnt KX G ?_ (fnm ?_ ?_ ?_),_,_,fnt KX G ?_ (fnm ?_ ?_ ?_),_,_,fnt KX G ?_ (fnm ?_ ?_ ?_),_,_,fnt KX G ?_ (fnm ?_ ?_ ?_),_,_,fnt KX G ?_ (fnm ?_ ?_ ?_),_,_,fnt KX G ?_ (fnm ?_ ?_ ?_),_,_,fnt KX G ?_ (fnm ?_ ?_ ?_),_,_,fnt KX G ?_ (fnm ?_ ?_ ?_),_,_,fnt KX G ?_ (fnm ?_ ?_ ?_),_,_,fnt KX G ?_ (fnm ?_ ?_ ?_),_,_,fnt KX G ?_ (fnm ?_ ?_ ?_),_,_,fnt KX G ?_ (fnm ?_ ?_ ?_),_,_,fnt KX G ?_ (fnm ?_ ?_ ?_),_,_,fnt KX G ?_ (fnm ?_ ?_ ?_),_,_,fnt KX G ?_ (fnm ?_ ?_ ?_),PySem.W.mg_none_of KX G ?_,PySem.W.mg_none_of KX G ?_,PySem.W.mg_none_of KX G ?_,PySem.W.mg_none_of KX G ?_,PySem.W.mg_none_of KX G ?_,PySem.W.mg_none_of KX G ?_,PySem.W.mg_none_of KX G ?_,PySem.W.mg_none_of KX G ?_,PySem.W.mg_none_of KX G ?_,PySem.W.mg_none_of KX G ?_,PySem.W.mg_none_of KX G ?_,PySem.W.mg_none_of KX G ?_,PySem.W.mg_none_of KX G ?_,PySem.W.mg_none_of KX G ?_,PySem.W.mg_none_of KX G ?_,PySem.W.mg_none_of KX G ?_,PySem.W.mg_none_of KX G ?_,_,⟨_,PySem.W.mg_of KX G ?_,rfl⟩,⟨_,PySem.W.mg_of KX G ?_,_,rfl⟩,⟨_,PySem.W.mg_of KX G ?_,_,rfl⟩,⟨_,PySem.W.mg_of KX G ?_,_,rfl⟩,⟨_,PySem.W.mg_of KX G ?_,_,rfl⟩,⟨?_,?_,?_⟩,?_,?_,?_,?_,?_,?_,?_,?_,?_,?_,?_,?_,?_,?_,?_,kdict_of ?_ ?_ ?_ ?_ (by decide+kernel),?_⟩⟩
   all_goals try first | (k_is;done) | (k_exc;done) | (rfl;done) | (k_keys;done) | ((repeat (first | exact True.intro | refine And.intro ⟨_,_,rfl,rfl⟩ (And.intro ⟨_,rfl⟩ ?_)));done) | (intro s u;exact .of_eq rfl;done)
  obtain⟨T⟩:=T
  have e0:=hmg.symm.trans T.H_law.m
  cases e0
  exact⟨_,T.Bl,λbase kb nb=>L2.law_ok (C:=My.ct T) (My.ok_law T) My.law_true⟩
 case S=>exact L2.spL_of
 case C=>exact λ_ _ _ _ _ z=>L2.cxe_out z
#print axioms PySem.Challenge.cw_earthward_k37_rows_make_a_yard_holds
