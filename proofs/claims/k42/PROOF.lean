import PyProof.Rows.All
import Wide.All
import OpenK.AllK
import Wide.FinOn
import Lean
import PyProof.EqAt
import PyProof.EqKinds
import PyProof.TupleCall
import PyProof.StrBlockL
import PyProof.Lay0
import KE.IntText
import PyProof.SliceList
import PyProof.StrLawsReplace
import PyProof.StrLawsIn
import KE.IntTextLaws
import KE.KIntText
import KE.KPairComp
import PyProof.Rows.StrMul
import PyProof.Rows.BitMore
import PyProof.ZipIter
import PySem.Challenge.RW_earthward_k42_whole_never_live_and_earth
set_option Elab.async false
set_option linter.all false
set_option maxRecDepth 100000
noncomputable section
set_option genSizeOf false
set_option maxHeartbeats 4000000
section
local macro_rules | `(tactic| o_head $H) => `(tactic| exact False.elim (by assumption))
set_option maxHeartbeats 0 in
theorem My.pre(hF:False):PySem.Challenge.rw_earthward_k42_whole_never_live_and_earth.Holds:=by
 w_on;o_law;k_head
end
namespace My
section
open PySem PySem.W
theorem left_split{p q:Program}{loose:List Str}{Xt:Shared->Bool}{α:Type}{Yf:Shared->α}{Ya:World->α}{N:Nat}{g0:Bool}(row:String)(e:opening p=plainProg p.main.scope.names)(hN:Nat.ble 600 N=true)(f:∀s,fenceModules? p s=some s)
  (h1:∀(w:World) (os:OsState),(topFrom treeTable p (w.withFollow row false) N ⟨boot_heap (w.withFollow row false).params,Array.mk [],boot_drawn,boot_toks,os⟩).map (λs=>(openSeen q loose (importedModules p.main.body) Xt g0 s,Yf s))=some (openGood q loose,Ya (w.withFollow row false)))
  (h2:∀(w:World) (os:OsState),(topFrom treeTable p (w.withFollow row true) N ⟨boot_heap (w.withFollow row true).params,Array.mk [],boot_drawn,boot_toks,os⟩).map (λs=>(openSeen q loose (importedModules p.main.body) Xt g0 s,Yf s))=some (openGood q loose,Ya (w.withFollow row true))):LeftO p q loose Xt Yf Ya N g0:=by
 refine LeftO.of_split row λw=> ?_
 obtain⟨⟨hh,gs,d,k,os⟩,e1,e2⟩:=Option.map_eq_some_iff.mp (boot_open e hN f w)
 simp only[Prod.mk.injEq] at e2
 obtain⟨rfl,rfl,rfl,rfl⟩:=e2
 rw[e1]
 exact congrArg some (Prod.ext (h1 w os) (h2 w os))
abbrev RunA{β:Type}(p:Program)(w:World)(m₀:Nat)(ann:Option Value)(env:Env)(qp pb pf:Pos)(n3 n4:Nat)(Sb:SharedT)(l:List Stmt)(F:Shared->β)(v:β):Prop:=
  (segRunT treeTable p w m₀ ann 1 n3 Sb (piecesOf l env (.body (behindTheImports p) env) pb [topFrame qp])).bind (λr=>(topRun treeTable p w m₀ ann n4 r.2.1.abs ⟨doneF .next,.body (behindTheImports p) env,pf,[topFrame qp]⟩).bind λs₁=>some ((r.1,r.2.2.1,r.2.2.2),F s₁))=some ((.next,.body (behindTheImports p) env,pf),v)
abbrev chkA(p:Program)(w:World){α:Type}(Yf:Shared->α)(s₁:Shared):Bool×α:=(staticsOk (importedModules p.main.body) (boot_heap w.params) s₁.heap&&namesBound p s₁.heap&&gensDone s₁&&laidKept (boot_heap w.params) s₁.heap,Yf s₁)
def Ends(p q:Program)(loose:List Str)(Xt:Shared->Bool){α:Type}(Yf:Shared->α)(Ya:World->α)(g0:Bool)(w:World)(m₀:Nat)(ann:Option Value)(env:Env)(qp pb:Pos)(n:Nat)(Sb:SharedT)(l:List Stmt):Prop:=
  ∃s₁,topRun treeTable p w m₀ ann n Sb.abs (restOf l env (.body (behindTheImports p) env) pb [topFrame qp])=some s₁ /\ (staticsOk (importedModules p.main.body) (boot_heap w.params) s₁.heap&&namesBound p s₁.heap&&gensDone s₁&&laidKept (boot_heap w.params) s₁.heap)=true /\ openSeen q loose (importedModules p.main.body) Xt g0 s₁=openGood q loose /\ Yf s₁=Ya w
section
variable {p q : Program} {loose : List Str} {Xt : Shared -> Bool} {α : Type} {Yf : Shared -> α} {Ya : World -> α} {g0 : Bool} {w : World} {m₀ : Nat} {ann : Option Value} {env : Env} {qp pb : Pos} {Sb : SharedT} {l : List Stmt}
theorem ends_two{pf:Pos}{n3 n4:Nat}(r1:RunA p w m₀ ann env qp pb pf n3 n4 Sb l (chkA p w Yf) (true,Ya w))(r2:RunA p w m₀ ann env qp pb pf n3 n4 Sb l (λs=>(openSeen q loose (importedModules p.main.body) Xt g0 s).1) (openGood q loose).1)(r5:RunA p w m₀ ann env qp pb pf n3 n4 Sb l (λs=>(openSeen q loose (importedModules p.main.body) Xt g0 s).2.1) (openGood q loose).2.1)(r4:RunA p w m₀ ann env qp pb pf n3 n4 Sb l (λs=>(openSeen q loose (importedModules p.main.body) Xt g0 s).2.2.1) (openGood q loose).2.2.1)(r3:RunA p w m₀ ann env qp pb pf n3 n4 Sb l (λs=>(openSeen q loose (importedModules p.main.body) Xt g0 s).2.2.2) (openGood q loose).2.2.2):Ends p q loose Xt Yf Ya g0 w m₀ ann env qp pb (n3+n4) Sb l:=by
 obtain⟨⟨f,s2,c2,p2⟩,hr,h⟩:=Option.bind_eq_some_iff.mp r1
 obtain⟨s₁,hs,h⟩:=Option.bind_eq_some_iff.mp h
 simp only[Option.some.injEq,Prod.mk.injEq] at h
 obtain⟨⟨rfl,rfl,rfl⟩,l1,l3⟩:=h
 obtain⟨r',hr',h'⟩:=Option.bind_eq_some_iff.mp r2
 rw[hr] at hr'
 cases hr'
 obtain⟨s₂,hs',h'⟩:=Option.bind_eq_some_iff.mp h'
 rw[hs] at hs'
 cases hs'
 obtain⟨r',hr',h3⟩:=Option.bind_eq_some_iff.mp r3
 rw[hr] at hr'
 cases hr'
 obtain⟨s₂,hs',h3⟩:=Option.bind_eq_some_iff.mp h3
 rw[hs] at hs'
 cases hs'
 obtain⟨r',hr',h4⟩:=Option.bind_eq_some_iff.mp r4
 rw[hr] at hr'
 cases hr'
 obtain⟨s₂,hs',h4⟩:=Option.bind_eq_some_iff.mp h4
 rw[hs] at hs'
 cases hs'
 obtain⟨r',hr',h5⟩:=Option.bind_eq_some_iff.mp r5
 rw[hr] at hr'
 cases hr'
 obtain⟨s₂,hs',h5⟩:=Option.bind_eq_some_iff.mp h5
 rw[hs] at hs'
 cases hs'
 simp only[Option.some.injEq,Prod.mk.injEq] at h' h3 h4 h5
 have k3:=piece_app (rest:=[]) (segRun_of hr) (piece_nil hs)
 rw[List.append_nil] at k3
 exact⟨s₁,k3,l1,Prod.ext h'.2 (Prod.ext h5.2 (Prod.ext h4.2 h3.2)),l3⟩
theorem ends_cut{pm:Pos}{na n j:Nat}{Sm:SharedT}(run:segRunT treeTable p w m₀ ann 1 na Sb (piecesOf (l.take j) env (.body (behindTheImports p) env) pb [topFrame qp])=some (.next,Sm,.body (behindTheImports p) env,pm))(h:Ends p q loose Xt Yf Ya g0 w m₀ ann env qp pm n Sm (l.drop j)):Ends p q loose Xt Yf Ya g0 w m₀ ann env qp pb (na+n) Sb l:=by
 obtain⟨s₁,k,r⟩:=h
 have:=piece_app (segRun_of run) k
 rw[List.take_append_drop] at this
 exact⟨s₁,this,r⟩
end
theorem top_tree{p q:Program}{loose:List Str}{Xt:Shared->Bool}{α:Type}{Yf:Shared->α}{Ya:World->α}{N:Nat}{g0:Bool}{w:World}{os:OsState}{m₀:Nat}{ann:Option Value}{env:Env}{qp pp pb:Pos}{n1 n2 n3:Nat}{Sa:Shared}{Sb:SharedT}
  (size:((boot_heap w.params).isNs mainGlobals&&(Array.mk []:Array GenState).size==0,(boot_heap w.params).objs.size,(boot_heap w.params).nsMap mainGlobals "__annotations__")=(true,m₀,ann))
  (pre:topGo treeTable p w m₀ ann n1 ⟨boot_heap w.params,Array.mk [],boot_drawn,boot_toks,os⟩ (topStub p)=some (Sa,⟨denote treeTable (.body (behindTheImports p) env),.body (behindTheImports p) env,pp,[topFrame qp]⟩))
  (block:segRun treeTable p w m₀ ann 1 n2 Sa (blockOf (behindTheImports p) env (.body (behindTheImports p) env) pp [topFrame qp])=some (.next,Sb.abs,.body (behindTheImports p) env,pb))
  (run:Ends p q loose Xt Yf Ya g0 w m₀ ann env qp pb n3 Sb (behindTheImports p))
  (le:Nat.ble (n1+(n2+n3)) N=true):
  (topFrom treeTable p w N ⟨boot_heap w.params,Array.mk [],boot_drawn,boot_toks,os⟩).map (λs=>(openSeen q loose (importedModules p.main.body) Xt g0 s,Yf s))=some (openGood q loose,Ya w):=by
 obtain⟨s₁,k3,l1,l2,l3⟩:=run
 have k1:=go_top pre (piece_block block k3)
 have r:=topRun_mono (N - (n1+(n2+n3))) _ _ _ _ k1
 rw[show n1+(n2+n3)+(N - (n1+(n2+n3)))=N by have:=Nat.le_of_ble_eq_true le;omega] at r
 obtain⟨z1,z2,z3⟩:_ /\ _ /\ _:=by simpa only[Prod.mk.injEq] using size
 have t:topFrom treeTable p w N ⟨boot_heap w.params,Array.mk [],boot_drawn,boot_toks,os⟩=some s₁:=by
  unfold topFrom
  dsimp only
  rw[z1,z2,z3,r]
  show(match staticsOk (importedModules p.main.body) (boot_heap w.params) s₁.heap&&namesBound p s₁.heap&&gensDone s₁&&laidKept (boot_heap w.params) s₁.heap with | true=>_ | false=>_)=_
  rw[l1]
 rw[t]
 exact congrArg some (Prod.ext l2 l3)
end
def o0:=PySem.W.boot_o_0
def o1:=PySem.W.boot_o_1
def o2:=PySem.W.boot_o_2
def o3:=PySem.W.boot_o_3
def o4:=PySem.W.boot_o_4
def o5:=PySem.W.boot_o_5
def o6:=PySem.W.boot_o_6
def o7:=PySem.W.boot_o_7
def o8:=PySem.W.boot_o_8
def o9:=PySem.W.boot_o_9
def o10:=PySem.W.boot_o_10
def o11(_:PySem.Params):PySem.Obj:= .mk (.type "tuple") none (.seq #[]) #[]
def o12(_:PySem.Params):PySem.Obj:= .mk .none none (.fields #[]) #[]
def o13(_:PySem.Params):PySem.Obj:= .mk (.type "code") none (.fields #[.str (PySem.Str.ofString "<module>") 182,.str (PySem.Str.ofString "<module>") 183,.str (PySem.Str.ofString "/claim/cut.py") 184,.int 1 0,.int 0 0,.int 0 0,.int 0 0,.int 0 0,.ref 11,.bool false,.int 181 0,.ref 12,.none,.none,.none,.none,.int 185 0,.int 1 0,.str (PySem.Str.ofString "/claim/cut.py") 186]) #[]
def o14(_:PySem.Params):PySem.Obj:= .mk (.type "frame") none .plain #[some (.ref 13),some (.ref 3),some (.ref 3),none,some (.str (PySem.Str.ofString "__main__") 164),none,some (.ref 0)]
def Sa(w:PySem.World)(os:PySem.OsState):PySem.Shared:=let P:=w.params;⟨⟨⟨[o0 P,o1 P,o2 P,o3 P,o4 P,o5 P,o6 P,o7 P,o8 P,o9 P,o10 P,o11 P,o12 P,o13 P,o14 P]⟩,{}⟩,Array.mk [],{},187,os⟩
def bt(P:PySem.Params):PySem.W.BT:=(.node (o0 P) (.node (o1 P) (.node (o3 P) (.node (o7 P) .nil .nil) (.node (o11 P) .nil .nil)) (.node (o5 P) (.node (o9 P) .nil .nil) (.node (o13 P) .nil .nil))) (.node (o2 P) (.node (o4 P) (.node (o8 P) .nil .nil) (.node (o12 P) .nil .nil)) (.node (o6 P) (.node (o10 P) .nil .nil) (.node (o14 P) .nil .nil))))
def Sb(w:PySem.World)(os:PySem.OsState):PySem.W.SharedT:=⟨bt w.params,15,{},Array.mk [],{},187,os⟩
def tenv:PySem.Env:={scope:=PySem.Challenge.pw_earthward_k42_whole_never_live_and_earth.main.scope,locals:=PySem.mainNs,globals:=PySem.mainNs,cells:=[],code:= .ref 13,frame:=some 14}
def vw:PySem.Program:={PySem.Challenge.pw_earthward_k42_whole_never_live_and_earth with main:={PySem.Challenge.pw_earthward_k42_whole_never_live_and_earth.main with body:=[0,2,3,4,5,6,7,8,9,10,11,12,13,14,15,16,17,19,20,21,22,23,24,26,27,28,29,30,31,32,33,34,36,37,38,39,40,42,43,44,45,46,48,49,51,52,53,54,55,57,58,59,60,61,62,63,64,65,66,67,68,70,71,72,73,74,76,77,78,79,80,81,82,83,84,85,86,87,88,89].filterMap λi=>PySem.Challenge.pw_earthward_k42_whole_never_live_and_earth.main.body[i]?}}
end My
set_option maxRecDepth 100000
set_option maxHeartbeats 0
namespace My
abbrev wAl:List PySem.Addr:=[2,3,15,17,18,20,21,22,29,30,31,32,35,42,43,44,47,54,55,56,59,66,67,68,71,78,79,80,83,90,91,92,95,102,103,104,107,114,115,116,119,126,127,128,131,138,139,140,143,150,151,152,155,162,163,164,167,174,175,176,179,186,187,188,191,198,199,200,203,210,211,212,222,224,225,227,228,229,231,232,234,235,236,238,239,241,242,243,245,246,248,249,250,251,252,253,254,257,264,266,267,269,270,271,273,274,276,277,278,279,280,283,290,292,293,295,296,297,299,300,302,303,304,305,306,309,316,318,319,321,322,323,325,326,328,329,330,331,332,335,342,344,345,347,348,349,351,352,354,355,356,358,359,361,362,363,364,365,368,370,371,373,374,375,377,378,380,381,389,392,393,394,397,398,399,402,403,404,406,407,409,410,411,413,414,416,417,418,420,421,423,424,425,427,428,430,431,432,433,434,435,436,439,441,442,444,445,446,448,449,451,452,453,455,456,458,459,460,463,464,465,467,468,470,471,472,474,475,477,478,479,481,482,484,485,486,488,489,491,492,493,495,496,498,499,500,502,503,505,506,507,509,510,512,513,514,516,517,519,520,521,523,524,526,527,528,530,531,533,534,535,537,538,540,541,549,551,552,554,555,556,558,559,561,562,563,565,566,568,569,570,572,573,575,576,577,579,580,582,583,584,586,587,589,590,591,593,594,596,597,598,601,602,603,605,606,608,609,610,612,613,615,616,617,619,620,622,623,624,625,626,627,628,631,634,635,636,639,640,648,650,651,653,654,655,657,658,660,661,662,664,665,667,668,669,671,672,674,675,676,678,679,681,682,683,685,686,688,689,690,692,693,695,696,697,699,700,702,703,704,706,707,709,710,711,713,714,716,717,718,719,720,721,722,725,728,729,730,732,733,735,736,737,739,740,742,743,744,746,747,749,750,751,753,754,756,757,758,759,762,763,764,767,768,769,771,772,774,775,776,778,779,781,782,783,785,786,788,789,790,793,794,795,798,799,800,803,804,805,807,808,810,811,812,815,816,817,819,820,822,823,831,833,834,836,837,838,840,841,843,844,845,847,848,850,851,852,854,855,857,858,859,861,862,864,865,866,869,870,871,873,874,876,877,878,879,880,881,882,885,887,888,890,891,892,894,895,897,898,899,902,903,904,906,907,909,910,911,914,915,916,919,920,921,924,925,926,928,929,931,932,933,935,936,938,939,940,942,943,945,946,947,950,951,952,955,956,957,960,961,962,965,966]
theorem wHk(P:PySem.Params):wAl=(My.pre.heap_39 P).map (·.1):=by kernel_rfl
abbrev sS:=PySem.Str.ofString
abbrev dE(P:PySem.Params)(x:String)(t:Nat)(v:PySem.Value):PySem.DictEntry:= .mk (PySem.PyData.keyHash P (sS x)) (.str (sS x) t) v
def kO(P:PySem.Params)(j:Nat):PySem.Obj:=match(My.pre.heap_39 P).drop j with | x::_=>x.2 | []=>o0 P
def wTb:List PySem.Stmt:=PySem.Challenge.pw_earthward_k42_whole_never_live_and_earth.main.body
def wCb(k:Nat):List PySem.Stmt:=match wTb.drop k with | .ClassDef _ _ _ b _ _ _ _ _ _ _::_=>b | _=>[]
def wFd(l:List PySem.Stmt)(k:Nat)(q:String):PySem.Obj:=match l.drop k with | .FunctionDef n a b _ _ _ c _ _ _::_=> .mk .none none (.func (.mk n (sS q) a (.stmts b) c 0 [] .none .none .none .none none .none .none 0)) #[] | _=> .mk .none none (.fields #[]) #[]
def m3(P:PySem.Params):PySem.Obj:= .mk (.type "dict") none (.dict #[dE P "__name__" 165 (.str (sS "earthward.switches") 454),dE P "__doc__" 166 .none,dE P "__package__" 167 .none,dE P "__loader__" 168 (.builtin "__main__.__loader__#opaque"),dE P "__spec__" 169 .none,dE P "__annotations__" 170 (.ref 6),dE P "__builtins__" 171 (.ref 4),dE P "__file__" 173 (.str (sS "/claim/cut.py") 172),dE P "__cached__" 174 .none,dE P "_wall" 193 (.ref 21),dE P "WardError" 213 (.ref 31),dE P "NoRow" 229 (.ref 44),dE P "NoMeasure" 245 (.ref 56),dE P "NoBar" 261 (.ref 68),dE P "Same" 277 (.ref 80),dE P "NoSwitch" 293 (.ref 92),dE P "Loaded" 309 (.ref 104),dE P "Shorted" 325 (.ref 116),dE P "Locked" 341 (.ref 128),dE P "Held" 357 (.ref 140),dE P "NoLock" 373 (.ref 152),dE P "NotOpen" 389 (.ref 164),dE P "NotLocked" 405 (.ref 176),dE P "NotEarthed" 421 (.ref 188),dE P "NotDead" 437 (.ref 200),dE P "NoPermit" 453 (.ref 212),dE P "Switch" 503 (.ref 252),dE P "Feed" 535 (.ref 280),dE P "Earth" 567 (.ref 306)] 29) #[]
def mk0:PySem.Obj:= .mk (.type "tuple") none (.seq #[]) #[]
def m12:PySem.Obj:= .mk .none none (.fields #[.int 1 0,.int 0 0,.ref 20,.int 5 0,.int 0 0,.ref 27,.int 7 0,.int 0 0,.ref 40,.int 9 0,.int 0 0,.ref 52,.int 11 0,.int 0 0,.ref 64,.int 13 0,.int 0 0,.ref 76,.int 15 0,.int 0 0,.ref 88,.int 17 0,.int 0 0,.ref 100,.int 19 0,.int 0 0,.ref 112,.int 21 0,.int 0 0,.ref 124,.int 23 0,.int 0 0,.ref 136,.int 25 0,.int 0 0,.ref 148,.int 27 0,.int 0 0,.ref 160,.int 29 0,.int 0 0,.ref 172,.int 31 0,.int 0 0,.ref 184,.int 33 0,.int 0 0,.ref 196,.int 35 0,.int 0 0,.ref 208,.int 38 0,.int 0 0,.ref 220,.int 51 0,.int 0 0,.ref 262,.int 58 0,.int 0 0,.ref 288]) #[]
def mk1(x0:String)(x1:Nat)(x2:Nat)(x3:Nat):PySem.Obj:= .mk (.type "code") none (.fields #[.str (sS x0) x1,.str (sS x0) (x1+1),.str (sS "/claim/cut.py") (x1+2),.int x2 0,.int 0 0,.int 0 0,.int 0 0,.int 0 0,.ref x3,.bool false,.int 181 0,.ref (x3+1),.none,.none,.none,.none,.int (x1+3) 0,.int x2 0,.str (sS "/claim/cut.py") (x1+4)]) #[]
def mk2(x0:Nat)(x1:Nat)(x2:String)(x3:Nat):PySem.Obj:= .mk (.type "frame") none .plain #[some (.ref x0),some (.ref 3),some (.ref x1),none,some (.str (sS x2) x3),none,some (.ref 0)]
def mk3:PySem.Obj:= .mk .none none (.fields #[]) #[]
def mk4:PySem.Obj:= .mk (.type "builtin_function_or_method") none (.fields #[.builtin "type.__prepare__",.type "type"]) #[]
def mk5(P:PySem.Params)(x0:Nat)(x1:String)(x2:Nat)(x3:Nat):PySem.Obj:= .mk (.type "dict") none (.dict #[dE P "__module__" x0 (.str (sS "earthward.errors") 194),dE P "__qualname__" (x0+2) (.str (sS x1) (x0+1)),dE P "__firstlineno__" (x0+4) (.int x2 (x0+3)),dE P "__static_attributes__" (x0+5) (.ref x3)] 4) #[]
def mk6(x0:Nat):PySem.Obj:= .mk (.type "super") none (.fields #[.ref x0,.ref x0,.ref x0]) #[]
def mk7(x0:Nat):PySem.Obj:= .mk (.type "builtin_function_or_method") none (.fields #[.builtin "object.__init_subclass__",.ref x0]) #[]
def m217(P:PySem.Params):PySem.Obj:= .mk (.type "dict") none (.dict #[dE P "__module__" 463 (.str (sS "earthward.switches") 454),dE P "__qualname__" 465 (.str (sS "Switch") 464),dE P "__firstlineno__" 467 (.int 38 466),dE P "feeds" 474 (.ref 228),dE P "earths" 481 (.ref 235),dE P "joins" 488 (.ref 242),dE P "gentle" 495 (.ref 249),dE P "__static_attributes__" 496 (.ref 250)] 8) #[]
def m219:PySem.Obj:= .mk .none none (.fields #[.int 40 0,.int 4 0,.ref 227,.int 43 0,.int 4 0,.ref 234,.int 46 0,.int 4 0,.ref 241,.int 49 0,.int 4 0,.ref 248]) #[]
def m252:PySem.Obj:= .mk (.type "type") none (.cls (PySem.ClassData.mk (sS "Switch") [.type "object"] [.ref 252,.type "object"] 251 (sS "Switch") true [] [.ref 280,.ref 306] false none false)) #[none,none,some (.str (sS "Switch") 456),some (.str (sS "Switch") 464),some (.builtin "object.__new__"),some (.bool true)]
def mk8(P:PySem.Params)(x0:Nat)(x1:String)(x2:Nat)(x3:Nat)(x4:String):PySem.Obj:= .mk (.type "dict") none (.dict #[dE P "__module__" x0 (.str (sS "earthward.switches") 454),dE P "__qualname__" (x0+2) (.str (sS x1) (x0+1)),dE P "__firstlineno__" (x0+4) (.int x2 (x0+3)),dE P "__init__" (x0+12) (.ref x3),dE P x4 (x0+19) (.ref (x3+7)),dE P "__static_attributes__" (x0+21) (.ref (x3+8))] 6) #[]
def mk9(x0:Nat)(x1:Nat):PySem.Obj:= .mk .none none (.fields #[.int x0 0,.int 4 0,.ref x1,.int (x0+3) 0,.int 4 0,.ref (x1+7)]) #[]
def wEv:List PySem.Obj->List PySem.Obj
 | []=>[]
 | [a]=>[a]
 | a::_::l=>a::wEv l
def wTr:Nat->List PySem.Obj->PySem.W.BT
 | 0,_=> .nil
 | _,[]=> .nil
 | n+1,a::l=> .node a (wTr n (wEv l)) (wTr n (wEv (l.drop 1)))
def mt(P:PySem.Params):PySem.W.BT:=wTr 12 [PySem.W.boot_o_0 P,PySem.W.boot_o_1 P,PySem.W.boot_o_2 P,m3 P,PySem.W.boot_o_4 P,PySem.W.boot_o_5 P,PySem.W.boot_o_6 P,PySem.W.boot_o_7 P,PySem.W.boot_o_8 P,PySem.W.boot_o_9 P,PySem.W.boot_o_10 P,mk0,m12,mk1 "<module>" 182 1 11,mk2 13 3 "__main__" 164,kO P 2,mk3,kO P 3,kO P 4,wFd wTb 0 "_wall",kO P 5,kO P 6,kO P 7,mk4,mk5 P 203 "WardError" 5 29,mk0,mk3,mk1 "WardError" 198 5 25,mk2 27 24 "earthward.errors" 194,kO P 8,kO P 9,kO P 10,kO P 11,mk6 31,mk7 31,kO P 12,mk4,mk5 P 221 "NoRow" 7 42,mk0,mk3,mk1 "NoRow" 216 7 38,mk2 40 37 "earthward.errors" 194,kO P 13,kO P 14,kO P 15,mk6 44,mk7 44,kO P 16,mk4,mk5 P 237 "NoMeasure" 9 54,mk0,mk3,mk1 "NoMeasure" 232 9 50,mk2 52 49 "earthward.errors" 194,kO P 17,kO P 18,kO P 19,mk6 56,mk7 56,kO P 20,mk4,mk5 P 253 "NoBar" 11 66,mk0,mk3,mk1 "NoBar" 248 11 62,mk2 64 61 "earthward.errors" 194,kO P 21,kO P 22,kO P 23,mk6 68,mk7 68,kO P 24,mk4,mk5 P 269 "Same" 13 78,mk0,mk3,mk1 "Same" 264 13 74,mk2 76 73 "earthward.errors" 194,kO P 25,kO P 26,kO P 27,mk6 80,mk7 80,kO P 28,mk4,mk5 P 285 "NoSwitch" 15 90,mk0,mk3,mk1 "NoSwitch" 280 15 86,mk2 88 85 "earthward.errors" 194,kO P 29,kO P 30,kO P 31,mk6 92,mk7 92,kO P 32,mk4,mk5 P 301 "Loaded" 17 102,mk0,mk3,mk1 "Loaded" 296 17 98,mk2 100 97 "earthward.errors" 194,kO P 33,kO P 34,kO P 35,mk6 104,mk7 104,kO P 36,mk4,mk5 P 317 "Shorted" 19 114,mk0,mk3,mk1 "Shorted" 312 19 110,mk2 112 109 "earthward.errors" 194,kO P 37,kO P 38,kO P 39,mk6 116,mk7 116,kO P 40,mk4,mk5 P 333 "Locked" 21 126,mk0,mk3,mk1 "Locked" 328 21 122,mk2 124 121 "earthward.errors" 194,kO P 41,kO P 42,kO P 43,mk6 128,mk7 128,kO P 44,mk4,mk5 P 349 "Held" 23 138,mk0,mk3,mk1 "Held" 344 23 134,mk2 136 133 "earthward.errors" 194,kO P 45,kO P 46,kO P 47,mk6 140,mk7 140,kO P 48,mk4,mk5 P 365 "NoLock" 25 150,mk0,mk3,mk1 "NoLock" 360 25 146,mk2 148 145 "earthward.errors" 194,kO P 49,kO P 50,kO P 51,mk6 152,mk7 152,kO P 52,mk4,mk5 P 381 "NotOpen" 27 162,mk0,mk3,mk1 "NotOpen" 376 27 158,mk2 160 157 "earthward.errors" 194,kO P 53,kO P 54,kO P 55,mk6 164,mk7 164,kO P 56,mk4,mk5 P 397 "NotLocked" 29 174,mk0,mk3,mk1 "NotLocked" 392 29 170,mk2 172 169 "earthward.errors" 194,kO P 57,kO P 58,kO P 59,mk6 176,mk7 176,kO P 60,mk4,mk5 P 413 "NotEarthed" 31 186,mk0,mk3,mk1 "NotEarthed" 408 31 182,mk2 184 181 "earthward.errors" 194,kO P 61,kO P 62,kO P 63,mk6 188,mk7 188,kO P 64,mk4,mk5 P 429 "NotDead" 33 198,mk0,mk3,mk1 "NotDead" 424 33 194,mk2 196 193 "earthward.errors" 194,kO P 65,kO P 66,kO P 67,mk6 200,mk7 200,kO P 68,mk4,mk5 P 445 "NoPermit" 35 210,mk0,mk3,mk1 "NoPermit" 440 35 206,mk2 208 205 "earthward.errors" 194,kO P 69,kO P 70,kO P 71,mk6 212,mk7 212,mk0,mk4,m217 P,mk0,m219,mk1 "Switch" 458 38 218,mk2 220 217 "earthward.switches" 454,kO P 72,mk3,kO P 73,kO P 74,wFd (wCb 19) 0 "Switch.feeds",kO P 75,kO P 76,kO P 77,mk3,kO P 78,kO P 79,wFd (wCb 19) 1 "Switch.earths",kO P 80,kO P 81,kO P 82,mk3,kO P 83,kO P 84,wFd (wCb 19) 2 "Switch.joins",kO P 85,kO P 86,kO P 87,mk3,kO P 88,kO P 89,wFd (wCb 19) 3 "Switch.gentle",kO P 90,kO P 91,kO P 92,kO P 93,m252,kO P 95,kO P 96,mk6 252,mk7 252,kO P 97,mk4,mk8 P 511 "Feed" 51 270 "feeds",mk0,mk9 53 269,mk1 "Feed" 506 51 260,mk2 262 259 "earthward.switches" 454,kO P 98,mk3,kO P 99,kO P 100,wFd (wCb 20) 0 "Feed.__init__",kO P 101,kO P 102,kO P 103,mk3,kO P 104,kO P 105,wFd (wCb 20) 1 "Feed.feeds",kO P 106,kO P 107,kO P 108,kO P 109,kO P 110,mk6 280,mk7 280,kO P 111,mk4,mk8 P 543 "Earth" 58 296 "earths",mk0,mk9 60 295,mk1 "Earth" 538 58 286,mk2 288 285 "earthward.switches" 454,kO P 112,mk3,kO P 113,kO P 114,wFd (wCb 21) 0 "Earth.__init__",kO P 115,kO P 116,kO P 117,mk3,kO P 118,kO P 119,wFd (wCb 21) 1 "Earth.earths",kO P 120,kO P 121,kO P 122,kO P 123,kO P 124,mk6 306,mk7 306]
def Sm(w:PySem.World)(os:PySem.OsState):PySem.W.SharedT:=⟨mt w.params,309,PySem.Life.mk [] [] [] 0 [] [] false #[] [] 0 false false false 0 [2000,10,10] false 0 true [] [] 0 false,Array.mk [],PySem.Drawn.mk 0 0 0 0,568,os⟩
def m3b(P:PySem.Params):PySem.Obj:= .mk (.type "dict") none (.dict #[dE P "__name__" 165 (.str (sS "law_earthward_k42_whole_never_live_and_earth") 1375),dE P "__doc__" 166 .none,dE P "__package__" 167 .none,dE P "__loader__" 168 (.builtin "__main__.__loader__#opaque"),dE P "__spec__" 169 .none,dE P "__annotations__" 170 (.ref 6),dE P "__builtins__" 171 (.ref 4),dE P "__file__" 173 (.str (sS "/claim/cut.py") 172),dE P "__cached__" 174 .none,dE P "_wall" 193 (.ref 21),dE P "WardError" 213 (.ref 31),dE P "NoRow" 229 (.ref 44),dE P "NoMeasure" 245 (.ref 56),dE P "NoBar" 261 (.ref 68),dE P "Same" 277 (.ref 80),dE P "NoSwitch" 293 (.ref 92),dE P "Loaded" 309 (.ref 104),dE P "Shorted" 325 (.ref 116),dE P "Locked" 341 (.ref 128),dE P "Held" 357 (.ref 140),dE P "NoLock" 373 (.ref 152),dE P "NotOpen" 389 (.ref 164),dE P "NotLocked" 405 (.ref 176),dE P "NotEarthed" 421 (.ref 188),dE P "NotDead" 437 (.ref 200),dE P "NoPermit" 453 (.ref 212),dE P "Switch" 503 (.ref 252),dE P "Feed" 535 (.ref 280),dE P "Earth" 567 (.ref 306),dE P "Breaker" 601 (.ref 332),dE P "Splitter" 642 (.ref 365),dE P "switch_of" 650 (.ref 374),dE P "has" 660 (.ref 381),dE P "Net" 735 (.ref 434),dE P "live" 743 (.ref 445),dE P "earthed" 751 (.ref 452),dE P "lowest" 758 (.ref 459),dE P "numbers_in" 764 (.ref 464),dE P "steps_from" 778 (.ref 471),dE P "numbers_back" 789 (.ref 478),dE P "way" 804 (.ref 485),dE P "check_switch" 814 (.ref 492),dE P "after_turn" 822 (.ref 499),dE P "loads" 834 (.ref 506),dE P "shorts" 843 (.ref 513),dE P "turned" 853 (.ref 520),dE P "can_lock" 862 (.ref 527),dE P "all_switches" 869 (.ref 534),dE P "keeps_dead" 878 (.ref 541),dE P "Bundle" 1011 (.ref 626),dE P "fewest_locks" 1017 (.ref 635),dE P "own_earths" 1025 (.ref 640),dE P "Board" 1129 (.ref 720),dE P "free_switches" 1137 (.ref 729),dE P "layer_behind" 1151 (.ref 736),dE P "meets" 1162 (.ref 743),dE P "deeds_to" 1172 (.ref 750),dE P "plan" 1187 (.ref 757),dE P "MOST_BARS" 1191 (.int 10 1190),dE P "MOST_SWITCHES" 1193 (.int 12 1192),dE P "MOST_FIGURES" 1195 (.int 9 1194),dE P "FIGURES" 1197 (.str (sS "0123456789") 1196),dE P "NUMBERS_BEHIND" 1213 (.ref 758),dE P "is_number" 1219 (.ref 763),dE P "numbers_told" 1225 (.ref 768),dE P "parted" 1234 (.ref 775),dE P "count_in" 1242 (.ref 782),dE P "switch_in" 1252 (.ref 789),dE P "row_of" 1258 (.ref 794),dE P "shown" 1264 (.ref 799),dE P "joined_by_blanks" 1272 (.ref 804),dE P "one_number" 1279 (.ref 811),dE P "place_told" 1285 (.ref 816),dE P "wish_for" 1293 (.ref 823),dE P "Desk" 1374 (.ref 880),dE P "_law_cell_at" 1384 (.ref 891),dE P "_law_switch" 1394 (.ref 898),dE P "_law_joined" 1400 (.ref 903),dE P "_law_under" 1411 (.ref 910),dE P "_law_loaded" 1417 (.ref 915),dE P "_law_turned" 1423 (.ref 920)] 81) #[]
def mk0b:PySem.Obj:= .mk (.type "tuple") none (.seq #[]) #[]
def m12b:PySem.Obj:= .mk .none none (.fields #[.int 1 0,.int 0 0,.ref 20,.int 5 0,.int 0 0,.ref 27,.int 7 0,.int 0 0,.ref 40,.int 9 0,.int 0 0,.ref 52,.int 11 0,.int 0 0,.ref 64,.int 13 0,.int 0 0,.ref 76,.int 15 0,.int 0 0,.ref 88,.int 17 0,.int 0 0,.ref 100,.int 19 0,.int 0 0,.ref 112,.int 21 0,.int 0 0,.ref 124,.int 23 0,.int 0 0,.ref 136,.int 25 0,.int 0 0,.ref 148,.int 27 0,.int 0 0,.ref 160,.int 29 0,.int 0 0,.ref 172,.int 31 0,.int 0 0,.ref 184,.int 33 0,.int 0 0,.ref 196,.int 35 0,.int 0 0,.ref 208,.int 38 0,.int 0 0,.ref 220,.int 51 0,.int 0 0,.ref 262,.int 58 0,.int 0 0,.ref 288,.int 65 0,.int 0 0,.ref 314,.int 73 0,.int 0 0,.ref 340,.int 84 0,.int 0 0,.ref 373,.int 94 0,.int 0 0,.ref 380,.int 96 0,.int 0 0,.ref 387,.int 132 0,.int 0 0,.ref 444,.int 134 0,.int 0 0,.ref 451,.int 136 0,.int 0 0,.ref 458,.int 138 0,.int 0 0,.ref 463,.int 140 0,.int 0 0,.ref 470,.int 147 0,.int 0 0,.ref 477,.int 154 0,.int 0 0,.ref 484,.int 168 0,.int 0 0,.ref 491,.int 171 0,.int 0 0,.ref 498,.int 173 0,.int 0 0,.ref 505,.int 182 0,.int 0 0,.ref 512,.int 184 0,.int 0 0,.ref 519,.int 193 0,.int 0 0,.ref 526,.int 195 0,.int 0 0,.ref 533,.int 197 0,.int 0 0,.ref 540,.int 199 0,.int 0 0,.ref 547,.int 287 0,.int 0 0,.ref 634,.int 295 0,.int 0 0,.ref 639,.int 298 0,.int 0 0,.ref 646,.int 369 0,.int 0 0,.ref 728,.int 371 0,.int 0 0,.ref 735,.int 380 0,.int 0 0,.ref 742,.int 384 0,.int 0 0,.ref 749,.int 391 0,.int 0 0,.ref 756,.int 408 0,.int 0 0,.ref 762,.int 414 0,.int 0 0,.ref 767,.int 418 0,.int 0 0,.ref 774,.int 424 0,.int 0 0,.ref 781,.int 431 0,.int 0 0,.ref 788,.int 442 0,.int 0 0,.ref 793,.int 444 0,.int 0 0,.ref 798,.int 448 0,.int 0 0,.ref 803,.int 452 0,.int 0 0,.ref 810,.int 456 0,.int 0 0,.ref 815,.int 463 0,.int 0 0,.ref 822,.int 469 0,.int 0 0,.ref 829,.int 540 0,.int 0 0,.ref 890,.int 544 0,.int 0 0,.ref 897,.int 552 0,.int 0 0,.ref 902,.int 564 0,.int 0 0,.ref 909,.int 570 0,.int 0 0,.ref 914,.int 580 0,.int 0 0,.ref 919]) #[]
def mk1b(x0:String)(x1:Nat)(x2:Nat)(x3:Nat):PySem.Obj:= .mk (.type "code") none (.fields #[.str (sS x0) x1,.str (sS x0) (x1+1),.str (sS "/claim/cut.py") (x1+2),.int x2 0,.int 0 0,.int 0 0,.int 0 0,.int 0 0,.ref x3,.bool false,.int 181 0,.ref (x3+1),.none,.none,.none,.none,.int (x1+3) 0,.int x2 0,.str (sS "/claim/cut.py") (x1+4)]) #[]
def mk2b(x0:Nat)(x1:Nat)(x2:String)(x3:Nat):PySem.Obj:= .mk (.type "frame") none .plain #[some (.ref x0),some (.ref 3),some (.ref x1),none,some (.str (sS x2) x3),none,some (.ref 0)]
def mk3b:PySem.Obj:= .mk .none none (.fields #[]) #[]
def mk4b:PySem.Obj:= .mk (.type "builtin_function_or_method") none (.fields #[.builtin "type.__prepare__",.type "type"]) #[]
def mk5b(P:PySem.Params)(x0:Nat)(x1:String)(x2:Nat)(x3:Nat):PySem.Obj:= .mk (.type "dict") none (.dict #[dE P "__module__" x0 (.str (sS "earthward.errors") 194),dE P "__qualname__" (x0+2) (.str (sS x1) (x0+1)),dE P "__firstlineno__" (x0+4) (.int x2 (x0+3)),dE P "__static_attributes__" (x0+5) (.ref x3)] 4) #[]
def mk6b(x0:Nat):PySem.Obj:= .mk (.type "super") none (.fields #[.ref x0,.ref x0,.ref x0]) #[]
def mk7b(x0:Nat):PySem.Obj:= .mk (.type "builtin_function_or_method") none (.fields #[.builtin "object.__init_subclass__",.ref x0]) #[]
def m217b(P:PySem.Params):PySem.Obj:= .mk (.type "dict") none (.dict #[dE P "__module__" 463 (.str (sS "earthward.switches") 454),dE P "__qualname__" 465 (.str (sS "Switch") 464),dE P "__firstlineno__" 467 (.int 38 466),dE P "feeds" 474 (.ref 228),dE P "earths" 481 (.ref 235),dE P "joins" 488 (.ref 242),dE P "gentle" 495 (.ref 249),dE P "__static_attributes__" 496 (.ref 250)] 8) #[]
def m219b:PySem.Obj:= .mk .none none (.fields #[.int 40 0,.int 4 0,.ref 227,.int 43 0,.int 4 0,.ref 234,.int 46 0,.int 4 0,.ref 241,.int 49 0,.int 4 0,.ref 248]) #[]
def mk8b(P:PySem.Params)(x0:Nat)(x1:String)(x2:Nat)(x3:Nat)(x4:Nat)(x5:String)(x6:Nat):PySem.Obj:= .mk (.type "dict") none (.dict #[dE P "__module__" x0 (.str (sS "earthward.switches") 454),dE P "__qualname__" (x0+2) (.str (sS x1) (x0+1)),dE P "__firstlineno__" (x0+4) (.int x2 (x0+3)),dE P "__init__" x3 (.ref x4),dE P x5 (x3+7) (.ref (x4+7)),dE P "__static_attributes__" x6 (.ref (x4+8))] 6) #[]
def mk9b(x0:Nat)(x1:Nat)(x2:Nat):PySem.Obj:= .mk .none none (.fields #[.int x0 0,.int 4 0,.ref x1,.int x2 0,.int 4 0,.ref (x1+7)]) #[]
def m337b(P:PySem.Params):PySem.Obj:= .mk (.type "dict") none (.dict #[dE P "__module__" 609 (.str (sS "earthward.switches") 454),dE P "__qualname__" 611 (.str (sS "Splitter") 610),dE P "__firstlineno__" 613 (.int 73 612),dE P "__init__" 622 (.ref 348),dE P "joins" 629 (.ref 355),dE P "gentle" 636 (.ref 362),dE P "__static_attributes__" 639 (.ref 363)] 7) #[]
def m339b:PySem.Obj:= .mk .none none (.fields #[.int 75 0,.int 4 0,.ref 347,.int 79 0,.int 4 0,.ref 354,.int 82 0,.int 4 0,.ref 361]) #[]
def mk10b(P:PySem.Params)(x0:Nat)(x1:String)(x2:Nat)(x3:String)(x4:Nat)(x5:Nat)(x6:Nat)(x7:String)(x8:Nat)(x9:Nat)(x10:String)(x11:Nat)(x12:Nat)(x13:String)(x14:String)(x15:Nat)(x16:String)(x17:Nat)(x18:String):PySem.Obj:= .mk (.type "dict") none (.dict #[dE P "__module__" x0 (.str (sS x1) x2),dE P "__qualname__" (x0+2) (.str (sS x3) (x0+1)),dE P "__firstlineno__" (x0+4) (.int x4 (x0+3)),dE P "__init__" x5 (.ref x6),dE P x7 x8 (.ref x9),dE P x10 x11 (.ref x12),dE P x13 (x11+10) (.ref (x12+7)),dE P x14 x15 (.ref (x12+14)),dE P x16 x17 (.ref (x9+26)),dE P x18 (x17+8) (.ref (x9+33)),dE P "__static_attributes__" (x8+44) (.ref (x9+34))] 11) #[]
def mk11b(x0:Nat)(x1:Nat)(x2:Nat)(x3:Nat)(x4:Nat)(x5:Nat)(x6:Nat)(x7:Nat)(x8:Nat)(x9:Nat):PySem.Obj:= .mk .none none (.fields #[.int x0 0,.int 4 0,.ref x1,.int x2 0,.int 4 0,.ref x3,.int x4 0,.int 4 0,.ref x5,.int x6 0,.int 4 0,.ref (x5+7),.int x7 0,.int 4 0,.ref (x5+14),.int x8 0,.int 4 0,.ref (x3+26),.int x9 0,.int 4 0,.ref (x3+33)]) #[]
def m544b(P:PySem.Params):PySem.Obj:= .mk (.type "dict") none (.dict #[dE P "__module__" 886 (.str (sS "earthward.locks") 854),dE P "__qualname__" 888 (.str (sS "Bundle") 887),dE P "__firstlineno__" 890 (.int 199 889),dE P "__init__" 902 (.ref 555),dE P "pair_of" 910 (.ref 562),dE P "joined_in_common" 918 (.ref 569),dE P "steps_by" 931 (.ref 576),dE P "row_in" 942 (.ref 583),dE P "steps_left" 950 (.ref 590),dE P "widen" 959 (.ref 597),dE P "rim" 965 (.ref 602),dE P "row_of_a_way" 975 (.ref 609),dE P "way_by" 986 (.ref 616),dE P "take_ways" 996 (.ref 623),dE P "__static_attributes__" 1004 (.ref 624)] 15) #[]
def m546b:PySem.Obj:= .mk .none none (.fields #[.int 201 0,.int 4 0,.ref 554,.int 212 0,.int 4 0,.ref 561,.int 217 0,.int 4 0,.ref 568,.int 220 0,.int 4 0,.ref 575,.int 233 0,.int 4 0,.ref 582,.int 242 0,.int 4 0,.ref 589,.int 247 0,.int 4 0,.ref 596,.int 256 0,.int 4 0,.ref 601,.int 262 0,.int 4 0,.ref 608,.int 268 0,.int 4 0,.ref 615,.int 278 0,.int 4 0,.ref 622]) #[]
def m643b(P:PySem.Params):PySem.Obj:= .mk (.type "dict") none (.dict #[dE P "__module__" 1033 (.str (sS "earthward.board") 1018),dE P "__qualname__" 1035 (.str (sS "Board") 1034),dE P "__firstlineno__" 1037 (.int 298 1036),dE P "__init__" 1045 (.ref 654),dE P "standing" 1052 (.ref 661),dE P "locked" 1059 (.ref 668),dE P "held" 1068 (.ref 675),dE P "permits" 1075 (.ref 682),dE P "turn" 1083 (.ref 689),dE P "lock" 1091 (.ref 696),dE P "unlock" 1099 (.ref 703),dE P "permit" 1107 (.ref 710),dE P "give_back" 1115 (.ref 717),dE P "__static_attributes__" 1122 (.ref 718)] 14) #[]
def m645b:PySem.Obj:= .mk .none none (.fields #[.int 300 0,.int 4 0,.ref 653,.int 308 0,.int 4 0,.ref 660,.int 311 0,.int 4 0,.ref 667,.int 314 0,.int 4 0,.ref 674,.int 320 0,.int 4 0,.ref 681,.int 323 0,.int 4 0,.ref 688,.int 332 0,.int 4 0,.ref 695,.int 343 0,.int 4 0,.ref 702,.int 352 0,.int 4 0,.ref 709,.int 363 0,.int 4 0,.ref 716]) #[]
def mtb(P:PySem.Params):PySem.W.BT:=wTr 12 [PySem.W.boot_o_0 P,PySem.W.boot_o_1 P,PySem.W.boot_o_2 P,m3b P,PySem.W.boot_o_4 P,PySem.W.boot_o_5 P,PySem.W.boot_o_6 P,PySem.W.boot_o_7 P,PySem.W.boot_o_8 P,PySem.W.boot_o_9 P,PySem.W.boot_o_10 P,mk0b,m12b,mk1b "<module>" 182 1 11,mk2b 13 3 "__main__" 164,kO P 2,mk3b,kO P 3,kO P 4,wFd wTb 0 "_wall",kO P 5,kO P 6,kO P 7,mk4b,mk5b P 203 "WardError" 5 29,mk0b,mk3b,mk1b "WardError" 198 5 25,mk2b 27 24 "earthward.errors" 194,kO P 8,kO P 9,kO P 10,kO P 11,mk6b 31,mk7b 31,kO P 12,mk4b,mk5b P 221 "NoRow" 7 42,mk0b,mk3b,mk1b "NoRow" 216 7 38,mk2b 40 37 "earthward.errors" 194,kO P 13,kO P 14,kO P 15,mk6b 44,mk7b 44,kO P 16,mk4b,mk5b P 237 "NoMeasure" 9 54,mk0b,mk3b,mk1b "NoMeasure" 232 9 50,mk2b 52 49 "earthward.errors" 194,kO P 17,kO P 18,kO P 19,mk6b 56,mk7b 56,kO P 20,mk4b,mk5b P 253 "NoBar" 11 66,mk0b,mk3b,mk1b "NoBar" 248 11 62,mk2b 64 61 "earthward.errors" 194,kO P 21,kO P 22,kO P 23,mk6b 68,mk7b 68,kO P 24,mk4b,mk5b P 269 "Same" 13 78,mk0b,mk3b,mk1b "Same" 264 13 74,mk2b 76 73 "earthward.errors" 194,kO P 25,kO P 26,kO P 27,mk6b 80,mk7b 80,kO P 28,mk4b,mk5b P 285 "NoSwitch" 15 90,mk0b,mk3b,mk1b "NoSwitch" 280 15 86,mk2b 88 85 "earthward.errors" 194,kO P 29,kO P 30,kO P 31,mk6b 92,mk7b 92,kO P 32,mk4b,mk5b P 301 "Loaded" 17 102,mk0b,mk3b,mk1b "Loaded" 296 17 98,mk2b 100 97 "earthward.errors" 194,kO P 33,kO P 34,kO P 35,mk6b 104,mk7b 104,kO P 36,mk4b,mk5b P 317 "Shorted" 19 114,mk0b,mk3b,mk1b "Shorted" 312 19 110,mk2b 112 109 "earthward.errors" 194,kO P 37,kO P 38,kO P 39,mk6b 116,mk7b 116,kO P 40,mk4b,mk5b P 333 "Locked" 21 126,mk0b,mk3b,mk1b "Locked" 328 21 122,mk2b 124 121 "earthward.errors" 194,kO P 41,kO P 42,kO P 43,mk6b 128,mk7b 128,kO P 44,mk4b,mk5b P 349 "Held" 23 138,mk0b,mk3b,mk1b "Held" 344 23 134,mk2b 136 133 "earthward.errors" 194,kO P 45,kO P 46,kO P 47,mk6b 140,mk7b 140,kO P 48,mk4b,mk5b P 365 "NoLock" 25 150,mk0b,mk3b,mk1b "NoLock" 360 25 146,mk2b 148 145 "earthward.errors" 194,kO P 49,kO P 50,kO P 51,mk6b 152,mk7b 152,kO P 52,mk4b,mk5b P 381 "NotOpen" 27 162,mk0b,mk3b,mk1b "NotOpen" 376 27 158,mk2b 160 157 "earthward.errors" 194,kO P 53,kO P 54,kO P 55,mk6b 164,mk7b 164,kO P 56,mk4b,mk5b P 397 "NotLocked" 29 174,mk0b,mk3b,mk1b "NotLocked" 392 29 170,mk2b 172 169 "earthward.errors" 194,kO P 57,kO P 58,kO P 59,mk6b 176,mk7b 176,kO P 60,mk4b,mk5b P 413 "NotEarthed" 31 186,mk0b,mk3b,mk1b "NotEarthed" 408 31 182,mk2b 184 181 "earthward.errors" 194,kO P 61,kO P 62,kO P 63,mk6b 188,mk7b 188,kO P 64,mk4b,mk5b P 429 "NotDead" 33 198,mk0b,mk3b,mk1b "NotDead" 424 33 194,mk2b 196 193 "earthward.errors" 194,kO P 65,kO P 66,kO P 67,mk6b 200,mk7b 200,kO P 68,mk4b,mk5b P 445 "NoPermit" 35 210,mk0b,mk3b,mk1b "NoPermit" 440 35 206,mk2b 208 205 "earthward.errors" 194,kO P 69,kO P 70,kO P 71,mk6b 212,mk7b 212,mk0b,mk4b,m217b P,mk0b,m219b,mk1b "Switch" 458 38 218,mk2b 220 217 "earthward.switches" 454,kO P 72,mk3b,kO P 73,kO P 74,wFd (wCb 19) 0 "Switch.feeds",kO P 75,kO P 76,kO P 77,mk3b,kO P 78,kO P 79,wFd (wCb 19) 1 "Switch.earths",kO P 80,kO P 81,kO P 82,mk3b,kO P 83,kO P 84,wFd (wCb 19) 2 "Switch.joins",kO P 85,kO P 86,kO P 87,mk3b,kO P 88,kO P 89,wFd (wCb 19) 3 "Switch.gentle",kO P 90,kO P 91,kO P 92,kO P 93,kO P 94,kO P 95,kO P 96,mk6b 252,mk7b 252,kO P 97,mk4b,mk8b P 511 "Feed" 51 523 270 "feeds" 532,mk0b,mk9b 53 269 56,mk1b "Feed" 506 51 260,mk2b 262 259 "earthward.switches" 454,kO P 98,mk3b,kO P 99,kO P 100,wFd (wCb 20) 0 "Feed.__init__",kO P 101,kO P 102,kO P 103,mk3b,kO P 104,kO P 105,wFd (wCb 20) 1 "Feed.feeds",kO P 106,kO P 107,kO P 108,kO P 109,kO P 110,mk6b 280,mk7b 280,kO P 111,mk4b,mk8b P 543 "Earth" 58 555 296 "earths" 564,mk0b,mk9b 60 295 63,mk1b "Earth" 538 58 286,mk2b 288 285 "earthward.switches" 454,kO P 112,mk3b,kO P 113,kO P 114,wFd (wCb 21) 0 "Earth.__init__",kO P 115,kO P 116,kO P 117,mk3b,kO P 118,kO P 119,wFd (wCb 21) 1 "Earth.earths",kO P 120,kO P 121,kO P 122,kO P 123,kO P 124,mk6b 306,mk7b 306,kO P 125,mk4b,mk8b P 575 "Breaker" 65 588 322 "joins" 598,mk0b,mk9b 67 321 71,mk1b "Breaker" 570 65 312,mk2b 314 311 "earthward.switches" 454,kO P 126,mk3b,kO P 127,kO P 128,wFd (wCb 22) 0 "Breaker.__init__",kO P 129,kO P 130,kO P 131,mk3b,kO P 132,kO P 133,wFd (wCb 22) 1 "Breaker.joins",kO P 134,kO P 135,kO P 136,kO P 137,kO P 138,mk6b 332,mk7b 332,kO P 139,mk4b,m337b P,mk0b,m339b,mk1b "Splitter" 604 73 338,mk2b 340 337 "earthward.switches" 454,kO P 140,mk3b,kO P 141,kO P 142,wFd (wCb 23) 0 "Splitter.__init__",kO P 143,kO P 144,kO P 145,mk3b,kO P 146,kO P 147,wFd (wCb 23) 1 "Splitter.joins",kO P 148,kO P 149,kO P 150,mk3b,kO P 151,kO P 152,wFd (wCb 23) 2 "Splitter.gentle",kO P 153,kO P 154,kO P 155,kO P 156,kO P 157,mk6b 365,mk7b 365,kO P 158,mk3b,kO P 159,kO P 160,wFd wTb 24 "switch_of",kO P 161,kO P 162,kO P 163,mk3b,kO P 164,kO P 165,wFd wTb 26 "has",kO P 166,kO P 167,mk0b,mk4b,mk10b P 668 "earthward.reach" 651 "Net" 96 678 393 "shut_ones" 684 398 "joined_bars" 690 403 "live_bars" "led_bars" 710 "earthed_bars" 718 "is_safe",mk0b,mk11b 98 392 101 397 104 402 115 121 127 130,mk1b "Net" 663 96 385,mk2b 387 384 "earthward.reach" 651,kO P 168,mk3b,wFd (wCb 27) 0 "Net.__init__",kO P 169,kO P 170,kO P 171,mk3b,wFd (wCb 27) 1 "Net.shut_ones",kO P 172,kO P 173,kO P 174,mk3b,wFd (wCb 27) 2 "Net.joined_bars",kO P 175,kO P 176,kO P 177,mk3b,kO P 178,kO P 179,wFd (wCb 27) 3 "Net.live_bars",kO P 180,kO P 181,kO P 182,mk3b,kO P 183,kO P 184,wFd (wCb 27) 4 "Net.led_bars",kO P 185,kO P 186,kO P 187,mk3b,kO P 188,kO P 189,wFd (wCb 27) 5 "Net.earthed_bars",kO P 190,kO P 191,kO P 192,mk3b,kO P 193,kO P 194,wFd (wCb 27) 6 "Net.is_safe",kO P 195,kO P 196,kO P 197,kO P 198,kO P 199,kO P 200,kO P 201,mk6b 434,mk7b 434,kO P 202,mk3b,kO P 203,kO P 204,wFd wTb 28 "live",kO P 205,kO P 206,kO P 207,mk3b,kO P 208,kO P 209,wFd wTb 29 "earthed",kO P 210,kO P 211,kO P 212,mk3b,kO P 213,kO P 214,wFd wTb 30 "lowest",kO P 215,kO P 216,kO P 217,mk3b,wFd wTb 31 "numbers_in",kO P 218,kO P 219,kO P 220,mk3b,kO P 221,kO P 222,wFd wTb 32 "steps_from",kO P 223,kO P 224,kO P 225,mk3b,kO P 226,kO P 227,wFd wTb 33 "numbers_back",kO P 228,kO P 229,kO P 230,mk3b,kO P 231,kO P 232,wFd wTb 34 "way",kO P 233,kO P 234,kO P 235,mk3b,kO P 236,kO P 237,wFd wTb 36 "check_switch",kO P 238,kO P 239,kO P 240,mk3b,kO P 241,kO P 242,wFd wTb 37 "after_turn",kO P 243,kO P 244,kO P 245,mk3b,kO P 246,kO P 247,wFd wTb 38 "loads",kO P 248,kO P 249,kO P 250,mk3b,kO P 251,kO P 252,wFd wTb 39 "shorts",kO P 253,kO P 254,kO P 255,mk3b,kO P 256,kO P 257,wFd wTb 40 "turned",kO P 258,kO P 259,kO P 260,mk3b,kO P 261,kO P 262,wFd wTb 42 "can_lock",kO P 263,kO P 264,kO P 265,mk3b,kO P 266,kO P 267,wFd wTb 43 "all_switches",kO P 268,kO P 269,kO P 270,mk3b,kO P 271,kO P 272,wFd wTb 44 "keeps_dead",kO P 273,kO P 274,mk0b,mk4b,m544b P,mk0b,m546b,mk1b "Bundle" 881 199 545,mk2b 547 544 "earthward.locks" 854,kO P 275,mk3b,kO P 276,kO P 277,wFd (wCb 45) 0 "Bundle.__init__",kO P 278,kO P 279,kO P 280,mk3b,kO P 281,kO P 282,wFd (wCb 45) 1 "Bundle.pair_of",kO P 283,kO P 284,kO P 285,mk3b,kO P 286,kO P 287,wFd (wCb 45) 2 "Bundle.joined_in_common",kO P 288,kO P 289,kO P 290,mk3b,kO P 291,kO P 292,wFd (wCb 45) 3 "Bundle.steps_by",kO P 293,kO P 294,kO P 295,mk3b,kO P 296,kO P 297,wFd (wCb 45) 4 "Bundle.row_in",kO P 298,kO P 299,kO P 300,mk3b,kO P 301,kO P 302,wFd (wCb 45) 5 "Bundle.steps_left",kO P 303,kO P 304,kO P 305,mk3b,kO P 306,kO P 307,wFd (wCb 45) 6 "Bundle.widen",kO P 308,kO P 309,kO P 310,mk3b,wFd (wCb 45) 7 "Bundle.rim",kO P 311,kO P 312,kO P 313,mk3b,kO P 314,kO P 315,wFd (wCb 45) 8 "Bundle.row_of_a_way",kO P 316,kO P 317,kO P 318,mk3b,kO P 319,kO P 320,wFd (wCb 45) 9 "Bundle.way_by",kO P 321,kO P 322,kO P 323,mk3b,kO P 324,kO P 325,wFd (wCb 45) 10 "Bundle.take_ways",kO P 326,kO P 327,kO P 328,kO P 329,kO P 330,kO P 331,kO P 332,mk6b 626,mk7b 626,kO P 333,mk3b,wFd wTb 46 "fewest_locks",kO P 334,kO P 335,kO P 336,mk3b,wFd wTb 48 "own_earths",kO P 337,kO P 338,mk0b,mk4b,m643b P,mk0b,m645b,mk1b "Board" 1028 298 644,mk2b 646 643 "earthward.board" 1018,kO P 339,mk3b,kO P 340,kO P 341,wFd (wCb 49) 0 "Board.__init__",kO P 342,kO P 343,kO P 344,mk3b,kO P 345,kO P 346,wFd (wCb 49) 1 "Board.standing",kO P 347,kO P 348,kO P 349,mk3b,kO P 350,kO P 351,wFd (wCb 49) 2 "Board.locked",kO P 352,kO P 353,kO P 354,mk3b,kO P 355,kO P 356,wFd (wCb 49) 3 "Board.held",kO P 357,kO P 358,kO P 359,mk3b,kO P 360,kO P 361,wFd (wCb 49) 4 "Board.permits",kO P 362,kO P 363,kO P 364,mk3b,kO P 365,kO P 366,wFd (wCb 49) 5 "Board.turn",kO P 367,kO P 368,kO P 369,mk3b,kO P 370,kO P 371,wFd (wCb 49) 6 "Board.lock",kO P 372,kO P 373,kO P 374,mk3b,kO P 375,kO P 376,wFd (wCb 49) 7 "Board.unlock",kO P 377,kO P 378,kO P 379,mk3b,kO P 380,kO P 381,wFd (wCb 49) 8 "Board.permit",kO P 382,kO P 383,kO P 384,mk3b,kO P 385,kO P 386,wFd (wCb 49) 9 "Board.give_back",kO P 387,kO P 388,kO P 389,kO P 390,kO P 391,kO P 392,kO P 393,mk6b 720,mk7b 720,kO P 394,mk3b,wFd wTb 51 "free_switches",kO P 395,kO P 396,kO P 397,mk3b,kO P 398,kO P 399,wFd wTb 52 "layer_behind",kO P 400,kO P 401,kO P 402,mk3b,kO P 403,kO P 404,wFd wTb 53 "meets",kO P 405,kO P 406,kO P 407,mk3b,kO P 408,kO P 409,wFd wTb 54 "deeds_to",kO P 410,kO P 411,kO P 412,mk3b,kO P 413,kO P 414,wFd wTb 55 "plan",kO P 415,kO P 416,kO P 417,kO P 418,mk3b,wFd wTb 62 "is_number",kO P 419,kO P 420,kO P 421,mk3b,wFd wTb 63 "numbers_told",kO P 422,kO P 423,kO P 424,mk3b,kO P 425,kO P 426,wFd wTb 64 "parted",kO P 427,kO P 428,kO P 429,mk3b,kO P 430,kO P 431,wFd wTb 65 "count_in",kO P 432,kO P 433,kO P 434,mk3b,kO P 435,kO P 436,wFd wTb 66 "switch_in",kO P 437,kO P 438,kO P 439,mk3b,wFd wTb 67 "row_of",kO P 440,kO P 441,kO P 442,mk3b,wFd wTb 68 "shown",kO P 443,kO P 444,kO P 445,mk3b,wFd wTb 70 "joined_by_blanks",kO P 446,kO P 447,kO P 448,mk3b,kO P 449,kO P 450,wFd wTb 71 "one_number",kO P 451,kO P 452,kO P 453,mk3b,wFd wTb 72 "place_told",kO P 454,kO P 455,kO P 456,mk3b,kO P 457,kO P 458,wFd wTb 73 "wish_for",kO P 459,kO P 460,mk0b,mk4b,mk10b P 1301 "earthward.desk" 1265 "Desk" 469 1312 837 "say" 1323 844 "begin" 1331 851 "add_switch" "done" 1350 "reach" 1356 "tell",mk0b,mk11b 471 836 475 843 497 850 502 507 518 527,mk1b "Desk" 1296 469 827,mk2b 829 826 "earthward.desk" 1265,kO P 461,mk3b,kO P 462,kO P 463,wFd (wCb 74) 0 "Desk.__init__",kO P 464,kO P 465,kO P 466,mk3b,kO P 467,kO P 468,wFd (wCb 74) 1 "Desk.say",kO P 469,kO P 470,kO P 471,mk3b,kO P 472,kO P 473,wFd (wCb 74) 2 "Desk.begin",kO P 474,kO P 475,kO P 476,mk3b,kO P 477,kO P 478,wFd (wCb 74) 3 "Desk.add_switch",kO P 479,kO P 480,kO P 481,mk3b,kO P 482,kO P 483,wFd (wCb 74) 4 "Desk.done",kO P 484,kO P 485,kO P 486,mk3b,wFd (wCb 74) 5 "Desk.reach",kO P 487,kO P 488,kO P 489,mk3b,kO P 490,kO P 491,wFd (wCb 74) 6 "Desk.tell",kO P 492,kO P 493,kO P 494,kO P 495,kO P 496,kO P 497,kO P 498,mk6b 880,mk7b 880,kO P 499,mk3b,kO P 500,kO P 501,wFd wTb 76 "_law_cell_at",kO P 502,kO P 503,kO P 504,mk3b,kO P 505,kO P 506,wFd wTb 77 "_law_switch",kO P 507,kO P 508,kO P 509,mk3b,wFd wTb 78 "_law_joined",kO P 510,kO P 511,kO P 512,mk3b,kO P 513,kO P 514,wFd wTb 79 "_law_under",kO P 515,kO P 516,kO P 517,mk3b,wFd wTb 80 "_law_loaded",kO P 518,kO P 519,kO P 520,mk3b,wFd wTb 81 "_law_turned",kO P 521,kO P 522]
def Smb(w:PySem.World)(os:PySem.OsState):PySem.W.SharedT:=⟨mtb w.params,921,PySem.Life.mk [] [] [] 0 [] [] false #[] [] 0 false false false 0 [2000,10,10] false 0 true [] [] 0 false,Array.mk [],PySem.Drawn.mk 0 0 0 0,1424,os⟩
abbrev wS(w:PySem.World)(n:Nat)(S:PySem.W.SharedT)(l:List PySem.Stmt)(p:PySem.Pos)(S1:PySem.W.SharedT)(q:PySem.Pos):Prop:=PySem.W.segRunT PySem.treeTable PySem.Challenge.pw_earthward_k42_whole_never_live_and_earth w 11 (some (.ref 6)) 1 n S (PySem.W.piecesOf l My.tenv (.body (PySem.W.behindTheImports PySem.Challenge.pw_earthward_k42_whole_never_live_and_earth) My.tenv) p [PySem.W.topFrame ⟨0,0,0,0⟩])=some (.next,S1,.body (PySem.W.behindTheImports PySem.Challenge.pw_earthward_k42_whole_never_live_and_earth) My.tenv,q)
abbrev wS0(w:PySem.World)(os:PySem.OsState):Prop:=wS w 4353 (My.Sb w os) ((PySem.W.behindTheImports PySem.Challenge.pw_earthward_k42_whole_never_live_and_earth).take 22) ⟨0,0,0,0⟩ (My.Sm w os) ⟨58,0,64,28⟩
theorem run0a(w:PySem.World)(os:PySem.OsState):wS0 (PySem.World.withFollow w "special-get-raises" false) os:=by kernel_rfl
abbrev wS1(w:PySem.World)(os:PySem.OsState):Prop:=wS w 3963 (My.Sm w os) (((PySem.W.behindTheImports PySem.Challenge.pw_earthward_k42_whole_never_live_and_earth).drop 22).take 60) ⟨58,0,64,28⟩ (My.Smb w os) ⟨580,0,583,30⟩
theorem run0b(w:PySem.World)(os:PySem.OsState):wS1 (PySem.World.withFollow w "special-get-raises" false) os:=by kernel_rfl
abbrev wR(w:PySem.World)(os:PySem.OsState){β:Type}(F:PySem.Shared->β)(v:β):Prop:=RunA PySem.Challenge.pw_earthward_k42_whole_never_live_and_earth w 11 (some (.ref 6)) My.tenv ⟨0,0,0,0⟩ ⟨580,0,583,30⟩ ⟨642,0,675,52⟩ 640 5 (My.Smb w os) (((PySem.W.behindTheImports PySem.Challenge.pw_earthward_k42_whole_never_live_and_earth).drop 22).drop 60) F v
abbrev wRx(w:PySem.World)(os:PySem.OsState):Prop:=wR w os (chkA PySem.Challenge.pw_earthward_k42_whole_never_live_and_earth w (PySem.W.Hook.obs (PySem.W.kHook My.pre.heap_39 My.wAl My.wHk))) (true,PySem.W.Hook.val (PySem.W.kHook My.pre.heap_39 My.wAl My.wHk) w)
abbrev wSn(s:PySem.Shared):=PySem.W.openSeen My.vw [(PySem.Str.ofString "NUMBERS_BEHIND")] (PySem.importedModules PySem.Challenge.pw_earthward_k42_whole_never_live_and_earth.main.body) (λs=>PySem.W.xlAt My.vw [] s&&PySem.W.recOk (PySem.Challenge.rw_earthward_k42_whole_never_live_and_earth).row.records s) true s
abbrev wGd:=PySem.W.openGood My.vw [(PySem.Str.ofString "NUMBERS_BEHIND")]
theorem run0x(w:PySem.World)(os:PySem.OsState):wRx (PySem.World.withFollow w "special-get-raises" false) os:=by kernel_rfl
theorem run0y(w:PySem.World)(os:PySem.OsState):wR (PySem.World.withFollow w "special-get-raises" false) os (λs=>(wSn s).1) wGd.1:=by kernel_rfl
theorem run0u(w:PySem.World)(os:PySem.OsState):wR (PySem.World.withFollow w "special-get-raises" false) os (λs=>(wSn s).2.1) wGd.2.1:=by kernel_rfl
theorem run0v(w:PySem.World)(os:PySem.OsState):wR (PySem.World.withFollow w "special-get-raises" false) os (λs=>(wSn s).2.2.1) wGd.2.2.1:=by kernel_rfl
theorem run0z(w:PySem.World)(os:PySem.OsState):wR (PySem.World.withFollow w "special-get-raises" false) os (λs=>(wSn s).2.2.2) wGd.2.2.2:=by kernel_rfl
theorem run1a(w:PySem.World)(os:PySem.OsState):wS0 (PySem.World.withFollow w "special-get-raises" true) os:=by kernel_rfl
theorem run1b(w:PySem.World)(os:PySem.OsState):wS1 (PySem.World.withFollow w "special-get-raises" true) os:=by kernel_rfl
theorem run1x(w:PySem.World)(os:PySem.OsState):wRx (PySem.World.withFollow w "special-get-raises" true) os:=by kernel_rfl
theorem run1y(w:PySem.World)(os:PySem.OsState):wR (PySem.World.withFollow w "special-get-raises" true) os (λs=>(wSn s).1) wGd.1:=by kernel_rfl
theorem run1u(w:PySem.World)(os:PySem.OsState):wR (PySem.World.withFollow w "special-get-raises" true) os (λs=>(wSn s).2.1) wGd.2.1:=by kernel_rfl
theorem run1v(w:PySem.World)(os:PySem.OsState):wR (PySem.World.withFollow w "special-get-raises" true) os (λs=>(wSn s).2.2.1) wGd.2.2.1:=by kernel_rfl
theorem run1z(w:PySem.World)(os:PySem.OsState):wR (PySem.World.withFollow w "special-get-raises" true) os (λs=>(wSn s).2.2.2) wGd.2.2.2:=by kernel_rfl
theorem left:PySem.W.LeftO PySem.Challenge.pw_earthward_k42_whole_never_live_and_earth My.vw [(PySem.Str.ofString "NUMBERS_BEHIND")] (λs=>PySem.W.xlAt My.vw [] s&&PySem.W.recOk (PySem.Challenge.rw_earthward_k42_whole_never_live_and_earth).row.records s) (PySem.W.Hook.obs (PySem.W.kHook My.pre.heap_39 My.wAl My.wHk)) (PySem.W.Hook.val (PySem.W.kHook My.pre.heap_39 My.wAl My.wHk)) 9536 true:=My.left_split "special-get-raises" (by kernel_rfl) (by kernel_rfl) (λs=>rfl) (λw os=>My.top_tree (os:=os) (m₀:=11) (ann:=some (.ref 6)) (env:=My.tenv) (qp:=⟨0,0,0,0⟩) (pp:=⟨0,0,0,0⟩) (pb:=⟨0,0,0,0⟩) (n1:=12) (n2:=1) (n3:=8961) (Sa:=My.Sa (PySem.World.withFollow w "special-get-raises" false) os) (Sb:=My.Sb (PySem.World.withFollow w "special-get-raises" false) os) (by kernel_rfl) (by kernel_rfl) (by kernel_rfl) (My.ends_cut (j:=22) (My.run0a w os) (My.ends_cut (j:=60) (My.run0b w os) (My.ends_two (My.run0x w os) (My.run0y w os) (My.run0u w os) (My.run0v w os) (My.run0z w os)))) (by kernel_rfl)) (λw os=>My.top_tree (os:=os) (m₀:=11) (ann:=some (.ref 6)) (env:=My.tenv) (qp:=⟨0,0,0,0⟩) (pp:=⟨0,0,0,0⟩) (pb:=⟨0,0,0,0⟩) (n1:=12) (n2:=1) (n3:=8961) (Sa:=My.Sa (PySem.World.withFollow w "special-get-raises" true) os) (Sb:=My.Sb (PySem.World.withFollow w "special-get-raises" true) os) (by kernel_rfl) (by kernel_rfl) (by kernel_rfl) (My.ends_cut (j:=22) (My.run1a w os) (My.ends_cut (j:=60) (My.run1b w os) (My.ends_two (My.run1x w os) (My.run1y w os) (My.run1u w os) (My.run1v w os) (My.run1z w os)))) (by kernel_rfl))
end My
set_option maxHeartbeats 4000000
namespace L2
open PySem PySem.Spec PyProof.Rows
abbrev Key:=Sum Int Str
def jp8:Key->Value->Bool
 | .inl k,v=>Value.isInt k v
 | .inr x,v=>Value.isStrOf x v
def keyH(w:World):Key->Int
 | .inl k=>hashInt k
 | .inr x=>hashStr w x
theorem jc2:∀{k:Key} {v:Value},jp8 k v=true->(∃i t,k=Sum.inl i /\ v=Value.int i t) \/ (∃x t,k=Sum.inr x /\ v=Value.str x t)
 | .inl i,v,h=>by
  obtain⟨t,e⟩:=Value.isInt_shape (k:=i) (v:=v) h
  exact .inl ⟨i,t,rfl,e⟩
 | .inr x,v,h=>by
  obtain⟨t,e⟩:=Value.isStrOf_shape (x:=x) (v:=v) h
  exact .inr ⟨x,t,rfl,e⟩
theorem jqo(i:Int)(t:Tok):jp8 (.inl i) (.int i t)=true:=by simp[jp8,Value.isInt]
theorem jqa(x:Str)(t:Tok):jp8 (.inr x) (.str x t)=true:=by simp[jp8,Value.isStrOf]
theorem key_ll(a b:Int):decide ((Sum.inl a:Key)=Sum.inl b)=(a==b):=by
 by_cases e:a=b
 ·subst e;simp
 ·have h:¬(Sum.inl a:Key)=Sum.inl b:=λq=>e (Sum.inl.inj q)
  rw[decide_eq_false h]
  exact(beq_eq_false_iff_ne.mpr e).symm
theorem key_rr(a b:Str):decide ((Sum.inr a:Key)=Sum.inr b)=decide (a=b):=by
 by_cases e:a=b
 ·subst e;simp
 ·have h:¬(Sum.inr a:Key)=Sum.inr b:=λq=>e (Sum.inr.inj q)
  rw[decide_eq_false h,decide_eq_false e]
theorem key_lr(a:Int)(b:Str):decide ((Sum.inl a:Key)=Sum.inr b)=false:=decide_eq_false (λq=>nomatch q)
theorem key_rl(a:Str)(b:Int):decide ((Sum.inr a:Key)=Sum.inl b)=false:=decide_eq_false (λq=>nomatch q)
def jc7(prog:Program)(w:World):PySem.KeyKind prog w Key where
 is:=jp8
 hash:=keyH w
 inj:=λv a b ha hb=>by
  rcases jc2 ha with⟨i,t,rfl,rfl⟩ | ⟨x,t,rfl,rfl⟩
  ·rcases jc2 hb with⟨j,u,rfl,e⟩ | ⟨y,u,rfl,e⟩
   ·injection e with e1 _;rw[e1]
   ·exact nomatch e
  ·rcases jc2 hb with⟨j,u,rfl,e⟩ | ⟨y,u,rfl,e⟩
   ·exact nomatch e
   ·injection e with e1 _;rw[e1]
 byValue:=λk v h=>by
  rcases jc2 h with⟨i,t,rfl,rfl⟩ | ⟨x,t,rfl,rfl⟩<;>rfl
 pyHash:=λhv h=>by
  rcases jc2 hv with⟨i,t,rfl,rfl⟩ | ⟨x,t,rfl,rfl⟩
  ·exact wpAny_pyHash_int h
  ·exact wpAny_pyHash_str h
 eqBool:=λhu hv h=>by
  rcases jc2 hu with⟨i,t,rfl,rfl⟩ | ⟨x,t,rfl,rfl⟩
  ·rcases jc2 hv with⟨j,u,rfl,rfl⟩ | ⟨y,u,rfl,rfl⟩
   ·rw[key_ll] at h;exact wpAny_eqBool_int h
   ·rw[key_lr] at h;exact SeqAt.EqAt.int_str i t y u _ _ _ _ h
  ·rcases jc2 hv with⟨j,u,rfl,rfl⟩ | ⟨y,u,rfl,rfl⟩
   ·rw[key_rl] at h;exact SeqAt.EqAt.str_int x t j u _ _ _ _ h
   ·rw[key_rr] at h;exact wpAny_eqBool_str h
 «strs»:=λk x t v h=>by
  rcases jc2 h with⟨i,u,rfl,e⟩ | ⟨y,u,rfl,e⟩
  ·exact nomatch e
  ·injection e with e1 _
   subst e1
   cases v<;>rfl
theorem jlr(prog:Program)(w:World)(i:Int)(t:Tok):(jc7 prog w).is (.inl i) (.int i t)=true:=jqo i t
theorem jfn(prog:Program)(w:World)(x:Str)(t:Tok):(jc7 prog w).is (.inr x) (.str x t)=true:=jqa x t
inductive V where
 | non | bl (b:Bool) | int (i:Int) | str (x:Str) | byt (b:Array UInt8) | flt (b:UInt64) | ref (a:Addr) | ty (n:String)
 deriving DecidableEq
def RelV:V->Value->Prop
 | .non,u=>u=Value.none
 | .bl b,u=>u=Value.bool b
 | .int i,u=>∃t,u=Value.int i t
 | .str x,u=>∃t,u=Value.str x t
 | .byt b,u=>∃t,u=Value.bytes b t
 | .flt b,u=>∃t,u=Value.float b t
 | .ref a,u=>u=Value.ref a
 | .ty n,u=>u=Value.type n
abbrev Vals:List V->List Value->Prop:=Paired RelV
theorem Vals.length{xs:List V}{us:List Value}(r:Vals xs us):xs.length=us.length:=Paired.length r
theorem Vals.get:∀{xs:List V} {us:List Value} {i:Nat} {x:V},Vals xs us->xs[i]?=some x->∃u,us[i]?=some u /\ RelV x u
 | _,_,_,_,.nil,e=>by simp at e
 | _,_,0,_,.cons r _,e=>by simp at e;subst e;exact⟨_,rfl,r⟩
 | _,_,i+1,x,.cons _ t,e=>by
  obtain⟨u,h1,h2⟩:=Vals.get (i:=i) (x:=x) t (by simpa using e)
  exact⟨u,by simpa using h1,h2⟩
theorem Vals.set{x:V}{u:Value}(r:RelV x u):∀{xs:List V} {us:List Value} (i:Nat),Vals xs us->Vals (xs.set i x) (us.set i u)
 | _,_,_,.nil=> .nil
 | _,_,0,.cons _ t=> .cons r t
 | _,_,i+1,.cons q t=> .cons q (Vals.set r i t)
theorem Vals.append:∀{xs ys:List V} {us ws:List Value},Vals xs us->Vals ys ws->Vals (xs++ys) (us++ws)
 | _,_,_,_,.nil,s=>s
 | _,_,_,_,.cons r t,s=> .cons r (Vals.append t s)
theorem Vals.take:∀{xs:List V} {us:List Value} (n:Nat),Vals xs us->Vals (xs.take n) (us.take n)
 | _,_,0,_=> .nil
 | _,_,_+1,.nil=> .nil
 | _,_,n+1,.cons r t=> .cons r (Vals.take n t)
theorem Vals.drop:∀{xs:List V} {us:List Value} (n:Nat),Vals xs us->Vals (xs.drop n) (us.drop n)
 | _,_,0,r=>r
 | _,_,_+1,.nil=> .nil
 | _,_,n+1,.cons _ t=>Vals.drop n t
def RelO:Option V->Option Value->Prop
 | some v,some u=>RelV v u
 | none,none=>True
 | _,_=>False
def KV{κ:Type}:List (κ×V)->List (κ×Value)->Prop:=Paired λ(p:κ×V) (q:κ×Value)=>p.1=q.1 /\ RelV p.2 q.2
def kV:Key->V
 | .inl i=> .int i
 | .inr x=> .str x
inductive HO where
 | lst (xs:List V)
 | tup (xs:List V)
 | dK (kvs:List (Key×V)) | dT (kvs:List (List Key×V))
 | set (S:Int->Bool) (n:Nat)
 | ins (C dx:Addr) (fs:List (Str×V))
 | own (x:Addr)
 | xd (fs:List (Str×V))
 | met (f x:Addr)
 | rng (lo hi:Int)
 | frz (o:Obj) (u:HO)
 | tbl (ps:Array Value)
 | ext (φ:Heap->Prop)
abbrev Hp:=Addr->Option HO
def upd(H:Hp)(a:Addr)(o:HO):Hp:=λb=>if b=a then some o else H b
theorem jb6{H:Hp}{a:Addr}{o:HO}:upd H a o a=some o:=by unfold upd;rw[if_pos rfl]
theorem jan{H:Hp}{a b:Addr}{o:HO}(h:b≠a):upd H a o b=H b:=by unfold upd;rw[if_neg h]
theorem jbu{H:Hp}{a b:Addr}{o:HO}(h:H a=some o)(h':H b=none):a≠b:=by
 intro e;subst e;rw[h] at h';cases h'
section
variable (P : Program) (w : World)
def jcm(H:Hp)(h:Heap)(a:Addr):HO->Prop
 | .lst xs=>xs.length<=sizeLine /\ ∃(its:List Value) (n:Nat),Vals xs its /\ h.get? a=some {cls:= .type "list",data:= .seq its.toArray n}
 | .tup xs=>xs.length<=sizeLine /\ ∃its:List Value,Vals xs its /\ IsTup h a its.toArray
 | .dK kvs=>kvs.length<=sizeLine /\ (a==sysModules)=false /\ ∃vs,KV kvs vs /\ h.DictOf (jc7 P w) a vs
 | .dT kvs=>kvs.length<=sizeLine /\ (a==sysModules)=false /\ ∃xs:List (List Key×Addr×Value),
   Paired (λ(p:List Key×V) (q:List Key×Addr×Value)=>p.1=q.1 /\ H q.2.1=some (.tup (p.1.map kV)) /\ RelV p.2 q.2.2) kvs xs /\
   ∃o es ep,h.get? a=some o /\ o.ExactDict /\ o.data= .dict es ep /\ es.toList=xs.map (entryOfKey (tupleKind (jc7 P w))) /\ (xs.map (·.1)).Nodup
 | .set S n=>h.SetOf (intKind P w) a S n
 | .ins C dx fs=>H dx=some (.own a) /\ fs.length<=1000 /\ dx≠a /\ h.get? a=some (W.instObj C dx) /\
   ∃mA,h.Ns1 dx mA /\ (∀f,RelO (fs.lookup f) (mA f)) /\ PySem.Within mA (fs.map (·.1))
 | .own _=>∃o,h.get? a=some o
 | .xd fs=>∃mA,h.Ns1 a mA /\ ∀f,RelO (fs.lookup f) (mA f)
 | .rng lo hi=>∃t u v,h.get? a=some {cls:= .type "range",data:= .fields #[.int lo t,.int hi u,.int 1 v]}
 | .frz o u=>h.get? a=some o /\ jcm H h a u
 | .tbl ps=>h.get? a=some {cls:= .none,data:= .fields ps}
 | .met f x=>h.get? a=some (W.methodObj (.ref f) (.ref x))
 | .ext φ=>φ h /\ (∃o,h.get? a=some o) /\ ∀h1 h2:Heap,φ h1->(∀o,h1.get? a=some o->h2.get? a=some o)->φ h2
def HOk(H:Hp)(h:Heap):Prop:=∀a o,H a=some o->jcm P w H h a o
end
section
variable {P : Program} {w : World} {H H' : Hp} {h h' : Heap} {a : Addr} {o : HO}
theorem jcm.lt(x:jcm P w H h a o):a<h.objs.size:=by
 cases o with
 | lst xs=>obtain⟨_,_,_,_,e⟩:=x;exact Heap.lt_size e
 | tup xs=>obtain⟨_,_,_,p⟩:=x;exact p.lt
 | dK kvs=>obtain⟨_,_,_,_,o,_,_,e,_⟩:=x;exact Heap.lt_size e
 | dT kvs=>obtain⟨_,_,_,_,o,_,_,e,_⟩:=x;exact Heap.lt_size e
 | set S n=>obtain⟨o,_,_,_,e,_⟩:=x;exact Heap.lt_size e
 | ins C dx fs=>obtain⟨_,_,_,e,_⟩:=x;exact Heap.lt_size e
 | own y=>obtain⟨_,e⟩:=x;exact Heap.lt_size e
 | xd fs=>obtain⟨_,⟨_,_,_,e,_⟩,_⟩:=x;exact Heap.lt_size e
 | rng lo hi=>obtain⟨_,_,_,e⟩:=x;exact Heap.lt_size e
 | frz ob u=>obtain⟨e,_⟩:=x;exact Heap.lt_size e
 | tbl ps=>exact Heap.lt_size (show h.get? a=some _ from x)
 | met f y=>exact Heap.lt_size (show h.get? a=some _ from x)
 | ext φ=>obtain⟨_,⟨_,e⟩,_⟩:=x;exact Heap.lt_size e
theorem Paired.mapP{α β:Type}{F G:α->β->Prop}:∀{l₁:List α} {l₂:List β},Paired F l₁ l₂->(∀a b,F a b->G a b)->Paired G l₁ l₂
 | _,_,.nil,_=> .nil
 | _,_,.cons r t,f=> .cons (f _ _ r) (Paired.mapP t f)
theorem jcm.stay(x:jcm P w H h a o)(k:∀b u,(b=a \/ H b=some (.own a))->h.get? b=some u->h'.get? b=some u)
  (ho:∀b,H b=some (.own a)->H' b=some (.own a)) (ht:∀b xs,H b=some (.tup xs)->H' b=some (.tup xs)):jcm P w H' h' a o:=by
 induction o with
 | lst xs=>obtain⟨z,its,n,r,e⟩:=x;exact⟨z,its,n,r,k _ _ (.inl rfl) e⟩
 | tup xs=>obtain⟨z,its,r,ob,e,c⟩:=x;exact⟨z,its,r,ob,k _ _ (.inl rfl) e,c⟩
 | dK kvs=>obtain⟨z,y,vs,r,ob,es,ep,e,c⟩:=x;exact⟨z,y,vs,r,ob,es,ep,k _ _ (.inl rfl) e,c⟩
 | dT kvs=>
  obtain⟨z,y,xs,r,ob,es,ep,e,c⟩:=x
  exact⟨z,y,xs,Paired.mapP r λp q z=>⟨z.1,ht _ _ z.2.1,z.2.2⟩,ob,es,ep,k _ _ (.inl rfl) e,c⟩
 | set S n=>obtain⟨ob,es,ep,t,e,c⟩:=x;exact⟨ob,es,ep,t,k _ _ (.inl rfl) e,c⟩
 | ins C dx fs=>
  obtain⟨d,z,ne,e,mA,⟨od,es,ep,e2,c⟩,r⟩:=x
  exact⟨ho _ d,z,ne,k _ _ (.inl rfl) e,mA,⟨od,es,ep,k _ _ (.inr d) e2,c⟩,r⟩
 | own y=>obtain⟨ob,e⟩:=x;exact⟨ob,k _ _ (.inl rfl) e⟩
 | xd fs=>obtain⟨mA,⟨od,es,ep,e,c⟩,r⟩:=x;exact⟨mA,⟨od,es,ep,k _ _ (.inl rfl) e,c⟩,r⟩
 | rng lo hi=>obtain⟨t,u,v,e⟩:=x;exact⟨t,u,v,k _ _ (.inl rfl) e⟩
 | frz ob u ih=>obtain⟨e,q⟩:=x;exact⟨k _ _ (.inl rfl) e,ih q⟩
 | tbl ps=>
  have e:h.get? a=some {cls:= .none,data:= .fields ps}:=x
  show h'.get? a=some {cls:= .none,data:= .fields ps}
  exact k a _ (.inl rfl) e
 | met f y=>
  have e:h.get? a=some (W.methodObj (.ref f) (.ref y)):=x
  show h'.get? a=some (W.methodObj (.ref f) (.ref y))
  exact k a _ (.inl rfl) e
 | ext φ=>obtain⟨p,⟨o,e⟩,st⟩:=x;exact⟨st _ _ p λo q=>k _ _ (.inl rfl) q,⟨o,k _ _ (.inl rfl) e⟩,st⟩
theorem HOk.lt(x:HOk P w H h)(e:H a=some o):a<h.objs.size:=(x a o e).lt
theorem HOk.fresh(x:HOk P w H h)(e:h.objs.size<=a):H a=none:=by
 cases q:H a with
 | none=>rfl
 | some u=>exact absurd (Nat.lt_of_lt_of_le (x.lt q) e) (Nat.lt_irrefl _)
theorem HOk.kept(x:HOk P w H h)(k:∀b u,h.get? b=some u->h'.get? b=some u):HOk P w H h':=λa o e=>
 (x a o e).stay (λb u _ q=>k b u q) (λ_ q=>q) λ_ _ q=>q
theorem HOk.laid(x:HOk P w H h)(k:∀b u,h.get? b=some u->h'.get? b=some u)(hp:h.objs.size<=a)(new:jcm P w (upd H a o) h' a o):HOk P w (upd H a o) h':=λb u e=>by
 have hn:=x.fresh hp
 by_cases hb:b=a
 ·subst hb;rw[jb6] at e;cases e;exact new
 ·rw[jan hb] at e
  exact(x b u e).stay (λc v _ q=>k c v q) (λc q=>by rw[jan (jbu q hn)];exact q) λc xs q=>by rw[jan (jbu q hn)];exact q
end
def Rd(H:Hp)(a:Addr)(u:HO):Prop:=H a=some u \/ ∃o,H a=some (.frz o u)
theorem Rd.ok{P:Program}{w:World}{H:Hp}{h:Heap}{a:Addr}{u:HO}(r:Rd H a u)(x:HOk P w H h):jcm P w H h a u:=by
 rcases r with r | ⟨o,r⟩
 ·exact x a u r
 ·obtain⟨_,q⟩:=x a _ r
  exact q
def Mut:Option HO->Prop
 | some (.lst _)=>True
 | some (.dK _)=>True
 | some (.dT _)=>True
 | some (.set _ _)=>True
 | some (.ins _ _ _)=>True
 | some (.ext _)=>True
 | _=>False
section
variable {P : Program} {w : World} {H : Hp} {h h' : Heap} {x e : Addr} {o' : HO}
theorem HOk.write(ok:HOk P w H h)(mu:Mut (H x))(he:e=x \/ H e=some (.own x))(k:∀b u,b≠e->h.get? b=some u->h'.get? b=some u)(heo:∃u,h'.get? e=some u)
  (new:jcm P w (upd H x o') h' x o'):HOk P w (upd H x o') h':=λb u q=>by
 have nown:∀c y,H c=some (.own y)->c≠x:=λc y r z=>by subst z;rw[r] at mu;exact mu
 have ntup:∀c xs,H c=some (.tup xs)->c≠x:=λc xs r z=>by subst z;rw[r] at mu;exact mu
 by_cases hb:b=x
 ·subst hb;rw[jb6] at q;cases q;exact new
 ·rw[jan hb] at q
  by_cases hbe:b=e
  ·have q':H b=some (.own x):=by
    rcases he with z | z
    ·exact absurd (hbe.trans z) hb
    ·rw[hbe];exact z
   rw[q] at q';cases q'
   obtain⟨v,hv⟩:=heo
   exact⟨v,by rw[hbe];exact hv⟩
  ·refine(ok b u q).stay (λc v hc r=>k c v ?_ r) (λc r=>by rw[jan (nown c b r)];exact r) λc xs r=>by rw[jan (ntup c xs r)];exact r
   rcases hc with rfl | hc
   ·exact hbe
   ·rintro rfl
    rcases he with z | z
    ·exact nown c b hc z
    ·rw[hc] at z;cases z;exact hb rfl
end
structure Un (fs ex:List Addr) (H H':Hp) (h h':Heap):Prop where
 keep:∀b o,h.get? b=some o->H b=none->b∉fs->b∉ex->h'.get? b=some o
 slot:∀b o,h.get? b=some o->H b=none->b∈fs->b∉ex->∃sl,h'.get? b=some {o with slots:=sl}
 free:∀b o,h.get? b=some o->H b=none->b∉ex->H' b=none
 there:∀b o,h.get? b=some o->b∉ex->∃o',h'.get? b=some o'
 tups:∀b xs,H b=some (.tup xs)->H' b=some (.tup xs)
 frzs:∀b o u,H b=some (.frz o u)->H' b=some (.frz o u)
 tbls:∀b ps,H b=some (.tbl ps)->∃more,H' b=some (.tbl (ps++more))
section
variable {fs fs' ex ex' : List Addr} {H H1 H2 : Hp} {h h1 h2 h' : Heap} {a x e : Addr} {o : HO}
theorem Un.any(u:Un fs ex H H1 h h1){b:Addr}{ob:Obj}(q:h.get? b=some ob)(n:H b=none)(hx:b∉ex):∃sl,h1.get? b=some {ob with slots:=sl}:=by
 by_cases hb:b∈fs
 ·exact u.slot b ob q n hb hx
 ·exact⟨ob.slots,u.keep b ob q n hb hx⟩
theorem Un.kept(k:∀b u,h.get? b=some u->h'.get? b=some u):Un fs ex H H h h':=
 ⟨λb ob q _ _ _=>k b ob q,λb ob q _ _ _=>⟨ob.slots,k b ob q⟩,λ_ _ _ n _=>n,λb ob q _=>⟨ob,k b ob q⟩,λ_ _ q=>q,λ_ _ _ q=>q,λ_ ps q=>⟨#[],by rw[q];simp⟩⟩
theorem Un.refl:Un fs ex H H h h:=Un.kept λ_ _ q=>q
theorem Un.laid(k:∀b u,h.get? b=some u->h'.get? b=some u)(hp:h.objs.size<=a)(hn:H a=none):Un fs ex H (upd H a o) h h' where
 keep:=λb u q _ _ _=>k b u q
 slot:=λb u q _ _ _=>⟨u.slots,k b u q⟩
 free:=λb u q n _=>by rw[jan (Nat.ne_of_lt (Nat.lt_of_lt_of_le (Heap.lt_size q) hp))];exact n
 there:=λb u q _=>⟨u,k b u q⟩
 tups:=λb xs q=>by rw[jan (jbu q hn)];exact q
 frzs:=λb u xs q=>by rw[jan (jbu q hn)];exact q
 tbls:=λb ps q=>⟨#[],by rw[jan (jbu q hn),q];simp⟩
theorem Un.write(mu:Mut (H x))(he:e=x \/ H e=some (.own x))(k:∀b u,b≠e->h.get? b=some u->h'.get? b=some u)(heo:∃u,h'.get? e=some u):Un fs ex H (upd H x o) h h':=by
 have hx:∀b,H b=none->b≠x:=λb n z=>by subst z;rw[n] at mu;exact mu
 have hb:∀b,H b=none->b≠e:=λb n z=>by
  subst z
  rcases he with r | r
  ·exact hx b n r
  ·rw[n] at r;cases r
 have hm:∀b u,H b=some u->¬Mut (some u)->b≠x:=λb u q nm z=>by subst z;rw[q] at mu;exact nm mu
 refine⟨λb u q n _ _=>k b u (hb b n) q,λb u q n _ _=>⟨u.slots,k b u (hb b n) q⟩,λb u q n _=>by rw[jan (hx b n)];exact n,λb u q _=> ?_,
  λb xs q=>by rw[jan (hm b _ q λz=>z)];exact q,λb u xs q=>by rw[jan (hm b _ q λz=>z)];exact q,λb ps q=>⟨#[],by rw[jan (hm b _ q λz=>z),q];simp⟩⟩
 by_cases hbe:b=e
 ·subst hbe;exact heo
 ·exact⟨u,k b u hbe q⟩
end
def trk(h:Heap)(H:Hp):List Addr:=(List.range h.objs.size).filter λa=>(H a).isSome
def hidT(h:Heap)(H:Hp):Heap:=W.hideAll h (trk h H)
theorem jrj(h:Heap)(H:Hp):(hidT h H).objs.size=h.objs.size:=W.hideAll_size _ _
theorem jvb{h:Heap}{H:Hp}{b:Addr}{o:Obj}(e:h.get? b=some o)(n:H b=none):(hidT h H).get? b=some o:=
 W.hideAll_get _ e λhm=>by
  have q:(H b).isSome=true:=(List.mem_filter.mp hm).2
  rw[n] at q;simp at q
theorem jyl{h:Heap}{H:Hp}{b:Addr}{o:Obj}(e:(hidT h H).get? b=some o):h.get? b=some o /\ H b=none:=by
 have e':h.get? b=some o:=W.of_hideAll (trk h H) e
 refine⟨e',?_⟩
 cases q:H b with
 | none=>rfl
 | some x=>
  have hm:b∈trk h H:=List.mem_filter.mpr ⟨List.mem_range.mpr (Heap.lt_size e'),by simp[q]⟩
  have z:(hidT h H).get? b=none:=W.hideAll_none (trk h H) hm
  rw[z] at e;cases e
structure Mod (K:W.Frag) (mg:Str->Option Value) (base:Heap):Prop where
 kin:K.In base
 glob:base.Ns mainGlobals mg
 blt:∃mb,base.Ns builtinsNs mb /\ ∀x:Str,x≠"__name__"->mb x=bootBuiltins x
 nolimit:base.NoLimit
structure Cx where
 prog:Program
 w:World
 K:W.Frag
 mg:Str->Option Value
 base:Heap
 A:Around
 N:List Str
 s₀:Shared
 H₀:Hp
 env:Env
 outer:List Env
 stack:List Env
 ex:List Addr
 fn:Str->Bool
 calm:Bool
 pn:List (Addr×Obj)
 xe:Value->Shared->Prop
def frs(l:List Env):List Addr:=l.filterMap (·.frame)
abbrev Cx.fs(X:Cx):List Addr:=frs X.outer
def Vis(sc:Scope)(x:Str):Prop:=sc.names.lookup x=some .local \/ sc.names.lookup x=some .cell \/ sc.names.lookup x=some .free
def Loc(sc:Scope)(x:Str):Prop:=sc.names.lookup x=some .local \/ sc.names.lookup x=some .cell
def Look(env:Env)(h:Heap)(m:Str->Option Value)(x:Str)(u:Value):Prop:=
 (env.kindOf x=some .local /\ m x=some u) \/ ((env.kindOf x=some .cell \/ env.kindOf x=some .free) /\ ∃c,env.cells.lookup x=some c /\ h.IsCell c (some u))
structure Cx.Ok (X:Cx):Prop where
 mod:Mod X.K X.mg X.base
 kind:X.env.scope.kind= .function
 glob:X.env.globals=mainGlobals
 blt:X.env.builtins=builtinsNs
 above:X.s₀.heap.objs.size<=X.env.locals
 inj:∀x y c,X.env.cells.lookup x=some c->X.env.cells.lookup y=some c->x=y
 has:∀x,(X.env.kindOf x=some .cell \/ X.env.kindOf x=some .free)->∃c,X.env.cells.lookup x=some c
 cab:∀x c,X.fn x=true->X.env.cells.lookup x=some c->X.s₀.heap.objs.size<=c
 hd:X.calm=true->X.A.handled=none
 frames:X.A.frames=some X.stack
 stk:X.stack=X.outer \/ (X.stack=X.env::X.outer /\ X.env.frame=some X.env.locals)
 exf:∀b∈X.ex,b≠X.env.locals /\ ∀x c,X.env.cells.lookup x=some c->c≠b
 bs:∀b o,X.base.get? b=some o->X.s₀.heap.get? b=some o /\ X.H₀ b=none
 bsz:X.base.objs.size<=X.s₀.heap.objs.size
 noex:∀b o,X.base.get? b=some o->b∉X.ex
 exfs:∀b∈X.ex,b∉X.fs
 funs:X.s₀.heap.FunFrames X.base X.outer
 frf:∀b∈X.fs,X.H₀ b=none
structure Inv (X:Cx) (pins:List (Addr×Obj)) (σ:List (Option V)) (H:Hp) (s:Shared):Prop where
 ok:X.Ok
 os:s.os=X.s₀.os
 bare:AllBare s.gens
 base:Un X.fs X.ex X.H₀ H X.s₀.heap s.heap
 loc:∃m,s.heap.Ns X.env.locals m /\ ∀(i:Nat) (x:Str) (v:V),X.N[i]?=some x->σ[i]?=some (some v)->Vis X.env.scope x->∃u,RelV v u /\ Look X.env s.heap m x u
 cell:∀x c,X.env.cells.lookup x=some c->∃v,s.heap.IsCell c v
 free:H X.env.locals=none
 freeC:∀x c,X.env.cells.lookup x=some c->H c=none
 pin:∀p∈X.pn++pins,s.heap.get? p.1=some p.2 /\ H p.1=none /\ p.1≠X.env.locals /\ p.1∉X.fs /\ ∀v,p.2.data≠ .cell v
 hok:HOk X.prog X.w H s.heap
 len:σ.length=X.N.length
section
variable {X : Cx} {pins : List (Addr × Obj)} {σ : List (Option V)} {H H' : Hp} {s : Shared} {h' : Heap}
theorem Cx.Ok.nofr(ok:X.Ok){b:Addr}{o:Obj}(e:X.base.get? b=some o):b∉X.fs:=λhb=>by
 have:=(ok.funs.mem hb).1
 rw[e] at this;cases this
theorem Inv.bs(I:Inv X pins σ H s):∀b o,X.base.get? b=some o->s.heap.get? b=some o /\ H b=none:=λb o e=>
 ⟨I.base.keep b o (I.ok.bs b o e).1 (I.ok.bs b o e).2 (I.ok.nofr e) (I.ok.noex b o e),I.base.free b o (I.ok.bs b o e).1 (I.ok.bs b o e).2 (I.ok.noex b o e)⟩
theorem Inv.bk(I:Inv X pins σ H s):∀b o,X.base.get? b=some o->s.heap.get? b=some o:=λb o e=>(I.bs b o e).1
theorem Inv.mod(I:Inv X pins σ H s):Mod X.K X.mg X.base:=I.ok.mod
theorem Inv.kIn(I:Inv X pins σ H s):X.K.In s.heap:=I.ok.mod.kin.keeps I.bk
theorem Inv.lt(I:Inv X pins σ H s):X.env.locals<s.heap.objs.size:=let ⟨_,hn,_⟩:=I.loc;hn.lt
theorem Inv.sz(I:Inv X pins σ H s):X.s₀.heap.objs.size<=s.heap.objs.size:=Nat.le_trans I.ok.above (Nat.le_of_lt I.lt)
theorem Inv.nofs(I:Inv X pins σ H s){a:Addr}(h:s.heap.objs.size<=a):a∉X.fs:=λhb=>by
 obtain⟨_,o,ho,_⟩:=I.ok.funs.mem hb
 exact absurd (Nat.lt_of_lt_of_le (Heap.lt_size ho) (Nat.le_trans I.sz h)) (Nat.lt_irrefl _)
theorem Inv.cne(I:Inv X pins σ H s):∀x c,X.env.cells.lookup x=some c->c≠X.env.locals:=λx c e z=>by
 obtain⟨v,o,ho,hd⟩:=I.cell x c e
 obtain⟨m,⟨o',es,ep,ho',hd',_⟩,_⟩:=I.loc
 rw[z,ho'] at ho;cases ho;rw[hd'] at hd;cases hd
theorem Inv.funs(I:Inv X pins σ H s):s.heap.FunFrames X.base X.outer:=by
 have all:∀(l:List Env),(∀b∈frs l,b∈X.fs)->X.s₀.heap.FunFrames X.base l->s.heap.FunFrames X.base l:=by
  intro l
  induction l with
  | nil=>intro _ _;trivial
  | cons env r ih=>
   intro hs hl
   obtain⟨hk,⟨L,o,hf,hn,ho,hd⟩,hr⟩:=hl
   have hL:L∈X.fs:=hs L (by unfold frs;rw[List.filterMap_cons,hf];exact List.mem_cons_self)
   obtain⟨sl,e⟩:=I.base.slot L o ho (I.ok.frf L hL) hL λz=>I.ok.exfs L z hL
   exact⟨hk,⟨L,_,hf,hn,e,hd⟩,ih (λb hb=>hs b (by unfold frs;rw[List.filterMap_cons,hf];exact List.mem_cons_of_mem _ hb)) hr⟩
 exact all X.outer (λ_ hb=>hb) I.ok.funs
theorem Inv.stack(I:Inv X pins σ H s):s.heap.FunFrames X.base X.stack:=by
 rcases I.ok.stk with e | ⟨e,hf⟩
 ·rw[e];exact I.funs
 ·rw[e]
  obtain⟨m,hn,_⟩:=I.loc
  refine .cons (by rw[I.ok.kind];decide) hf hn ?_ I.funs
  exact Heap.get?_none_of_le (Nat.le_trans I.ok.bsz I.ok.above)
theorem Inv.stkSub(I:Inv X pins σ H s):∀b∈frs X.stack,b∈X.env.locals::X.fs:=λb hb=>by
 rcases I.ok.stk with e | ⟨e,hf⟩
 ·rw[e] at hb;exact List.mem_cons_of_mem _ hb
 ·rw[e] at hb
  unfold frs at hb
  rw[List.filterMap_cons,hf] at hb
  exact hb
theorem Inv.stkFree(I:Inv X pins σ H s):∀b∈frs X.stack,H b=none:=λb hb=>by
 rcases List.mem_cons.mp (I.stkSub b hb) with e | hb
 ·rw[e];exact I.free
 ·obtain⟨_,o,ho,_⟩:=I.ok.funs.mem hb
  exact I.base.free b o ho (I.ok.frf b hb) λz=>I.ok.exfs b z hb
theorem Inv.step{g':Array GenState}{t':Nat}{d':Drawn}{ch:List Addr}(I:Inv X pins σ H s)
  (hch:∀b∈ch,(b∈X.ex \/ X.s₀.heap.objs.size<=b) /\ b≠X.env.locals /\ (∀x c,X.env.cells.lookup x=some c->c≠b) /\ ∀p∈X.pn++pins,p.1≠b)
  (keep:∀b o,b≠X.env.locals->b∉X.fs->b∉ch->s.heap.get? b=some o->H b=none->h'.get? b=some o)
  (slot:∀b o,b≠X.env.locals->b∈X.fs->b∉ch->s.heap.get? b=some o->H b=none->∃sl,h'.get? b=some {o with slots:=sl}) (free:∀b o,b∉ch->s.heap.get? b=some o->H b=none->H' b=none)
  (there:∀b o,b∉ch->s.heap.get? b=some o->∃o',h'.get? b=some o')
  (tups:∀b xs,H b=some (.tup xs)->H' b=some (.tup xs)) (frzs:∀b o u,H b=some (.frz o u)->H' b=some (.frz o u)) (tbls:∀b ps,H b=some (.tbl ps)->∃more,H' b=some (.tbl (ps++more)))
  (ns:∀m,s.heap.Ns X.env.locals m->h'.Ns X.env.locals m) (hok:HOk X.prog X.w H' h') (hg:AllBare g'):
  Inv X pins σ H' {s with heap:=h',gens:=g',drawn:=d',toks:=t'}:=by
 have neL:∀b o,X.s₀.heap.get? b=some o->b≠X.env.locals:=λb o e=>Nat.ne_of_lt (Nat.lt_of_lt_of_le (Heap.lt_size e) I.ok.above)
 have neC:∀b o,X.s₀.heap.get? b=some o->b∉X.ex->b∉ch:=λb o e hx hb=>by
  rcases(hch b hb).1 with z | z
  ·exact hx z
  ·exact absurd (Nat.lt_of_lt_of_le (Heap.lt_size e) z) (Nat.lt_irrefl _)
 have cellK:∀x c,X.env.cells.lookup x=some c->∀v,s.heap.IsCell c v->h'.IsCell c v:=λx c e v ⟨o,ho,hd⟩=>by
  have nch:c∉ch:=λz=>(hch c z).2.2.1 x c e rfl
  by_cases hc:c∈X.fs
  ·obtain⟨sl,q⟩:=slot c o (I.cne x c e) hc nch ho (I.freeC x c e)
   exact⟨_,q,hd⟩
  ·exact⟨o,keep c o (I.cne x c e) hc nch ho (I.freeC x c e),hd⟩
 refine⟨I.ok,I.os,hg,⟨λb o e n hb hx=> ?_,λb o e n hb hx=> ?_,λb o e n hx=> ?_,λb o e hx=> ?_,λb xs e=>tups b xs (I.base.tups b xs e),λb o xs e=>frzs b o xs (I.base.frzs b o xs e),λb ps e=> ?_⟩,?_,λx c e=> ?_,?_,λx c e=> ?_,λp hp=> ?_,hok,I.len⟩
 ·exact keep b o (neL b o e) hb (neC b o e hx) (I.base.keep b o e n hb hx) (I.base.free b o e n hx)
 ·obtain⟨sl,e1⟩:=I.base.slot b o e n hb hx
  obtain⟨sl',e2⟩:=slot b _ (neL b o e) hb (neC b o e hx) e1 (I.base.free b o e n hx)
  exact⟨sl',e2⟩
 ·obtain⟨o',e1⟩:=I.base.there b o e hx
  exact free b o' (neC b o e hx) e1 (I.base.free b o e n hx)
 ·obtain⟨o',e1⟩:=I.base.there b o e hx
  exact there b o' (neC b o e hx) e1
 ·obtain⟨m1,e1⟩:=I.base.tbls b ps e
  obtain⟨m2,e2⟩:=tbls b _ e1
  exact⟨m1++m2,by rw[e2,Array.append_assoc]⟩
 ·obtain⟨m,hn,hl⟩:=I.loc
  refine⟨m,ns m hn,λi x v e1 e2 e3=> ?_⟩
  obtain⟨u,r,l⟩:=hl i x v e1 e2 e3
  refine⟨u,r,?_⟩
  rcases l with l | ⟨k,c,e,z⟩
  ·exact .inl l
  ·exact .inr ⟨k,c,e,cellK x c e _ z⟩
 ·obtain⟨v,z⟩:=I.cell x c e
  exact⟨v,cellK x c e v z⟩
 ·obtain⟨m,⟨o,_,_,ho,_⟩,_⟩:=I.loc
  exact free _ o (λz=>(hch _ z).2.1 rfl) ho I.free
 ·obtain⟨v,o,ho,hd⟩:=I.cell x c e
  exact free c o (λz=>(hch c z).2.2.1 x c e rfl) ho (I.freeC x c e)
 ·obtain⟨e,n,ne,nf,d⟩:=I.pin p hp
  have nch:p.1∉ch:=λz=>(hch p.1 z).2.2.2 p hp rfl
  exact⟨keep p.1 p.2 ne nf nch e n,free p.1 p.2 nch e n,ne,nf,d⟩
theorem Inv.un{t':Nat}(I:Inv X pins σ H s)(u:Un X.fs [] H H' s.heap h')(hok:HOk X.prog X.w H' h'):Inv X pins σ H' {s with heap:=h',toks:=t'}:=by
 obtain⟨m,⟨o,es,ep,ho,r⟩,_⟩:=id I.loc
 obtain⟨sl,hL⟩:=u.any ho I.free (by simp)
 exact I.step (g':=s.gens) (d':=s.drawn) (ch:=[]) (λ_ z=>nomatch z) (λb o _ hb _ e n=>u.keep b o e n hb (by simp)) (λb o _ hb _ e n=>u.slot b o e n hb (by simp)) (λb o _ e n=>u.free b o e n (by simp)) (λb o _ e=>u.there b o e (by simp)) u.tups u.frzs u.tbls (λm' hm=>by
  obtain⟨o',es',ep',ho',r'⟩:=hm
  rw[ho] at ho';cases ho'
  exact⟨_,es',ep',hL,r'⟩) hok I.bare
theorem Inv.call{g':Array GenState}{t':Nat}{d':Drawn}{ch:List Addr}(I:Inv X pins σ H s)(u:Un (frs X.stack) ch H H' s.heap h')(hok:HOk X.prog X.w H' h')(hg:AllBare g')
  (hch:∀b∈ch,(b∈X.ex \/ X.s₀.heap.objs.size<=b) /\ b≠X.env.locals /\ (∀x c,X.env.cells.lookup x=some c->c≠b) /\ ∀p∈X.pn++pins,p.1≠b):
  Inv X pins σ H' {s with heap:=h',gens:=g',drawn:=d',toks:=t'}:=by
 obtain⟨m,⟨o,es,ep,ho,r⟩,_⟩:=id I.loc
 obtain⟨sl,hL⟩:=u.any ho I.free λz=>(hch _ z).2.1 rfl
 exact I.step (ch:=ch) hch (λb o hL hb hc e n=>u.keep b o e n (λz=>(List.mem_cons.mp (I.stkSub b z)).elim hL hb) hc) (λb o _ _ hc e n=>u.any e n hc) (λb o hc e n=>u.free b o e n hc) (λb o hc e=>u.there b o e hc) u.tups u.frzs u.tbls (λm' hm=>by
  obtain⟨o',es',ep',ho',r'⟩:=hm
  rw[ho] at ho';cases ho'
  exact⟨_,es',ep',hL,r'⟩) hok hg
theorem Inv.turned{t':Nat}{it:Addr}(I:Inv X pins σ H s)(k:∀b o,b≠it->s.heap.get? b=some o->h'.get? b=some o)(hn:H it=none)(hL:it≠X.env.locals)
  (h1:it∈X.ex \/ X.s₀.heap.objs.size<=it) (h2:∀x c,X.env.cells.lookup x=some c->c≠it) (h3:∀p∈X.pn++pins,p.1≠it):Inv X pins σ H {s with heap:=h',toks:=t'}:=by
 have nit:∀b u,H b=some u->b≠it:=λb u e z=>by rw[z,hn] at e;cases e
 refine I.step (g':=s.gens) (d':=s.drawn) (ch:=[it]) (λb hb=> ?_) (λb o _ _ hc e _=>k b o (λz=>hc (by simp[z])) e) (λb o _ _ hc e _=>⟨o.slots,k b o (λz=>hc (by simp[z])) e⟩) (λ_ _ _ _ n=>n)
  (λb o hc e=>⟨o,k b o (λz=>hc (by simp[z])) e⟩) (λ_ _ e=>e) (λ_ _ _ e=>e) (λb ps e=>⟨#[],by rw[e];simp⟩) (λm hm=> ?_) (λb u e=> ?_) I.bare
 ·have e:b=it:=by simpa using hb
  subst e
  exact⟨h1,hL,h2,h3⟩
 ·obtain⟨o,es,ep,ho,r⟩:=hm
  exact⟨o,es,ep,k _ o (Ne.symm hL) ho,r⟩
 ·refine(I.hok b u e).stay (λc v hc q=>k c v ?_ q) (λ_ q=>q) λ_ _ q=>q
  rcases hc with z | z
  ·rw[z];exact nit b u e
  ·exact nit c _ z
theorem Inv.tok(I:Inv X pins σ H s)(t:Nat):Inv X pins σ H {s with toks:=t}:=I.un (h':=s.heap) (t':=t) Un.refl I.hok
theorem Inv.kept{t':Nat}(I:Inv X pins σ H s)(k:∀b u,s.heap.get? b=some u->h'.get? b=some u):Inv X pins σ H {s with heap:=h',toks:=t'}:=I.un (Un.kept k) (I.hok.kept k)
theorem Inv.laid{a:Addr}{o:HO}{t':Nat}(I:Inv X pins σ H s)(k:∀b u,s.heap.get? b=some u->h'.get? b=some u)(hp:s.heap.objs.size<=a)(new:jcm X.prog X.w (upd H a o) h' a o):
  Inv X pins σ (upd H a o) {s with heap:=h',toks:=t'}:=I.un (Un.laid k hp (I.hok.fresh hp)) (I.hok.laid k hp new)
theorem Inv.write{x e:Addr}{o:HO}{t':Nat}(I:Inv X pins σ H s)(mu:Mut (H x))(he:e=x \/ H e=some (.own x))(k:∀b u,b≠e->s.heap.get? b=some u->h'.get? b=some u)(heo:∃u,h'.get? e=some u)
  (new:jcm X.prog X.w (upd H x o) h' x o):Inv X pins σ (upd H x o) {s with heap:=h',toks:=t'}:=I.un (Un.write mu he k heo) (I.hok.write mu he k heo new)
theorem Inv.weak{σ':List (Option V)}(I:Inv X pins σ H s)(hl:σ'.length=σ.length)(w:∀(i:Nat) v,σ'[i]?=some (some v)->σ[i]?=some (some v)):Inv X pins σ' H s:=
 ⟨I.ok,I.os,I.bare,I.base,let ⟨m,hn,hl'⟩:=I.loc;⟨m,hn,λi x v e1 e2 e3=>hl' i x v e1 (w i v e2) e3⟩,I.cell,I.free,I.freeC,I.pin,I.hok,hl.trans I.len⟩
theorem Inv.pins_of{pins':List (Addr×Obj)}(I:Inv X pins σ H s)(h:∀p∈pins',s.heap.get? p.1=some p.2 /\ H p.1=none /\ p.1≠X.env.locals /\ p.1∉X.fs /\ ∀v,p.2.data≠ .cell v):Inv X pins' σ H s:=
 ⟨I.ok,I.os,I.bare,I.base,I.loc,I.cell,I.free,I.freeC,λp hp=>(List.mem_append.mp hp).elim (λz=>I.pin p (List.mem_append_left _ z)) (h p),I.hok,I.len⟩
theorem jne{N:List Str}(hN:N.Nodup){i j:Nat}{x:Str}(a:N[i]?=some x)(b:N[j]?=some x):i=j:=by
 obtain⟨h1,e1⟩:=List.getElem?_eq_some_iff.mp a
 obtain⟨h2,e2⟩:=List.getElem?_eq_some_iff.mp b
 exact(List.getElem_inj hN).mp (e1.trans e2.symm)
theorem jjt{M:Model}{A:Around}{E:Value->Shared->Prop}{i:Nat}{x:Str}{v:V}{u:Value}{Q:Unit->Shared->Prop}(I:Inv X pins σ H s)(hN:X.N.Nodup)(hi:X.N[i]?=some x)(hx:Loc X.env.scope x)(r:RelV v u)
  (h:∀s',Inv X pins (σ.set i (some v)) H s'->(∃a,Heap.SameBut a s.heap s'.heap /\ (a=X.env.locals \/ X.env.cells.lookup x=some a))->Q () s') (hf:X.fn x=true \/ X.env.scope.names.lookup x=some .local:=by first | exact .inl rfl | exact .inr rfl | assumption):wpAny M A (storeName X.env x u) Q E s:=by
 obtain⟨m,hn,hl⟩:=id I.loc
 have hcls:(X.env.scope.kind== .class||(X.env.scope.kind== .module&&X.env.locals !=X.env.globals))=false:=by rw[I.ok.kind];rfl
 have hiσ:i<σ.length:=by rw[I.len];exact(List.getElem?_eq_some_iff.mp hi).1
 have cne:=I.cne
 have tracked:∀{a:Addr} {h':Heap},(∃o,s.heap.get? a=some o /\ H a=none)->Heap.SameBut a s.heap h'->HOk X.prog X.w H h':=fun{a h'} ha hs b ob e=>by
  obtain⟨_,_,hfree⟩:=ha
  refine(I.hok b ob e).stay (λc w' hc q=>(hs.2 c ?_).trans q) (λ_ q=>q) λ_ _ q=>q
  rintro rfl
  rcases hc with rfl | hc
  ·rw[hfree] at e;cases e
  ·rw[hfree] at hc;cases hc
 rcases hx with hk | hk
 ·refine wpAny_storeName_local hk hn (λh' hn' hs=> ?_) hcls
  obtain⟨oL,_,_,hoL,_⟩:=id hn
  refine h _ ⟨I.ok,I.os,I.bare,⟨λb o e n hb hx=> ?_,λb o e n hb hx=> ?_,I.base.free,λb o e hx=> ?_,I.base.tups,I.base.frzs,I.base.tbls⟩,⟨_,hn',λj y v' e1 e2 e3=> ?_⟩,λy c e=> ?_,I.free,I.freeC,λp hp=> ?_,tracked ⟨oL,hoL,I.free⟩ hs,by simpa using I.len⟩ ⟨_,hs,.inl rfl⟩
  ·exact(hs.2 b (Nat.ne_of_lt (Nat.lt_of_lt_of_le (Heap.lt_size e) I.ok.above))).trans (I.base.keep b o e n hb hx)
  ·obtain⟨sl,e1⟩:=I.base.slot b o e n hb hx
   exact⟨sl,(hs.2 b (Nat.ne_of_lt (Nat.lt_of_lt_of_le (Heap.lt_size e) I.ok.above))).trans e1⟩
  ·obtain⟨o',e1⟩:=I.base.there b o e hx
   exact⟨o',(hs.2 b (Nat.ne_of_lt (Nat.lt_of_lt_of_le (Heap.lt_size e) I.ok.above))).trans e1⟩
  ·by_cases hj:j=i
   ·subst hj
    rw[hi] at e1;cases e1
    rw[List.getElem?_set_self hiσ] at e2
    cases e2
    exact⟨u,r,.inl ⟨hk,by simp⟩⟩
   ·rw[List.getElem?_set_ne (Ne.symm hj)] at e2
    obtain⟨u',r',q⟩:=hl j y v' e1 e2 e3
    refine⟨u',r',?_⟩
    rcases q with⟨k,e⟩ | ⟨k,c,e,z⟩
    ·refine .inl ⟨k,?_⟩
     have:y≠x:=λe=>hj (jne hN e1 (e▸hi))
     simp[this,e]
    ·exact .inr ⟨k,c,e,z.sameBut hs (cne y c e)⟩
  ·obtain⟨w',z⟩:=I.cell y c e
   exact⟨w',z.sameBut hs (cne y c e)⟩
  ·obtain⟨e,n,ne,nf,d⟩:=I.pin p hp
   exact⟨(hs.2 p.1 ne).trans e,n,ne,nf,d⟩
 ·have hfn:X.fn x=true:=by
   rcases hf with z | z
   ·exact z
   ·rw[z] at hk;cases hk
  obtain⟨c,hc⟩:=I.ok.has x (.inl hk)
  obtain⟨w',z⟩:=I.cell x c hc
  refine wpAny_storeName_cell I.ok.kind hk hc z (λh' hc' hs=> ?_)
  obtain⟨oc,hoc,hocd⟩:=id z
  refine h {s with heap:=h'} ⟨I.ok,I.os,I.bare,⟨λb o e n hb hx=> ?_,λb o e n hb hx=> ?_,I.base.free,λb o e hx=> ?_,I.base.tups,I.base.frzs,I.base.tbls⟩,⟨m,hn.sameBut hs (Ne.symm (cne x c hc)),λj y v' e1 e2 e3=> ?_⟩,λy c' e=> ?_,I.free,I.freeC,λp hp=> ?_,tracked ⟨oc,hoc,I.freeC x c hc⟩ hs,by simpa using I.len⟩ ⟨c,hs,.inr hc⟩
  ·exact(hs.2 b (Nat.ne_of_lt (Nat.lt_of_lt_of_le (Heap.lt_size e) (I.ok.cab x c hfn hc)))).trans (I.base.keep b o e n hb hx)
  ·obtain⟨sl,e1⟩:=I.base.slot b o e n hb hx
   exact⟨sl,(hs.2 b (Nat.ne_of_lt (Nat.lt_of_lt_of_le (Heap.lt_size e) (I.ok.cab x c hfn hc)))).trans e1⟩
  ·obtain⟨o',e1⟩:=I.base.there b o e hx
   exact⟨o',(hs.2 b (Nat.ne_of_lt (Nat.lt_of_lt_of_le (Heap.lt_size e) (I.ok.cab x c hfn hc)))).trans e1⟩
  ·by_cases hj:j=i
   ·subst hj
    rw[hi] at e1;cases e1
    rw[List.getElem?_set_self hiσ] at e2
    cases e2
    exact⟨u,r,.inr ⟨.inl hk,c,hc,hc'⟩⟩
   ·rw[List.getElem?_set_ne (Ne.symm hj)] at e2
    obtain⟨u',r',q⟩:=hl j y v' e1 e2 e3
    refine⟨u',r',?_⟩
    rcases q with q | ⟨k,c',e,z'⟩
    ·exact .inl q
    ·refine .inr ⟨k,c',e,z'.sameBut hs ?_⟩
     rintro rfl
     exact hj (jne hN e1 (I.ok.inj _ _ _ e hc▸hi))
  ·by_cases hcc:c'=c
   ·subst hcc;exact⟨_,hc'⟩
   ·obtain⟨w2,z2⟩:=I.cell y c' e
    exact⟨w2,z2.sameBut hs hcc⟩
  ·obtain⟨e,n,ne,nf,d⟩:=I.pin p hp
   refine⟨(hs.2 p.1 ?_).trans e,n,ne,nf,d⟩
   intro q
   rw[q,hoc] at e
   have q':oc=p.2:=Option.some.inj e
   exact d w' (by rw[<-q'];exact hocd)
theorem jjj{M:Model}{A:Around}{E:Value->Shared->Prop}{i:Nat}{x:Str}{v:V}{u:Value}{Q:Unit->Shared->Prop}(I:Inv X pins σ H s)(hN:X.N.Nodup)(hi:X.N[i]?=some x)(hx:Loc X.env.scope x)(r:RelV v u)
  (h:∀s',Inv X pins (σ.set i (some v)) H s'->Q () s') (hf:X.fn x=true \/ X.env.scope.names.lookup x=some .local:=by first | exact .inl rfl | exact .inr rfl | assumption):wpAny M A (storeName X.env x u) Q E s:=
 jjt I hN hi hx r (λs' I' _=>h s' I') hf
theorem Inv.call'{s':Shared}{ch:List Addr}(I:Inv X pins σ H s)(ho:s'.os=s.os)(u:Un (frs X.stack) ch H H' s.heap s'.heap)(hok:HOk X.prog X.w H' s'.heap)(hg:AllBare s'.gens)
  (hch:∀b∈ch,(b∈X.ex \/ X.s₀.heap.objs.size<=b) /\ b≠X.env.locals /\ (∀x c,X.env.cells.lookup x=some c->c≠b) /\ ∀p∈X.pn++pins,p.1≠b):Inv X pins σ H' s':=by
 obtain⟨h',g',d',t',o'⟩:=s'
 have e:o'=s.os:=ho
 subst e
 exact I.call (g':=g') (t':=t') (d':=d') u hok hg hch
end
abbrev XK:=Value->Option Addr->Hp->Prop
abbrev St:=List (Option V)
abbrev VK:=V->Hp->Prop
abbrev TE:=St->Hp->VK->Prop
abbrev TT:=St->Hp->(Bool->Hp->Prop)->Prop
abbrev TA:=St->Hp->(List V->Hp->Prop)->Prop
structure Ends where
 nx:St->Hp->Prop
 rt:VK
 bk:St->Hp->Prop:=λ_ _=>False
 ct:St->Hp->Prop:=λ_ _=>False
abbrev TS:=Ends->St->Hp->Prop
def EP(X:Cx)(pins:List (Addr×Obj))(σ:St)(Q:VK)(u:Value)(s':Shared):Prop:=∃v H',Inv X pins σ H' s' /\ RelV v u /\ Q v H'
def TP(X:Cx)(pins:List (Addr×Obj))(σ:St)(Q:Bool->Hp->Prop)(b:Bool)(s':Shared):Prop:=∃H',Inv X pins σ H' s' /\ Q b H'
def AP(X:Cx)(pins:List (Addr×Obj))(σ:St)(Q:List V->Hp->Prop)(us:List Value)(s':Shared):Prop:=∃vs H',Inv X pins σ H' s' /\ Vals vs us /\ Q vs H'
def SP(X:Cx)(pins:List (Addr×Obj))(D:Ends)(f:Flow)(s':Shared):Prop:=
 match f with
 | .next=>∃σ' H',Inv X pins σ' H' s' /\ D.nx σ' H'
 | .brk=>∃σ' H',Inv X pins σ' H' s' /\ D.bk σ' H'
 | .cont=>∃σ' H',Inv X pins σ' H' s' /\ D.ct σ' H'
 | .ret u=>∃v σ' H',Inv X pins σ' H' s' /\ RelV v u /\ D.rt v H'
def PE(X:Cx)(e:Expr)(t:TE):Prop:=
 ∀(pins:List (Addr×Obj)) (s:Shared) (σ:St) (H:Hp) (Q:VK),Inv X pins σ H s->t σ H Q->wpAny (model X.prog X.w) X.A (eval e X.env) (EP X pins σ Q) X.xe s
def PT(X:Cx)(e:Expr)(t:TT):Prop:=
 ∀(pins:List (Addr×Obj)) (s:Shared) (σ:St) (H:Hp) (Q:Bool->Hp->Prop),Inv X pins σ H s->t σ H Q->wpAny (model X.prog X.w) X.A (isTrue e X.env (eval e X.env)) (TP X pins σ Q) X.xe s
def PW(X:Cx)(e:Expr)(t:TT):Prop:=
 ∀(whole:Sem Value) (pins:List (Addr×Obj)) (s:Shared) (σ:St) (H:Hp) (Q:Bool->Hp->Prop),Inv X pins σ H s->t σ H Q->wpAny (model X.prog X.w) X.A (isTrue e X.env whole) (TP X pins σ Q) X.xe s
theorem PW.pt{X:Cx}{e:Expr}{t:TT}(h:PW X e t):PT X e t:=h _
def PA(X:Cx)(es:List Expr)(t:TA):Prop:=
 ∀(pos:Pos) (pins:List (Addr×Obj)) (s:Shared) (σ:St) (H:Hp) (Q:List V->Hp->Prop),Inv X pins σ H s->t σ H Q->wpAny (model X.prog X.w) X.A (spliced (backTo pos (starEach es X.env))) (AP X pins σ Q) X.xe s
def PS(X:Cx)(st:Stmt)(t:TS):Prop:=
 ∀(pins:List (Addr×Obj)) (s:Shared) (σ:St) (H:Hp) (D:Ends),Inv X pins σ H s->t D σ H->wpAny (model X.prog X.w) X.A (exec st X.env) (SP X pins D) X.xe s
def PSs(X:Cx)(st:List Stmt)(t:TS):Prop:=
 ∀(pins:List (Addr×Obj)) (s:Shared) (σ:St) (H:Hp) (D:Ends),Inv X pins σ H s->t D σ H->wpAny (model X.prog X.w) X.A (execs st X.env) (SP X pins D) X.xe s
theorem thn{α:Type}{t:Sem α}{Q Q':α->Shared->Prop}{M:Model}{A:Around}{E:Value->Shared->Prop}{s:Shared}(h:wpAny M A t Q E s)(hQ:∀a s,Q a s->Q' a s):wpAny M A t Q' E s:=wpAny_mono h hQ λ_ _ x=>x
section
variable {X : Cx}
def tVar(i:Nat):TE:=λσ H Q=>∃v,σ[i]?=some (some v) /\ Q v H
def tC(v:V):TE:=λ_ H Q=>Q v H
theorem pe_var{i:Nat}{x:Str}{pos:Pos}(hN:X.N[i]?=some x)(hv:Vis X.env.scope x)(hd:(x==("__debug__":Str))=false:=by decide)(hcd:(x==("__classdict__":Str))=false:=by decide):PE X (.Name x pos) (tVar i):=by
 intro pins s σ H Q I h
 obtain⟨v,e,h⟩:=h
 obtain⟨m,hn,hl⟩:=I.loc
 obtain⟨u,r,l⟩:=hl i x v hN e hv
 have fin:EP X pins σ Q u s:=⟨v,H,I,r,h⟩
 rcases l with⟨hk,hm⟩ | ⟨hk,c,hc,hcell⟩
 ·exact wpAny_Name (wpAny_loadName_local I.ok.kind hk hn hm fin) hd
 ·rcases hk with hk | hk
  ·exact wpAny_Name (wpAny_loadName_cell I.ok.kind hk hc hcell fin) hd
  ·exact wpAny_Name (wpAny_loadName_free I.ok.kind hk hc hcell fin hcd) hd
theorem ja9{i j pos}:PE X (.Constant (.int i) j pos) (tC (.int i)):=λ_ _ _ H _ I h=>wpAny_Constant_int ⟨.int i,H,I.tok _,⟨_,rfl⟩,h⟩
theorem jcv{b j pos}:PE X (.Constant (.bool b) j pos) (tC (.bl b)):=λ_ _ _ H _ I h=>Constant_bool ⟨.bl b,H,I,rfl,h⟩
theorem jna{j pos}:PE X (.Constant .none j pos) (tC .non):=λ_ _ _ H _ I h=>Constant_none ⟨.non,H,I,rfl,h⟩
theorem jam{x j pos}:PE X (.Constant (.str x) j pos) (tC (.str x)):=λ_ _ _ H _ I h=>Calls.Constant_str ⟨.str x,H,I.tok _,⟨_,rfl⟩,h⟩
def Gl(X:Cx)(x:Str):Prop:=X.env.kindOf x=some .globalImplicit
theorem jgl{E:Value->Shared->Prop}{pins:List (Addr×Obj)}{s:Shared}{σ:St}{H:Hp}{x:Str}{u:Value}{pos:Pos}{Q:Value->Shared->Prop}(I:Inv X pins σ H s)(hg:Gl X x)(hm:X.mg x=some u)(h:Q u s)
  (hd:(x==("__debug__":Str))=false:=by decide):wpAny (model X.prog X.w) X.A (eval (.Name x pos) X.env) Q E s:=
 Calls.Name_function_global I.ok.kind hg (Calls.loadGlobal_global (by rw[I.ok.glob];exact I.mod.glob.keeps I.bk) hm h) hd
theorem jku{E:Value->Shared->Prop}{pins:List (Addr×Obj)}{s:Shared}{σ:St}{H:Hp}{x:Str}{u:Value}{pos:Pos}{Q:Value->Shared->Prop}(I:Inv X pins σ H s)(hg:Gl X x)(hm:X.mg x=none)(hv:bootBuiltins x=some u)(h:Q u s)
  (hn:x≠"__name__":=by decide) (hd:(x==("__debug__":Str))=false:=by decide):wpAny (model X.prog X.w) X.A (eval (.Name x pos) X.env) Q E s:=by
 obtain⟨mb,h1,h2⟩:=I.mod.blt
 exact Calls.Name_function_global I.ok.kind hg (Calls.loadGlobal_builtin (by rw[I.ok.glob];exact I.mod.glob.keeps I.bk) hm (by rw[I.ok.blt];exact h1.keeps I.bk) ((h2 x hn).trans hv) h) hd
theorem jyd{x:Str}{v:V}{u:Value}{pos:Pos}(hg:Gl X x)(hm:X.mg x=some u)(r:RelV v u)(hd:(x==("__debug__":Str))=false:=by decide):PE X (.Name x pos) (tC v):=
 λ_ _ _ H _ I h=>jgl I hg hm ⟨v,H,I,r,h⟩ hd
theorem jy5{x:Str}{v:V}{u:Value}{pos:Pos}(hg:Gl X x)(hm:X.mg x=none)(hv:bootBuiltins x=some u)(r:RelV v u)(hn:x≠"__name__":=by decide)(hd:(x==("__debug__":Str))=false:=by decide):PE X (.Name x pos) (tC v):=
 λ_ _ _ H _ I h=>jku I hg hm hv ⟨v,H,I,r,h⟩ hn hd
variable {a b : Expr} {ta tb : TE} {pos : Pos}
def tB(t:TE):TT:=λσ H Q=>t σ H λx H1=>∃c,x= .bl c /\ Q c H1
variable {tA tB' : TT} {rest : List Expr}
def tAnd(t u:TT):TT:=λσ H Q=>t σ H λc H1=>if c=true then u σ H1 Q else Q false H1
def tOr(t u:TT):TT:=λσ H Q=>t σ H λc H1=>if c=true then Q true H1 else u σ H1 Q
def tNot(t:TT):TT:=λσ H Q=>t σ H λc H1=>Q (!c) H1
theorem jei(ha:PT X a tA):PW X (.BoolOp .And [a] pos) tA:=by
 intro wh pins s σ H Q I h
 refine isTrue_and (thn (ha pins s σ H Q I h) λc s1 e=> ?_)
 cases c with
 | true=>exact isTrue_and_nil e
 | false=>exact e
theorem job(ha:PT X a tA):PW X (.BoolOp .Or [a] pos) tA:=by
 intro wh pins s σ H Q I h
 refine isTrue_or (thn (ha pins s σ H Q I h) λc s1 e=> ?_)
 cases c with
 | false=>exact isTrue_or_nil e
 | true=>exact e
theorem jgx(ha:PT X a tA)(hb:PW X (.BoolOp .And (b::rest) pos) tB'):PW X (.BoolOp .And (a::b::rest) pos) (tAnd tA tB'):=by
 intro wh pins s σ H Q I h
 refine isTrue_and (thn (ha pins s σ H _ I h) λc s1 ⟨H1,I1,q1⟩=> ?_)
 cases c with
 | true=>exact hb wh pins s1 σ H1 Q I1 q1
 | false=>exact⟨H1,I1,q1⟩
theorem jv2(ha:PT X a tA)(hb:PW X (.BoolOp .Or (b::rest) pos) tB'):PW X (.BoolOp .Or (a::b::rest) pos) (tOr tA tB'):=by
 intro wh pins s σ H Q I h
 refine isTrue_or (thn (ha pins s σ H _ I h) λc s1 ⟨H1,I1,q1⟩=> ?_)
 cases c with
 | true=>exact⟨H1,I1,q1⟩
 | false=>exact hb wh pins s1 σ H1 Q I1 q1
theorem jdz(ha:PT X a tA):PT X (.UnaryOp .Not a pos) (tNot tA):=by
 intro pins s σ H Q I h
 exact isTrue_not (ha pins s σ H (λc H1=>Q (!c) H1) I h)
def tOrV(ta tb:TE):TE:=λσ H Q=>ta σ H λx H1=>∃c,x= .bl c /\ if c=true then Q (.bl true) H1 else tb σ H1 Q
theorem jwc{op}{t:TE}(h:PE X a t):PE X (.BoolOp op [a] pos) t:=λpins s σ H Q I hw=>BoolOp_one (h pins s σ H Q I hw)
theorem pe_or(ha:PE X a ta)(hb:PE X (.BoolOp .Or (b::rest) pos) tb):PE X (.BoolOp .Or (a::b::rest) pos) (tOrV ta tb):=by
 intro pins s σ H Q I h
 refine BoolOp_or (thn (ha pins s σ H _ I h) λv s1 ⟨x,H1,I1,r1,q1⟩=> ?_)
 obtain⟨c,rfl,q1⟩:=q1
 cases r1
 refine wpAny_truthy_bool ?_
 cases c with
 | false=>exact hb pins s1 σ H1 Q I1 q1
 | true=>exact⟨.bl true,H1,I1,rfl,q1⟩
def tIf(t:TT)(ta tb:TE):TE:=λσ H Q=>t σ H λc H1=>if c=true then ta σ H1 Q else tb σ H1 Q
theorem juv{c:Expr}(hc:PT X c tA)(ha:PE X a ta)(hb:PE X b tb):PE X (.IfExp c a b pos) (tIf tA ta tb):=by
 intro pins s σ H Q I h
 refine wpAny_IfExp (thn (hc pins s σ H _ I h) λd s1 ⟨H1,I1,q1⟩=> ?_)
 cases d with
 | true=>exact ha pins s1 σ H1 Q I1 q1
 | false=>exact hb pins s1 σ H1 Q I1 q1
end
def SqL(K:W.Frag)(H:Hp)(a:Addr)(xs:List V):Prop:=
 Rd H a (.lst xs) \/
  ∃(o:Obj) (its:Array Value) (n:Nat),K.lookup a=some o /\ o.cls= .type "list" /\ o.dict=none /\ o.data= .seq its n /\ its.size<=sizeLine /\ Vals xs its.toList
def SqT(K:W.Frag)(H:Hp)(a:Addr)(xs:List V):Prop:=
 Rd H a (.tup xs) \/
  ∃(o:Obj) (its:Array Value) (n:Nat),K.lookup a=some o /\ o.cls= .type "tuple" /\ o.data= .seq its n /\ its.size<=sizeLine /\ Vals xs its.toList
def absV:Value->Option V
 | .none=>some .non
 | .bool b=>some (.bl b)
 | .int i _=>some (.int i)
 | .str x _=>some (.str x)
 | .bytes b _=>some (.byt b)
 | .float b _=>some (.flt b)
 | .ref a=>some (.ref a)
 | .type n=>some (.ty n)
 | _=>none
theorem RelV.abs{x:V}{u:Value}(r:RelV x u):absV u=some x:=by
 cases x with
 | non=>cases r;rfl
 | bl _=>cases r;rfl
 | int _=>obtain⟨t,rfl⟩:=r;rfl
 | str _=>obtain⟨t,rfl⟩:=r;rfl
 | byt _=>obtain⟨t,rfl⟩:=r;rfl
 | flt _=>obtain⟨t,rfl⟩:=r;rfl
 | ref _=>cases r;rfl
 | ty _=>cases r;rfl
theorem RelV.inj{x y:V}{u:Value}(r:RelV x u)(q:RelV y u):x=y:=Option.some.inj (r.abs.symm.trans q.abs)
theorem Vals.inj:∀{xs ys:List V} {us:List Value},Vals xs us->Vals ys us->xs=ys
 | _,_,_,.nil,.nil=>rfl
 | _,_,_,.cons r t,.cons r' t'=>by rw[r.inj r',Vals.inj t t']
section
variable {X : Cx} {pins : List (Addr × Obj)} {σ : St} {H : Hp} {s : Shared} {a : Addr} {xs ys : List V}
theorem SqL.of{K:W.Frag}(h:H a=some (.lst xs)):SqL K H a xs:= .inl (.inl h)
theorem SqT.of{K:W.Frag}(h:H a=some (.tup xs)):SqT K H a xs:= .inl (.inl h)
theorem Inv.list(I:Inv X pins σ H s)(h:SqL X.K H a xs):∃its:List Value,Vals xs its /\ PlainL s.heap a its.toArray /\ xs.length<=sizeLine:=by
 rcases h with h | ⟨o,its,n,hk,hc,hd,hs,hz,r⟩
 ·obtain⟨z,its,n,r,e⟩:=h.ok I.hok
  exact⟨its,r,⟨_,n,e,rfl,rfl,rfl⟩,z⟩
 ·refine⟨its.toList,r,⟨o,n,I.kIn a o hk,hc,hd,by simpa using hs⟩,?_⟩
  have e:=r.length
  simp only[Array.length_toList] at e
  omega
theorem Inv.tuple(I:Inv X pins σ H s)(h:SqT X.K H a xs):∃its:List Value,Vals xs its /\ IsTup s.heap a its.toArray /\ xs.length<=sizeLine:=by
 rcases h with h | ⟨o,its,n,hk,hc,hs,hz,r⟩
 ·obtain⟨z,its,r,p⟩:=h.ok I.hok
  exact⟨its,r,p,z⟩
 ·refine⟨its.toList,r,⟨o,I.kIn a o hk,hc,n,by simpa using hs⟩,?_⟩
  have e:=r.length
  simp only[Array.length_toList] at e
  omega
theorem Inv.list_inj(I:Inv X pins σ H s)(h:SqL X.K H a xs)(h':SqL X.K H a ys):xs=ys:=by
 obtain⟨its,r,⟨o,n,e,_,_,d⟩,_⟩:=I.list h
 obtain⟨its',r',⟨o',n',e',_,_,d'⟩,_⟩:=I.list h'
 rw[e] at e';cases e'
 rw[d] at d'
 injection d' with d1 _
 have:its=its':=by simpa using congrArg Array.toList d1
 subst this
 exact r.inj r'
theorem Inv.tuple_inj(I:Inv X pins σ H s)(h:SqT X.K H a xs)(h':SqT X.K H a ys):xs=ys:=by
 obtain⟨its,r,⟨o,e,_,n,d⟩,_⟩:=I.tuple h
 obtain⟨its',r',⟨o',e',_,n',d'⟩,_⟩:=I.tuple h'
 rw[e] at e';cases e'
 rw[d] at d'
 injection d' with d1 _
 have:its=its':=by simpa using congrArg Array.toList d1
 subst this
 exact r.inj r'
end
abbrev Cx.wish(X:Cx)(E:Value->Shared->Prop):Cx:={X with xe:=E}
abbrev Cx.nox(X:Cx):Cx:=X.wish λ_ _=>False
theorem Cx.Ok.wish{X:Cx}(ok:X.Ok)(E:Value->Shared->Prop):(X.wish E).Ok:=
 ⟨ok.mod,ok.kind,ok.glob,ok.blt,ok.above,ok.inj,ok.has,ok.cab,ok.hd,ok.frames,ok.stk,ok.exf,ok.bs,ok.bsz,ok.noex,ok.exfs,ok.funs,ok.frf⟩
theorem Cx.Ok.unwish{X:Cx}{E:Value->Shared->Prop}(ok:(X.wish E).Ok):X.Ok:=
 ⟨ok.mod,ok.kind,ok.glob,ok.blt,ok.above,ok.inj,ok.has,ok.cab,ok.hd,ok.frames,ok.stk,ok.exf,ok.bs,ok.bsz,ok.noex,ok.exfs,ok.funs,ok.frf⟩
section
variable {X : Cx} {pins : List (Addr × Obj)} {σ : St} {H : Hp} {s : Shared} {E : Value -> Shared -> Prop}
theorem Inv.wish(I:Inv X pins σ H s)(E:Value->Shared->Prop):Inv (X.wish E) pins σ H s:=⟨I.ok.wish E,I.os,I.bare,I.base,I.loc,I.cell,I.free,I.freeC,I.pin,I.hok,I.len⟩
theorem Inv.unwish(I:Inv (X.wish E) pins σ H s):Inv X pins σ H s:=⟨I.ok.unwish,I.os,I.bare,I.base,I.loc,I.cell,I.free,I.freeC,I.pin,I.hok,I.len⟩
end
section
variable {X : Cx} {st : Stmt} {rest : List Stmt} {t u : TS} {e : Expr} {te : TE} {pos : Pos}
def jtp:TS:=λD σ H=>D.nx σ H
def tSeq(t u:TS):TS:=λD σ H=>t {D with nx:=u D} σ H
theorem jaf:PSs X [] jtp:=λ_ _ σ H _ I h=>wpAny_execs_nil ⟨σ,H,I,h⟩
theorem ja4(h1:PS X st t)(h2:PSs X rest u):PSs X (st::rest) (tSeq t u):=by
 intro pins s σ H D I h
 refine wpAny_execs_cons (thn (h1 pins s σ H {D with nx:=u D} I h) λf s1 q=> ?_)
 cases f with
 | next=>
  obtain⟨σ',H',I',q⟩:=q
  exact h2 pins s1 σ' H' D I' q
 | ret v=>exact q
 | brk=>exact q
 | cont=>exact q
theorem ja5(h1:PS X st t):PSs X [st] t:=by
 intro pins s σ H D I h
 refine wpAny_execs_cons (thn (h1 pins s σ H D I h) λf s1 q=> ?_)
 cases f with
 | next=>exact wpAny_execs_nil q
 | ret v=>exact q
 | brk=>exact q
 | cont=>exact q
def tCont:TS:=λD σ H=>D.ct σ H
theorem jn5:PS X (.Continue pos) tCont:=λ_ _ σ H _ I h=>wpAny_Continue ⟨σ,H,I,h⟩
theorem Inv.quiet{pins:List (Addr×Obj)}{σ:St}{H:Hp}{s:Shared}(I:Inv X pins σ H s):interactive X.env=false:=by simp[interactive,I.ok.kind]
def jyc(te:TE):TS:=λD σ H=>te σ H λ_ H1=>D.nx σ H1
theorem jdv(he:PE X e te)(hs:swapsWith e none pos.line X.env=pure false:=by rfl):PS X (.Expr e pos) (jyc te):=by
 intro pins s σ H D I h
 exact wpAny_Expr_any (thn (he pins s σ H _ I h) λv s1 ⟨x,H1,I1,r1,q1⟩=>⟨σ,H1,I1,q1⟩) I.quiet hs
def tRet(te:TE):TS:=λD σ H=>te σ H D.rt
theorem jah(he:PE X e te):PS X (.Return (some e) pos) (tRet te):=by
 intro pins s σ H D I h
 exact wpAny_Return_some (thn (he pins s σ H _ I h) λv s1 ⟨x,H1,I1,r1,q1⟩=>⟨x,σ,H1,I1,r1,q1⟩)
def tIfS(c:TT)(t u:TS):TS:=λD σ H=>c σ H λb H1=>if b=true then t D σ H1 else u D σ H1
theorem jaz{c:Expr}{a b:List Stmt}{tc:TT}(hc:PT X c tc)(ha:PSs X a t)(hb:PSs X b u):PS X (.If c a b pos) (tIfS tc t u):=by
 intro pins s σ H D I h
 refine wpAny_If (thn (hc pins s σ H _ I h) λd s1 ⟨H1,I1,q1⟩=> ?_)
 cases d with
 | true=>exact ha pins s1 σ H1 D I1 q1
 | false=>exact hb pins s1 σ H1 D I1 q1
end
abbrev TG:=V->St->Hp->(St->Hp->Prop)->Prop
abbrev TGs:=List V->St->Hp->(St->Hp->Prop)->Prop
def PG(X:Cx)(target:Expr)(t:TG):Prop:=
 ∀(pins:List (Addr×Obj)) (s:Shared) (σ:St) (H:Hp) (v:V) (u:Value) (Q:St->Hp->Prop),Inv X pins σ H s->RelV v u->t v σ H Q->
  wpAny (model X.prog X.w) X.A (assign target X.env u) (λ_ s'=>∃σ' H',Inv X pins σ' H' s' /\ Q σ' H') X.xe s
def PGs(X:Cx)(ts:List Expr)(t:TGs):Prop:=
 ∀(pins:List (Addr×Obj)) (s:Shared) (σ:St) (H:Hp) (vs:List V) (us:List Value) (Q:St->Hp->Prop),Inv X pins σ H s->Vals vs us->t vs σ H Q->
  wpAny (model X.prog X.w) X.A (assignInOrder ((assignEach ts X.env).map (·.2)) us) (λ_ s'=>∃σ' H',Inv X pins σ' H' s' /\ Q σ' H') X.xe s
abbrev TSet:=V->V->V->Hp->(Hp->Prop)->Prop
def PSet(X:Cx)(t:TSet):Prop:=
 ∀(pins:List (Addr×Obj)) (s:Shared) (σ:St) (H:Hp) (o i v:V) (ov iv u:Value) (Q:Hp->Prop),Inv X pins σ H s->RelV o ov->RelV i iv->RelV v u->t o i v H Q->
  wpAny (model X.prog X.w) X.A (setItem ov iv u) (λ_ s'=>∃H',Inv X pins σ H' s' /\ Q H') X.xe s
section
variable {X : Cx} {pos : Pos}
def jac(i:Nat):TG:=λv σ H Q=>Q (σ.set i (some v)) H
theorem jb7{i:Nat}{x:Str}(hN:X.N.Nodup)(hi:X.N[i]?=some x)(hx:Loc X.env.scope x)(hf:X.fn x=true \/ X.env.scope.names.lookup x=some .local:=by first | exact .inl rfl | exact .inr rfl | assumption):PG X (.Name x pos) (jac i):=by
 intro pins s σ H v u Q I r h
 exact wpAny_assign_Name (jjj I hN hi hx r (λs' I'=>⟨_,H,I',h⟩) hf)
def gNil:TGs:=λvs σ H Q=>vs=[] /\ Q σ H
def jxw(t:TG)(u:TGs):TGs:=λvs σ H Q=>∃v r,vs=v::r /\ t v σ H λσ' H'=>u r σ' H' Q
theorem jm3:PGs X [] gNil:=by
 intro pins s σ H vs us Q I r h
 obtain⟨e,h⟩:=h
 subst e
 cases r
 exact assignInOrder_nil ⟨σ,H,I,h⟩
theorem jf3{e:Expr}{es:List Expr}{t:TG}{u:TGs}(h1:PG X e t)(h2:PGs X es u)
  (hs:(assignEach (e::es) X.env).map (·.2)=assign e X.env::(assignEach es X.env).map (·.2):=by rfl):PGs X (e::es) (jxw t u):=by
 intro pins s σ H vs us Q I r h
 obtain⟨v,vr,e1,h⟩:=h
 subst e1
 cases r with
 | cons r rr=>
  rw[hs]
  refine assignInOrder_cons (thn (h1 pins s σ H _ _ _ I r h) λ_ s1 ⟨σ1,H1,I1,q1⟩=> ?_)
  exact h2 pins s1 σ1 H1 _ _ Q I1 rr q1
def gTup(K:W.Frag)(n:Nat)(t:TGs):TG:=λv σ H Q=>∃a xs,v= .ref a /\ SqT K H a xs /\ xs.length=n /\ t xs σ H Q
theorem pg_tup{es:List Expr}{k:Nat}{t:TGs}{n:Nat}(hc:X.calm=true)(h:PGs X es t)
  (hn:(assignEach es X.env).length=n:=by rfl) (hst:(assignEach es X.env).findIdx? (·.1)=none:=by rfl):PG X (.Tuple es k pos) (gTup X.K n t):=by
 intro pins s σ H v u Q I r hw
 obtain⟨a,xs,e1,hq,hl,hw⟩:=hw
 subst e1
 cases r
 obtain⟨its,rv,ht,hz⟩:=I.tuple hq
 refine assign_Tuple_tuple (I.ok.hd hc) ht (by simp[hn,<-hl,rv.length]) hst λh' hx=> ?_
 have I1:Inv X pins σ H {s with heap:=h'}:=I.kept (t':=s.toks) λb o e=>hx b o (Nat.ne_of_lt (Heap.lt_size e)) e
 exact h pins _ σ H xs _ Q I1 (by simpa using rv) hw
def gSub(to ti:TE)(t:TSet):TG:=λv σ H Q=>to σ H λo H1=>ti σ H1 λi H2=>t o i v H2 λH3=>Q σ H3
theorem jim{o i:Expr}{to ti:TE}{t:TSet}(ho:PE X o to)(hi:PE X i ti)(hs:PSet X t)
  (ha:∀v,assign (.Subscript o i pos) X.env v=(do
   let ov<-holding [v] (eval o X.env)
   let iv<-holding [v,ov] (eval i X.env)
   standAt pos
   holding [v,ov,iv] (setItem ov iv v)
   release [v,ov,iv] []):=by intro _;rfl):PG X (.Subscript o i pos) (gSub to ti t):=by
 intro pins s σ H v u Q I r h
 rw[ha]
 refine wpAny_bind (wpAny_holding (thn (ho pins s σ H _ I h) λov s1 ⟨x,H1,I1,r1,q1⟩=> ?_))
 refine wpAny_bind (wpAny_holding (thn (hi pins s1 σ H1 _ I1 q1) λiv s2 ⟨y,H2,I2,r2,q2⟩=> ?_))
 refine wpAny_bind (wpAny_standAt (wpAny_bind (wpAny_holding (thn (hs pins s2 σ H2 x y v ov iv u _ I2 r1 r2 r q2) λ_ s3 ⟨H3,I3,q3⟩=> ?_))))
 exact wpAny_release ⟨σ,H3,I3,q3⟩
def tAsg(te:TE)(g:TG):TS:=λD σ H=>te σ H λx H1=>g x σ H1 D.nx
theorem jgz{tg e:Expr}{te:TE}{g:TG}(he:PE X e te)(hg:PG X tg g)(hs:swapsWithSole [tg] e pos.line X.env=pure false:=by rfl)(hw:swappedStores [tg] e X.env=pure none:=by rfl)
  (h1:(assignEach [tg] X.env).map (·.2)=[assign tg X.env]:=by rfl):PS X (.Assign [tg] e pos) (tAsg te g):=by
 intro pins s σ H D I h
 refine wpAny_Assign_stores (thn (he pins s σ H _ I h) λv s1 ⟨x,H1,I1,r1,q1⟩=> ?_) hs hw
 rw[h1]
 exact thn (hg pins s1 σ H1 x v _ I1 r1 q1) λ_ s2 q=>q
theorem jax{i:Nat}{x:Str}{e:Expr}{te:TE}{pos':Pos}(hN:X.N.Nodup)(hi:X.N[i]?=some x)(hx:Loc X.env.scope x)(he:PE X e te)(hs:swapsWith e (some (.Name x pos')) pos.line X.env=pure false:=by rfl)(hf:X.fn x=true \/ X.env.scope.names.lookup x=some .local:=by first | exact .inl rfl | exact .inr rfl | assumption):
  PS X (.Assign [.Name x pos'] e pos) (tAsg te (jac i)):=by
 intro pins s σ H D I h
 refine wpAny_Assign_Name (thn (he pins s σ H _ I h) λv s1 ⟨y,H1,I1,r1,q1⟩=> ?_) hs
 exact jjj I1 hN hi hx r1 (λs2 I2=>⟨_,H1,I2,q1⟩) hf
end
section
variable {X : Cx} {pos : Pos}
def jwf(c:TT)(tb:TS):TS:=λD σ H=>∃W:Nat->St->Hp->Prop,(∃m,W m σ H) /\ ∀m σ H,W m σ H->
 c σ H λb H1=>if b=true then ∃N:St->Hp->Prop,(∀σ' H',N σ' H'->∃m',m'<m /\ W m' σ' H') /\ tb {D with nx:=N,ct:=N,bk:=D.nx} σ H1 else D.nx σ H1
theorem jn9{c:Expr}{body:List Stmt}{tc:TT}{tb:TS}(hp:PassesOwn (model X.prog X.w) X.A X.env X.xe)(hc:PT X c tc)(hb:PSs X body tb):PS X (.While c body [] pos) (jwf tc tb):=by
 intro pins s σ H D I h
 obtain⟨W,⟨m0,w0⟩,turn⟩:=h
 refine wpAny_While (codeAny_whileLoop (λn s'=>∃σ' H',Inv X pins σ' H' s' /\ W n σ' H') ?_ m0 ⟨σ,H,I,w0⟩)
 rintro n s1 ⟨σ1,H1,I1,w1⟩
 refine wpAny_passesOwn hp (thn (hc pins s1 σ1 H1 _ I1 (turn n σ1 H1 w1)) λb s2 ⟨H2,I2,q2⟩=> ?_)
 cases b with
 | true=>
  obtain⟨N,hN,q2⟩:=q2
  rw[if_pos rfl]
  refine wpAny_passesOwn hp (thn (hb pins s2 σ1 H2 _ I2 q2) λf s3 q3=> ?_)
  cases f with
  | next=>
   obtain⟨σ3,H3,I3,n3⟩:=q3
   obtain⟨m',hm,w3⟩:=hN σ3 H3 n3
   exact⟨m',hm,σ3,H3,I3,w3⟩
  | cont=>
   obtain⟨σ3,H3,I3,n3⟩:=q3
   obtain⟨m',hm,w3⟩:=hN σ3 H3 n3
   exact⟨m',hm,σ3,H3,I3,w3⟩
  | brk=>exact q3
  | ret v=>exact q3
 | false=>
  rw[if_neg Bool.false_ne_true]
  exact wpAny_execs_nil ⟨σ1,H2,I2,q2⟩
end
structure It where
 go:Nat->Hp->Prop
 yld:Nat->Hp->V->Hp->Prop
 stop:Nat->Hp->Prop
def FpOk(X:Cx)(pins:List (Addr×Obj))(H:Hp)(b:Addr):Prop:=
 H b=none /\ b≠X.env.locals /\ b∉X.fs /\ (b∈X.ex \/ X.s₀.heap.objs.size<=b) /\ (∀x c,X.env.cells.lookup x=some c->c≠b) /\ ∀p∈X.pn++pins,p.1≠b
theorem Inv.fpOk{X:Cx}{pins:List (Addr×Obj)}{σ:St}{H H':Hp}{s:Shared}{b:Addr}(I:Inv X pins σ H s)(hb:s.heap.objs.size<=b)(hn:H' b=none):FpOk X pins H' b:=by
 refine⟨hn,Nat.ne_of_gt (Nat.lt_of_lt_of_le I.lt hb),I.nofs hb,.inr (Nat.le_trans I.sz hb),λx c e z=> ?_,λp hp z=> ?_⟩
 ·obtain⟨v,q⟩:=I.cell x c e
  exact absurd (Nat.lt_of_lt_of_le q.lt (by rw[z];exact hb)) (Nat.lt_irrefl _)
 ·exact absurd (Nat.lt_of_lt_of_le (Heap.lt_size (I.pin p hp).1) (by rw[z];exact hb)) (Nat.lt_irrefl _)
structure Turn (P:Program) (w:World) (K:W.Frag) (tg:Expr) (J:It) (fp:List Addr) (it:Addr) (tn:Nat->Heap->Prop):Prop where
 mem:it∈fp
 obj:∀i h,tn i h->∀b∈fp,∃o,h.get? b=some o /\ ∀v,o.data≠ .cell v
 keep:∀i h h',tn i h->(∀b∈fp,∀o,h.get? b=some o->h'.get? b=some o)->tn i h'
 item:∀(X:Cx),X.prog=P->X.w=w->X.K=K->X.calm=true->∀(i:Nat) (pins:List (Addr×Obj)) (s:Shared) (σ:St) (H:Hp) (E:Value->Shared->Prop),Inv X pins σ H s->(∀b∈fp,FpOk X pins H b)->tn i s.heap->J.go i H->
  wpAny (model P w) X.A (pyNext (.ref it)) (λr s1=>∃u,r=some u /\
   wpAny (model P w) X.A (letOwnedTupleGo tg (.ref it) u) (λ_ s2=>∃x H',Inv X pins σ H' s2 /\ RelV x u /\ J.yld i H x H' /\ tn (i+1) s2.heap /\ ∀b∈fp,H' b=none) E s1) E s
 done:∀(X:Cx),X.prog=P->X.w=w->X.K=K->X.calm=true->∀(i:Nat) (pins:List (Addr×Obj)) (s:Shared) (σ:St) (H:Hp) (E:Value->Shared->Prop),Inv X pins σ H s->(∀b∈fp,FpOk X pins H b)->tn i s.heap->J.stop i H->
  wpAny (model P w) X.A (pyNext (.ref it)) (λr s1=>r=none /\ Inv X pins σ H s1) E s
 self:∀(A:Around) (i:Nat) (s:Shared) (Q:Value->Shared->Prop) (E:Value->Shared->Prop),tn i s.heap->Q (.ref it) s->wpAny (model P w) A (pyIter (.ref it)) Q E s
abbrev TI:=St->Hp->(It->Hp->Prop)->Prop
def PIE(X:Cx)(pins:List (Addr×Obj))(σ:St)(tg:Expr)(R:It->Hp->Prop)(itv:Value)(s2:Shared):Prop:=
 ∃(it:Addr) (fp:List Addr) (tn:Nat->Heap->Prop) (J:It) (H':Hp),itv= .ref it /\ Inv X pins σ H' s2 /\ Turn X.prog X.w X.K tg J fp it tn /\ tn 0 s2.heap /\ (∀b∈fp,FpOk X pins H' b) /\ R J H'
def PI(X:Cx)(tg iter:Expr)(wi:TI):Prop:=
 ∀(pins:List (Addr×Obj)) (s:Shared) (σ:St) (H:Hp) (R:It->Hp->Prop),Inv X pins σ H s->wi σ H R->
  wpAny (model X.prog X.w) X.A (eval iter X.env) (λv s1=>wpAny (model X.prog X.w) X.A (pyIter v) (PIE X pins σ tg R) X.xe s1) X.xe s
theorem jop{M:Model}{A:Around}{E:Value->Shared->Prop}{s:Shared}{tg:Expr}{it:Addr}{u:Value}{o:Obj}{n:String}{vs:Array Value}{Q:Unit->Shared->Prop}(ho:s.heap.get? it=some o)(hc:o.cls= .type n)(hd:o.data= .fields vs)
    (hn:["enumerate","zip","dict_itemiterator","dict_reverseitemiterator","odict_iterator","itertools.zip_longest","itertools.pairwise"].contains n=false) (hQ:Q () s):wpAny M A (letOwnedTupleGo tg (.ref it) u) Q E s:=by
  unfold letOwnedTupleGo
  cases tg<;>first
    | exact wpAny_pure hQ
    | (cases u<;>first
        | exact wpAny_pure hQ
        | (refine wpAny_bind (wpAny_load ho ?_)
           rw[hc,hd]
           show wpAny M A (if(["enumerate","zip","dict_itemiterator","dict_reverseitemiterator","odict_iterator","itertools.zip_longest","itertools.pairwise"].contains n&&vs[0]?==some (rawInt _))=true then _ else _) Q E s
           rw[if_neg (by intro h;rw[hn,Bool.false_and] at h;cases h)]
           exact wpAny_pure hQ))
def Itl(K:W.Frag)(a:Addr):It:=
 ⟨λi H=>∃xs x,SqL K H a xs /\ xs[i]?=some x,λi H x H'=>H'=H /\ ∀xs,SqL K H a xs->xs[i]?=some x,λi H=>∃xs,SqL K H a xs /\ xs.length<=i⟩
def Itt(K:W.Frag)(a:Addr):It:=
 ⟨λi H=>∃xs x,SqT K H a xs /\ xs[i]?=some x,λi H x H'=>H'=H /\ ∀xs,SqT K H a xs->xs[i]?=some x,λi H=>∃xs,SqT K H a xs /\ xs.length<=i⟩
def Itr(lo:Int)(n:Nat):It:=⟨λi _=>i<n,λi H x H'=>H'=H /\ x= .int (lo+i),λi _=>n<=i⟩
theorem jrl{P:Program}{w:World}{K:W.Frag}{tg:Expr}(a it:Addr):Turn P w K tg (Itl K a) [it] it (λi h=>h.IsListIter it a i) where
 mem:=by simp
 obj:=λi h st b hb=>by
  have e:b=it:=by simpa using hb
  subst e
  obtain⟨o,e,c,d⟩:=st
  exact⟨o,e,λv z=>by rw[d] at z;cases z⟩
 keep:=λi h h' st k=>st.at λo e=>k it (by simp) o e
 item:=by
  intro X hP hw hK hc i pins s σ H E I hf st hg
  subst hP hw hK
  obtain⟨xs,x,hq,hx⟩:=hg
  obtain⟨its,rv,p,hz⟩:=I.list hq
  obtain⟨u,hu,ru⟩:=rv.get hx
  obtain⟨f0,f1,f2,f3,f4,f5⟩:=hf it (by simp)
  refine wpAny_pyNext_list_item st p.isList (x:=u) (by simpa using hu) λh' st' sb=> ?_
  have I1:Inv X pins σ H {s with heap:=h'}:=I.turned (t':=s.toks) (λb o hb e=>(sb.2 b hb).trans e) f0 f1 f3 f4 f5
  obtain⟨o,e,c,d⟩:=id st'
  exact⟨u,rfl,jop (s:={s with heap:=h'}) e c d (by decide) ⟨x,H,I1,ru,⟨rfl,λys hy=>by rw[I.list_inj hy hq];exact hx⟩,st',λb hb=>(hf b hb).1⟩⟩
 done:=by
  intro X hP hw hK hc i pins s σ H E I hf st hg
  subst hP hw hK
  obtain⟨xs,hq,hx⟩:=hg
  obtain⟨its,rv,p,hz⟩:=I.list hq
  obtain⟨f0,f1,f2,f3,f4,f5⟩:=hf it (by simp)
  have hl:=rv.length
  exact wpAny_pyNext_list_end (I.ok.hd hc) st p.isList (by simp;omega) λh' eb=>⟨rfl,I.turned (t':=s.toks) (λb o hb e=>eb b o hb e) f0 f1 f3 f4 f5⟩
 self:=λ_ _ _ _ _ st h=>wpAny_pyIter_listiter st h
theorem jpk{P:Program}{w:World}{K:W.Frag}{tg:Expr}(a it:Addr):Turn P w K tg (Itt K a) [it] it (λi h=>h.IsTupleIter it a i) where
 mem:=by simp
 obj:=λi h st b hb=>by
  have e:b=it:=by simpa using hb
  subst e
  obtain⟨o,e,c,d⟩:=st
  exact⟨o,e,λv z=>by rw[d] at z;cases z⟩
 keep:=λi h h' st k=>st.at λo e=>k it (by simp) o e
 item:=by
  intro X hP hw hK hc i pins s σ H E I hf st hg
  subst hP hw hK
  obtain⟨xs,x,hq,hx⟩:=hg
  obtain⟨its,rv,p,hz⟩:=I.tuple hq
  obtain⟨u,hu,ru⟩:=rv.get hx
  obtain⟨f0,f1,f2,f3,f4,f5⟩:=hf it (by simp)
  refine wpAny_pyNext_tuple_item st (show s.heap.IsTuple a its.toArray from p) (x:=u) (by simpa using hu) λh' st' sb=> ?_
  have I1:Inv X pins σ H {s with heap:=h'}:=I.turned (t':=s.toks) (λb o hb e=>(sb.2 b hb).trans e) f0 f1 f3 f4 f5
  obtain⟨o,e,c,d⟩:=id st'
  exact⟨u,rfl,jop (s:={s with heap:=h'}) e c d (by decide) ⟨x,H,I1,ru,⟨rfl,λys hy=>by rw[I.tuple_inj hy hq];exact hx⟩,st',λb hb=>(hf b hb).1⟩⟩
 done:=by
  intro X hP hw hK hc i pins s σ H E I hf st hg
  subst hP hw hK
  obtain⟨xs,hq,hx⟩:=hg
  obtain⟨its,rv,p,hz⟩:=I.tuple hq
  obtain⟨f0,f1,f2,f3,f4,f5⟩:=hf it (by simp)
  have hl:=rv.length
  exact wpAny_pyNext_tuple_end (I.ok.hd hc) st (show s.heap.IsTuple a its.toArray from p) (by simp;omega) λh' eb=>⟨rfl,I.turned (t':=s.toks) (λb o hb e=>eb b o hb e) f0 f1 f3 f4 f5⟩
 self:=λ_ _ _ _ _ st h=>wpAny_pyIter_tupleiter st h
theorem jpq{P:Program}{w:World}{K:PySem.W.Frag}{tg:Expr}(it:Addr)(lo:Int)(n:Nat):Turn P w K tg (Itr lo n) [it] it (λi h=>IsRangeIter h it (lo+(i:Nat)*1) ((n:Int) - (i:Nat)) 1) where
 mem:=by simp
 obj:=λi h st b hb=>by
  have e:b=it:=by simpa using hb
  subst e
  exact⟨_,st,λv z=>by
   have z':Data.fields _=Data.cell v:=z
   cases z'⟩
 keep:=λi h h' st k=>k it (by simp) _ st
 item:=by
  intro X hP hw hK hc i pins s σ H E I hf st hg
  subst hP hw hK
  obtain⟨f0,f1,f2,f3,f4,f5⟩:=hf it (by simp)
  have W:=Walks.range (prog:=X.prog) (w:=X.w) (I.ok.hd hc) it lo 1 n
  refine W.item i s _ _ hg st λv h' tk hv st' kk=> ?_
  obtain⟨t,rfl⟩:=hv
  have I1:Inv X pins σ H {s with heap:=h',toks:=tk}:=I.turned (λb o hb e=>kk b o (by simpa using hb) e) f0 f1 f3 f4 f5
  refine⟨_,rfl,jop (s:={s with heap:=h',toks:=tk}) (n:="range_iterator") st' rfl rfl (by decide) ⟨.int (lo+i),H,I1,⟨t,?_⟩,⟨rfl,rfl⟩,st',λb hb=>(hf b hb).1⟩⟩
  rw[Int.mul_one]
 done:=by
  intro X hP hw hK hc i pins s σ H E I hf st hg
  subst hP hw hK
  obtain⟨f0,f1,f2,f3,f4,f5⟩:=hf it (by simp)
  exact wpAny_pyNext_range_end (I.ok.hd hc) st (by have:n<=i:=hg;omega) λh' eb=>⟨rfl,I.turned (t':=s.toks) (λb o hb e=>eb b o hb e) f0 f1 f3 f4 f5⟩
 self:=λ_ _ _ _ _ st h=>wpAny_pyIter_rangeiter st h
section
variable {X : Cx} {tg : Expr}
theorem jva{pins:List (Addr×Obj)}{σ:St}{H:Hp}{s:Shared}{R:It->Hp->Prop}{E:Value->Shared->Prop}{lo hi:Int}{t u v:Tok}{tk:Nat}(I:Inv X pins σ H s)(h1: -(2^62)<=lo)(h2:lo<2^62)(h3: -(2^62)<=hi)(h4:hi<2^62)
  (q:R (Itr lo (hi - lo).toNat) H):wpAny (model X.prog X.w) X.A (pyIter (.ref s.heap.objs.size)) (PIE X pins σ tg R) E {s with heap:=s.heap.push {cls:= .type "range",data:= .fields #[.int lo t,.int hi u,.int 1 v]},toks:=tk}:=by
 refine wpAny_pyIter_range (IsRange.new ..) (small_one h1 h2 h3 h4) ?_
 have I1:Inv X pins σ H {s with heap:=s.heap.push {cls:= .type "range",data:= .fields #[.int lo t,.int hi u,.int 1 v]},toks:=tk}:=I.kept λb o e=>Heap.get?_push_of_some _ e
 refine⟨(s.heap.push {cls:= .type "range",data:= .fields #[.int lo t,.int hi u,.int 1 v]}).objs.size,[(s.heap.push {cls:= .type "range",data:= .fields #[.int lo t,.int hi u,.int 1 v]}).objs.size],_,_,H,rfl,
  I1.kept (t':=tk) λb o e=>Heap.get?_push_of_some _ e,jpq _ lo (hi - lo).toNat,?_,λb hb=> ?_,q⟩
 ·have e1:lo+((0:Nat):Int)*1=lo:=by simp
  have e2:(((hi - lo).toNat:Nat):Int) - ((0:Nat):Int)=Builtin.Range.rangeSize lo hi 1:=by rw[rangeSize_one];split<;>omega
  show IsRangeIter _ _ (lo+((0:Nat):Int)*1) ((((hi - lo).toNat:Nat):Int) - ((0:Nat):Int)) 1
  rw[e1,e2]
  exact Heap.get?_push_size _ rfl
 ·have e:b=(s.heap.push {cls:= .type "range",data:= .fields #[.int lo t,.int hi u,.int 1 v]}).objs.size:=by simpa using hb
  subst e
  exact I1.fpOk (Nat.le_refl _) (I1.hok.fresh (Nat.le_refl _))
def iRng1(ta:TA):TI:=λσ H R=>ta σ H λvs H1=>∃j:Int,vs=[.int j] /\ -(2^62)<=j /\ j<2^62 /\ R (Itr 0 j.toNat) H1
theorem jg1{a:Expr}{ta:TA}{p pos:Pos}(hg:Gl X "range")(hm:X.mg "range"=none)(ha:PA X [a] ta)(hs:starEach [a] X.env=[(false,eval a X.env)]:=by rfl):PI X tg (.Call (.Name "range" p) [a] [] pos) (iRng1 ta):=by
 intro pins s σ H R I h
 refine Call_ (jku I hg hm boot_range (PyProof.Rows.callWith_type1 (thn (ha pos pins s σ H _ I h) λus s1 ⟨vs,H1,I1,r1,q1⟩=> ?_) hs rfl))
 obtain⟨j,e,q1,q2,q⟩:=q1
 subst e
 cases r1 with
 | cons r rr=>
  cases rr
  obtain⟨t,rfl⟩:=r
  exact call_range_1 (jva I1 (by omega) (by omega) q1 q2 (by simpa using q))
def tFor(wi:TI)(g:TG)(tb:TS):TS:=λD σ H=>wi σ H λJ H1=>∃W:Nat->Nat->St->Hp->Prop,(∃m,W 0 m σ H1) /\ ∀i m σ H,W i m σ H->
 (J.stop i H /\ D.nx σ H) \/ (J.go i H /\ ∃N:St->Hp->Prop,(∀σ' H',N σ' H'->∃m',m'<m /\ W (i+1) m' σ' H') /\ ∀x H',J.yld i H x H'->g x σ H' λσ2 H2=>tb {D with nx:=N,ct:=N,bk:=D.nx} σ2 H2)
def jki(fp:List Addr)(h:Heap):List (Addr×Obj):=fp.filterMap λb=>(h.get? b).map λo=>(b,o)
theorem jf8{fp:List Addr}{h:Heap}{b:Addr}{o:Obj}(hb:b∈fp)(e:h.get? b=some o):(b,o)∈jki fp h:=List.mem_filterMap.mpr ⟨b,hb,by rw[e];rfl⟩
theorem js9{fp:List Addr}{h:Heap}{p:Addr×Obj}(hp:p∈jki fp h):p.1∈fp /\ h.get? p.1=some p.2:=by
 obtain⟨b,hb,e⟩:=List.mem_filterMap.mp hp
 cases q:h.get? b with
 | none=>rw[q] at e;cases e
 | some o=>
  rw[q] at e
  have e':(b,o)=p:=Option.some.inj e
  subst e'
  exact⟨hb,q⟩
theorem Inv.pinned{pins:List (Addr×Obj)}{σ:St}{H:Hp}{s:Shared}{fp:List Addr}(I:Inv X pins σ H s)(hf:∀b∈fp,FpOk X pins H b)(ho:∀b∈fp,∃o,s.heap.get? b=some o /\ ∀v,o.data≠ .cell v):Inv X (pins++jki fp s.heap) σ H s:=
 I.pins_of λp hp=>(List.mem_append.mp hp).elim (λz=>I.pin p (List.mem_append_right _ z)) λz=>by
  obtain⟨hb,e⟩:=js9 z
  obtain⟨f0,f1,f2,_⟩:=hf p.1 hb
  obtain⟨o,e',d⟩:=ho p.1 hb
  rw[e] at e';cases e'
  exact⟨e,f0,f1,f2,d⟩
theorem Inv.unpinned{pins pl:List (Addr×Obj)}{σ:St}{H:Hp}{s:Shared}(I:Inv X (pins++pl) σ H s):Inv X pins σ H s:=I.pins_of λp hp=>I.pin p (List.mem_append_right _ (List.mem_append_left _ hp))
theorem jfu{iter:Expr}{body:List Stmt}{wi:TI}{g:TG}{tb:TS}{pos:Pos}(hp:PassesOwn (model X.prog X.w) X.A X.env X.xe)(hc:X.calm=true)(hi:PI X tg iter wi)(hg:PG X tg g)(hb:PSs X body tb)
  (hs:∀x,foldedSetIterable iter X.env x=pure x:=by intro _;rfl):PS X (.For tg iter body [] pos) (tFor wi g tb):=by
 intro pins s σ H D I h
 refine wpAny_For (thn (hi pins s σ H _ I h) λv s1 h1=>thn h1 λitv s2 h2=> ?_) hs
 obtain⟨it,fp,tn,J,H2,e,I2,T,st2,f2,W,⟨m0,w0⟩,turn⟩:=h2
 subst e
 have stat:∀{H':Hp},(∀b∈fp,H' b=none)->∀b∈fp,FpOk X pins H' b:=λhn b hb=>⟨hn b hb,(f2 b hb).2⟩
 refine codeAny_forLoop_any (λn s'=>∃i σ' H',Inv X pins σ' H' s' /\ tn i s'.heap /\ (∀b∈fp,H' b=none) /\ W i n σ' H') ?_ m0 ⟨0,σ,H2,I2,st2,λb hb=>(f2 b hb).1,w0⟩
 rintro n s3 ⟨i,σ3,H3,I3,st3,fr3,w3⟩
 rcases turn i n σ3 H3 w3 with⟨stop,qn⟩ | ⟨go,N,hN,step⟩
 ·refine wpAny_passesOwn hp (thn (T.done X rfl rfl rfl hc i pins s3 σ3 H3 X.xe I3 (stat fr3) st3 stop) λr s4 ⟨hr,I4⟩=> ?_)
  subst hr
  exact wpAny_execs_nil ⟨σ3,H3,I4,qn⟩
 ·refine wpAny_passesOwn hp (thn (T.item X rfl rfl rfl hc i pins s3 σ3 H3 X.xe I3 (stat fr3) st3 go) λr s4 ⟨u,hr,h4⟩=> ?_)
  subst hr
  refine wpAny_passesOwn hp (thn h4 λ_ s5 ⟨x,H5,I5,r5,y5,st5,fr5⟩=> ?_)
  have I5':=I5.pinned (stat fr5) (T.obj _ _ st5)
  refine wpAny_passesOwn hp (thn (hg _ s5 σ3 H5 x u _ I5' r5 (step x H5 y5)) λ_ s6 ⟨σ6,H6,I6,q6⟩=> ?_)
  refine wpAny_passesOwn hp (thn (hb _ s6 σ6 H6 _ I6 q6) λf s7 q7=> ?_)
  have again:∀{σ7:St} {H7:Hp},Inv X (pins++jki fp s5.heap) σ7 H7 s7->N σ7 H7->∃m,m<n /\ ∃i σ' H',Inv X pins σ' H' s7 /\ tn i s7.heap /\ (∀b∈fp,H' b=none) /\ W i m σ' H':=fun{σ7 H7} I7 n7=>by
   obtain⟨m',hm,w7⟩:=hN σ7 H7 n7
   refine⟨m',hm,i+1,σ7,H7,I7.unpinned,T.keep _ _ _ st5 λb hb o e=>(I7.pin (b,o) (List.mem_append_right _ (List.mem_append_right _ (jf8 hb e)))).1,λb hb=> ?_,w7⟩
   obtain⟨o,e,d⟩:=T.obj _ _ st5 b hb
   exact(I7.pin (b,o) (List.mem_append_right _ (List.mem_append_right _ (jf8 hb e)))).2.1
  cases f with
  | next=>obtain⟨σ7,H7,I7,n7⟩:=q7;exact again I7 n7
  | cont=>obtain⟨σ7,H7,I7,n7⟩:=q7;exact again I7 n7
  | brk=>obtain⟨σ7,H7,I7,q7⟩:=q7;exact⟨σ7,H7,I7.unpinned,q7⟩
  | ret v=>obtain⟨x7,σ7,H7,I7,r7,q7⟩:=q7;exact⟨x7,σ7,H7,I7.unpinned,r7,q7⟩
end
abbrev R2:=V->V->Hp->VK->Prop
def OpR(X:Cx)(f:Value->Value->Sem Value)(r:R2):Prop:=
 ∀(pins:List (Addr×Obj)) (s:Shared) (σ:St) (H:Hp) (x y:V) (v u:Value) (Q:VK),Inv X pins σ H s->RelV x v->RelV y u->r x y H Q->
  wpAny (model X.prog X.w) X.A (f v u) (EP X pins σ Q) X.xe s
def UnR(X:Cx)(f:Value->Sem Value)(r:V->Hp->VK->Prop):Prop:=
 ∀(pins:List (Addr×Obj)) (s:Shared) (σ:St) (H:Hp) (x:V) (v:Value) (Q:VK),Inv X pins σ H s->RelV x v->r x H Q->
  wpAny (model X.prog X.w) X.A (f v) (EP X pins σ Q) X.xe s
def jcj(X:Cx)(f:Value)(r:List V->Hp->VK->Prop):Prop:=
 ∀(pins:List (Addr×Obj)) (s:Shared) (σ:St) (H:Hp) (xs:List V) (us:List Value) (Q:VK),Inv X pins σ H s->Vals xs us->r xs H Q->
  wpAny (model X.prog X.w) X.A (call f us) (EP X pins σ Q) X.xe s
def TruR(X:Cx)(r:V->Hp->(Bool->Hp->Prop)->Prop):Prop:=
 ∀(pins:List (Addr×Obj)) (s:Shared) (σ:St) (H:Hp) (x:V) (v:Value) (Q:Bool->Hp->Prop),Inv X pins σ H s->RelV x v->r x H Q->
  wpAny (model X.prog X.w) X.A (truthy v) (TP X pins σ Q) X.xe s
def tOp(r:R2)(ta tb:TE):TE:=λσ H Q=>ta σ H λx H1=>tb σ H1 λy H2=>r x y H2 Q
def tUn(r:V->Hp->VK->Prop)(ta:TE):TE:=λσ H Q=>ta σ H λx H1=>r x H1 Q
def rI(C:Int->Int->Prop)(g:Int->Int->V):R2:=λx y H Q=>∃i j,x= .int i /\ y= .int j /\ C i j /\ Q (g i j) H
def rI0(g:Int->Int->V):R2:=λx y H Q=>∃i j,x= .int i /\ y= .int j /\ Q (g i j) H
def rU(g:Int->V):V->Hp->VK->Prop:=λx H Q=>∃i,x= .int i /\ Q (g i) H
section
variable {X : Cx} {a b c : Expr} {ta tb tc : TE} {pos : Pos}
theorem binT(ha:PE X a ta)(hb:PE X b tb){pins:List (Addr×Obj)}{s:Shared}{σ:St}{H:Hp}{R:V->V->Hp->Prop}(I:Inv X pins σ H s)
  (h:ta σ H λx H1=>tb σ H1 λy H2=>R x y H2) {Q:Value->Shared->Prop} {f:Value->Value->Sem Value}
  (hf:∀v u s2 x y H2,Inv X pins σ H2 s2->RelV x v->RelV y u->R x y H2->wpAny (model X.prog X.w) X.A (f v u) Q X.xe s2):
  wpAny (model X.prog X.w) X.A (eval a X.env) (λv s₁=>wpAny (model X.prog X.w) X.A (eval b X.env) (λu s₂=>wpAny (model X.prog X.w) X.A (f v u) Q X.xe s₂) X.xe s₁) X.xe s:=by
 refine thn (ha pins s σ H _ I h) λv s1 ⟨x,H1,I1,r1,q1⟩=> ?_
 refine thn (hb pins s1 σ H1 _ I1 q1) λu s2 ⟨y,H2,I2,r2,q2⟩=> ?_
 exact hf v u s2 x y H2 I2 r1 r2 q2
theorem jb4{op:Operator}{r:R2}(ho:OpR X (binaryOp op) r)(ha:PE X a ta)(hb:PE X b tb):PE X (.BinOp a op b pos) (tOp r ta tb):=by
 intro pins s σ H Q I h
 exact wpAny_BinOp (binT ha hb I h λv u s2 x y H2 I2 rx ry q=>ho pins s2 σ H2 x y v u Q I2 rx ry q)
theorem ju7{op:UnaryOp}{r:V->Hp->VK->Prop}(ho:UnR X (unaryOp op) r)(ha:PE X a ta):PE X (.UnaryOp op a pos) (tUn r ta):=by
 intro pins s σ H Q I h
 exact UnaryOp_ (thn (ha pins s σ H _ I h) λv s1 ⟨x,H1,I1,r1,q1⟩=>ho pins s1 σ H1 x v Q I1 r1 q1)
theorem opI{f:Value->Value->Sem Value}{C:Int->Int->Prop}{g:Int->Int->Int}
  (rule:∀(i j:Int) (t u:Tok) (s:Shared) (Q:Value->Shared->Prop) (E:Value->Shared->Prop),C i j->Q (.int (g i j) s.toks) {s with toks:=s.toks+1}->wpAny (model X.prog X.w) X.A (f (.int i t) (.int j u)) Q E s):
  OpR X f (rI C λi j=> .int (g i j)):=by
 intro pins s σ H x y v u Q I rx ry h
 obtain⟨i,j,rfl,rfl,hc,q⟩:=h
 obtain⟨t,rfl⟩:=rx
 obtain⟨t',rfl⟩:=ry
 exact rule i j t t' s _ _ hc ⟨.int (g i j),H,I.tok _,⟨_,rfl⟩,q⟩
theorem opI0{f:Value->Value->Sem Value}{g:Int->Int->Int}
  (rule:∀(i j:Int) (t u:Tok) (s:Shared) (Q:Value->Shared->Prop) (E:Value->Shared->Prop),Q (.int (g i j) s.toks) {s with toks:=s.toks+1}->wpAny (model X.prog X.w) X.A (f (.int i t) (.int j u)) Q E s):
  OpR X f (rI0 λi j=> .int (g i j)):=by
 intro pins s σ H x y v u Q I rx ry h
 obtain⟨i,j,rfl,rfl,q⟩:=h
 obtain⟨t,rfl⟩:=rx
 obtain⟨t',rfl⟩:=ry
 exact rule i j t t' s _ _ ⟨.int (g i j),H,I.tok _,⟨_,rfl⟩,q⟩
theorem opB0{f:Value->Value->Sem Value}{g:Int->Int->Bool}
  (rule:∀(i j:Int) (t u:Tok) (s:Shared) (Q:Value->Shared->Prop) (E:Value->Shared->Prop),Q (.bool (g i j)) s->wpAny (model X.prog X.w) X.A (f (.int i t) (.int j u)) Q E s):
  OpR X f (rI0 λi j=> .bl (g i j)):=by
 intro pins s σ H x y v u Q I rx ry h
 obtain⟨i,j,rfl,rfl,q⟩:=h
 obtain⟨t,rfl⟩:=rx
 obtain⟨t',rfl⟩:=ry
 exact rule i j t t' s _ _ ⟨.bl (g i j),H,I,rfl,q⟩
def CDiv(i j:Int):Prop:=0<j /\ j<1073741824
def CPow(i j:Int):Prop:=0<=j /\ j<=1000000 /\ i.natAbs<2^64
def CMul(i j:Int):Prop:=(-(2^64)<i /\ i<2^64) \/ (-(2^64)<j /\ j<2^64)
theorem CMul.ok{i j:Int}(h:CMul i j):IntMulOk i j:=by
 rcases h with⟨h1,h2⟩ | ⟨h1,h2⟩
 ·exact .of_left (intBits_le_64 h1 h2)
 ·exact .of_right (intBits_le_64 h1 h2)
theorem joq(k:Nat):(0:Int)<=2^k:=by
 rw[two_pow_cast]
 exact Int.natCast_nonneg _
theorem op_add:OpR X (binaryOp .Add) (rI0 λi j=> .int (i+j)):=opI0 λ_ _ _ _ _ _ _ q=>add_int q
theorem op_sub:OpR X (binaryOp .Sub) (rI0 λi j=> .int (i - j)):=opI0 λ_ _ _ _ _ _ _ q=>sub_int q
theorem op_mul:OpR X (binaryOp .Mult) (rI CMul λi j=> .int (i*j)):=opI λ_ _ _ _ _ _ _ hc q=>mul_int q hc.ok
theorem jdm:OpR X (binaryOp .FloorDiv) (rI CDiv λi j=> .int (i / j)):=opI λi j _ _ _ _ _ hc q=>by
 have h1:(0:Int)<j:=hc.1
 have h2:j<1073741824:=hc.2
 exact floordiv_int (by omega) (by rw[Int.fdiv_eq_ediv_of_nonneg i (by omega)];exact q) (.inl (PyProof.noPylong_small (by omega)))
theorem jdj:OpR X (binaryOp .Mod) (rI (λ_ j=>0<j) λi j=> .int (i % j)):=opI λi j _ _ _ _ _ hc q=>by
 have h1:(0:Int)<j:=hc
 exact mod_int' (by omega) (by rw[Int.fmod_eq_emod_of_nonneg i (by omega)];exact q)
theorem jfg:OpR X (binaryOp .LShift) (rI CPow λi j=> .int (i*2^j.toNat)):=opI λ_ _ _ _ _ _ _ hc q=>lshift_int_small hc.1 hc.2.1 hc.2.2 q
theorem op_shr:OpR X (binaryOp .RShift) (rI (λ_ j=>0<=j) λi j=> .int (i / 2^j.toNat)):=opI λi j _ _ _ _ _ hc q=>
 rshift_int hc (by rw[Int.fdiv_eq_ediv_of_nonneg i (joq _)];exact q)
theorem jh3:OpR X (binaryOp .BitAnd) (rI0 λi j=> .int (Builtin.bitAnd i j)):=opI0 λ_ _ _ _ _ _ _ q=>and_int q
theorem jmd:OpR X (binaryOp .BitOr) (rI0 λi j=> .int (Builtin.bitOr i j)):=opI0 λ_ _ _ _ _ _ _ q=>or_int q
theorem op_xor:OpR X (binaryOp .BitXor) (rI0 λi j=> .int (Builtin.bitXor i j)):=opI0 λ_ _ _ _ _ _ _ q=>xor_int q
theorem unI{f:Value->Sem Value}{g:Int->Int}
  (rule:∀(i:Int) (t:Tok) (s:Shared) (Q:Value->Shared->Prop) (E:Value->Shared->Prop),Q (.int (g i) s.toks) {s with toks:=s.toks+1}->wpAny (model X.prog X.w) X.A (f (.int i t)) Q E s):
  UnR X f (rU λi=> .int (g i)):=by
 intro pins s σ H x v Q I rx h
 obtain⟨i,rfl,q⟩:=h
 obtain⟨t,rfl⟩:=rx
 exact rule i t s _ _ ⟨.int (g i),H,I.tok _,⟨_,rfl⟩,q⟩
theorem un_neg:UnR X (unaryOp .USub) (rU λi=> .int (-i)):=unI λ_ _ _ _ _ q=>neg_int q
theorem jqn:UnR X (unaryOp .Invert) (rU λi=> .int (Builtin.bitNot i)):=unI λ_ _ _ _ _ q=>invert_int q
end
def scal:V->V->Bool
 | .non,.non=>true | .non,.int _=>true | .int _,.non=>true | .non,.bl _=>true | .bl _,.non=>true | .non,.str _=>true | .str _,.non=>true
 | .int _,.int _=>true | .bl _,.bl _=>true | .str _,.str _=>true | .byt _,.byt _=>true
 | .int _,.str _=>true | .str _,.int _=>true | .bl _,.str _=>true | .str _,.bl _=>true
 | _,_=>false
def rEq:R2:=λx y H Q=>scal x y=true /\ Q (.bl (decide (x=y))) H
def rNe:R2:=λx y H Q=>scal x y=true /\ Q (.bl (!decide (x=y))) H
theorem jsh{i j:Int}:decide (V.int i=V.int j)=(i==j):=by
 rw[Bool.eq_iff_iff]
 simp
theorem jta{i j:Bool}:decide (V.bl i=V.bl j)=(i==j):=by
 rw[Bool.eq_iff_iff]
 simp
theorem jsg{i j:Str}:decide (V.str i=V.str j)=(i==j):=by
 rw[Bool.eq_iff_iff]
 simp
theorem jqj{i j:Array UInt8}:decide (V.byt i=V.byt j)=(i.toList==j.toList):=by
 rw[Bool.eq_iff_iff]
 cases i
 cases j
 simp
section
variable {X : Cx} {a b c : Expr} {ta tb tc : TE} {pos : Pos}
theorem jbh{pins:List (Addr×Obj)}{σ:St}{H:Hp}{s:Shared}{Q:VK}{k k':Bool}(I:Inv X pins σ H s)(q:Q (.bl k) H)(e:k=k'):EP X pins σ Q (.bool k') s:=by
 subst e
 exact⟨.bl k,H,I,rfl,q⟩
theorem op_eq:OpR X (compareOp .Eq) rEq:=by
 intro pins s σ H x y v u Q I rx ry h
 obtain⟨hs,q⟩:=h
 cases x with
 | non=>
  cases rx
  cases y with
  | non=>cases ry;exact PySem.EqNone.eq_none_none (jbh I q (by simp))
  | bl j=>cases ry;exact PySem.EqNone.eq_none_bool (jbh I q (by simp))
  | int j=>obtain⟨t',rfl⟩:=ry;exact PySem.EqNone.eq_none_int (jbh I q (by simp))
  | str j=>obtain⟨t',rfl⟩:=ry;exact PySem.EqNone.eq_none_str (jbh I q (by simp))
  | _=>exact absurd (show false=true from hs) Bool.false_ne_true
 | bl i=>
  cases rx
  cases y with
  | non=>cases ry;exact PySem.EqNone.eq_bool_none (jbh I q (by simp))
  | bl j=>cases ry;exact eq_bool (jbh I q jta)
  | str j=>obtain⟨t',rfl⟩:=ry;exact PySem.EqMixed.eq_bool_str (jbh I q (by simp))
  | _=>exact absurd (show false=true from hs) Bool.false_ne_true
 | int i=>
  obtain⟨t,rfl⟩:=rx
  cases y with
  | non=>cases ry;exact PySem.EqNone.eq_int_none (jbh I q (by simp))
  | int j=>obtain⟨t',rfl⟩:=ry;exact eq_int (jbh I q jsh)
  | str j=>obtain⟨t',rfl⟩:=ry;exact PySem.EqMixed.eq_int_str (jbh I q (by simp))
  | _=>exact absurd (show false=true from hs) Bool.false_ne_true
 | str i=>
  obtain⟨t,rfl⟩:=rx
  cases y with
  | non=>cases ry;exact PySem.EqNone.eq_str_none (jbh I q (by simp))
  | bl j=>cases ry;exact PySem.EqMixed.eq_str_bool (jbh I q (by simp))
  | int j=>obtain⟨t',rfl⟩:=ry;exact PySem.EqMixed.eq_str_int (jbh I q (by simp))
  | str j=>obtain⟨t',rfl⟩:=ry;exact eq_str (jbh I q jsg)
  | _=>exact absurd (show false=true from hs) Bool.false_ne_true
 | byt i=>
  obtain⟨t,rfl⟩:=rx
  cases y with
  | byt j=>obtain⟨t',rfl⟩:=ry;exact W.eq_bytes (jbh I q jqj)
  | _=>exact absurd (show false=true from hs) Bool.false_ne_true
 | _=>cases y<;>exact absurd (show false=true from hs) Bool.false_ne_true
theorem op_ne:OpR X (compareOp .NotEq) rNe:=by
 intro pins s σ H x y v u Q I rx ry h
 obtain⟨hs,q⟩:=h
 cases x with
 | non=>
  cases rx
  cases y with
  | non=>cases ry;exact PySem.EqNone.ne_none_none (jbh I q (by simp))
  | bl j=>cases ry;exact PySem.EqNone.ne_none_bool (jbh I q (by simp))
  | int j=>obtain⟨t',rfl⟩:=ry;exact PySem.EqNone.ne_none_int (jbh I q (by simp))
  | str j=>obtain⟨t',rfl⟩:=ry;exact PySem.EqNone.ne_none_str (jbh I q (by simp))
  | _=>exact absurd (show false=true from hs) Bool.false_ne_true
 | bl i=>
  cases rx
  cases y with
  | non=>cases ry;exact PySem.EqNone.ne_bool_none (jbh I q (by simp))
  | bl j=>cases ry;exact ne_bool (jbh I q (congrArg not jta))
  | str j=>obtain⟨t',rfl⟩:=ry;exact PySem.EqMixed.ne_bool_str (jbh I q (by simp))
  | _=>exact absurd (show false=true from hs) Bool.false_ne_true
 | int i=>
  obtain⟨t,rfl⟩:=rx
  cases y with
  | non=>cases ry;exact PySem.EqNone.ne_int_none (jbh I q (by simp))
  | int j=>obtain⟨t',rfl⟩:=ry;exact ne_int (jbh I q (congrArg not jsh))
  | str j=>obtain⟨t',rfl⟩:=ry;exact PySem.EqMixed.ne_int_str (jbh I q (by simp))
  | _=>exact absurd (show false=true from hs) Bool.false_ne_true
 | str i=>
  obtain⟨t,rfl⟩:=rx
  cases y with
  | non=>cases ry;exact PySem.EqNone.ne_str_none (jbh I q (by simp))
  | bl j=>cases ry;exact PySem.EqMixed.ne_str_bool (jbh I q (by simp))
  | int j=>obtain⟨t',rfl⟩:=ry;exact PySem.EqMixed.ne_str_int (jbh I q (by simp))
  | str j=>obtain⟨t',rfl⟩:=ry;exact ne_str (jbh I q (congrArg not jsg))
  | _=>exact absurd (show false=true from hs) Bool.false_ne_true
 | byt i=>
  obtain⟨t,rfl⟩:=rx
  cases y with
  | byt j=>obtain⟨t',rfl⟩:=ry;exact W.ne_bytes (jbh I q (congrArg not jqj))
  | _=>exact absurd (show false=true from hs) Bool.false_ne_true
 | _=>cases y<;>exact absurd (show false=true from hs) Bool.false_ne_true
theorem jy9:OpR X (compareOp .Lt) (rI0 λi j=> .bl (decide (i<j))):=opB0 λ_ _ _ _ _ _ _ q=>lt_int q
theorem jqe:OpR X (compareOp .LtE) (rI0 λi j=> .bl (decide (i<=j))):=opB0 λ_ _ _ _ _ _ _ q=>le_int q
theorem op_gt:OpR X (compareOp .Gt) (rI0 λi j=> .bl (decide (j<i))):=opB0 λ_ _ _ _ _ _ _ q=>gt_int q
theorem op_ge:OpR X (compareOp .GtE) (rI0 λi j=> .bl (decide (j<=i))):=opB0 λ_ _ _ _ _ _ _ q=>ge_int q
theorem jqs:OpR X (compareOp .In) (λx y H Q=>∃i j,x= .str i /\ y= .str j /\ Q (.bl (!(Builtin.Str.occurrences j i 0 j.length 1).isEmpty)) H):=by
 intro pins s σ H x y v u Q I rx ry h
 obtain⟨i,j,rfl,rfl,q⟩:=h
 obtain⟨t,rfl⟩:=rx
 obtain⟨t',rfl⟩:=ry
 exact in_str (jbh I q rfl)
theorem op_isN:OpR X (compareOp .Is) (λx y H Q=>y= .non /\ Q (.bl (decide (x= .non))) H):=by
  intro pins s σ H x y v u Q I rx ry h
  obtain⟨rfl,q⟩:=h
  cases ry
  refine is_none_gen (jbh I q ?_)
  cases x<;>first
    | (cases rx;rfl)
    | (obtain⟨t,rfl⟩:=rx;rfl)
theorem jat(b:Expr){op:CmpOp}(h:op≠ .In:=by decide)(h2:op≠ .NotIn:=by decide):behindInMarks op b=false:=by
 have e1:(op==CmpOp.In)=false:=by cases op<;>first | rfl | exact absurd rfl h
 have e2:(op==CmpOp.NotIn)=false:=by cases op<;>first | rfl | exact absurd rfl h2
 cases b<;>simp[behindInMarks,e1,e2]
theorem jcz{op:CmpOp}{r:R2}(ho:OpR X (compareOp op) r)(ha:PE X a ta)(hb:PE X b tb)(hm:behindInMarks op b=false):PE X (.Compare a [op] [b] pos) (tOp r ta tb):=by
 intro pins s σ H Q I h
 exact wpAny_Compare1 (binT ha hb I h λv u s2 x y H2 I2 rx ry q=>ho pins s2 σ H2 x y v u Q I2 rx ry q) hm
def jzn(t:TE):TT:=λσ H Q=>t σ H λx H'=>∃k,x= .bl k /\ Q k H'
theorem jal{op:CmpOp}{r:R2}(ho:OpR X (compareOp op) r)(ha:PE X a ta)(hb:PE X b tb)(hm:behindInMarks op b=false):PT X (.Compare a [op] [b] pos) (jzn (tOp r ta tb)):=by
 intro pins s σ H Q I h
 refine wpAny_isTrue_Compare1 (thn (ha pins s σ H _ I h) λv s1 ⟨x,H1,I1,r1,q1⟩=>thn (hb pins s1 σ H1 _ I1 q1) λu s2 ⟨y,H2,I2,r2,q2⟩=>
  thn (ho pins s2 σ H2 x y v u _ I2 r1 r2 q2) λc s3 ⟨z,H3,I3,r3,k,e,q3⟩=> ?_) hm
 subst e
 cases r3
 exact wpAny_truthy_bool ⟨H3,I3,q3⟩
def jwq(r r':R2)(ta tb tc:TE):TE:=λσ H Q=>ta σ H λx H1=>tb σ H1 λy H2=>r x y H2 λz H3=>∃k,z= .bl k /\
 (if k=true then tc σ H3 λw' H4=>r' y w' H4 Q else Q (.bl false) H3)
theorem jjf{op op':CmpOp}{r r':R2}(ho:OpR X (compareOp op) r)(ho':OpR X (compareOp op') r')(ha:PE X a ta)(hb:PE X b tb)(hc:PE X c tc)
  (hm:lastMarks [op,op'] [b,c]=false:=by with_unfolding_all rfl):PT X (.Compare a [op,op'] [b,c] pos) (jzn (jwq r r' ta tb tc)):=by
 intro pins s σ H Q I h
 refine isTrue_chain (thn (ha pins s σ H _ I h) λv s1 ⟨x,H1,I1,r1,q1⟩=>test_link (thn (hb pins s1 σ H1 _ I1 q1) λu s2 ⟨y,H2,I2,r2,q2⟩=>
  thn (ho pins s2 σ H2 x y v u _ I2 r1 r2 q2) λd s3 ⟨z,H3,I3,r3,k,e,q3⟩=> ?_)) hm
 subst e
 cases r3
 refine wpAny_truthy_bool ?_
 cases k with
 | false=>
  obtain⟨k',e',q'⟩:=q3
  cases e'
  exact ite_ff ⟨H3,I3,q'⟩
 | true=>
  refine ite_tt (test_last (thn (hc pins s3 σ H3 _ I3 q3) λw' s4 ⟨z',H4,I4,r4,q4⟩=>thn (ho' pins s4 σ H4 y z' u w' _ I4 r2 r4 q4) λd' s5 ⟨z2,H5,I5,r5,k2,e2,q5⟩=> ?_))
  subst e2
  cases r5
  exact wpAny_truthy_bool ⟨H5,I5,q5⟩
def TruV(K:W.Frag)(x:V)(H:Hp)(k:Bool):Prop:=
 match x with
 | .non=>k=false
 | .bl b=>k=b
 | .int i=>k=(i !=0)
 | .str y=>y.length<=sizeLine /\ k=((y.length:Int)!=0)
 | .byt y=>y.size<=sizeLine /\ k=((y.size:Int)!=0)
 | .ref p=>(∃xs,SqL K H p xs /\ k= !xs.isEmpty) \/ (∃xs,SqT K H p xs /\ k= !xs.isEmpty) \/ ∃kvs,H p=some (.dK kvs) /\ k= !kvs.isEmpty
 | _=>False
theorem jpb{κ:Type}{kvs:List (κ×V)}{vs:List (κ×Value)}(r:KV kvs vs):(!vs.isEmpty)= !kvs.isEmpty:=by
 cases r<;>rfl
theorem jiu{xs:List V}{its:List Value}(r:Vals xs its):(!its.toArray.isEmpty)= !xs.isEmpty:=by
 cases r<;>simp
theorem jhw:(sizeLine:Nat)<2^63:=by rw[sizeLine_eq];decide
theorem jx5:TruR X (λx H Q=>∃k,TruV X.K x H k /\ Q k H):=by
 intro pins s σ H x v Q I rx h
 obtain⟨k,e,q⟩:=h
 have hl:=jhw
 have hs:sizeLine=16777216:=sizeLine_eq
 cases x with
 | non=>
  cases rx
  have e':k=false:=e
  subst e'
  exact truthy_none ⟨H,I,q⟩
 | bl b=>
  cases rx
  have e':k=b:=e
  subst e'
  exact wpAny_truthy_bool ⟨H,I,q⟩
 | int i=>
  obtain⟨t,rfl⟩:=rx
  have e':k=(i !=0):=e
  subst e'
  exact PySem.P.truthy_int ⟨H,I,q⟩
 | str y=>
  obtain⟨t,rfl⟩:=rx
  obtain⟨hy,e'⟩:y.length<=sizeLine /\ k=((y.length:Int)!=0):=e
  subst e'
  exact PySem.P.truthy_str (by omega) ⟨H,I.tok _,q⟩
 | byt y=>
  obtain⟨t,rfl⟩:=rx
  obtain⟨hy,e'⟩:y.size<=sizeLine /\ k=((y.size:Int)!=0):=e
  subst e'
  exact W.truthy_bytes (by omega) ⟨H,I.tok _,q⟩
 | ref p=>
  cases rx
  have e':(∃xs,SqL X.K H p xs /\ k= !xs.isEmpty) \/ (∃xs,SqT X.K H p xs /\ k= !xs.isEmpty) \/ ∃kvs,H p=some (.dK kvs) /\ k= !kvs.isEmpty:=e
  rcases e' with⟨xs,hx,e'⟩ | ⟨xs,hx,e'⟩ | ⟨kvs,hx,e'⟩
  ·subst e'
   obtain⟨its,r,pl,hz⟩:=I.list hx
   have hlen:=r.length
   exact wpAny_truthy_list pl.isList (by simp only[List.size_toArray];omega) ⟨H,I.tok _,by rw[jiu r];exact q⟩
  ·subst e'
   obtain⟨its,r,pl,hz⟩:=I.tuple hx
   have hlen:=r.length
   exact truthy_tuple pl (by simp only[List.size_toArray];omega) ⟨H,I.tok _,by rw[jiu r];exact q⟩
  ·subst e'
   obtain⟨hz,hS,vs,r,m⟩:kvs.length<=sizeLine /\ (p==sysModules)=false /\ ∃vs,KV kvs vs /\ s.heap.DictOf (jc7 X.prog X.w) p vs:=I.hok p _ hx
   have hlen:kvs.length=vs.length:=Paired.length r
   exact wpAny_truthy_dict hS m (by omega) ⟨H,I.tok _,by rw[jpb r];exact q⟩
 | _=>exact(show False from e).elim
theorem jvm(ha:PE X a ta)(he:∀whole,isTrue a X.env whole=(do let v<-whole;standAt a.pos;holding [v] (truthy v))):
  PT X a (λσ H Q=>ta σ H λx H'=>∃k,TruV X.K x H' k /\ Q k H'):=by
 intro pins s σ H Q I h
 exact isTrue_plain (thn (ha pins s σ H _ I h) λv s1 ⟨x,H1,I1,r1,q1⟩=>jx5 pins s1 σ H1 x v Q I1 r1 q1) (he _)
theorem jpl:OpR X (binaryOp .Add) (λx y H Q=>∃i j,x= .str i /\ y= .str j /\ i.length+j.length<=sizeLine /\ Q (.str (i++j)) H):=by
 intro pins s σ H x y v u Q I rx ry h
 obtain⟨i,j,rfl,rfl,hz,q⟩:=h
 obtain⟨t,rfl⟩:=rx
 obtain⟨t',rfl⟩:=ry
 exact add_str (λt' tk=>⟨.str (i++j),H,I.tok _,⟨_,rfl⟩,q⟩) hz
theorem jh8{x:V}{us:List Value}(r:Vals [x] us):∃u,us=[u] /\ RelV x u:=by
 cases r with
 | cons r1 r2=>cases r2;exact⟨_,rfl,r1⟩
theorem vals2{x y:V}{us:List Value}(r:Vals [x,y] us):∃u w',us=[u,w'] /\ RelV x u /\ RelV y w':=by
 cases r with
 | cons r1 r2=>
  cases r2 with
  | cons r3 r4=>cases r4;exact⟨_,_,rfl,r1,r3⟩
theorem jqi(hc:X.calm=true):jcj X (.builtin "max") (λxs H Q=>∃i j,xs=[.int i,.int j] /\ Q (.int (if j>i then j else i)) H):=by
 intro pins s σ H xs us Q I r h
 obtain⟨i,j,rfl,q⟩:=h
 obtain⟨u,w',rfl,⟨t,rfl⟩,⟨t',rfl⟩⟩:=vals2 r
 refine max_two_ints (I.ok.hd hc) λh' tk k=>⟨_,H,I.kept k,?_,q⟩
 by_cases hj:j>i
 ·rw[if_pos hj,if_pos hj];exact⟨_,rfl⟩
 ·rw[if_neg hj,if_neg hj];exact⟨_,rfl⟩
theorem jt1:jcj X (.type "int") (λxs H Q=>(∃i,xs=[.int i] /\ Q (.int i) H) \/ ∃k,xs=[.bl k] /\ Q (.int (if k then 1 else 0)) H):=by
 intro pins s σ H xs us Q I r h
 rcases h with⟨i,rfl,q⟩ | ⟨k,rfl,q⟩
 ·obtain⟨u,rfl,t,rfl⟩:=jh8 r
  exact call_int_int ⟨.int i,H,I,⟨_,rfl⟩,q⟩
 ·obtain⟨u,rfl,r1⟩:=jh8 r
  cases r1
  exact call_int_bool ⟨.int (if k then 1 else 0),H,I.tok _,⟨_,rfl⟩,q⟩
theorem jjr:jcj X (.type "str") (λxs H Q=>∃i,xs=[.int i] /\ i.natAbs.log2<1920 /\ Q (.str (toString i)) H):=by
 intro pins s σ H xs us Q I r h
 obtain⟨i,rfl,hz,q⟩:=h
 obtain⟨u,rfl,t,rfl⟩:=jh8 r
 exact PySem.P.str_of_int hz ⟨.str _,H,I.tok _,⟨_,rfl⟩,q⟩
end
structure ObjM (h:Heap) (x dx C:Addr) (mA:Str->Option Value):Prop where
 obj:h.get? x=some (W.instObj C dx)
 ns:h.Ns1 dx mA
 ne:dx≠x
theorem jq7{h:Heap}{dx:Addr}{mA:Str->Option Value}(n:h.Ns1 dx mA):∃od,h.get? dx=some od /\ ∀name,W.lookIn name od=some (mA name):=by
 obtain⟨o,es,ep,ho,hd,hk,_,hm⟩:=n
 refine⟨o,ho,λname=> ?_⟩
 have e:=hm name
 unfold nsFind findBy at e
 rw[<-Array.find?_toList] at e
 unfold W.lookIn
 rw[hd]
 dsimp only
 split
 ·rename_i y q
  rw[q] at e
  exact congrArg some e
 ·rename_i q
  rw[q] at e
  have a:es.toList.any (·.refKey)=false:=by
   rw[List.any_eq_false]
   intro y hy
   obtain⟨z,t,hkey⟩:=hk y (Array.mem_toList_iff.mp hy)
   simp[DictEntry.refKey,hkey]
  have a':¬es.toList.any (·.refKey)=true:=by rw[a];exact Bool.false_ne_true
  rw[if_neg a']
  exact congrArg some e
theorem ObjM.look{h:Heap}{x dx C:Addr}{mA:Str->Option Value}(I:ObjM h x dx C mA):∃od,W.InstAt h x (W.instObj C dx) C (some od) /\ ∀name,W.lookIn name od=some (mA name):=
 let ⟨od,ho,hl⟩:=jq7 I.ns
 ⟨od,⟨I.obj,rfl,rfl,ho⟩,hl⟩
section
variable {prog : Program} {w : World} {A : Around} {E : Value -> Shared -> Prop} {s : Shared} {K : W.Frag} {x dx C f : Addr} {mA : Str -> Option Value} {name : Str} {v : Value}
theorem jz5{expr:Bool}{Q:Value->Shared->Prop}(X:K.In s.heap)(I:ObjM s.heap x dx C mA)(hg:W.plainGet K C name=true)(hh:W.hasDictIn K C=true)
  (ha:W.findIn K (.ref C) name=some none) (hv:mA name=some v) (hv':W.handedIn v=true) (h:Q v {s with toks:=s.toks+1}):
  wpAny (model prog w) A (getAttr (.ref x) name expr) Q E s:=by
 obtain⟨od,J,hl⟩:=I.look
 exact W.get_value X J (W.plainGet_of hg).1 (W.findObj_own hh ha rfl (by rw[hl,hv])) hv' h
theorem ju1{pl:Sem Bool}{Q:Value×List Value->Shared->Prop}(X:K.In s.heap)(I:ObjM s.heap x dx C mA)(hg:W.plainGet K C name=true)
  (hf:W.findIn K (.ref C) name=some (some (.ref f))) (ht:W.isFn K (.ref f)=true) (hv:mA name=none) (h:Q (.ref f,[.ref x]) s):
  wpAny (model prog w) A (getMethod (.ref x) name pl) Q E s:=by
 obtain⟨od,J,hl⟩:=I.look
 exact W.method_fn X J (W.plainGet_of hg).1 (W.plainGet_of hg).2 hf (beq_iff_eq.mp ht) (by show(W.lookIn name od).map (·.isSome)=some false;rw[hl,hv];rfl) h
theorem jy8{ns:List Str}{Q:Unit->Shared->Prop}(X:K.In s.heap)(I:ObjM s.heap x dx C mA)
  (hs:W.findIn K (.ref C) "__setattr__"=some (some (.builtin "object.__setattr__"))) (hp:W.plainOver K C=true) (ht:W.takerIn K C name=some none) (hh:W.hasDictIn K C=true)
  (hw:PySem.Within mA ns) (hsz:ns.length<=sizeLine)
  (h:∀h',ObjM h' x dx C (λy=>if y=name then some v else mA y)->Heap.SameBut dx s.heap h'->Q () {s with heap:=h',toks:=s.toks+2}):
  wpAny (model prog w) A (setAttr (.ref x) name v) Q E s:=by
 obtain⟨od,J,hl⟩:=I.look
 refine W.set_plain X J hs (W.osa_open (s:={s with toks:=s.toks+1}) (r:=none) X J hp ht λb=> ?_)
 obtain⟨cd,hc,hd'⟩:=W.any_some hh
 have hx:s.heap.get? x=some ⟨.ref C,some dx,.plain,#[]⟩:=I.obj
 refine wpAny_bind (wpAny_pure (wpAny_bind (wpAny_bind (wpAny_loadPart hx (wpAny_bind (W.Looks.here (s:={s with toks:=s.toks+1}) (W.looks_clsIn X hc) ?_))))))
 rw[hd']
 refine wpAny_pure (a:=some dx) (wpAny_bind (wpAny_pure (wpAny_bind ?_)))
 refine wpAny_nsSet1 (s:={s with toks:=s.toks+1}) I.ns λh' hn2 hs2=> ?_
 obtain⟨oD,esD,epD,hoD,hdD,hcD⟩:=hn2.count (PySem.Within.cons name v hw)
 refine wpAny_bind (wpAny_lookBehind hoD (by rw[hdD];exact pastItsLine_dict (Nat.le_trans hcD (by rw[List.length_cons];omega))) ?_)
 exact wpAny_pure (h _ ⟨(hs2.2 _ (Ne.symm I.ne)).trans I.obj,hn2,I.ne⟩ hs2)
theorem jtn{R:Result->Shared->Prop}{vs:List Value}{kw:List (Str×Value)}(X:K.In s.heap)(hm:W.makesIn K C=true)
    (hi:W.findIn K (.ref C) "__init__"=some (some (.ref f))) (hf:W.typeIn K (.ref f)=some (.type "function"))
    (h:codeAny (model prog w) (A.under (.builtin "type.__call__" ⟨.ref C::vs,kw⟩)) (.call (.ref f) ⟨.ref (s.heap.objs.size+1)::vs,kw⟩) (W.InitBack (s.heap.objs.size+1) R)
      {s with heap:=(s.heap.push W.emptyDict).push (W.instObj C s.heap.objs.size)}):
    codeAny (model prog w) A (.call (.ref C) ⟨vs,kw⟩) R s:=by
  obtain⟨hh,g,d,t,os⟩:=s
  exact W.make_core (W.makes_of X hm) (W.looks_findIn X hi) (λself=>W.bind_fn X self hf) (.inl rfl) h
end
def putF(f:Str)(v:V):List (Str×V)->List (Str×V)
  | []=>[(f,v)]
  | (g,x)::r=>if g=f then(g,v)::r else(g,x)::putF f v r
theorem jhp(f g:Str)(v:V):∀fs:List (Str×V),(putF f v fs).lookup g=if g=f then some v else fs.lookup g
  | []=>by
    show List.lookup g [(f,v)]=_
    by_cases h:g=f
    · have hb:(g==f)=true:=beq_iff_eq.mpr h
      simp only[List.lookup,hb,if_pos h]
    · have hb:(g==f)=false:=beq_eq_false_iff_ne.mpr h
      simp only[List.lookup,hb,if_neg h]
  | (k,x)::r=>by
    have ih:=jhp f g v r
    rw[show putF f v ((k,x)::r)=(if k=f then(k,v)::r else(k,x)::putF f v r) from rfl]
    by_cases hk:k=f
    · rw[if_pos hk]
      by_cases h:g=k
      · have hb:(g==k)=true:=beq_iff_eq.mpr h
        simp only[List.lookup,hb,if_pos (h.trans hk)]
      · have hb:(g==k)=false:=beq_eq_false_iff_ne.mpr h
        simp only[List.lookup,hb,if_neg (λe:g=f=>h (e.trans hk.symm))]
    · rw[if_neg hk]
      by_cases h:g=k
      · have hb:(g==k)=true:=beq_iff_eq.mpr h
        simp only[List.lookup,hb,if_neg (λe:g=f=>hk (h.symm.trans e))]
      · have hb:(g==k)=false:=beq_eq_false_iff_ne.mpr h
        simp only[List.lookup,hb]
        exact ih
theorem ji5(f:Str)(v:V):∀fs:List (Str×V),f∈(putF f v fs).map (·.1) /\ ∀g,g∈fs.map (·.1)->g∈(putF f v fs).map (·.1)
  | []=>⟨by simp[putF],λg h=>by simp at h⟩
  | (k,x)::r=>by
    obtain⟨i1,i2⟩:=ji5 f v r
    rw[show putF f v ((k,x)::r)=(if k=f then(k,v)::r else(k,x)::putF f v r) from rfl]
    by_cases hk:k=f
    · rw[if_pos hk]
      subst hk
      exact⟨by simp,λg h=>by simpa using h⟩
    · rw[if_neg hk]
      refine⟨?_,λg h=> ?_⟩
      · rw[List.map_cons]
        exact List.mem_cons_of_mem _ i1
      · rw[List.map_cons] at h ⊢
        rcases List.mem_cons.mp h with e | e
        · exact List.mem_cons.mpr (.inl e)
        · exact List.mem_cons_of_mem _ (i2 g e)
theorem jho(f:Str)(v:V):∀fs:List (Str×V),(putF f v fs).length<=fs.length+1
  | []=>by simp[putF]
  | (k,x)::r=>by
    have ih:=jho f v r
    rw[show putF f v ((k,x)::r)=(if k=f then(k,v)::r else(k,x)::putF f v r) from rfl]
    by_cases hk:k=f
    · rw[if_pos hk,List.length_cons,List.length_cons];omega
    · rw[if_neg hk,List.length_cons,List.length_cons];omega
theorem RelO.some_of{v:V}{o:Option Value}(r:RelO (some v) o):∃u,o=some u /\ RelV v u:=by
 cases o with
 | none=>exact(show False from r).elim
 | some u=>exact⟨u,rfl,r⟩
theorem RelO.none_of{o:Option Value}(r:RelO none o):o=none:=by
 cases o with
 | none=>rfl
 | some u=>exact(show False from r).elim
theorem jqm{v:V}{u:Value}(r:RelV v u):W.handedIn u=true:=by
 cases v with
 | non=>cases (show u=Value.none from r);rfl
 | bl b=>cases (show u=Value.bool b from r);rfl
 | int i=>obtain⟨t,e⟩:=(show ∃t,u=Value.int i t from r);cases e;rfl
 | str x=>obtain⟨t,e⟩:=(show ∃t,u=Value.str x t from r);cases e;rfl
 | byt b=>obtain⟨t,e⟩:=(show ∃t,u=Value.bytes b t from r);cases e;rfl
 | flt b=>obtain⟨t,e⟩:=(show ∃t,u=Value.float b t from r);cases e;rfl
 | ref a=>cases (show u=Value.ref a from r);rfl
 | ty n=>cases (show u=Value.type n from r);rfl
section
variable {P : Program} {w : World} {H H' : Hp} {h h' : Heap} {a C dx : Addr} {fs fs' : List (Str × V)}
theorem jj0(hok:HOk P w H h)(e:H a=some (.ins C dx fs)):∃mA,ObjM h a dx C mA /\ (∀f,RelO (fs.lookup f) (mA f)) /\ PySem.Within mA (fs.map (·.1)) /\ fs.length<=1000 /\ H dx=some (.own a):=by
 obtain⟨d,z,ne,ob,mA,n,r,q⟩:=(show jcm P w H h a (.ins C dx fs) from hok a _ e)
 exact⟨mA,⟨ob,n,ne⟩,r,q,z,d⟩
end
structure Cls (K:W.Frag) (C:Addr):Prop where
 pg:W.plainGet K C Str.empty=true
 hd:W.hasDictIn K C=true
 po:W.plainOver K C=true
 sa:W.findIn K (.ref C) "__setattr__"=some (some (.builtin "object.__setattr__"))
theorem Cls.get{K:W.Frag}{C:Addr}(c:Cls K C)(f:Str):W.plainGet K C f=true:=c.pg
def jbj(K:W.Frag)(C:Addr)(f:Str):Prop:=W.findIn K (.ref C) f=some none
theorem jbj.taker{K:W.Frag}{C:Addr}{f:Str}(n:jbj K C f):W.takerIn K C f=some none:=by
 unfold W.takerIn
 rw[show W.findIn K (.ref C) f=some none from n]
 rfl
structure Meth (K:W.Frag) (C:Addr) (m:Str) (f:Addr):Prop where
 at_:W.findIn K (.ref C) m=some (some (.ref f))
 fn:W.isFn K (.ref f)=true
 kp:W.keepIn K (.ref f)=true
section
variable {X : Cx} {pins : List (Addr × Obj)} {σ : St} {H : Hp} {s : Shared} {a C dx : Addr} {fs : List (Str × V)} {f : Str} {v : V} {A : Around} {E : Value -> Shared -> Prop}
theorem joo{b:Bool}{Q:Value->Shared->Prop}(I:Inv X pins σ H s)(e:H a=some (.ins C dx fs))(c:Cls X.K C)(n:jbj X.K C f)(l:fs.lookup f=some v)
  (h:∀u s',Inv X pins σ H s'->RelV v u->Q u s'):wpAny (model X.prog X.w) A (getAttr (.ref a) f b) Q E s:=by
 obtain⟨mA,O,r,_,_,_⟩:=jj0 I.hok e
 obtain⟨u,hu,ru⟩:=RelO.some_of (v:=v) (o:=mA f) (by rw[<-l];exact r f)
 exact jz5 I.kIn O (c.get f) c.hd n hu (jqm ru) (h u _ (I.tok _) ru)
theorem jgm{m:Str}{g:Addr}{pl:Sem Bool}{Q:Value×List Value->Shared->Prop}(I:Inv X pins σ H s)(e:H a=some (.ins C dx fs))(c:Cls X.K C)(k:Meth X.K C m g)(l:fs.lookup m=none)
  (h:Q (.ref g,[.ref a]) s):wpAny (model X.prog X.w) A (getMethod (.ref a) m pl) Q E s:=by
 obtain⟨mA,O,r,_,_,_⟩:=jj0 I.hok e
 have hn:mA m=none:=RelO.none_of (by rw[<-l];exact r m)
 exact ju1 I.kIn O (c.get m) k.at_ k.fn hn h
theorem jpr{y:V}{u:Value}{Q:Unit->Shared->Prop}(I:Inv X pins σ H s)(e:H a=some (.ins C dx fs))(c:Cls X.K C)(n:jbj X.K C f)(hl:fs.length<1000)(ry:RelV y u)
  (h:∀s',Inv X pins σ (upd H a (.ins C dx (putF f y fs))) s'->Q () s'):wpAny (model X.prog X.w) A (setAttr (.ref a) f u) Q E s:=by
 obtain⟨mA,O,r,wi,_,ho⟩:=jj0 I.hok e
 have hz:(fs.map (·.1)).length<=sizeLine:=by rw[List.length_map,sizeLine_eq];omega
 refine jy8 I.kIn O c.sa c.po n.taker c.hd wi hz λh' O' sb=>h _ ?_
 have hd:∃o,h'.get? dx=some o:=let ⟨o,_,_,e',_⟩:=O'.ns;⟨o,e'⟩
 refine I.write (x:=a) (e:=dx) (by rw[e];exact True.intro) (.inr ho) (λb q hb z=>(sb.2 b hb).trans z) hd ?_
 refine⟨by rw[jan O.ne];exact ho,?_,O.ne,O'.obj,_,O'.ns,λg=> ?_,λg hg=> ?_⟩
 ·have:=jho f y fs;omega
 ·show RelO ((putF f y fs).lookup g) (if g=f then some u else mA g)
  rw[jhp]
  by_cases q:g=f
  ·rw[if_pos q,if_pos q];exact ry
  ·rw[if_neg q,if_neg q];exact r g
 ·by_cases q:g=f
  ·rw[q];exact(ji5 f y fs).1
  ·refine(ji5 f y fs).2 g (wi g λz=>hg ?_)
   show(if g=f then some u else mA g)=none
   rw[if_neg q];exact z
theorem Inv.made(I:Inv X pins σ H s):Inv X pins σ (upd (upd H s.heap.objs.size (.own (s.heap.objs.size+1))) (s.heap.objs.size+1) (.ins C s.heap.objs.size []))
    {s with heap:=(s.heap.push W.emptyDict).push (W.instObj C s.heap.objs.size)}:=by
  have e1:(s.heap.push W.emptyDict).get? s.heap.objs.size=some W.emptyDict:=Heap.get?_push_size s.heap rfl
  have e2:((s.heap.push W.emptyDict).push (W.instObj C s.heap.objs.size)).get? (s.heap.objs.size+1)=some (W.instObj C s.heap.objs.size):=by
    have:=Heap.get?_push_size (s.heap.push W.emptyDict) (o:=W.instObj C s.heap.objs.size) rfl
    rwa [Heap.size_push] at this
  have e3:(s.heap.push W.emptyDict).Ns s.heap.objs.size (λ_=>none):=⟨W.emptyDict,#[],_,e1,rfl,(λe he=>absurd he (by simp)),λ_=>rfl⟩
  have I1:=I.laid (a:=s.heap.objs.size) (o:= .own (s.heap.objs.size+1)) (h':=s.heap.push W.emptyDict) (t':=s.toks) (λb u q=>Heap.get?_push_of_some _ q) (Nat.le_refl _) ⟨_,e1⟩
  refine I1.laid (a:=s.heap.objs.size+1) (o:= .ins C s.heap.objs.size []) (t':=s.toks) (λb u q=>Heap.get?_push_of_some _ q) (Nat.le_of_eq (Heap.size_push _ _)) ?_
  have ne:s.heap.objs.size≠s.heap.objs.size+1:=Nat.ne_of_lt (Nat.lt_succ_self _)
  refine⟨by rw[jan ne,jb6],Nat.zero_le _,ne,e2,λ_=>none,(Heap.Ns1.of_empty e3).at λo q=>Heap.get?_push_of_some _ q,λ_=>True.intro,λy hy=>absurd rfl hy⟩
theorem jxi{prog:Program}{w:World}{env:Env}{e:Expr}{f:Str}{pos:Pos}{s:Shared}{Q:Value->Shared->Prop}(hb:attributeBase e f env (eval e env)=eval e env)
  (h:wpAny (model prog w) A (eval e env) (λo s₁=>wpAny (model prog w) A (getAttr o f true) Q E s₁) E s):wpAny (model prog w) A (eval (.Attribute e f pos) env) Q E s:=
 Attribute_any_ h (by rw[arm_eval_Attribute,hb])
end
def tFld(K:W.Frag)(ta:TE)(f:Str):TE:=λσ H Q=>ta σ H λx H1=>∃a C dx fs v,x= .ref a /\ H1 a=some (.ins C dx fs) /\ Cls K C /\ jbj K C f /\ fs.lookup f=some v /\ Q v H1
def sFld(K:W.Frag)(ta tv:TE)(f:Str):TS:=λD σ H=>tv σ H λy H1=>ta σ H1 λx H2=>∃a C dx fs,x= .ref a /\ H2 a=some (.ins C dx fs) /\ Cls K C /\ jbj K C f /\ fs.length<1000 /\
 D.nx σ (upd H2 a (.ins C dx (putF f y fs)))
section
variable {X : Cx} {o e value : Expr} {f : Str} {pos pos' tpos : Pos} {ta tv : TE}
theorem jb2(he:PE X e ta)(hb:attributeBase e f X.env (eval e X.env)=eval e X.env):PE X (.Attribute e f pos) (tFld X.K ta f):=by
 intro pins s σ H Q I h
 refine jxi hb (thn (he pins s σ H _ I h) λu s1 ⟨x,H1,I1,rx,a,C,dx,fs,v,ex,ea,c,n,l,q⟩=> ?_)
 subst ex
 obtain rfl:u=Value.ref a:=rx
 exact joo I1 ea c n l λu' s2 I2 ru=>⟨v,H1,I2,ru,q⟩
theorem jcp(ha:PE X o ta)(hv:PE X value tv)(hs:swapsWith value (some (.Attribute o f pos')) pos.line X.env=pure false):PS X (.Assign [.Attribute o f pos'] value pos) (sFld X.K ta tv f):=by
 intro pins s σ H D I h
 refine plainObj_wpAny_Assign_Attribute (thn (hv pins s σ H _ I h) λu s1 ⟨y,H1,I1,ry,q⟩=>thn (ha pins s1 σ H1 _ I1 q) λov s2 ⟨x,H2,I2,rx,a,C,dx,fs,ex,ea,c,n,l,q2⟩=> ?_) hs
 subst ex
 obtain rfl:ov=Value.ref a:=rx
 exact jpr I2 ea c n l ry λs3 I3=>⟨σ,_,I3,q2⟩
end
section
variable {X : Cx} {pins : List (Addr × Obj)} {σ : St} {H : Hp} {s : Shared} {A : Around} {E : Value -> Shared -> Prop} {Q : Value -> Shared -> Prop} {c : Value} {b : Bool}
inductive TyOf (K:W.Frag) (H:Hp):V->Value->Prop where
 | non:TyOf K H .non (.type "NoneType")
 | bl (x:Bool):TyOf K H (.bl x) (.type "bool")
 | int (i:Int):TyOf K H (.int i) (.type "int")
 | str (x:Str):TyOf K H (.str x) (.type "str")
 | flt (x:UInt64):TyOf K H (.flt x) (.type "float")
 | lst {a:Addr} {xs:List V} (e:H a=some (.lst xs)):TyOf K H (.ref a) (.type "list")
 | frz {a:Addr} {o:Obj} {xs:List V} (e:H a=some (.frz o (.lst xs))):TyOf K H (.ref a) (.type "list")
 | tup {a:Addr} {xs:List V} (e:H a=some (.tup xs)):TyOf K H (.ref a) (.type "tuple")
 | dK {a:Addr} {kvs:List (Key×V)} (e:H a=some (.dK kvs)):TyOf K H (.ref a) (.type "dict")
 | dT {a:Addr} {kvs:List (List Key×V)} (e:H a=some (.dT kvs)):TyOf K H (.ref a) (.type "dict")
 | ins {a C dx:Addr} {fs:List (Str×V)} (e:H a=some (.ins C dx fs)) (cl:Cls K C) (ha:W.findIn K (.ref C) "__class__"=some (some (.builtin "object.__class__")))
   (hn:W.specialIn K (.builtin "object.__class__") "__get__"=some (some (.builtin "getset_descriptor.__get__"))) (htk:W.takesIn K (.builtin "object.__class__")=some true)
   (hm:W.mroIn K C (.type "object")=some true):TyOf K H (.ref a) (.ref C)
theorem jrp{x:V}{u t:Value}(I:Inv X pins σ H s)(rx:RelV x u)(ty:TyOf X.K H x t)(e:W.kitOne X.K t c=some b)(h:∀tk,Q (.bool b) {s with toks:=tk}):
  wpAny (model X.prog X.w) A (call (.builtin "isinstance") [u,c]) Q E s:=by
 cases ty with
 | non=>cases (show u=Value.none from rx);exact W.kia_one W.kitx_none I.kIn True.intro e (λz=>nomatch z) h
 | bl y=>cases (show u=Value.bool y from rx);exact W.kia_one W.kitx_bool I.kIn True.intro e (λz=>nomatch z) h
 | int i=>obtain⟨t,q⟩:=(show ∃t,u=Value.int i t from rx);cases q;exact W.kia_one W.kitx_int I.kIn True.intro e (λz=>nomatch z) h
 | str y=>obtain⟨t,q⟩:=(show ∃t,u=Value.str y t from rx);cases q;exact W.kia_one W.kitx_str I.kIn True.intro e (λz=>nomatch z) h
 | flt y=>obtain⟨t,q⟩:=(show ∃t,u=Value.float y t from rx);cases q;exact W.kia_one W.kitx_float I.kIn True.intro e (λz=>nomatch z) h
 | @lst a xs ea=>
  cases (show u=Value.ref a from rx)
  obtain⟨_,_,n,_,h1⟩:=(show jcm X.prog X.w H s.heap a (.lst xs) from I.hok a _ ea)
  exact W.kia_one W.kitx_list I.kIn ⟨_,h1,rfl⟩ e (λz=>nomatch z) h
 | @frz a ob xs ea=>
  cases (show u=Value.ref a from rx)
  obtain⟨_,_,_,n,_,h1⟩:=(show jcm X.prog X.w H s.heap a (.frz ob (.lst xs)) from I.hok a _ ea)
  exact W.kia_one W.kitx_list I.kIn ⟨_,h1,rfl⟩ e (λz=>nomatch z) h
 | @tup a xs ea=>
  cases (show u=Value.ref a from rx)
  obtain⟨_,_,_,p⟩:=(show jcm X.prog X.w H s.heap a (.tup xs) from I.hok a _ ea)
  obtain⟨o,h1,h2,_⟩:=p
  exact W.kia_one W.kitx_tuple I.kIn ⟨o,h1,h2⟩ e (λz=>nomatch z) h
 | @dK a kvs ea=>
  cases (show u=Value.ref a from rx)
  obtain⟨_,_,vs,_,p⟩:=(show jcm X.prog X.w H s.heap a (.dK kvs) from I.hok a _ ea)
  obtain⟨o,es,ep,h1,h2,_⟩:=p
  exact W.kia_one W.kitx_dict I.kIn ⟨o,h1,h2.1⟩ e (λz=>nomatch z) h
 | @dT a kvs ea=>
  cases (show u=Value.ref a from rx)
  obtain⟨_,_,xs,_,o,es,ep,h1,h2,_⟩:=(show jcm X.prog X.w H s.heap a (.dT kvs) from I.hok a _ ea)
  exact W.kia_one W.kitx_dict I.kIn ⟨o,h1,h2.1⟩ e (λz=>nomatch z) h
 | @ins a C dx fs ea cl ha hn htk hm=>
  cases (show u=Value.ref a from rx)
  obtain⟨mA,O,_⟩:=jj0 I.hok ea
  obtain⟨od,J,_⟩:=O.look
  exact W.kia_one (W.kitx_own (cl.get _) cl.hd ha hn htk hm) I.kIn J e (λz=>nomatch z) h
end
structure Room (k:Nat) (A:Around):Prop where
 hd:A.handled=none
 dp:A.depth+3*k+5<recursionLimit
 un:A.units+16*k+200<cLine
theorem Room.mono{j k:Nat}{A:Around}(r:Room k A)(h:j<=k):Room j A:=⟨r.hd,by have:=r.dp;omega,by have:=r.un;omega⟩
theorem Room.deeper{k:Nat}{A:Around}(r:Room (k+1) A)(env:Env):Room k (A.deeper env):=
 ⟨r.hd,by have:=r.dp;show A.depth+1+3*k+5<_;omega,by have:=r.un;show A.units+3+16*k+200<_;omega⟩
theorem jow{A:Around}{C:Addr}{us:List Value}{kw:List (Str×Value)}:(A.under (.builtin "type.__call__" ⟨.ref C::us,kw⟩)).depth=A.depth+1:=by
 first | rfl | simp[Around.under,Code.weight,Code.isCreation,Code.isGuard,Code.isCaller,Code.frames,Code.isFrame,guardIds]
theorem jp2{A:Around}{C:Addr}{us:List Value}{kw:List (Str×Value)}:(A.under (.builtin "type.__call__" ⟨.ref C::us,kw⟩)).units=A.units+1:=by
 first | rfl | simp[Around.under,Code.cUnits,Code.frames,Code.isFrame]
theorem Room.make{k:Nat}{A:Around}(r:Room (k+1) A)(C:Addr)(us:List Value)(kw:List (Str×Value)):Room k (A.under (.builtin "type.__call__" ⟨.ref C::us,kw⟩)):=
 ⟨r.hd,by have:=r.dp;rw[jow];omega,by have:=r.un;rw[jp2];omega⟩
theorem Room.depth{k:Nat}{A:Around}(r:Room k A):A.depth<recursionLimit:=by have:=r.dp;omega
theorem Room.units{k:Nat}{A:Around}(r:Room k A):A.units+64<cLine:=by have:=r.un;omega
def tNil:TA:=λ_ H Q=>Q [] H
def jyt(ta:TE)(tr:TA):TA:=λσ H Q=>ta σ H λx H1=>tr σ H1 λxs H2=>Q (x::xs) H2
section
variable {X : Cx} {e : Expr} {es : List Expr} {te : TE} {t : TA} {pos : Pos}
theorem ja7:PA X [] tNil:=λ_ _ _ _ H Q I h=>Calls.spliced_nil ⟨[],H,I,.nil,h⟩
theorem ja0(ha:PE X e te)(hr:PA X es t)(hs:starEach (e::es) X.env=(false,eval e X.env)::starEach es X.env:=by rfl):PA X (e::es) (jyt te t):=by
 intro pos pins s σ H Q I h
 rw[hs]
 show wpAny _ _ (spliced ((false,eval e X.env)::backTo pos (starEach es X.env))) _ _ s
 refine Calls.spliced_cons (thn (ha pins s σ H _ I h) λu s1 ⟨x,H1,I1,r1,q1⟩=> ?_)
 exact thn (hr pos pins s1 σ H1 _ I1 q1) λus s2 ⟨xs,H2,I2,r2,q2⟩=>⟨x::xs,H2,I2,.cons r1 r2,q2⟩
def tTup(t:TA):TE:=λσ H Q=>t σ H λxs H1=>xs.length<=sizeLine /\ ∀p,H1 p=none->Q (.ref p) (upd H1 p (.tup xs))
def tLst(t:TA):TE:=λσ H Q=>t σ H λxs H1=>xs.length<=sizeLine /\ ∀p,H1 p=none->Q (.ref p) (upd H1 p (.lst xs))
theorem jfd{x1}(h:PA X es t):PE X (.Tuple es x1 pos) (tTup t):=by
 intro pins s σ H Q I hq
 refine wpAny_Tuple_spliced (thn (h pos pins s σ H _ I hq) λus s1 ⟨xs,H1,I1,r,z,q⟩=>⟨by rw[<-r.length];exact z,?_⟩)
 have hf:H1 s1.heap.objs.size=none:=I1.hok.fresh (Nat.le_refl _)
 refine⟨.ref s1.heap.objs.size,upd H1 s1.heap.objs.size (.tup xs),I1.laid (t':=s1.toks) (λb u e=>Heap.get?_push_of_some _ e) (Nat.le_refl _) ?_,rfl,q _ hf⟩
 exact⟨z,us,r,⟨_,Heap.get?_push_size _ rfl,rfl,_,rfl⟩⟩
theorem jbx(h:PA X es t):PE X (.List es pos) (tLst t):=by
 intro pins s σ H Q I hq
 refine wpAny_List_spliced (thn (h pos pins s σ H _ I hq) λus s1 ⟨xs,H1,I1,r,z,q⟩=>⟨by rw[<-r.length];exact z,?_⟩)
 have hf:H1 s1.heap.objs.size=none:=I1.hok.fresh (Nat.le_refl _)
 refine⟨.ref s1.heap.objs.size,upd H1 s1.heap.objs.size (.lst xs),I1.laid (t':=s1.toks) (λb u e=>Heap.get?_push_of_some _ e) (Nat.le_refl _) ?_,rfl,q _ hf⟩
 exact⟨z,us,0,r,Heap.get?_push_size _ rfl⟩
end
abbrev Sp:=List V->Hp->VK->XK->Prop
abbrev CXT:=List Env->Hp->Shared->XK->Value->Shared->Prop
structure Env0 (P:Program) (w:World) (K:W.Frag) (mg:Str->Option Value) (base:Heap) (A:Around) (outer:List Env) (s:Shared) (H:Hp):Prop where
 frames:A.frames=some outer
 mod:Mod K mg base
 bs:∀b o,base.get? b=some o->s.heap.get? b=some o /\ H b=none
 bsz:base.objs.size<=s.heap.objs.size
 funs:s.heap.FunFrames base outer
 frf:∀b∈frs outer,H b=none
 hok:HOk P w H s.heap
 bare:AllBare s.gens
def CE(outer:List Env)(P:Program)(w:World)(H:Hp)(s:Shared)(Q:VK)(u:Value)(s':Shared):Prop:=
 ∃v H',s'.os=s.os /\ AllBare s'.gens /\ Un (frs outer) [] H H' s.heap s'.heap /\ HOk P w H' s'.heap /\ RelV v u /\ Q v H'
def CR(CX:CXT)(outer:List Env)(P:Program)(w:World)(H:Hp)(s:Shared)(Q:VK)(E:XK)(r:Result)(s':Shared):Prop:=
 match r with
 | .ok (.ret u)=>CE outer P w H s Q u s'
 | .ok _=>False
 | .error e=>CX outer H s E e s'
structure FnOk (P:Program) (w:World) (K:W.Frag) (mg:Str->Option Value) (base:Heap) (CX:CXT) (k:Nat) (f:Addr) (fd:FuncData) (ps:List Str) (sp:Sp):Prop where
 len:∀vs H Q E,sp vs H Q E->vs.length=ps.length
 run:∀(A:Around) (outer:List Env) (s:Shared) (H:Hp) (args:Args) (us:List Value) (vs:List V) (Q:VK) (E:XK),Room k A->Env0 P w K mg base A outer s H->BindsTo s fd args (ps.zip us)->Vals vs us->sp vs H Q E->
  codeAny (model P w) A (.call (.ref f) args) (CR CX outer P w H s Q E) s
theorem FnOk.mono{P:Program}{w:World}{K:W.Frag}{mg:Str->Option Value}{base:Heap}{CX:CXT}{j k:Nat}{f:Addr}{fd:FuncData}{ps:List Str}{sp:Sp}(F:FnOk P w K mg base CX j f fd ps sp)(h:j<=k):
  FnOk P w K mg base CX k f fd ps sp:=⟨F.len,λA outer s H args us vs Q E hr=>F.run A outer s H args us vs Q E (hr.mono h)⟩
theorem FnOk.imp{P:Program}{w:World}{K:W.Frag}{mg:Str->Option Value}{base:Heap}{CX:CXT}{k:Nat}{f:Addr}{fd:FuncData}{ps:List Str}{sp sp':Sp}(F:FnOk P w K mg base CX k f fd ps sp)
  (h:∀vs H Q E,sp' vs H Q E->sp vs H Q E):FnOk P w K mg base CX k f fd ps sp':=
 ⟨λvs H Q E q=>F.len vs H Q E (h _ _ _ _ q),λA outer s H args us vs Q E hr he hb hv hs=>F.run A outer s H args us vs Q E hr he hb hv (h _ _ _ _ hs)⟩
theorem Env0.make{P:Program}{w:World}{K:W.Frag}{mg:Str->Option Value}{base:Heap}{A:Around}{outer:List Env}{s:Shared}{H:Hp}(e:Env0 P w K mg base A outer s H)(C:Addr)(us:List Value)(kw:List (Str×Value)):
  Env0 P w K mg base (A.under (.builtin "type.__call__" ⟨.ref C::us,kw⟩)) outer s H:=⟨by first | exact e.frames | (simpa [Around.under,Code.envs,Code.isFrame,pushEnvs] using e.frames),e.mod,e.bs,e.bsz,e.funs,e.frf,e.hok,e.bare⟩
section
variable {X : Cx} {pins : List (Addr × Obj)} {σ : St} {H : Hp} {s s' : Shared}
theorem Inv.env0(I:Inv X pins σ H s):Env0 X.prog X.w X.K X.mg X.base X.A X.stack s H:=
 ⟨I.ok.frames,I.ok.mod,I.bs,Nat.le_trans I.ok.bsz I.sz,I.stack,I.stkFree,I.hok,I.bare⟩
theorem Inv.after{Q:VK}{u:Value}(I:Inv X pins σ H s)(h:CE X.stack X.prog X.w H s Q u s'):EP X pins σ Q u s':=by
 obtain⟨v,H',os,bare,un,hok,r,q⟩:=h
 obtain⟨hh,g,d,t,os'⟩:=s'
 obtain rfl:os'=s.os:=os
 exact⟨v,H',I.call (h':=hh) (g':=g) (d':=d) (t':=t) (ch:=[]) un hok bare (λb z=>absurd z (by simp)),r,q⟩
end
def jyi(sp:Sp)(dvs:List V)(E:XK)(t:TA):TE:=λσ H Q=>t σ H λvs H1=>sp (vs++dvs) H1 Q E
def jp0(C:Addr)(sp:Sp)(dvs:List V)(E:XK)(t:TA):TE:=λσ H Q=>t σ H λvs H1=>∀x dx,H1 x=none->H1 dx=none->dx≠x->
 sp (.ref x::(vs++dvs)) (upd (upd H1 dx (.own x)) x (.ins C dx [])) (λv H2=>v= .non /\ Q (.ref x) H2) E
def jfc(K:W.Frag)(fd:FuncData)(ps:List Str)(ds:List Value):Prop:=
 ∀(s:Shared) (us:List Value),K.In s.heap->(us++ds).length=ps.length->BindsTo s fd ⟨us,[]⟩ (ps.zip (us++ds))
theorem jfc.all{K:W.Frag}{fd:FuncData}{ps:List Str}(h:∀us:List Value,us.length=ps.length->bindArgs fd ⟨us,[]⟩=pure (ps.zip us)):jfc K fd ps []:=λs us _ hl=>by
 rw[List.append_nil] at hl ⊢
 exact .of_eq (h us hl)
def jef(CX:CXT)(X:Cx)(E:XK):Prop:=∀(pins:List (Addr×Obj)) (σ:St) (H:Hp) (s:Shared) (e:Value) (s':Shared),Inv X pins σ H s->CX X.stack H s E e s'->X.xe e s'
section
variable {X : Cx} {CX : CXT} {k : Nat} {f C : Addr} {fd : FuncData} {ps : List Str} {sp : Sp} {dvs : List V} {ds : List Value} {E : XK} {x m : Str} {p pos apos : Pos} {e o : Expr} {es : List Expr} {ta : TE} {t : TA}
theorem jt5{pins:List (Addr×Obj)}{σ:St}{H:Hp}{s:Shared}{Q:VK}{us:List Value}{vs:List V}(F:FnOk X.prog X.w X.K X.mg X.base CX k f fd ps sp)(hr:Room k X.A)(hb:jfc X.K fd ps ds)(hd:Vals dvs ds)(hx:jef CX X E)
  (I:Inv X pins σ H s) (r:Vals vs us) (h:sp (vs++dvs) H Q E):wpAny (model X.prog X.w) X.A (call (.ref f) us) (EP X pins σ Q) X.xe s:=by
 have r2:Vals (vs++dvs) (us++ds):=r.append hd
 have hl:(us++ds).length=ps.length:=by rw[<-r2.length];exact F.len _ _ _ _ h
 refine wpAny_call (codeAny_mono (F.run X.A X.stack s H ⟨us,[]⟩ (us++ds) (vs++dvs) Q E hr I.env0 (hb s us I.kIn hl) r2 h) λr s' hq=> ?_)
 cases r with
 | error e=>exact hx pins σ H s e s' I hq
 | ok fl=>
  cases fl with
  | ret u=>exact I.after hq
  | next=>exact False.elim hq
  | brk=>exact False.elim hq
  | cont=>exact False.elim hq
theorem jzg(F:FnOk X.prog X.w X.K X.mg X.base CX k f fd ps sp)(hr:Room k X.A)(hg:Gl X x)(hm:X.mg x=some (.ref f))(hk:W.keepIn X.K (.ref f)=true)(hb:jfc X.K fd ps ds)(hd:Vals dvs ds)(hx:jef CX X E)
  (ha:PA X (e::es) t) (hdb:(x==("__debug__":Str))=false:=by decide) (he:starEach (e::es) X.env=(false,eval e X.env)::starEach es X.env:=by rfl) (hpl:(backTo pos (starEach es X.env)).any (·.1)=false:=by rfl):
  PE X (.Call (.Name x p) (e::es) [] pos) (jyi sp dvs E t):=by
 intro pins s σ H Q I h
 refine wpAny_Call_Name_kw (jgl I hg hm ?_ hdb)
 refine W.callWith_K (h₀:=X.base) I.ok.mod.kin hk (thn (ha pos pins s σ H _ I h) λus s1 ⟨vs,H1,I1,r,q⟩=>⟨I1.kIn,?_⟩) he hpl
 exact jt5 F hr hb hd hx I1 r q
structure Mk (K:W.Frag) (C f:Addr):Prop where
 makes:W.makesIn K C=true
 init:W.findIn K (.ref C) "__init__"=some (some (.ref f))
 fn:W.isFn K (.ref f)=true
 kp:W.keepIn K (.ref C)=true
theorem jng{pins:List (Addr×Obj)}{σ:St}{H:Hp}{s:Shared}{Q:VK}{us:List Value}{vs:List V}(M:Mk X.K C f)(F:FnOk X.prog X.w X.K X.mg X.base CX k f fd ps sp)(hr:Room (k+1) X.A)(hb:jfc X.K fd ps ds)(hd:Vals dvs ds)
  (hx:jef CX X E) (I:Inv X pins σ H s) (r:Vals vs us)
  (h:∀x dx,H x=none->H dx=none->dx≠x->sp (.ref x::(vs++dvs)) (upd (upd H dx (.own x)) x (.ins C dx [])) (λv H2=>v= .non /\ Q (.ref x) H2) E):
  wpAny (model X.prog X.w) X.A (call (.ref C) us) (EP X pins σ Q) X.xe s:=by
 have hq:=h (s.heap.objs.size+1) s.heap.objs.size (I.hok.fresh (Nat.le_succ _)) (I.hok.fresh (Nat.le_refl _)) (Nat.ne_of_lt (Nat.lt_succ_self _))
 have I2:=Inv.made (C:=C) I
 have r2:Vals (V.ref (s.heap.objs.size+1)::(vs++dvs)) (Value.ref (s.heap.objs.size+1)::(us++ds)):= .cons rfl (r.append hd)
 have hl:(Value.ref (s.heap.objs.size+1)::us++ds).length=ps.length:=by
  have e:=r2.length
  rw[F.len _ _ _ _ hq] at e
  exact e.symm
 refine wpAny_call (jtn (f:=f) I.kIn M.makes M.init (beq_iff_eq.mp M.fn) (codeAny_mono (F.run _ X.stack _ _ ⟨Value.ref (s.heap.objs.size+1)::us,[]⟩ (Value.ref (s.heap.objs.size+1)::(us++ds)) _ _ E (hr.make C us [])
  (I2.env0.make C us []) (hb _ (Value.ref (s.heap.objs.size+1)::us) I2.kIn hl) r2 hq) λr s' hq'=> ?_))
 cases r with
 | error e=>exact hx pins σ _ _ e s' I2 hq'
 | ok fl=>
  cases fl with
  | ret u=>
   obtain⟨v,H',I3,rv,ev,q3⟩:=I2.after hq'
   subst ev
   exact⟨rv,⟨V.ref (s.heap.objs.size+1),H',I3,rfl,q3⟩⟩
  | next=>exact False.elim hq'
  | brk=>exact False.elim hq'
  | cont=>exact False.elim hq'
theorem jzq(M:Mk X.K C f)(F:FnOk X.prog X.w X.K X.mg X.base CX k f fd ps sp)(hr:Room (k+1) X.A)(hg:Gl X x)(hm:X.mg x=some (.ref C))(hb:jfc X.K fd ps ds)(hd:Vals dvs ds)(hx:jef CX X E)
  (ha:PA X (e::es) t) (hdb:(x==("__debug__":Str))=false:=by decide) (he:starEach (e::es) X.env=(false,eval e X.env)::starEach es X.env:=by rfl) (hpl:(backTo pos (starEach es X.env)).any (·.1)=false:=by rfl):
  PE X (.Call (.Name x p) (e::es) [] pos) (jp0 C sp dvs E t):=by
 intro pins s σ H Q I h
 refine wpAny_Call_Name_kw (jgl I hg hm ?_ hdb)
 refine W.callWith_K (h₀:=X.base) I.ok.mod.kin M.kp (thn (ha pos pins s σ H _ I h) λus s1 ⟨vs,H1,I1,r,q⟩=>⟨I1.kIn,?_⟩) he hpl
 exact jng M F hr hb hd hx I1 r q
theorem jw1(M:Mk X.K C f)(F:FnOk X.prog X.w X.K X.mg X.base CX k f fd ps sp)(hr:Room (k+1) X.A)(hg:Gl X x)(hm:X.mg x=some (.ref C))(hb:jfc X.K fd ps ds)(hd:Vals dvs ds)(hx:jef CX X E)
  (hdb:(x==("__debug__":Str))=false:=by decide):PE X (.Call (.Name x p) [] [] pos) (jp0 C sp dvs E tNil):=by
 intro pins s σ H Q I h
 refine wpAny_Call_Name_kw (jgl I hg hm ?_ hdb)
 exact W.callWith_K0 I.kIn M.kp (jng (us:=[]) M F hr hb hd hx I .nil h)
end
structure FnScope (N P:List Str) (sc:Scope):Prop where
 kind:sc.kind= .function
 co:sc.isCoroutine=false
 gen:sc.isGenerator=false
 nd:N.Nodup
 pre:N.take P.length=P
 par:∀x∈P,sc.names.lookup x=some .local \/ sc.names.lookup x=some .cell
 nofree:∀y∈sc.names,y.2≠ .free
theorem jks{kindOf:Str->Option NameKind}{x:Str}:∀{binds:List (Str×Value)} {m:Str->Option Value},(∀v,(x,v)∉binds)->bindL kindOf binds m x=m x
  | [],_,_=>rfl
  | (n,v)::r,m,h=>by
    unfold bindL
    rw[jks λw hw=>h w (List.mem_cons_of_mem _ hw)]
    split
    · have:x≠n:=by rintro rfl;exact h v List.mem_cons_self
      simp[this]
    · rfl
theorem jl2{kindOf:Str->Option NameKind}{x:Str}:∀{binds:List (Str×Value)} {m:Str->Option Value},(∀v,(x,v)∉binds)->bindC kindOf binds m x=m x
  | [],_,_=>rfl
  | (n,v)::r,m,h=>by
    unfold bindC
    rw[jl2 λw hw=>h w (List.mem_cons_of_mem _ hw)]
    split
    · rfl
    · have:x≠n:=by rintro rfl;exact h v List.mem_cons_self
      simp[this]
theorem jkr{kindOf:Str->Option NameKind}{x:Str}{v:Value}:∀{P:List Str} {vs:List Value} {i:Nat} {m:Str->Option Value},P.Nodup->P[i]?=some x->vs[i]?=some v->kindOf x=some .local->
  bindL kindOf (P.zip vs) m x=some v
 | [],_,_,_,_,h,_,_=>by simp at h
 | _::_,[],_,_,_,_,h,_=>by simp at h
 | p::P,w::vs,0,m,nd,h1,h2,hk=>by
  simp at h1 h2;subst h1;subst h2
  show bindL kindOf ((p,w)::P.zip vs) m p=_
  unfold bindL
  rw[jks λv hv=>(List.nodup_cons.mp nd).1 (List.of_mem_zip hv).1,if_pos hk]
  simp
 | p::P,w::vs,i+1,m,nd,h1,h2,hk=>by
  show bindL kindOf ((p,w)::P.zip vs) m x=_
  unfold bindL
  exact jkr (i:=i) (List.nodup_cons.mp nd).2 (by simpa using h1) (by simpa using h2) hk
theorem jl8{kindOf:Str->Option NameKind}{x:Str}{v:Value}:∀{P:List Str} {vs:List Value} {i:Nat} {m:Str->Option Value},P.Nodup->P[i]?=some x->vs[i]?=some v->kindOf x≠some .local->
  bindC kindOf (P.zip vs) m x=some v
 | [],_,_,_,_,h,_,_=>by simp at h
 | _::_,[],_,_,_,_,h,_=>by simp at h
 | p::P,w::vs,0,m,nd,h1,h2,hk=>by
  simp at h1 h2;subst h1;subst h2
  show bindC kindOf ((p,w)::P.zip vs) m p=_
  unfold bindC
  rw[jl2 λv hv=>(List.nodup_cons.mp nd).1 (List.of_mem_zip hv).1,if_neg hk]
  simp
 | p::P,w::vs,i+1,m,nd,h1,h2,hk=>by
  show bindC kindOf ((p,w)::P.zip vs) m x=_
  unfold bindC
  exact jl8 (i:=i) (List.nodup_cons.mp nd).2 (by simpa using h1) (by simpa using h2) hk
def start(N:List Str)(vs:List V):St:=vs.map some++List.replicate (N.length - vs.length) none
def cxOf(CX:CXT)(P:Program)(w:World)(K:W.Frag)(mg:Str->Option Value)(base:Heap)(N:List Str)(qual:Str)(scope:Scope)(f:Addr)(cd:Value)(A:Around)(outer:List Env)(s:Shared)(H:Hp)(E:XK):Cx where
 prog:=P
 w:=w
 K:=K
 mg:=mg
 base:=base
 A:=A.deeper (envOfC qual scope s.heap.objs.size f cd)
 N:=N
 s₀:=s
 H₀:=H
 env:=envOfC qual scope s.heap.objs.size f cd
 outer:=outer
 stack:=envOfC qual scope s.heap.objs.size f cd::outer
 ex:=[]
 calm:=true
 fn:=λ_=>true
 pn:=[]
 xe:=λe s'=>wpAny (model P w) (A.deeper (envOfC qual scope s.heap.objs.size f cd)) (leaving (envOfC qual scope s.heap.objs.size f cd) e) (λ_ s''=>CX outer H s E e s'') (λe' s''=>CX outer H s E e' s'') s'
theorem jnp{sc:Scope}{n:Nat}{x:Str}(h:sc.names.lookup x=some .cell):∃c,(cellsFrom n sc.names []).lookup x=some c:=by
 have q:=W.cellsFrom_some sc.names n [] (.inl h)
 exact Option.isSome_iff_exists.mp q
theorem jrc{CX:CXT}{P:Program}{w:World}{K:W.Frag}{mg:Str->Option Value}{base:Heap}{N ps:List Str}{qual:Str}{scope:Scope}{f:Addr}{cd:Value}{A:Around}{outer:List Env}{s s1:Shared}{H:Hp}{E:XK}{us:List Value}{vs:List V}
  (S:FnScope N ps scope) (hd:A.handled=none) (e0:Env0 P w K mg base A outer s H) (hl:vs.length=ps.length) (r:Vals vs us)
  (x:InCallC s s.heap.objs.size (bindL (envOfC qual scope s.heap.objs.size f cd).kindOf (ps.zip us) λ_=>none) (cellsFrom (s.heap.objs.size+1) scope.names []) (bindC (envOfC qual scope s.heap.objs.size f cd).kindOf (ps.zip us) λ_=>none) s1):
  Inv (cxOf CX P w K mg base N qual scope f cd A outer s H E) [] (start N vs) H s1:=by
 have hpl:ps.length<=N.length:=by have:=congrArg List.length S.pre;rw[List.length_take] at this;omega
 obtain⟨h1,tk,rfl,hk⟩:=x.done
 have noA:∀b:Addr,b∉(cxOf CX P w K mg base N qual scope f cd A outer s H E).ex:=λb z=>absurd (show b∈([]:List Addr) from z) (by simp)
 refine⟨⟨e0.mod,S.kind,rfl,rfl,Nat.le_refl _,λy z c h1 h2=> ?_,λy hy=> ?_,λy c _ h=> ?_,λ_=>hd,Around.frames_deeper e0.frames,.inr ⟨rfl,rfl⟩,λb z=>absurd z (noA b),e0.bs,e0.bsz,λb _ _=>noA b,λb z=>absurd z (noA b),e0.funs,e0.frf⟩,
  rfl,e0.bare,Un.kept hk,⟨_,x.toInCall.ns,λi y v h1 h2 h3=> ?_⟩,λy c h=>⟨_,x.cell y c h⟩,e0.hok.fresh (Nat.le_refl _),λy c h=> ?_,λp hp=>absurd (show p∈([]:List (Addr×Obj)) from hp) (by simp),e0.hok.kept hk,?_⟩
 ·exact name_of_addr x.apart (PySem.mem_of_lookup h1) (PySem.mem_of_lookup h2)
 ·have hy:scope.names.lookup y=some .cell \/ scope.names.lookup y=some .free:=hy
  rcases hy with hy | hy
  ·exact jnp hy
  ·exact absurd rfl (S.nofree _ (PySem.mem_of_lookup hy))
 ·exact Nat.le_of_lt (x.above y c (PySem.mem_of_lookup h))
 ·have hi:i<vs.length:=by
   unfold start at h2
   by_cases hi:i<vs.length
   ·exact hi
   ·rw[List.getElem?_append_right (by simpa using hi)] at h2
    rw[List.getElem?_replicate] at h2
    split at h2<;>cases h2
  have ha:vs[i]?=some v:=by
   unfold start at h2
   rw[List.getElem?_append_left (by simpa using hi),List.getElem?_map] at h2
   cases e:vs[i]? with
   | none=>rw[e] at h2;cases h2
   | some a=>rw[e] at h2;cases h2;rfl
  obtain⟨u,hu,rv⟩:=r.get ha
  have hp:ps[i]?=some y:=by
   rw[<-S.pre,List.getElem?_take_of_lt (by omega)];exact h1
  have ndP:ps.Nodup:=by rw[<-S.pre];exact S.nd.sublist (List.take_sublist _ _)
  refine⟨u,rv,?_⟩
  rcases S.par y (List.mem_of_getElem? hp) with k | k
  ·exact .inl ⟨k,jkr ndP hp hu k⟩
  ·obtain⟨c,e⟩:=jnp (n:=s.heap.objs.size+1) k
   refine .inr ⟨.inl k,c,e,?_⟩
   have q:=x.cell y c e
   rw[jl8 ndP hp hu (by show scope.names.lookup y≠_;rw[k];decide)] at q
   exact q
 ·exact e0.hok.fresh (Nat.le_of_lt (x.above y c (PySem.mem_of_lookup h)))
 ·unfold start
  show _=N.length
  rw[List.length_append,List.length_map,List.length_replicate]
  omega
theorem fn_of{CX:CXT}{P:Program}{w:World}{K:W.Frag}{mg:Str->Option Value}{base:Heap}{k:Nat}{f:Addr}{name qual:Str}{params:Arguments}{body:List Stmt}{scope:Scope}{dV kV doc pm cdv ct oc:Value}{an od:Option Addr}
  {osl:Array (Option Value)} {N ps:List Str} {sp:Sp} (lk:K.lookup f=some ⟨oc,od,.func (W.fnOf name qual params body scope dV kV doc pm an cdv ct),osl⟩) (hcd:W.codeIn K cdv qual=true) (S:FnScope N ps scope)
  (len:∀vs H Q E,sp vs H Q E->vs.length=ps.length)
  (hbody:∀(A:Around) (outer:List Env) (s:Shared) (H:Hp) (vs:List V) (Q:VK) (E:XK),Room k (A.deeper (envOfC qual scope s.heap.objs.size f cdv))->sp vs H Q E->
   ∃t,PSs (cxOf CX P w K mg base N qual scope f cdv A outer s H E) body t /\ t {nx:=λ_ H'=>Q .non H',rt:=Q} (start N vs) H):
  FnOk P w K mg base CX (k+1) f (W.fnOf name qual params body scope dV kV doc pm an cdv ct) ps sp:=by
 refine⟨len,λA outer s H args us vs Q E hr e0 hb r hsp=> ?_⟩
 have hl:=len _ _ _ _ hsp
 have KX:K.In s.heap:=e0.mod.kin.keeps λb o e=>(e0.bs b o e).1
 have lim:s.heap.NoLimit:=e0.mod.nolimit.keeps λb o e=>(e0.bs b o e).1
 have hkind:∀y∈ps.zip us,scope.names.lookup y.1=some .local \/ (scope.names.lookup y.1=some .cell /\ ((cellsFrom (s.heap.objs.size+1) scope.names []).lookup y.1).isSome=true):=λ⟨n,v⟩ hy=>by
  rcases S.par n (List.of_mem_zip hy).1 with q | q
  ·exact .inl q
  ·exact .inr ⟨q,W.cellsFrom_some _ _ _ (.inl q)⟩
 refine codeAny_call_function hr.depth (KX _ _ lk) rfl S.co S.gen rfl (W.codeRec_of KX hcd) (hb _ _ _ _ ?_)
 refine wpAny_newFunctionEnv_cells S.kind hkind λenv he s1 x=> ?_
 subst he
 refine⟨lim.keeps x.toInCall.keep,codeAny_func ?_⟩
 obtain⟨t,ht,hq⟩:=hbody A outer s H vs Q E (hr.deeper _) hsp
 have I:Inv (cxOf CX P w K mg base N qual scope f cdv A outer s H E) [] (start N vs) H s1:=jrc S hr.hd e0 hl r x
 refine wpAny_mono (ht [] s1 (start N vs) H _ I hq) (λfl s' hs=> ?_) λe s' hs=>hs
 have fin:∀{σ':St} {H':Hp} {v:V} {u:Value},Inv (cxOf CX P w K mg base N qual scope f cdv A outer s H E) [] σ' H' s'->RelV v u->Q v H'->CE outer P w H s Q u s':=
  fun{σ' H' v u} J rv q=>⟨v,H',J.os,J.bare,J.base,J.hok,rv,q⟩
 cases fl with
 | ret u=>
  obtain⟨v,σ',H',J,rv,q⟩:=hs
  exact fin J rv q
 | next=>
  obtain⟨σ',H',J,q⟩:=hs
  exact fin (v:=V.non) (u:=Value.none) J rfl q
 | brk=>
  obtain⟨_,_,_,q⟩:=hs
  exact False.elim q
 | cont=>
  obtain⟨_,_,_,q⟩:=hs
  exact False.elim q
section
variable {X : Cx} {x : Str} {p pos : Pos} {e : Expr} {es : List Expr} {t : TA} {id T : String} {r : List V -> Hp -> VK -> Prop}
def tCB(r:List V->Hp->VK->Prop)(t:TA):TE:=λσ H Q=>t σ H λvs H1=>r vs H1 Q
theorem jbm(hc:jcj X (.builtin id) r)(hg:Gl X x)(hm:X.mg x=none)(hv:bootBuiltins x=some (.builtin id))(ha:PA X (e::es) t)(hn:x≠"__name__":=by decide)(hdb:(x==("__debug__":Str))=false:=by decide)
  (he:starEach (e::es) X.env=(false,eval e X.env)::starEach es X.env:=by rfl) (hpl:(backTo pos (starEach es X.env)).any (·.1)=false:=by rfl):PE X (.Call (.Name x p) (e::es) [] pos) (tCB r t):=by
 intro pins s σ H Q I h
 refine wpAny_Call_Name_kw (jku I hg hm hv ?_ hn hdb)
 exact PyProof.Rows.callWith_builtin1 (thn (ha pos pins s σ H _ I h) λus s1 ⟨vs,H1,I1,r1,q1⟩=>hc pins s1 σ H1 vs us Q I1 r1 q1) he hpl
theorem jbw(hc:jcj X (.type T) r)(hg:Gl X x)(hm:X.mg x=none)(hv:bootBuiltins x=some (.type T))(ha:PA X (e::es) t)(hn:x≠"__name__":=by decide)(hdb:(x==("__debug__":Str))=false:=by decide)
  (he:starEach (e::es) X.env=(false,eval e X.env)::starEach es X.env:=by rfl) (hpl:(backTo pos (starEach es X.env)).any (·.1)=false:=by rfl):PE X (.Call (.Name x p) (e::es) [] pos) (tCB r t):=by
 intro pins s σ H Q I h
 refine wpAny_Call_Name_kw (jku I hg hm hv ?_ hn hdb)
 exact PyProof.Rows.callWith_type1 (thn (ha pos pins s σ H _ I h) λus s1 ⟨vs,H1,I1,r1,q1⟩=>hc pins s1 σ H1 vs us Q I1 r1 q1) he hpl
end
end L2
namespace HT
open PySem PyProof.Rows
section
variable {prog : Program} {w : World} {A : Around} {E : Value -> Shared -> Prop} {s : Shared}
theorem jxv{t b:Addr}{vs ws:List Value}{Q:Value->Shared->Prop}(ht:IsTup s.heap t vs.toArray)(hb:IsTup s.heap b ws.toArray)(hv:vs≠[])
  (h1:ws=[]->Q (.ref t) s) (h2:ws≠[]->Q (.ref s.heap.objs.size) {s with heap:=s.heap.push {cls:= .type "tuple",data:= .seq (vs++ws).toArray}})
  (hsz:vs.length+ws.length<=sizeLine):wpAny (model prog w) A (binaryOp .Add (.ref t) (.ref b)) Q E s:=by
 obtain⟨⟨cls,dd,data,sl⟩,ho,hc,n,hd⟩:=id ht
 obtain⟨⟨cls2,dd2,data2,sl2⟩,ho2,hc2,n2,hd2⟩:=id hb
 simp only at hc hd hc2 hd2
 subst hc hd hc2 hd2
 have e:vs.toArray++ws.toArray=(vs++ws).toArray:=by simp
 by_cases hw:ws=[]
 ·exact concat_meets ⟨_,ho,rfl⟩ ⟨_,ho2,rfl⟩ noFill_tuple_add seq_tuple_add PySem.F.slot_tuple_add PySem.F.entry_tuple_add (PySem.F.args_tuple_add_2 _ _)
   (tuple_addW1 t b vs.toArray ws.toArray n n2 dd dd2 sl sl2 (by simpa using hv) (by simp[hw])) ⟨ho,ho2,h1 hw⟩
 ·refine concat_meets ⟨_,ho,rfl⟩ ⟨_,ho2,rfl⟩ noFill_tuple_add seq_tuple_add PySem.F.slot_tuple_add PySem.F.entry_tuple_add (PySem.F.args_tuple_add_2 _ _)
   (tuple_addW2 t b vs.toArray ws.toArray n n2 dd dd2 sl sl2 (by simpa using hv) (by simpa using hw) (by rw[List.size_toArray,List.size_toArray];exact hsz)) ⟨ho,ho2,?_⟩
  rw[e]
  exact h2 hw
def sIx(n d:Nat):Option Int->Nat
 | none=>d
 | some v=>if v<0 then(v+(n:Int)).toNat else min v.toNat n
theorem sIx_le(n d:Nat)(hd:d<=n)(o:Option Int):sIx n d o<=n:=by
 cases o with
 | none=>exact hd
 | some v=>
  show(if v<0 then(v+(n:Int)).toNat else min v.toNat n)<=n
  by_cases hv:v<0
  ·rw[if_pos hv];omega
  ·rw[if_neg hv];exact Nat.min_le_right _ _
theorem jsf(v:Int)(n d:Nat):(if v<0 then max (v+(n:Int)) 0 else min v (n:Int))=((sIx n d (some v):Nat):Int):=by
 show(if v<0 then max (v+(n:Int)) 0 else min v (n:Int))=(((if v<0 then(v+(n:Int)).toNat else min v.toNat n):Nat):Int)
 by_cases hv:v<0
 ·simp only[if_pos hv];omega
 ·simp only[if_neg hv];omega
theorem jom(lo hi:Option Int)(n:Nat):Builtin.Slice.sliceAdjust lo hi 1 (n:Int)=(((sIx n 0 lo:Nat):Int),((sIx n n hi:Nat):Int)):=by
 have h1:¬((1:Int)<0):=by omega
 unfold Builtin.Slice.sliceAdjust
 simp only[h1,if_false]
 refine Prod.ext ?_ ?_
 ·cases lo with
  | none=>rfl
  | some v=>exact jsf v n 0
 ·cases hi with
  | none=>rfl
  | some v=>exact jsf v n n
theorem jon(i j:Nat):Builtin.Slice.slicePlaces (i:Int) (j:Int) 1=j - i:=by
 unfold Builtin.Slice.slicePlaces
 have h1:(1:Int)>0:=by omega
 simp only[h1,if_true,Int.ediv_one]
 split<;>omega
theorem jit{v:Value}{o:Option Int}{Q:Option Int->Shared->Prop}(p:IsPart v o)(h:Q o s):wpAny (model prog w) A (Builtin.Slice.slicePartIndex v) Q E s:=by
 cases p with
 | none=>exact slicePart_none h
 | int i t=>exact slicePart_int h
theorem jh5{sl:Addr}{vl vu:Value}{lo hi:Option Int}{n:Nat}{Q:Int×Int×Nat->Shared->Prop}(hs:s.heap.IsSliceOf sl vl vu .none)(pl:IsPart vl lo)(pu:IsPart vu hi)
  (h:Q (((sIx n 0 lo:Nat):Int),1,sIx n n hi - sIx n 0 lo) s):wpAny (model prog w) A (Builtin.Slice.sliceApplied (.ref sl) (pure (n:Int))) Q E s:=by
 obtain⟨os,hos,hcs,hds⟩:=id hs
 unfold Builtin.Slice.sliceApplied Builtin.Slice.sliceFields
 refine wpAny_bind (wpAny_bind (wpAny_field hos hds (x:=vl) rfl (wpAny_bind (wpAny_field hos hds (x:=vu) rfl (wpAny_bind (wpAny_field hos hds (x:= .none) rfl (wpAny_pure ?_)))))))
 refine wpAny_bind (slicePart_none ?_)
 show wpAny _ _ (if((1:Int)==0)=true then _ else _) _ _ s
 rw[if_neg (by decide)]
 refine wpAny_bind (jit pl (wpAny_bind (jit pu (wpAny_bind (wpAny_pure ?_)))))
 show wpAny _ _ (match Builtin.Slice.sliceAdjust lo hi 1 (n:Int) with | (lo,hi)=>pure (lo,(1:Int),Builtin.Slice.slicePlaces lo hi 1)) _ _ s
 rw[jom lo hi n]
 show wpAny _ _ (pure (((sIx n 0 lo:Nat):Int),(1:Int),Builtin.Slice.slicePlaces ((sIx n 0 lo:Nat):Int) ((sIx n n hi:Nat):Int) 1)) _ _ s
 rw[jon]
 exact wpAny_pure h
theorem ju5(xs:Array Value)(i k:Nat):((List.range k).filterMap λ(m:Nat)=>xs[((i:Int)+(m:Int)*1).toNat]?).toArray=((xs.toList.drop i).take k).toArray:=by
 have e:(λ(m:Nat)=>xs[((i:Int)+(m:Int)*1).toNat]?)=λm=>xs[i+m]?:=by
  funext m
  have:((i:Int)+(m:Int)*1).toNat=i+m:=by omega
  rw[this]
 rw[e]
 have:=pick_run xs i k
 rw[List.filterMap_map] at this
 have e2:((λx=>xs[x]?)∘λx=>i+x)=λm=>xs[i+m]?:=rfl
 rw[e2] at this
 rw[this]
theorem jgh{t sl:Addr}{items:Array Value}{vl vu:Value}{lo hi:Option Int}{Q:Value->Shared->Prop}(ht:IsTup s.heap t items)(hs:s.heap.IsSliceOf sl vl vu .none)(pl:IsPart vl lo)(pu:IsPart vu hi)
  (hw:¬(sIx items.size 0 lo=0 /\ sIx items.size items.size hi=items.size))
  (h:Q (.ref s.heap.objs.size) {s with heap:=s.heap.push {cls:= .type "tuple",data:= .seq ((items.toList.drop (sIx items.size 0 lo)).take (sIx items.size items.size hi - sIx items.size 0 lo)).toArray}})
  (hsz:items.size<=sizeLine):wpAny (model prog w) A (getItem (.ref t) (.ref sl)) Q E s:=by
 have htake:sizeOk (.seq ((items.toList.drop (sIx items.size 0 lo)).take (sIx items.size items.size hi - sIx items.size 0 lo)).toArray):=by
  show((items.toList.drop (sIx items.size 0 lo)).take (sIx items.size items.size hi - sIx items.size 0 lo)).toArray.size<=sizeLine
  rw[List.size_toArray,List.length_take,List.length_drop,Array.length_toList]
  omega
 have hj:sIx items.size items.size hi<=items.size:=sIx_le _ _ (Nat.le_refl _) hi
 obtain⟨os,hos,hcs,hds⟩:=id hs
 have hTs:s.TypeIs (.ref sl) "slice":=⟨os,hos,hcs⟩
 unfold getItem
 try with_reducible refine wpAny_holding ?_
 first | refine wpAny_bind (wpAny_pure ?_) | skip
 refine wpAny_bind (wpAny_sequenceKey ht.typeIs (by decide) ?_)
 refine wpAny_bind (wpAny_callSpecial?_slot (name:=Str.ofString "__getitem__") ht.typeIs PyProof.Rows.slot_tuple_getitem
  (wpAny_call_entry PyProof.Rows.slot_tuple_getitem ht.typeIs entry_tuple_getitem ?_ (args_tuple_getitem _ _)))
 show wpAny _ _ (Builtin.Tuple.tupleItemsOf (.ref t) >>= _) _ _ s
 refine wpAny_bind (tupleItemsOf_ ht ?_)
 refine wpAny_bind (wpAny_typeOf hTs ?_)
 rw[if_pos (by decide)]
 refine wpAny_bind (jh5 hs pl pu ?_)
 have hno:¬((((sIx items.size 0 lo:Nat):Int)==0&&(1:Int)==1&&(sIx items.size items.size hi - sIx items.size 0 lo)==items.size)=true):=by
  intro q
  rw[Bool.and_eq_true,Bool.and_eq_true] at q
  have q1:((sIx items.size 0 lo:Nat):Int)=0:=eq_of_beq q.1.1
  have q2:sIx items.size items.size hi - sIx items.size 0 lo=items.size:=eq_of_beq q.2
  exact hw ⟨by omega,by omega⟩
 show wpAny _ _ (if(((sIx items.size 0 lo:Nat):Int)==0&&(1:Int)==1&&(sIx items.size items.size hi - sIx items.size 0 lo)==items.size)=true then _ else _) _ _ s
 rw[if_neg hno,ju5]
 first
  | exact wpAny_bind (m:=Builtin.Tuple.tupleExact _) (wpAny_newObj_type (wpAny_pure ⟨_,rfl,wpAny_pure h⟩) htake)
  | exact wpAny_bind (m:=Builtin.Tuple.tupleExact _) (wpAny_newObj_type (wpAny_bind (wpAny_pure (wpAny_pure ⟨_,rfl,wpAny_pure h⟩))) htake)
  | exact wpAny_bind (wpAny_bind (m:=Builtin.Tuple.tupleExact _) (wpAny_newObj_type (wpAny_pure (wpAny_pure ⟨_,rfl,wpAny_pure h⟩)) htake))
  | exact wpAny_bind (wpAny_bind (m:=Builtin.Tuple.tupleExact _) (wpAny_newObj_type (wpAny_pure ⟨_,rfl,wpAny_pure h⟩) htake))
end
end HT
namespace L2
open PySem PySem.Spec PyProof.Rows
abbrev TO:=St->Hp->(Option Int->Hp->Prop)->Prop
def PO(X:Cx)(e:Option Expr)(t:TO):Prop:=
 ∀(pins:List (Addr×Obj)) (s:Shared) (σ:St) (H:Hp) (Q:Option Int->Hp->Prop),Inv X pins σ H s->t σ H Q->
  wpAny (model X.prog X.w) X.A (evalPart e X.env) (λu s'=>∃o H',Inv X pins σ H' s' /\ IsPart u o /\ Q o H') X.xe s
def jsl:TO:=λ_ H Q=>Q none H
def tPart(t:TE):TO:=λσ H Q=>t σ H λx H1=>∃i,x= .int i /\ Q (some i) H1
theorem jpa{ns:List Int}:∀{us:List Value},Vals (ns.map V.int) us->IntsAre us ns:=by
 induction ns with
 | nil=>intro us r;rw[List.map_nil] at r;cases r;exact .nil
 | cons n ns ih=>
  intro us r
  rw[List.map_cons] at r
  cases r with
  | cons r1 r2=>
   obtain⟨t,e⟩:=r1
   subst e
   exact .cons n t (ih r2)
section
variable {X : Cx} {e : Expr} {te : TE} {lo hi : Option Expr} {tl th : TO} {pos p2 : Pos}
theorem jet:PO X none jsl:=by
 intro pins s σ H Q I h
 rw[evalPart_none]
 exact wpAny_pure ⟨none,H,I,.none,h⟩
theorem jeu(h:PE X e te):PO X (some e) (tPart te):=by
 intro pins s σ H Q I hw
 rw[evalPart_some]
 refine thn (h pins s σ H _ I hw) λu s1 ⟨x,H1,I1,r1,q1⟩=> ?_
 obtain⟨i,rfl,q⟩:=q1
 obtain⟨t,rfl⟩:=r1
 exact⟨some i,H1,I1,.int i t,q⟩
def SlR(X:Cx)(r:V->Option Int->Option Int->Hp->VK->Prop):Prop:=
 ∀(pins:List (Addr×Obj)) (s:Shared) (σ:St) (H:Hp) (x:V) (v vl vu:Value) (lo hi:Option Int) (sl:Addr) (Q:VK),Inv X pins σ H s->RelV x v->s.heap.IsSliceOf sl vl vu .none->IsPart vl lo->IsPart vu hi->r x lo hi H Q->
  ∃T id,typeLookup (.type T) "__getitem__"=pure (some (.builtin id)) /\ s.TypeIs v T /\ wpAny (model X.prog X.w) X.A (getItem v (.ref sl)) (EP X pins σ Q) X.xe s
theorem SlR.or{r r':V->Option Int->Option Int->Hp->VK->Prop}(h:SlR X r)(h':SlR X r'):SlR X (λx lo hi H Q=>r x lo hi H Q \/ r' x lo hi H Q):=by
 intro pins s σ H x v vl vu lo hi sl Q I rx hs pl pu q
 rcases q with q | q
 ·exact h pins s σ H x v vl vu lo hi sl Q I rx hs pl pu q
 ·exact h' pins s σ H x v vl vu lo hi sl Q I rx hs pl pu q
def tSl(r:V->Option Int->Option Int->Hp->VK->Prop)(te:TE)(tl th:TO):TE:=λσ H Q=>te σ H λx H1=>tl σ H1 λl H2=>th σ H2 λu H3=>r x l u H3 Q
theorem jds{r:V->Option Int->Option Int->Hp->VK->Prop}(hr:SlR X r)(he:PE X e te)(hl:PO X lo tl)(hu:PO X hi th):PE X (.Subscript e (.Slice lo hi none p2) pos) (tSl r te tl th):=by
 intro pins s σ H Q I h
 refine Subscript_ (thn (he pins s σ H _ I h) λv s1 ⟨x,H1,I1,r1,q1⟩=> ?_)
 refine wpAny_Slice (thn (hl pins s1 σ H1 _ I1 q1) λvl s2 ⟨l,H2,I2,pl,q2⟩=>thn (hu pins s2 σ H2 _ I2 q2) λvu s3 ⟨u,H3,I3,pu,q3⟩=> ?_)
 rw[evalPart_none]
 refine wpAny_pure ?_
 have I4:Inv X pins σ H3 {s3 with heap:=s3.heap.push {cls:= .type "slice",data:= .fields #[vl,vu,.none]}}:=I3.kept (t':=s3.toks) λb ob q=>Heap.get?_push_of_some _ q
 obtain⟨T,id,hT,ht,hg⟩:=hr pins {s3 with heap:=s3.heap.push {cls:= .type "slice",data:= .fields #[vl,vu,.none]}} σ H3 x v vl vu l u s3.heap.objs.size Q I4 r1 (Heap.IsSliceOf.new ..) pl pu q3
 show wpAny (model X.prog X.w) X.A (subscriptTail e (.Slice lo hi none p2) v (.ref s3.heap.objs.size)) (EP X pins σ Q) X.xe {s3 with heap:=s3.heap.push {cls:= .type "slice",data:= .fields #[vl,vu,.none]}}
 exact tail_any (ops:=[.ref s3.heap.objs.size,v]) ht hT hg (by with_unfolding_all rfl)
def cutV(xs:List V)(lo hi:Option Int):List V:=(xs.drop (HT.sIx xs.length 0 lo)).take (HT.sIx xs.length xs.length hi - HT.sIx xs.length 0 lo)
theorem ji2(xs:List V)(lo hi:Option Int):(cutV xs lo hi).length<=xs.length:=by
 unfold cutV
 rw[List.length_take,List.length_drop]
 omega
def rSlT(K:W.Frag):V->Option Int->Option Int->Hp->VK->Prop:=λx lo hi H Q=>∃a xs,x= .ref a /\ SqT K H a xs /\
 ¬(HT.sIx xs.length 0 lo=0 /\ HT.sIx xs.length xs.length hi=xs.length) /\ ∀p,H p=none->Q (.ref p) (upd H p (.tup (cutV xs lo hi)))
theorem sl_tup:SlR X (rSlT X.K):=by
 intro pins s σ H x v vl vu lo hi sl Q I rx hs pl pu h
 obtain⟨a,xs,rfl,hx,hw,q⟩:=h
 cases rx
 obtain⟨its,r,ht,hz⟩:=I.tuple hx
 have hlen:its.toArray.size=xs.length:=by rw[List.size_toArray];exact r.length.symm
 refine⟨"tuple",_,PyProof.Rows.slot_tuple_getitem.lookup,ht.typeIs,?_⟩
 refine HT.jgh ht hs pl pu (by rw[hlen];exact hw) ?_ (by rw[hlen];exact hz)
 rw[hlen]
 refine⟨.ref s.heap.objs.size,_,I.laid (t':=s.toks) (o:= .tup (cutV xs lo hi)) (λb ob q=>Heap.get?_push_of_some _ q) (Nat.le_refl _) ?_,rfl,q _ (I.hok.fresh (Nat.le_refl _))⟩
 exact⟨Nat.le_trans (ji2 xs lo hi) hz,_,(r.drop (HT.sIx xs.length 0 lo)).take (HT.sIx xs.length xs.length hi - HT.sIx xs.length 0 lo),IsTup.new _ _⟩
def rCatT(K:W.Frag):R2:=λx y H Q=>∃a b xs ys,x= .ref a /\ y= .ref b /\ SqT K H a xs /\ SqT K H b ys /\ xs≠[] /\ xs.length+ys.length<=sizeLine /\
 (ys=[]->Q (.ref a) H) /\ (ys≠[]->∀p,H p=none->Q (.ref p) (upd H p (.tup (xs++ys))))
theorem Vals.nil_iff{xs:List V}{us:List Value}(r:Vals xs us):us=[]↔xs=[]:=by
 cases r with
 | nil=>simp
 | cons _ _=>simp
theorem jz7:OpR X (binaryOp .Add) (rCatT X.K):=by
 intro pins s σ H x y v u Q I rx ry h
 obtain⟨a,b,xs,ys,rfl,rfl,ha,hb,hx,hz,q1,q2⟩:=h
 cases rx
 cases ry
 obtain⟨its,r1,p1,_⟩:=I.tuple ha
 obtain⟨its2,r2,p2,_⟩:=I.tuple hb
 refine HT.jxv p1 p2 (λz=>hx (r1.nil_iff.mp z)) (λz=>⟨.ref a,H,I,rfl,q1 (r2.nil_iff.mp z)⟩) (λz=> ?_) (by rw[<-r1.length,<-r2.length];exact hz)
 refine⟨.ref s.heap.objs.size,_,I.laid (t':=s.toks) (o:= .tup (xs++ys)) (λb ob q=>Heap.get?_push_of_some _ q) (Nat.le_refl _) ?_,rfl,q2 (λw=>z (r2.nil_iff.mpr w)) _ (I.hok.fresh (Nat.le_refl _))⟩
 exact⟨by rw[List.length_append];exact hz,_,r1.append r2,IsTup.new _ _⟩
end
def ixN(n:Nat)(i:Int):Option Nat:=if 0<=i then(if i<n then some i.toNat else none) else if -(n:Int)<=i then some (i+n).toNat else none
def atI{α:Type}(xs:List α)(i:Int):Option α:=(ixN xs.length i).bind λj=>xs[j]?
theorem jt9{n:Nat}{i:Int}{j:Nat}(h:ixN n i=some j):seqIndex? i n=some j /\ j<n /\ -(n:Int)<=i /\ i<n:=by
 unfold ixN at h
 by_cases h0:0<=i
 ·rw[if_pos h0] at h
  by_cases h1:i<n
  ·rw[if_pos h1] at h
   have e:i.toNat=j:=Option.some.inj h
   exact⟨by rw[seqIndex_of h0 h1,e],by omega,by omega,h1⟩
  ·rw[if_neg h1] at h;cases h
 ·rw[if_neg h0] at h
  by_cases h1: -(n:Int)<=i
  ·rw[if_pos h1] at h
   have e:(i+n).toNat=j:=Option.some.inj h
   exact⟨by rw[seqIndex_neg (by omega) h1,e],by omega,h1,by omega⟩
  ·rw[if_neg h1] at h;cases h
theorem jlo{α:Type}{xs:List α}{i:Int}{v:α}(h:atI xs i=some v):∃j,seqIndex? i xs.length=some j /\ xs[j]?=some v /\ j<xs.length /\ -(xs.length:Int)<=i /\ i<xs.length:=by
 unfold atI at h
 cases e:ixN xs.length i with
 | none=>rw[e] at h;cases h
 | some j=>
  rw[e] at h
  obtain⟨h1,h2,h3,h4⟩:=jt9 e
  exact⟨j,h1,h,h2,h3,h4⟩
def jpz(b:Expr):Prop:=∀o i,subscripted b false o i=operate [o,i] (getItem o i)
def IxR(X:Cx)(r:R2):Prop:=
 ∀(value slice:Expr) (pins:List (Addr×Obj)) (s:Shared) (σ:St) (H:Hp) (x y:V) (v u:Value) (Q:VK),Inv X pins σ H s->RelV x v->RelV y u->r x y H Q->
  subscripted slice false v u=operate [v,u] (getItem v u)->wpAny (model X.prog X.w) X.A (subscriptTail value slice v u) (EP X pins σ Q) X.xe s
def MtR(X:Cx)(id:String)(r:V->List V->Hp->VK->Prop):Prop:=
 ∀(pins:List (Addr×Obj)) (s:Shared) (σ:St) (H:Hp) (x:V) (xs:List V) (v:Value) (us:List Value) (Q:VK),Inv X pins σ H s->RelV x v->Vals xs us->r x xs H Q->
  wpAny (model X.prog X.w) X.A (call (.builtin id) (v::us)) (EP X pins σ Q) X.xe s
section
variable {X : Cx} {a b : Expr} {ta tb : TE} {pos : Pos}
theorem IxR.or{r r':R2}(h:IxR X r)(h':IxR X r'):IxR X (λx y H Q=>r x y H Q \/ r' x y H Q):=by
 intro value slice pins s σ H x y v u Q I rx ry q hs
 rcases q with q | q
 ·exact h value slice pins s σ H x y v u Q I rx ry q hs
 ·exact h' value slice pins s σ H x y v u Q I rx ry q hs
theorem pe_ix{r:R2}(hr:IxR X r)(ha:PE X a ta)(hb:PE X b tb)(hs:jpz b):PE X (.Subscript a b pos) (tOp r ta tb):=by
 intro pins s σ H Q I h
 exact Subscript_ (binT ha hb I h λv u s2 x y H2 I2 rx ry q=>hr a b pins s2 σ H2 x y v u Q I2 rx ry q (hs _ _))
def rIxL(K:W.Frag):R2:=λx y H Q=>∃p xs i v,x= .ref p /\ y= .int i /\ SqL K H p xs /\ atI xs i=some v /\ Q v H
def rIxT(K:W.Frag):R2:=λx y H Q=>∃p xs i v,x= .ref p /\ y= .int i /\ SqT K H p xs /\ atI xs i=some v /\ Q v H
def rIxS:R2:=λx y H Q=>∃z i c,x= .str z /\ y= .int i /\ z.length<=sizeLine /\ atI z.cps.toList i=some c /\ Q (.str ⟨#[c]⟩) H
theorem jxz:IxR X (rIxL X.K):=by
 intro value slice pins s σ H x y v u Q I rx ry h hs
 obtain⟨p,xs,i,z,rfl,rfl,hq,he,q⟩:=h
 cases rx
 obtain⟨t,rfl⟩:=ry
 obtain⟨its,r,pl,hz⟩:=I.list hq
 obtain⟨j,h1,h2,h3,h4,h5⟩:=jlo he
 obtain⟨w,ew,rw'⟩:=r.get h2
 have hl:=r.length
 have hn:=jhw
 have fin:EP X pins σ Q w s:=⟨z,H,I,rw',q⟩
 by_cases h0:0<=i
 ·have hj:i.toNat=j:=by
   rw[seqIndex_of h0 h5] at h1
   exact Option.some.inj h1
  exact item_listR pl.isList h0 (by omega) (by rw[hj];simpa using ew) fin hs
 ·have hj:(i+(its.toArray.size:Int)).toNat=j:=by
   rw[seqIndex_neg (by omega) h4] at h1
   rw[List.size_toArray,<-hl]
   exact Option.some.inj h1
  exact subscriptTail_builtinR (x:=w) pl.isList.typeIs slot_list_getitem.lookup
   (wpAny_getItem_list_neg (Q:=λr s'=>r=w /\ EP X pins σ Q r s') pl.isList (by omega) (by rw[List.size_toArray]<;>omega) (by omega) (by rw[hj];simpa using ew) ⟨rfl,fin⟩) hs
theorem ix_tup:IxR X (rIxT X.K):=by
 intro value slice pins s σ H x y v u Q I rx ry h hs
 obtain⟨p,xs,i,z,rfl,rfl,hq,he,q⟩:=h
 cases rx
 obtain⟨t,rfl⟩:=ry
 obtain⟨its,r,pl,hz⟩:=I.tuple hq
 obtain⟨j,h1,h2,h3,h4,h5⟩:=jlo he
 obtain⟨w,ew,rw'⟩:=r.get h2
 have hl:=r.length
 have hn:=jhw
 have fin:EP X pins σ Q w s:=⟨z,H,I,rw',q⟩
 exact subscriptTail_builtinR (x:=w) pl.typeIs slot_tuple_getitem.lookup
  (getItem_tuple (j:=j) (Q:=λr s'=>r=w /\ EP X pins σ Q r s') pl (by omega) (by omega) (by rw[List.size_toArray,<-hl];exact h1) (by simpa using ew) ⟨rfl,fin⟩) hs
theorem ix_str:IxR X rIxS:=by
 intro value slice pins s σ H x y v u Q I rx ry h hs
 obtain⟨z,i,c,rfl,rfl,hz,he,q⟩:=h
 obtain⟨t,rfl⟩:=rx
 obtain⟨t',rfl⟩:=ry
 obtain⟨j,h1,h2,h3,h4,h5⟩:=jlo he
 have hl:z.cps.toList.length=z.length:=by simp[Str.length]
 rw[hl] at h1 h4 h5
 have hn:=jhw
 exact tail_any (typeIs_str s z t) slot_str_getitem.lookup (getItem_str (c:=c) (by
  have e1:decide (i< -(2^63:Int))=false:=decide_eq_false (by omega)
  have e2:decide (i>=2^63)=false:=decide_eq_false (by omega)
  rw[e1,e2,Bool.or_false]) (by rw[h1];simpa using h2) ⟨.str ⟨#[c]⟩,H,I.tok _,⟨_,rfl⟩,q⟩) hs
def rIx(K:W.Frag):R2:=λx y H Q=>rIxL K x y H Q \/ rIxT K x y H Q \/ rIxS x y H Q
theorem ix_seq:IxR X (rIx X.K):=jxz.or (ix_tup.or ix_str)
theorem jpn(its:List Value)(n j:Nat)(u:Value):Obj.mapSeq (·.setIfInBounds j u) {cls:= .type "list",data:= .seq its.toArray n}={cls:= .type "list",data:= .seq (its.set j u).toArray n}:=by
 simp[Obj.mapSeq]
theorem Inv.lst{pins:List (Addr×Obj)}{σ:St}{H:Hp}{s:Shared}{p:Addr}{xs:List V}(I:Inv X pins σ H s)(h:H p=some (.lst xs)):
  ∃(its:List Value) (n:Nat),Vals xs its /\ s.heap.get? p=some {cls:= .type "list",data:= .seq its.toArray n} /\ xs.length<=sizeLine:=by
 obtain⟨z,its,n,r,e⟩:=I.hok p _ h
 exact⟨its,n,r,e,z⟩
theorem Inv.lstUpd{pins:List (Addr×Obj)}{σ:St}{H:Hp}{s:Shared}{p:Addr}{xs ys:List V}{its its':List Value}{n n':Nat}{f:Obj->Obj}(I:Inv X pins σ H s)(h:H p=some (.lst xs))
  (ho:s.heap.get? p=some {cls:= .type "list",data:= .seq its.toArray n}) (hf:f {cls:= .type "list",data:= .seq its.toArray n}={cls:= .type "list",data:= .seq its'.toArray n'}) (r:Vals ys its') (hz:ys.length<=sizeLine) (t:Nat):
  Inv X pins σ (upd H p (.lst ys)) {s with heap:=s.heap.update p f,toks:=t}:=by
 have e:(s.heap.update p f).get? p=some {cls:= .type "list",data:= .seq its'.toArray n'}:=by
  rw[Heap.get?_update_self f ho (by rw[hf]<;>rfl),hf]
 refine I.write (x:=p) (e:=p) (by rw[h];trivial) (.inl rfl) (λb u hb q=>(Heap.get?_update_other _ _ (Ne.symm hb)).trans q) ⟨_,e⟩ ?_
 exact⟨hz,its',n',r,e⟩
def rSetL:V->V->V->Hp->(Hp->Prop)->Prop:=λo i v H Q=>∃p xs k j,o= .ref p /\ i= .int k /\ H p=some (.lst xs) /\ ixN xs.length k=some j /\ Q (upd H p (.lst (xs.set j v)))
theorem jf7:PSet X rSetL:=by
 intro pins s σ H o i v ov iv u Q I ro ri rv h
 obtain⟨p,xs,k,j,rfl,rfl,hp,hj,q⟩:=h
 cases ro
 obtain⟨t,rfl⟩:=ri
 obtain⟨its,n,r,ho,hz⟩:=I.lst hp
 obtain⟨h1,h2,h3,h4⟩:=jt9 hj
 have hl:=r.length
 have hn:=jhw
 have I':Inv X pins σ (upd H p (.lst (xs.set j v))) {s with heap:=s.heap.update p (Obj.mapSeq (·.setIfInBounds j u))}:=
  I.lstUpd hp ho (jpn its n j u) (r.set rv j) (by rw[List.length_set];exact hz) s.toks
 by_cases h0:0<=k
 ·have hk:k.toNat=j:=by
   rw[seqIndex_of h0 h4] at h1
   exact Option.some.inj h1
  exact W.ki_setAt ho h0 (by omega) (by rw[List.size_toArray,<-hl];exact h4) (by rw[hk];exact⟨_,I',q⟩)
 ·have hk:(k+(its.toArray.size:Int)).toNat=j:=by
   rw[seqIndex_neg (by omega) h3] at h1
   rw[List.size_toArray,<-hl]
   exact Option.some.inj h1
  exact W.ki_setBack ho (by omega) (by rw[List.size_toArray,<-hl];exact h3) (by omega) (by rw[hk];exact⟨_,I',q⟩)
theorem jkn(lo hi:Option Int)(n:Nat):(sliceBounds lo hi none n).1=((HT.sIx n 0 lo:Nat):Int) /\ (sliceBounds lo hi none n).2.1=((HT.sIx n n hi:Nat):Int) /\ (sliceBounds lo hi none n).2.2=1:=by
 refine⟨?_,?_,rfl⟩
 ·cases lo with
  | none=>simp[sliceBounds,HT.sIx]
  | some i=>
   simp only[sliceBounds,HT.sIx,Option.getD_none,show(1:Int)>0 by decide,if_true]
   by_cases h:i<0
   ·simp only[h,if_true]<;>omega
   ·simp only[h,if_false]<;>omega
 ·cases hi with
  | none=>simp[sliceBounds,HT.sIx]
  | some i=>
   simp only[sliceBounds,HT.sIx,Option.getD_none,show(1:Int)>0 by decide,if_true]
   by_cases h:i<0
   ·simp only[h,if_true]<;>omega
   ·simp only[h,if_false]<;>omega
theorem jji(its:List Value)(lo hi:Option Int):slicePick its.toArray lo hi none=((its.drop (HT.sIx its.length 0 lo)).take (HT.sIx its.length its.length hi - HT.sIx its.length 0 lo)).toArray:=by
 obtain⟨h1,h2,h3⟩:=jkn lo hi its.toArray.size
 unfold slicePick
 rw[h1,h2,h3]
 simp only[sliceRange_one,pick_run,List.size_toArray]<;>rfl
def rSlL(K:W.Frag):V->Option Int->Option Int->Hp->VK->Prop:=λx lo hi H Q=>∃a xs,x= .ref a /\ SqL K H a xs /\ ∀p,H p=none->Q (.ref p) (upd H p (.lst (cutV xs lo hi)))
theorem jz3:SlR X (rSlL X.K):=by
 intro pins s σ H x v vl vu lo hi sl Q I rx hs pl pu h
 obtain⟨a,xs,rfl,hx,q⟩:=h
 cases rx
 obtain⟨its,r,ht,hz⟩:=I.list hx
 have hlen:=r.length
 refine⟨"list",_,slot_list_getitem.lookup,ht.isList.typeIs,?_⟩
 refine wpAny_getItem_list_slice ht.isList hs pl pu .none (by simp) ?_ (by rw[List.size_toArray]<;>omega)
 rw[jji,<-hlen]
 refine⟨.ref s.heap.objs.size,_,I.laid (t':=s.toks) (o:= .lst (cutV xs lo hi)) (λb ob q=>Heap.get?_push_of_some _ q) (Nat.le_refl _) ?_,rfl,q _ (I.hok.fresh (Nat.le_refl _))⟩
 exact⟨Nat.le_trans (ji2 xs lo hi) hz,_,0,(r.drop (HT.sIx xs.length 0 lo)).take (HT.sIx xs.length xs.length hi - HT.sIx xs.length 0 lo),Heap.get?_push_size _ rfl⟩
def jif:V->Bool
 | .non=>true
 | .bl _=>true
 | .int _=>true
 | .str _=>true
 | _=>false
def eqV:V->V->Bool
 | .non,.non=>true
 | .bl a,.bl b=>a==b
 | .bl a,.int b=>(if a then 1 else 0)==b
 | .int a,.bl b=>a==(if b then 1 else 0)
 | .int a,.int b=>a==b
 | .str a,.str b=>a==b
 | _,_=>false
theorem eqAt_V{A:Around}{s:Shared}{y x:V}{u v:Value}(ry:RelV y u)(rx:RelV x v)(fy:jif y=true)(fx:jif x=true):SeqAt.EqAt A s u v (eqV y x):=by
 cases y with
 | non=>
  cases ry
  cases x with
  | non=>cases rx;exact SeqAt.EqAt.same _
  | bl b=>cases rx;exact SeqAt.EqAt.none_bool b
  | int b=>obtain⟨t,rfl⟩:=rx;exact SeqAt.EqAt.none_int b t
  | str b=>obtain⟨t,rfl⟩:=rx;exact SeqAt.EqAt.none_str b t
  | _=>exact absurd (show false=true from fx) Bool.false_ne_true
 | bl a=>
  cases ry
  cases x with
  | non=>cases rx;exact SeqAt.EqAt.bool_none a
  | bl b=>cases rx;exact SeqAt.EqAt.bool_bool a b
  | int b=>obtain⟨t,rfl⟩:=rx;exact SeqAt.EqAt.bool_int a b t
  | str b=>obtain⟨t,rfl⟩:=rx;exact SeqAt.EqAt.bool_str a b t
  | _=>exact absurd (show false=true from fx) Bool.false_ne_true
 | int a=>
  obtain⟨t',rfl⟩:=ry
  cases x with
  | non=>cases rx;exact SeqAt.EqAt.int_none a t'
  | bl b=>cases rx;exact SeqAt.EqAt.int_bool a t' b
  | int b=>obtain⟨t,rfl⟩:=rx;exact SeqAt.EqAt.int_int a t' b t
  | str b=>obtain⟨t,rfl⟩:=rx;exact SeqAt.EqAt.int_str a t' b t
  | _=>exact absurd (show false=true from fx) Bool.false_ne_true
 | str a=>
  obtain⟨t',rfl⟩:=ry
  cases x with
  | non=>cases rx;exact SeqAt.EqAt.str_none a t'
  | bl b=>cases rx;exact SeqAt.EqAt.str_bool a t' b
  | int b=>obtain⟨t,rfl⟩:=rx;exact SeqAt.EqAt.str_int a t' b t
  | str b=>obtain⟨t,rfl⟩:=rx;exact SeqAt.EqAt.str_str a t' b t
  | _=>exact absurd (show false=true from fx) Bool.false_ne_true
 | _=>exact absurd (show false=true from fy) Bool.false_ne_true
def eqU(x:V)(u:Value):Bool:=match u with
 | .none=>eqV .non x
 | .bool b=>eqV (.bl b) x
 | .int i _=>eqV (.int i) x
 | .str z _=>eqV (.str z) x
 | _=>false
theorem jw8{x y:V}{u:Value}(r:RelV y u)(f:jif y=true):eqU x u=eqV y x:=by
 cases y with
 | non=>cases r;rfl
 | bl b=>cases r;rfl
 | int i=>obtain⟨t,rfl⟩:=r;rfl
 | str z=>obtain⟨t,rfl⟩:=r;rfl
 | _=>exact absurd (show false=true from f) Bool.false_ne_true
theorem ji7{x:V}:∀{xs:List V} {us:List Value},Vals xs us->xs.all jif=true->us.any (eqU x)=xs.any λy=>eqV y x
 | _,_,.nil,_=>rfl
 | y::xs,u::us,.cons r t,f=>by
  rw[List.all_cons,Bool.and_eq_true] at f
  rw[List.any_cons,List.any_cons,jw8 r f.1,ji7 t f.2]
theorem jfv{A:Around}{s:Shared}{x:V}{v:Value}(rx:RelV x v)(fx:jif x=true):∀{xs:List V} {us:List Value},Vals xs us->xs.all jif=true->∀u∈us,SeqAt.EqAt A s u v (eqU x u)
 | _,_,.nil,_=>λu hu=>by cases hu
 | y::xs,u::us,.cons r t,f=>λu' hu=>by
  rw[List.all_cons,Bool.and_eq_true] at f
  rcases List.mem_cons.mp hu with rfl | hu
  ·rw[jw8 r f.1];exact eqAt_V r rx f.1 fx
  ·exact jfv rx fx t f.2 u' hu
def inV(x:V)(xs:List V):Bool:=xs.any λy=>eqV y x
def rIn(K:W.Frag)(neg:Bool):R2:=λx y H Q=>∃p xs,y= .ref p /\ (SqL K H p xs \/ SqT K H p xs) /\ jif x=true /\ xs.all jif=true /\ Q (.bl (if neg then !inV x xs else inV x xs)) H
theorem jpy:OpR X (compareOp .In) (rIn X.K false):=by
 intro pins s σ H x y v u Q I rx ry h
 obtain⟨p,xs,rfl,hq,fx,fs,q⟩:=h
 cases ry
 rcases hq with hq | hq
 ·obtain⟨its,r,pl,hz⟩:=I.list hq
  refine SeqAt.in_listAt (eqU x) pl.isList (λw hw=>jfv rx fx r fs w (by simpa using hw)) ⟨.bl _,H,I,rfl,?_⟩
  rw[show its.toArray.any (eqU x)=its.any (eqU x) by simp,ji7 r fs]
  exact q
 ·obtain⟨its,r,pl,hz⟩:=I.tuple hq
  refine SeqAt.in_tupleAt (eqU x) pl (λw hw=>jfv rx fx r fs w (by simpa using hw)) ⟨.bl _,H,I,rfl,?_⟩
  rw[show its.toArray.any (eqU x)=its.any (eqU x) by simp,ji7 r fs]
  exact q
theorem jk0:OpR X (compareOp .NotIn) (rIn X.K true):=by
 intro pins s σ H x y v u Q I rx ry h
 obtain⟨p,xs,rfl,hq,fx,fs,q⟩:=h
 cases ry
 rcases hq with hq | hq
 ·obtain⟨its,r,pl,hz⟩:=I.list hq
  refine SeqAt.notIn_listAt (eqU x) pl.isList (λw hw=>jfv rx fx r fs w (by simpa using hw)) ⟨.bl _,H,I,rfl,?_⟩
  rw[show its.toArray.any (eqU x)=its.any (eqU x) by simp,ji7 r fs]
  exact q
 ·obtain⟨its,r,pl,hz⟩:=I.tuple hq
  refine SeqAt.notIn_tupleAt (eqU x) pl (λw hw=>jfv rx fx r fs w (by simpa using hw)) ⟨.bl _,H,I,rfl,?_⟩
  rw[show its.toArray.any (eqU x)=its.any (eqU x) by simp,ji7 r fs]
  exact q
theorem jl3:OpR X (compareOp .NotIn) (λx y H Q=>∃i j,x= .str i /\ y= .str j /\ Q (.bl (!(!(Builtin.Str.occurrences j i 0 j.length 1).isEmpty))) H):=by
 intro pins s σ H x y v u Q I rx ry h
 obtain⟨i,j,rfl,rfl,q⟩:=h
 obtain⟨t,rfl⟩:=rx
 obtain⟨t',rfl⟩:=ry
 exact notIn_str ⟨.bl _,H,I,rfl,q⟩
theorem jl1:jcj X (.builtin "len") (λxs H Q=>∃p ys,xs=[.ref p] /\ (SqL X.K H p ys \/ SqT X.K H p ys) /\ Q (.int ys.length) H):=by
 intro pins s σ H xs us Q I r h
 obtain⟨p,ys,rfl,hq,q⟩:=h
 obtain⟨u,rfl,rx⟩:=jh8 r
 cases rx
 have hn:=jhw
 rcases hq with hq | hq
 ·obtain⟨its,r',pl,hz⟩:=I.list hq
  have hlen:=r'.length
  exact Calls.call_len_list pl.isList (by simp only[List.size_toArray]<;>omega) ⟨.int ys.length,H,I.tok _,⟨s.toks+1,by rw[List.size_toArray,hlen]⟩,q⟩
 ·obtain⟨its,r',pl,hz⟩:=I.tuple hq
  have hlen:=r'.length
  exact len_tuple pl (by simp only[List.size_toArray]<;>omega) ⟨.int ys.length,H,I.tok _,⟨s.toks+1,by rw[List.size_toArray,hlen]⟩,q⟩
theorem jkv:jcj X (.builtin "len") (λxs H Q=>∃z,xs=[.str z] /\ z.length<=sizeLine /\ Q (.int z.length) H):=by
 intro pins s σ H xs us Q I r h
 obtain⟨z,rfl,hz,q⟩:=h
 obtain⟨u,rfl,t,rfl⟩:=jh8 r
 have hn:=jhw
 exact len_str (by omega) ⟨.int z.length,H,I.tok _,⟨_,rfl⟩,q⟩
theorem jcj.or{f:Value}{r r':List V->Hp->VK->Prop}(h:jcj X f r)(h':jcj X f r'):jcj X f (λxs H Q=>r xs H Q \/ r' xs H Q):=by
 intro pins s σ H xs us Q I rs q
 rcases q with q | q
 ·exact h pins s σ H xs us Q I rs q
 ·exact h' pins s σ H xs us Q I rs q
theorem jkf:jcj X (.type "list") (λxs H Q=>∃p ys,xs=[.ref p] /\ (SqL X.K H p ys \/ SqT X.K H p ys) /\ ∀l,H l=none->Q (.ref l) (upd H l (.lst ys))):=by
 intro pins s σ H xs us Q I r h
 obtain⟨p,ys,rfl,hq,q⟩:=h
 obtain⟨u,rfl,rx⟩:=jh8 r
 cases rx
 have fin:∀(its:List Value),Vals ys its->ys.length<=sizeLine->∀(h':Heap) (c':Nat),(∀b o',s.heap.get? b=some o'->h'.get? b=some o')->
   h'.get? s.heap.objs.size=some {cls:= .type "list",dict:=none,data:= .seq its.toArray c',slots:=#[]}->EP X pins σ Q (.ref s.heap.objs.size) {s with heap:=h'}:=λits r' hz h' c' kp e=>
  ⟨.ref s.heap.objs.size,_,I.laid (t':=s.toks) kp (Nat.le_refl _) (show jcm X.prog X.w _ h' _ (.lst ys) from⟨hz,its,c',r',e⟩),rfl,q _ (I.hok.fresh (Nat.le_refl _))⟩
 rcases hq with hq | hq
 ·obtain⟨its,r',pl,hz⟩:=I.list hq
  have hlen:=r'.length
  obtain⟨o,ho,hc,n,hd⟩:=pl.isList
  exact call_list_seq p (.inl rfl) ho hc hd (λh' c' kp e=>fin its r' hz h' c' kp e) (by simp only[List.size_toArray]<;>omega)
 ·obtain⟨its,r',pl,hz⟩:=I.tuple hq
  have hlen:=r'.length
  obtain⟨o,ho,hc,n,hd⟩:=pl
  exact call_list_seq p (.inr rfl) ho hc hd (λh' c' kp e=>fin its r' hz h' c' kp e) (by simp only[List.size_toArray]<;>omega)
theorem jjb:jcj X (.type "tuple") (λxs H Q=>∃p ys,xs=[.ref p] /\ ((SqL X.K H p ys /\ ∀l,H l=none->Q (.ref l) (upd H l (.tup ys))) \/ (SqT X.K H p ys /\ Q (.ref p) H))):=by
 intro pins s σ H xs us Q I r h
 obtain⟨p,ys,rfl,h⟩:=h
 obtain⟨u,rfl,rx⟩:=jh8 r
 cases rx
 rcases h with⟨hq,q⟩ | ⟨hq,q⟩
 ·obtain⟨its,r',pl,hz⟩:=I.list hq
  have hlen:=r'.length
  refine call_tuple_list pl.isList (λh' kp=> ?_) (by simp only[List.size_toArray]<;>omega)
  have I1:Inv X pins σ H {s with heap:=h'}:=I.kept (t':=s.toks) kp
  have I2:Inv X pins σ (upd H h'.objs.size (.tup ys)) {s with heap:=h'.push {cls:= .type "tuple",data:= .seq its.toArray}}:=
   I1.laid (t':=s.toks) (λb o e=>Heap.get?_push_of_some _ e) (Nat.le_refl _) (show jcm X.prog X.w _ _ _ (.tup ys) from⟨hz,its,r',IsTup.new _ _⟩)
  exact⟨.ref h'.objs.size,_,I2,rfl,q _ (I1.hok.fresh (Nat.le_refl _))⟩
 ·obtain⟨its,r',pl,hz⟩:=I.tuple hq
  exact call_tuple_same pl ⟨.ref p,H,I,rfl,q⟩
def tyV(K:W.Frag)(T:String)(x:V)(H:Hp):Prop:=match x with
 | .str _=>T="str"
 | .int _=>T="int"
 | .ref p=>(T="list" /\ ∃xs,SqL K H p xs) \/ (T="tuple" /\ ∃o,K.lookup p=some o /\ o.cls= .type "tuple" /\ o.dict=none) \/
   (T="dict" /\ ((∃kvs,H p=some (.dK kvs)) \/ ∃kvs,H p=some (.dT kvs))) \/ (T="set" /\ ∃S n,H p=some (.set S n))
 | _=>False
theorem jqr{pins:List (Addr×Obj)}{σ:St}{H:Hp}{s:Shared}{T:String}{x:V}{v:Value}(I:Inv X pins σ H s)(r:RelV x v)(ty:tyV X.K T x H):
  s.TypeIs v T /\ ∀a,v= .ref a->∃ob,s.heap.get? a=some ob /\ ob.dict=none:=by
 cases x with
 | str z=>
  obtain⟨t,rfl⟩:=r
  cases (show T="str" from ty)
  exact⟨typeIs_str s z t,λ_ e=>nomatch e⟩
 | int i=>
  obtain⟨t,rfl⟩:=r
  cases (show T="int" from ty)
  exact⟨typeIs_int s i t,λ_ e=>nomatch e⟩
 | ref p=>
  cases r
  rcases ty with⟨rfl,xs,hq⟩ | ⟨rfl,o,hk,hc,hd⟩ | ⟨rfl,hk⟩ | ⟨rfl,S,n,hk⟩
  ·obtain⟨its,_,pl,_⟩:=I.list hq
   refine⟨pl.isList.typeIs,λa e=> ?_⟩
   cases e
   obtain⟨o,n,e,c,hd,_⟩:=pl
   exact⟨o,e,hd⟩
  ·refine⟨⟨o,I.kIn p o hk,hc⟩,λa e=> ?_⟩
   cases e
   exact⟨o,I.kIn _ o hk,hd⟩
  ·have z:∃o,s.heap.get? p=some o /\ o.ExactDict:=by
    rcases hk with⟨kvs,hk⟩ | ⟨kvs,hk⟩
    ·obtain⟨_,_,_,_,o,_,_,e,ex,_⟩:=I.hok p _ hk
     exact⟨o,e,ex⟩
    ·obtain⟨_,_,_,_,o,_,_,e,ex,_⟩:=I.hok p _ hk
     exact⟨o,e,ex⟩
   obtain⟨o,e,ex⟩:=z
   refine⟨⟨o,e,ex.1⟩,λa e2=> ?_⟩
   cases e2
   exact⟨o,e,ex.2.1⟩
  ·obtain⟨o,_,_,_,e,ex,_⟩:=I.hok p _ hk
   refine⟨⟨o,e,ex.1⟩,λa e2=> ?_⟩
   cases e2
   exact⟨o,e,ex.2.1⟩
 | _=>exact False.elim ty
def tBM0(K:W.Frag)(T:String)(r:V->List V->Hp->VK->Prop)(to:TE):TE:=λσ H Q=>to σ H λx H1=>tyV K T x H1 /\ r x [] H1 Q
def tBM(K:W.Frag)(T:String)(r:V->List V->Hp->VK->Prop)(to:TE)(t:TA):TE:=λσ H Q=>to σ H λx H1=>tyV K T x H1 /\ t σ H1 λxs H2=>r x xs H2 Q
variable {o e : Expr} {es : List Expr} {to : TE} {t : TA} {name : Str} {apos cpos : Pos} {T id : String} {r : V -> List V -> Hp -> VK -> Prop}
theorem pe_bm0(pa:PlainAttrs T)(slot:Slot T name id)(hty:typeOf (.builtin id)=pure (.type "method_descriptor"))(hm:MtR X id r)(ho:PE X o to)
  (hbase:attributeBase o name X.env (eval o X.env)=eval o X.env:=by rfl) (hline:(apos.endLine==cpos.line)=true:=by rfl):PE X (.Call (.Attribute o name apos) [] [] cpos) (tBM0 X.K T r to):=by
 intro pins s σ H Q I h
 refine wpAny_Call_method0_late hbase hline (thn (ho pins s σ H _ I h) λv s1 ⟨x,H1,I1,r1,ty,q1⟩=> ?_)
 obtain⟨h1,h2⟩:=jqr I1 r1 ty
 exact⟨T,id,pa,slot,hty,h1,h2,Calls.callWith_builtin rfl (PySem.evalArgs_none (hm pins s1 σ H1 x [] v [] Q I1 r1 .nil q1))⟩
theorem jke(pa:PlainAttrs T)(slot:Slot T name id)(hty:typeOf (.builtin id)=pure (.type "method_descriptor"))(hm:MtR X id r)(ho:PE X o to)(ha:PA X (e::es) t)
  (hbase:attributeBase o name X.env (eval o X.env)=eval o X.env:=by rfl)
  (hfew:((backTo cpos (starEach (e::es) X.env)).all (λx=> !x.1)&&(backToKw cpos (keywordEach [] X.env)).all (λx=>x.1.isSome)
   &&decide ((e::es).length+([]:List Keyword).length+(if([]:List Keyword).isEmpty then 0 else 1)<30))=true:=by rfl)
  (hline:(apos.endLine==cpos.line)=true:=by rfl) (hs:starEach (e::es) X.env=(false,eval e X.env)::starEach es X.env:=by rfl) (hplain:(backTo cpos (starEach es X.env)).any (·.1)=false:=by rfl):
  PE X (.Call (.Attribute o name apos) (e::es) [] cpos) (tBM X.K T r to t):=by
 intro pins s σ H Q I h
 refine wpAny_Call_method_late hbase hfew hline rfl (thn (ho pins s σ H _ I h) λv s1 ⟨x,H1,I1,r1,ty,q1⟩=> ?_)
 obtain⟨h1,h2⟩:=jqr I1 r1 ty
 refine⟨T,id,pa,slot,hty,h1,h2,?_⟩
 have hA:=ha cpos pins s1 σ H1 _ I1 q1
 rw[hs] at hA ⊢
 refine Calls.callWith_builtin (by show(false||(backTo cpos (starEach es X.env)).any (·.1))=false;rw[hplain]<;>rfl) (Calls.evalArgs_plain ?_)
 exact thn hA λus s2 ⟨vs,H2,I2,r2,q2⟩=>hm pins s2 σ H2 x vs v us Q I2 r1 r2 q2
/- xs.append(e),list.index on a module's tuple .. are MtR facts of 06m -/
end
def MtM(X:Cx)(id:String)(r:V->List V->Hp->VK->Prop):Prop:=
 ∀(pins:List (Addr×Obj)) (s:Shared) (σ:St) (H:Hp) (x:V) (xs:List V) (v:Value) (us:List Value) (Q:VK),Inv X pins σ H s->RelV x v->Vals xs us->r x xs H Q->
  wpAny (model X.prog X.w) X.A (call (.builtin id) (v::us)) (EP X pins σ Q) X.xe s
theorem Vals.one:∀{x:V} {us:List Value},Vals [x] us->∃u,us=[u] /\ RelV x u
 | _,_,.cons r .nil=>⟨_,rfl,r⟩
theorem Vals.rep{xs:List V}{us:List Value}(h:Vals xs us):∀k:Nat,Vals (List.replicate k xs).flatten (List.replicate k us).flatten
 | 0=> .nil
 | k+1=>by
  rw[List.replicate_succ,List.replicate_succ,List.flatten_cons,List.flatten_cons]
  exact Vals.append h (Vals.rep h k)
theorem jkl(its:List Value):∀(k:Nat) (acc:List Value),
  List.foldl (λx1 x2=>x1++x2) acc.toArray (List.replicate k its.toArray)=(acc++(List.replicate k its).flatten).toArray
 | 0,acc=>by simp
 | k+1,acc=>by
  have e:acc.toArray++its.toArray=(acc++its).toArray:=by simp
  have e2:(acc++its)++(List.replicate k its).flatten=acc++(List.replicate (k+1) its).flatten:=by
   rw[List.replicate_succ,List.flatten_cons,List.append_assoc]
  rw[<-e2,<-jkl its k (acc++its),<-e,List.replicate_succ,List.foldl_cons]
section
variable {X : Cx} {pins : List (Addr × Obj)} {σ : St} {H : Hp} {s : Shared} {l b : Addr} {xs ys zs : List V}
theorem Inv.lset{its its':List Value}{n:Nat}{f:Array Value->Array Value}{t':Nat}(I:Inv X pins σ H s)(hH:H l=some (.lst xs))
  (e:s.heap.get? l=some {cls:= .type "list",data:= .seq its.toArray n}) (hf:f its.toArray=its'.toArray) (hv:Vals ys its') (hz:ys.length<=sizeLine):
  Inv X pins σ (upd H l (.lst ys)) {s with heap:=s.heap.update l (Obj.mapSeq f),toks:=t'}:=by
 have q:=PySem.IsL.update e f
 rw[hf] at q
 refine I.write (x:=l) (e:=l) (by rw[hH];exact trivial) (.inl rfl) (λb' u hb hu=>(Heap.get?_update_other s.heap (Obj.mapSeq f) (Ne.symm hb)).trans hu) ⟨_,q⟩ ?_
 exact⟨hz,its',_,hv,q⟩
theorem Inv.lnew{its:List Value}{t':Nat}(I:Inv X pins σ H s)(hv:Vals ys its)(hz:ys.length<=sizeLine):
  Inv X pins σ (upd H s.heap.objs.size (.lst ys)) {s with heap:=s.heap.push {cls:= .type "list",data:= .seq its.toArray},toks:=t'}:=
 I.laid (λ_ _ q=>Heap.get?_push_of_some _ q) (Nat.le_refl _) ⟨hz,its,0,hv,Heap.get?_push_size _ rfl⟩
theorem Inv.fresh(I:Inv X pins σ H s):H s.heap.objs.size=none:=I.hok.fresh (Nat.le_refl _)
theorem Inv.lstM(I:Inv X pins σ H s)(hH:H l=some (.lst xs)):xs.length<=sizeLine /\ ∃(its:List Value) (n:Nat),Vals xs its /\ xs.length=its.length /\ s.heap.get? l=some {cls:= .type "list",data:= .seq its.toArray n}:=by
 obtain⟨z,its,n,r,e⟩:=I.hok l _ hH
 exact⟨z,its,n,r,r.length,e⟩
theorem jv9{n:Nat}(h:n<=sizeLine):Builtin.List.listTooLong n=false:=by
 unfold Builtin.List.listTooLong
 exact decide_eq_false (by omega)
end
section
variable {X : Cx}
def jqb:V->List V->Hp->VK->Prop:=λx vs H Q=>∃l xs y,x= .ref l /\ vs=[y] /\ H l=some (.lst xs) /\ xs.length<sizeLine /\ Q .non (upd H l (.lst (xs++[y])))
theorem jg7:MtM X "list.append" jqb:=by
 intro pins s σ H x vs v us Q I rx rv h
 obtain⟨l,xs,y,rfl,rfl,hH,hz,q⟩:=h
 cases rx
 obtain⟨u,rfl,ru⟩:=rv.one
 obtain⟨z,its,n,r,hl,e⟩:=I.lstM hH
 refine call_meets F.slot_list_append ⟨_,e,rfl⟩ F.entry_list_append (F.args_list_append_2 _ _) (PySem.list_append l its.toArray n u (by rw[List.size_toArray];omega)) ⟨e,?_⟩
 refine⟨.non,_,I.lset (its':=its++[u]) hH e (by simp) (r.append (.cons ru .nil)) ?_,rfl,q⟩
 rw[List.length_append,List.length_singleton]
 omega
def rCat:R2:=λx y H Q=>∃l b xs zs,x= .ref l /\ y= .ref b /\ H l=some (.lst xs) /\ H b=some (.lst zs) /\ xs.length+zs.length<=sizeLine /\ ∀p,H p=none->Q (.ref p) (upd H p (.lst (xs++zs)))
theorem op_cat:OpR X (binaryOp .Add) rCat:=by
 intro pins s σ H x y v u Q I rx ry h
 obtain⟨l,b,xs,zs,rfl,rfl,hH,hB,hz,q⟩:=h
 cases rx
 cases ry
 obtain⟨z,its,n,r,hl,e⟩:=I.lstM hH
 obtain⟨z2,its2,n2,r2,hl2,e2⟩:=I.lstM hB
 refine PySem.P.add_list e e2 ?_ (by rw[List.size_toArray,List.size_toArray];omega)
 have ea:its.toArray++its2.toArray=(its++its2).toArray:=by simp
 rw[ea]
 exact⟨.ref _,_,I.lnew (t':=s.toks) (r.append r2) (by rw[List.length_append];omega),rfl,q _ I.fresh⟩
def rRep:R2:=λx y H Q=>∃l k xs,x= .ref l /\ y= .int k /\ H l=some (.lst xs) /\ -(2^63)<=k /\ k<2^63 /\ xs.length*k.toNat<=sizeLine /\
 ∀p,H p=none->Q (.ref p) (upd H p (.lst (List.replicate k.toNat xs).flatten))
theorem jyr{α:Type}(xs:List α)(k:Nat):(List.replicate k xs).flatten.length=k*xs.length:=by
 induction k with
 | zero=>simp
 | succ k ih=>rw[List.replicate_succ,List.flatten_cons,List.length_append,ih,Nat.succ_mul,Nat.add_comm]
theorem op_rep:OpR X (binaryOp .Mult) rRep:=by
 intro pins s σ H x y v u Q I rx ry h
 obtain⟨l,k,xs,rfl,rfl,hH,h1,h2,hz,q⟩:=h
 cases rx
 obtain⟨t,rfl⟩:=ry
 obtain⟨z,its,n,r,hl,e⟩:=I.lstM hH
 have hlen:its.toArray.size*k.toNat<=sizeLine:=by rw[List.size_toArray,<-hl];exact hz
 have hcap:¬its.toArray.size*k.toNat>(2^63 - 1) / 8:=by
  have:(sizeLine:Nat)<=(2^63 - 1) / 8:=by decide
  omega
 have hfit:¬(!Builtin.List.listFitsIndex k)=true:=by
  rw[fitsIndex_both h1 h2]
  exact Bool.false_ne_true
 have hlong:¬Builtin.List.listTooLong (its.toArray.size*k.toNat)=true:=by
  rw[jv9 hlen]
  exact Bool.false_ne_true
 have hnew:List.foldl (λx1 x2=>x1++x2) #[] (List.replicate (if its.toArray.isEmpty=true then 0 else k.toNat) its.toArray)=(List.replicate k.toNat its).flatten.toArray:=by
  have f0:∀m:Nat,List.foldl (λx1 x2=>x1++x2) #[] (List.replicate m its.toArray)=(List.replicate m its).flatten.toArray:=λm=>by
   have:=jkl its m []
   rw[List.nil_append] at this
   exact this
  rw[f0]
  cases its with
  | nil=>simp
  | cons a r'=>rw[if_neg (by simp)]
 refine wpAny_binaryOp_repeat_ref (T:="list") (U:="int") (by decide) ⟨_,e,rfl⟩ (λs'=>typeIs_int s' k t) noFill_list_mul F.fills_int_mul F.slot_int_rmul repeat_list F.slot_int_index.lookup
  (call_meets F.slot_int_rmul (typeIs_int s k t) F.entry_int_rmul (F.args_int_rmul_2 _ _) (int___rmul___int_list k t l its.toArray n)
   ⟨e,rfl,⟨_,e,rfl⟩,call_meets F.slot_list_mul ⟨_,e,rfl⟩ F.entry_list_mul (F.args_list_mul_2 _ _) (AutoListH.list___mul___list_int_3 l its.toArray n k t hfit hcap hlong) ⟨e,?_⟩⟩)
 rw[hnew]
 exact⟨.ref _,_,I.lnew (t':=s.toks) (r.rep k.toNat) (by rw[jyr,Nat.mul_comm];exact hz),rfl,q _ I.fresh⟩
end
section
variable {κ : Type} [DecidableEq κ]
def valV(kvs:List (κ×V))(k:κ):Option V:=(kvs.find? λkv=>decide (kv.1=k)).map (·.2)
theorem jod{p:κ×V}{r:List (κ×V)}{k:κ}(e:p.1=k):valV (p::r) k=some p.2:=by simp[valV,List.find?_cons,e]
theorem jno{p:κ×V}{r:List (κ×V)}{k:κ}(e:¬p.1=k):valV (p::r) k=valV r k:=by simp[valV,List.find?_cons,e]
theorem RelO.isSome_eq{o:Option V}{u:Option Value}(r:RelO o u):o.isSome=u.isSome:=by
 cases o with
 | none=>cases u with
  | none=>rfl
  | some _=>exact(show False from r).elim
 | some _=>cases u with
  | none=>exact(show False from r).elim
  | some _=>rfl
theorem KV.val{kvs:List (κ×V)}{vs:List (κ×Value)}(r:KV kvs vs)(k:κ):RelO (valV kvs k) (valueAt vs k):=by
 unfold KV at r
 induction r with
 | nil=>exact True.intro
 | @cons p q ps qs h t ih=>
  obtain⟨h1,h2⟩:=h
  by_cases e:p.1=k
  ·have e':q.1=k:=h1.symm.trans e
   have b:valueAt (q::qs) k=some q.2:=by simp[valueAt,List.find?_cons,e']
   rw[jod e,b];exact h2
  ·have e':¬q.1=k:=λz=>e (h1.trans z)
   have b:valueAt (q::qs) k=valueAt qs k:=by simp[valueAt,List.find?_cons,e']
   rw[jno e,b];exact ih
theorem KV.length{kvs:List (κ×V)}{vs:List (κ×Value)}(r:KV kvs vs):kvs.length=vs.length:=Paired.length r
end
theorem jih{P:Program}{w:World}{k:Key}{u:Value}(r:RelV (kV k) u):(jc7 P w).is k u=true:=by
 cases k with
 | inl i=>obtain⟨t,e⟩:=(show ∃t,u=Value.int i t from r);subst e;exact jlr P w i t
 | inr x=>obtain⟨t,e⟩:=(show ∃t,u=Value.str x t from r);subst e;exact jfn P w x t
theorem jla{P:Program}{w:World}:∀{ks:List Key} {us:List Value},Vals (ks.map kV) us->ItemsAre (jc7 P w) ks us
 | [],_,r=>by rw[List.map_nil] at r;cases r;exact .nil
 | k::ks,_,r=>by
  rw[List.map_cons] at r
  cases r with
  | cons h t=>exact .cons (jih h) (jla t)
abbrev KT(H:Hp):List (List Key×V)->List (List Key×Addr×Value)->Prop:=Paired λp q=>p.1=q.1 /\ H q.2.1=some (.tup (p.1.map kV)) /\ RelV p.2 q.2.2
theorem KT.val{H:Hp}{kvs:List (List Key×V)}{xs:List (List Key×Addr×Value)}(r:KT H kvs xs)(k:List Key):RelO (valV kvs k) ((atKey xs k).map (·.2)):=by
 induction r with
 | nil=>exact True.intro
 | @cons p q ps qs h t ih=>
  obtain⟨h1,_,h2⟩:=h
  by_cases e:p.1=k
  ·have e':q.1=k:=h1.symm.trans e
   have b:atKey (q::qs) k=some q.2:=by simp[atKey,List.find?_cons,e']
   rw[jod e,b];exact h2
  ·have e':¬q.1=k:=λz=>e (h1.trans z)
   have b:atKey (q::qs) k=atKey qs k:=by simp[atKey,List.find?_cons,e']
   rw[jno e,b];exact ih
section
variable {P : Program} {w : World} {H : Hp} {h : Heap} {a : Addr}
theorem rd_of{u:HO}(ok:HOk P w H h)(e:Rd H a u):jcm P w H h a u:=e.ok ok
theorem joy{kvs:List (Key×V)}(ok:HOk P w H h)(e:Rd H a (.dK kvs)):kvs.length<=sizeLine /\ (a==sysModules)=false /\ ∃vs,KV kvs vs /\ h.DictOf (jc7 P w) a vs:=
 show jcm P w H h a (.dK kvs) from rd_of ok e
theorem dk_of{kvs:List (Key×V)}(ok:HOk P w H h)(e:H a=some (.dK kvs)):kvs.length<=sizeLine /\ (a==sysModules)=false /\ ∃vs,KV kvs vs /\ h.DictOf (jc7 P w) a vs:=joy ok (.inl e)
theorem jnc{ks:List Key}(ok:HOk P w H h)(e:H a=some (.tup (ks.map kV))):(tupleKind (jc7 P w)).is h ks a:=by
 obtain⟨_,its,r,o,h1,h2,n,h3⟩:=(show jcm P w H h a (.tup (ks.map kV)) from ok a _ e)
 exact⟨o,its.toArray,n,h1,h2,h3,by simpa using jla r⟩
theorem juu{kvs:List (List Key×V)}(ok:HOk P w H h)(e:Rd H a (.dT kvs)):kvs.length<=sizeLine /\ (a==sysModules)=false /\
  ∃xs,KT H kvs xs /\ h.DictOfH (tupleKind (jc7 P w)) a xs:=by
 obtain⟨z,y,xs,r,o,es,ep,h1,h2,h3,h4,h5⟩:=(show jcm P w H h a (.dT kvs) from rd_of ok e)
 refine⟨z,y,xs,r,o,es,ep,h1,h2,h3,h4,λx hx=> ?_,h5⟩
 have all:∀{l:List (List Key×V)} {m:List (List Key×Addr×Value)},KT H l m->∀x∈m,(tupleKind (jc7 P w)).is h x.1 x.2.1:=by
  intro l m q
  induction q with
  | nil=>intro x hx;exact nomatch hx
  | @cons p q ps qs hq t ih=>
   intro x hx
   rcases List.mem_cons.mp hx with e | hx
   ·subst e
    exact jnc ok (by rw[<-hq.1];exact hq.2.1)
   ·exact ih x hx
 exact all r x hx
end
def DGet(H:Hp)(a:Addr)(y:V)(r:Option V):Prop:=
 (∃kvs k,Rd H a (.dK kvs) /\ y=kV k /\ r=valV kvs k) \/ ∃kvs k b,Rd H a (.dT kvs) /\ y= .ref b /\ H b=some (.tup (k.map kV)) /\ r=valV kvs k
theorem DGet.k{H:Hp}{a:Addr}{kvs:List (Key×V)}{k:Key}(e:H a=some (.dK kvs)):DGet H a (kV k) (valV kvs k):= .inl ⟨kvs,k,.inl e,rfl,rfl⟩
section
variable {X : Cx} {pins : List (Addr × Obj)} {σ : St} {H : Hp} {s : Shared} {a : Addr} {y v : V} {u r : Value} {o : Option V} {A : Around} {E : Value -> Shared -> Prop}
theorem Inv.big(I:Inv X pins σ H s):sysModules<s.heap.objs.size:=by
 have h:mainGlobals<s.heap.objs.size:=(I.mod.glob.keeps I.bk).lt
 exact Nat.lt_trans (by decide) h
theorem jqw{Q:Value->Shared->Prop}(hu:A.units+1<cLine)(I:Inv X pins σ H s)(g:DGet H a y (some v))(ry:RelV y u)(h:∀w' s',Inv X pins σ H s'->RelV v w'->Q w' s'):
  wpAny (model X.prog X.w) A (getItem (.ref a) u) Q E s:=by
 rcases g with⟨kvs,k,e,ey,l⟩ | ⟨kvs,k,b,e,ey,eb,l⟩
 ·subst ey
  obtain⟨z,hd,vs,rel,dd⟩:=joy I.hok e
  obtain⟨w',hw,rw'⟩:=RelO.some_of (v:=v) (o:=valueAt vs k) (by rw[l];exact rel.val k)
  exact wpAny_getItem_of (jih ry) dd.mapOf hw (h w' _ (I.tok _) rw')
 ·subst ey
  cases (show u=Value.ref b from ry)
  obtain⟨z,hd,xs,rel,dd⟩:=juu I.hok e
  obtain⟨w',hw,rw'⟩:=RelO.some_of (v:=v) (o:=(atKey xs k).map (·.2)) (by rw[l];exact rel.val k)
  obtain⟨p,hp,hp2⟩:=Option.map_eq_some_iff.mp hw
  refine wpAny_getItem_heap (tupleKind_room_in1 hu) (jnc I.hok eb) dd hp ?_
  rw[hp2]
  exact h w' _ (I.tok _) rw'
theorem d_in{Q:Value->Shared->Prop}(hu:A.units+1<cLine)(I:Inv X pins σ H s)(g:DGet H a y o)(ry:RelV y u)(h:∀s',Inv X pins σ H s'->Q (.bool o.isSome) s'):
  wpAny (model X.prog X.w) A (compareOp .In u (.ref a)) Q E s:=by
 rcases g with⟨kvs,k,e,ey,l⟩ | ⟨kvs,k,b,e,ey,eb,l⟩
 ·subst ey
  obtain⟨z,hd,vs,rel,dd⟩:=joy I.hok e
  refine wpAny_in_of (jih ry) hd dd.mapOf ?_
  rw[<-(rel.val k).isSome_eq,<-l]
  exact h _ (I.tok _)
 ·subst ey
  cases (show u=Value.ref b from ry)
  obtain⟨z,hd,xs,rel,dd⟩:=juu I.hok e
  refine wpAny_in_heap (tupleKind_room_in1 hu) (jnc I.hok eb) hd dd ?_
  have q:=(rel.val k).isSome_eq
  rw[Option.isSome_map] at q
  rw[<-q,<-l]
  exact h _ (I.tok _)
theorem jyz{Q:Value->Shared->Prop}(hu:A.units+1<cLine)(I:Inv X pins σ H s)(g:DGet H a y o)(ry:RelV y u)(h:∀s',Inv X pins σ H s'->Q (.bool (!o.isSome)) s'):
  wpAny (model X.prog X.w) A (compareOp .NotIn u (.ref a)) Q E s:=by
 rcases g with⟨kvs,k,e,ey,l⟩ | ⟨kvs,k,b,e,ey,eb,l⟩
 ·subst ey
  obtain⟨z,hd,vs,rel,dd⟩:=joy I.hok e
  refine wpAny_notIn_of (jih ry) hd dd.mapOf ?_
  rw[<-(rel.val k).isSome_eq,<-l]
  exact h _ (I.tok _)
 ·subst ey
  cases (show u=Value.ref b from ry)
  obtain⟨z,hd,xs,rel,dd⟩:=juu I.hok e
  refine wpAny_notIn_heap (tupleKind_room_in1 hu) (jnc I.hok eb) hd dd ?_
  have q:=(rel.val k).isSome_eq
  rw[Option.isSome_map] at q
  rw[<-q,<-l]
  exact h _ (I.tok _)
end
section
variable {X : Cx} {pins : List (Addr × Obj)} {σ : St} {H : Hp} {s : Shared} {a : Addr} {kvs : List (Key × V)} {k : Key} {u : Value} {A : Around} {E : Value -> Shared -> Prop}
theorem d_len{Q:Value->Shared->Prop}(I:Inv X pins σ H s)(e:Rd H a (.dK kvs))(h:∀t s',Inv X pins σ H s'->Q (.int kvs.length t) s'):wpAny (model X.prog X.w) A (call (.builtin "len") [.ref a]) Q E s:=by
 obtain⟨z,hd,vs,rel,dd⟩:=joy I.hok e
 refine call_len_dict hd dd (by rw[<-rel.length];rw[sizeLine_eq] at z;omega) ?_
 rw[<-rel.length]
 exact h _ _ (I.tok _)
end
theorem jmn{X:Cx}{pins:List (Addr×Obj)}{σ:St}{H:Hp}{s:Shared}{a:Addr}{y:V}{o:Option V}(I:Inv X pins σ H s)(g:DGet H a y o):s.TypeIs (.ref a) "dict":=by
 rcases g with⟨kvs,k,e,_,_⟩ | ⟨kvs,k,b,e,_,_,_⟩
 ·obtain⟨_,_,vs,_,dd⟩:=joy I.hok e
  exact dd.typeIs
 ·obtain⟨_,_,xs,_,dd⟩:=juu I.hok e
  exact dd.typeIs
theorem jvy{P:Program}{w:World}{H:Hp}(h:Heap)(hb:sysModules<h.objs.size):jcm P w H (h.push {cls:= .type "dict",data:= .dict #[]}) h.objs.size (.dK []):=
 ⟨Nat.zero_le _,beq_eq_false_iff_ne.mpr (Ne.symm (Nat.ne_of_lt hb)),[],.nil,Heap.DictOf.new h⟩
def jx3:TE:=λ_ H Q=>∀p,H p=none->Q (.ref p) (upd H p (.dK []))
section
variable {X : Cx} {pos : Pos}
theorem jtu:PE X (.Dict [] [] pos) jx3:=λpins s σ H Q I h=>
 wpAny_Dict_empty ⟨.ref s.heap.objs.size,_,I.laid (a:=s.heap.objs.size) (o:= .dK []) (t':=s.toks) (λ_ _ q=>Heap.get?_push_of_some _ q) (Nat.le_refl _) (jvy s.heap I.big),rfl,h _ (I.hok.fresh (Nat.le_refl _))⟩
end
end L2
namespace Att
open PySem PySem.W PySem.Calls PyProof.Rows
theorem ji4{P:Params}{h:Heap}:∀(ns:List Int) (vs:List Value),WellAll P h vs (ns.map WData.int)->IntsAre vs ns:=by
 intro ns
 induction ns with
 | nil=>
  intro vs w
  rw[List.map_nil] at w
  cases w
  exact .nil
 | cons n ns ih=>
  intro vs w
  rw[List.map_cons] at w
  cases w with
  | cons a b=>
   cases a
   exact .cons _ _ (ih _ b)
theorem jra{l:OpenLaw}{n:Nat}(hn:l.most=some n){P:Params}{h:Heap}{args:List WData}{vals:List Value}
    (hpre:l.row.toRowW.claim.pre args=true) (hwl:WellAll P h vals args):
    ∃a vs ns,vals=[Value.ref a] /\ args=[WData.list (ns.map WData.int)] /\ h.get? a=some {cls:= .type "list",data:= .seq vs.toArray} /\ IntsAre vs ns /\ ns.length<=n:=by
  have hsh:WShape.hasAll [] args [.list .int]=true:=(pre_splitW hpre).1
  have hc:l.pre.holds [] {args:=args}=true:=(pre_splitW hpre).2
  obtain⟨d,r,rfl,h1,h2⟩:=hasAllW_cons hsh
  obtain rfl:=hasAllW_nil h2
  obtain⟨xs,rfl,h3⟩:=hasW_list h1
  obtain⟨ns,rfl⟩:=items_int h3
  have hlen:ns.length<=n:=by
    unfold OpenLaw.pre at hc
    have h4:(WTm.not (.lt (.lit (.int (n:Int))) (.len (.arg 0)))).holds [] {args:=[.list (ns.map .int)]}=true:=by
      have h4:=(holds_andW hc).1
      rw[hn] at h4
      exact h4
    have h5:=condW_of h4 (w_not (w_lt w_lit (w_len_list (w_arg rfl))))
    rw[List.length_map] at h5
    refine Nat.le_of_not_lt λq=> ?_
    have q':(n:Int)<((ns.length:Nat):Int):=by omega
    first
      | (rw[decide_eq_true q'] at h5;exact absurd h5 (by decide))
      | (simp at h5;omega)
  cases hwl with
  | cons w1 w2=>
    cases w2
    cases w1 with
    | list ho hall=>exact⟨_,_,ns,rfl,rfl,ho,ji4 ns _ hall,hlen⟩
theorem jrq(l:OpenLaw)(args:List WData):l.row.toRowW.claim.post args (.bool true) args=true:=
 postW_of (r:=l.row.toRowW) (X:=(true==true))
  (show WShape.has [] (.bool true) .bool=true by first | rfl | decide | simp[WShape.has,WShape.arms,WShape.armsAll])
  (show(WTm.eq .res (.lit (.bool true))).value [] {args:=args,res:=some (.bool true),after:=args}=some (.bool (true==true)) from w_eq_bool (w_res rfl) w_lit) rfl
theorem attach_call{l:OpenLaw}{n:Nat}{q:Program}{loose:List Str}{XP:(Str->Option Value)->Heap->Prop}{YP:World->Heap->Prop}{d:DefRec}
  (hn:l.most=some n) (hdf:d.params.defaults=[])
  (call:∀(w:World) (s₀ s₁:Shared) (mg mb:Str->Option Value) (fa:Addr) (o:Obj) (pm cd doc:Value) (a:Addr) (vs:List Value) (ns:List Int),
   Ground q loose [] XP w s₀ mg mb s₁.heap->YP w s₁.heap->
   s₁.heap.get? fa=some o->o.data= .func (docDef d.name d.params d.body d.scope pm cd doc)->s₁.heap.CodeRec cd d.name->mg d.name=some (.ref fa)->
   s₁.heap.get? a=some {cls:= .type "list",data:= .seq vs.toArray}->IntsAre vs ns->ns.length<=n->s₁.gens=#[]->
   codeAny (model l.prog w) callerA (.call (.ref fa) ⟨[.ref a],[]⟩) (λr s'=>r= .ok (.ret (.bool true)) /\ OldK s₁.heap s'.heap /\ s'.os=s₁.os /\ AllBare s'.gens) s₁):
  WalkO q loose XP YP l.row.toRowW d [] (λf vs=>PySem.call f vs):=by
 intro w s₀ s₁ mg mb G Y fa o pm cd doc dV kV ho hd hcd hD hmg hg args vals as hpre hlay hrd hwl hlo
 obtain rfl:dV= .none:=Dflts.none hD hdf
 obtain rfl:kV= .none:=Dflts.noKw hD
 obtain⟨a,vs,ns,rfl,rfl,hobj,hints,hlen⟩:=jra hn hpre hwl
 refine enter_call (codeAny_mono (call w s₀ s₁ mg mb fa o pm cd doc a vs ns G Y ho (fd_plain hd) hcd hmg hobj hints hlen hg) λr s' hq=> ?_)
 obtain⟨rfl,h2,h3,h4⟩:=hq
 exact⟨.inl ⟨.bool true,.bool true,[],rfl,λ_=>rfl,.bool true,jrq l _,λ_=>⟨List.Pairwise.nil,λ_ hm=>(nomatch hm)⟩⟩,h2,h3,h4⟩
end Att
namespace L2
open PySem PySem.Spec PyProof.Rows
theorem jhn:∀{vs:List Value} {ns:List Int},IntsAre vs ns->Vals (ns.map V.int) vs
 | _,_,.nil=> .nil
 | _,_,.cons n t h=> .cons ⟨t,rfl⟩ (jhn h)
def Only(H:Hp):Prop:=∀b,H b=none \/ ∃o xs,H b=some (.frz o (.lst xs))
theorem ju8{P:Program}{w:World}{K:W.Frag}{mg mb:Str->Option Value}{CX:CXT}{k:Nat}{fa a:Addr}{fd:FuncData}{x:Str}{sp:Sp}{s₁:Shared}{vs:List Value}{ns:List Int}
  (KX:K.In s₁.heap) (hns:s₁.heap.Ns mainGlobals mg) (hb:s₁.heap.Ns builtinsNs mb) (hbb:∀x:Str,x≠"__name__"->mb x=bootBuiltins x) (hlim:s₁.heap.NoLimit) (hg:s₁.gens=#[])
  (ha:s₁.heap.get? a=some {cls:= .type "list",data:= .seq vs.toArray}) (hi:IntsAre vs ns) (hl:ns.length<=sizeLine) (hr:Room k callerA)
  (F:∀base:Heap,K.In base->base.Ns mainGlobals mg->FnOk P w K mg base CX k fa fd [x] sp) (hbind:∀(s:Shared) (u:Value),BindsTo s fd ⟨[u],[]⟩ [(x,u)])
  (hsp:∀H:Hp,Only H->SqL K H a (ns.map V.int)->sp [.ref a] H (λv _=>v= .bl true) λ_ _ _=>False)
  (hCX:∀H e s',CX [] H s₁ (λ_ _ _=>False) e s'->False):
  codeAny (model P w) callerA (.call (.ref fa) ⟨[.ref a],[]⟩) (λr s'=>r= .ok (.ret (.bool true)) /\ OldK s₁.heap s'.heap /\ s'.os=s₁.os /\ AllBare s'.gens) s₁:=by
 have rv:=jhn hi
 have lenV:=hi.length
 have core:∀H:Hp,Only H->SqL K H a (ns.map V.int)->HOk P w H s₁.heap->(∀b,H b≠none->b=a)->(H a≠none->K.lookup a=none)->
   codeAny (model P w) callerA (.call (.ref fa) ⟨[.ref a],[]⟩) (λr s'=>r= .ok (.ret (.bool true)) /\ OldK s₁.heap s'.heap /\ s'.os=s₁.os /\ AllBare s'.gens) s₁:=by
  intro H hO hS hok hA hK
  have base_of:∀{b:Addr} {o:Obj},s₁.heap.get? b=some o->H b=none->(hidT s₁.heap H).get? b=some o:=λe n=>jvb e n
  have noA:∀{b:Addr} {o:Obj} {es:Array DictEntry} {ep:Nat},s₁.heap.get? b=some o->o.data= .dict es ep->H b=none:=fun{b o es ep} e d=>by
   cases q:H b with
   | none=>rfl
   | some u=>
    have e':b=a:=hA b (by rw[q];simp)
    subst e'
    rw[ha] at e;cases e
    have d':Data.seq vs.toArray _=Data.dict es ep:=d
    cases d'
  have nsK:∀{b:Addr} {m:Str->Option Value},s₁.heap.Ns b m->(hidT s₁.heap H).Ns b m:=fun{b m} ⟨o,es,ep,e,d,r⟩=>⟨o,es,ep,base_of e (noA e d),d,r⟩
  have hKb:K.In (hidT s₁.heap H):=λb o e=>base_of (KX b o e) (by
   cases q:H b with
   | none=>rfl
   | some u=>
    have e':b=a:=hA b (by rw[q];simp)
    subst e'
    rw[hK (by rw[q];simp)] at e;cases e)
  have hM:Mod K mg (hidT s₁.heap H):=⟨hKb,nsK hns,⟨mb,nsK hb,hbb⟩,let ⟨mc,h1,h2⟩:=hlim;⟨mc,nsK h1,h2⟩⟩
  have e0:Env0 P w K mg (hidT s₁.heap H) callerA [] s₁ H:=⟨rfl,hM,λb o e=>jyl e,Nat.le_of_eq (jrj _ _),trivial,λb hb=>absurd (show b∈([]:List Addr) from hb) (by simp),hok,.of_eq hg⟩
  refine codeAny_mono ((F _ hKb (nsK hns)).run callerA [] s₁ H ⟨[.ref a],[]⟩ [.ref a] [.ref a] _ _ hr e0 (hbind s₁ (.ref a)) (.cons rfl .nil) (hsp H hO hS)) λr s' h=> ?_
  cases r with
  | error e=>exact(hCX H e s' h).elim
  | ok fl=>
   cases fl with
   | next=>exact False.elim h
   | brk=>exact False.elim h
   | cont=>exact False.elim h
   | ret u=>
    obtain⟨v,H',os,bare,un,hok',r',q⟩:=h
    have q':v= .bl true:=q
    subst q'
    obtain rfl:u=Value.bool true:=r'
    refine⟨rfl,OldK.of_keep λb o e=> ?_,os,bare⟩
    cases q:H b with
    | none=>exact un.keep b o e q (by intro z;exact absurd (show b∈([]:List Addr) from z) (by simp)) (by simp)
    | some u=>
     rcases hO b with z | ⟨ob,xs,z⟩
     ·rw[q] at z;cases z
     ·have z2:=un.frzs b ob _ z
      obtain⟨e1,_⟩:=hok b _ z
      obtain⟨e2,_⟩:=hok' b _ z2
      rw[e] at e1;cases e1
      exact e2
 cases hk:K.lookup a with
 | some o=>
  have e:=KX a o hk
  rw[ha] at e
  cases e
  refine core (λ_=>none) (λ_=> .inl rfl) (.inr ⟨_,vs.toArray,_,hk,rfl,rfl,rfl,by rw[List.size_toArray,lenV];exact hl,by simpa using rv⟩) (λb u z=>by have z':(none:Option HO)=some u:=z;cases z') (λb z=>absurd rfl z) λz=>absurd rfl z
 | none=>
  refine core (λb=>if b=a then some (.frz {cls:= .type "list",data:= .seq vs.toArray} (.lst (ns.map V.int))) else none) (λb=> ?_) (.inl (.inr ⟨{cls:= .type "list",data:= .seq vs.toArray},if_pos rfl⟩)) (λb u z=> ?_) (λb z=> ?_) λ_=>hk
  ·by_cases hb:b=a
   ·exact .inr ⟨_,_,if_pos hb⟩
   ·exact .inl (if_neg hb)
  ·by_cases hb:b=a
   ·have z':=(if_pos hb).symm.trans z
    cases z'
    subst hb
    exact⟨ha,by rw[List.length_map];exact hl,vs,_,rv,ha⟩
   ·have z':=(if_neg hb).symm.trans z
    cases z'
  ·by_cases hb:b=a
   ·exact hb
   ·exact absurd (if_neg hb) z
abbrev KOf{K:W.Frag}{h:Heap}(_:K.In h):W.Frag:=K
theorem jzc{l:W.OpenLaw}{n k:Nat}{q:Program}{loose:List Str}{XP:(Str->Option Value)->Heap->Prop}{YP:World->Heap->Prop}{d:DefRec}{K:Params->W.Frag}{CX:World->CXT}{sp:World->Sp}{x:Str}
  (hn:l.most=some n) (hn2:n<=sizeLine) (hdf:d.params.defaults=[]) (hr:Room k callerA)
  (hY:∀(w:World) (h:Heap),YP w h->(K w.params).In h)
  (F:∀(w:World) (mg:Str->Option Value) (fa:Addr) (h:Heap),(K w.params).In h->h.Ns mainGlobals mg->mg d.name=some (.ref fa)->
   ∃fd:FuncData,(∀(s:Shared) (u:Value),BindsTo s fd ⟨[u],[]⟩ [(x,u)]) /\
    ∀base:Heap,(K w.params).In base->base.Ns mainGlobals mg->FnOk l.prog w (K w.params) mg base (CX w) k fa fd [x] (sp w))
  (hsp:∀(w:World) (H:Hp) (a:Addr) (ns:List Int),ns.length<=n->Only H->SqL (K w.params) H a (ns.map V.int)->sp w [.ref a] H (λv _=>v= .bl true) λ_ _ _=>False)
  (hCX:∀(w:World) (H:Hp) (s:Shared) (e:Value) (s':Shared),CX w [] H s (λ_ _ _=>False) e s'->False):
  W.WalkO q loose XP YP l.row.toRowW d [] (λf vs=>PySem.call f vs):=by
 refine Att.attach_call hn hdf λw s₀ s₁ mg mb fa o pm cd doc a vs ns G Y ho hd hcd hmg hobj hints hlen hg=> ?_
 have KX:=hY w _ Y
 obtain⟨fd,hb,hF⟩:=F w mg fa _ KX G.T.g hmg
 exact ju8 KX G.T.g G.T.b G.T.builtins G.T.nolimit hg hobj hints (Nat.le_trans hlen hn2) hr hF hb (λH hO hS=>hsp w H a ns hlen hO hS) λH e s'=>hCX w H s₁ e s'
def jb0(s:Stmt)(j:Nat):Stmt:=match s with
 | .ClassDef _ _ _ body _ _ _ _ _ _ _=>body.getD j (.Pass ⟨0,0,0,0⟩)
 | _=> .Pass ⟨0,0,0,0⟩
def je4(s:Stmt):Arguments:=match s with
 | .FunctionDef _ a _ _ _ _ _ _ _ _=>a
 | _=>{posonlyargs:=[],args:=[],vararg:=none,kwonlyargs:=[],kw_defaults:=[],kwarg:=none,defaults:=[]}
def jdc(s:Stmt):List Stmt:=match s with
 | .FunctionDef _ _ b _ _ _ _ _ _ _=>b
 | _=>[]
def jaa(s:Stmt):Scope:=match s with
 | .FunctionDef _ _ _ _ _ _ sc _ _ _=>sc
 | _=>{kind:= .function,names:=[],isGenerator:=false,isCoroutine:=false}
abbrev E0:XK:=λ_ _ _=>False
structure Fun (K:W.Frag) (x qual:Str) (st:Stmt) (f:Addr) (fd:FuncData):Prop where
 ex:∃(oc:Value) (od:Option Addr) (kV doc pm:Value) (an:Option Addr) (cdv ct:Value) (osl:Array (Option Value)),
  fd=W.fnOf x qual (je4 st) (jdc st) (jaa st) .none kV doc pm an cdv ct /\ K.lookup f=some ⟨oc,od,.func fd,osl⟩ /\ W.codeIn K cdv qual=true
 kp:W.keepIn K (.ref f)=true
section
variable {P : Program} {w : World} {K : W.Frag} {mg : Str -> Option Value} {base : Heap}
theorem Fun.binds{x qual:Str}{st:Stmt}{f:Addr}{fd:FuncData}{ps:List Str}(F:Fun K x qual st f fd)
  (h:∀(kV doc pm:Value) (an:Option Addr) (cdv ct:Value) (us:List Value),us.length=ps.length->bindArgs (W.fnOf x qual (je4 st) (jdc st) (jaa st) .none kV doc pm an cdv ct) ⟨us,[]⟩=pure (ps.zip us)):jfc K fd ps []:=by
 obtain⟨oc,od,kV,doc,pm,an,cdv,ct,osl,rfl,lk,hcd⟩:=F.ex
 exact .all (h kV doc pm an cdv ct)
theorem jx4{x qual:Str}{st:Stmt}{f:Addr}{oc:Value}{od an:Option Addr}{osl:Array (Option Value)}{kV doc pm cdv ct:Value}(l:K.lookup f=some ⟨oc,od,.func (W.fnOf x qual (je4 st) (jdc st) (jaa st) .none kV doc pm an cdv ct),osl⟩)
  (c:W.codeIn K cdv qual=true) (k:W.keepIn K (.ref f)=true):Fun K x qual st f (W.fnOf x qual (je4 st) (jdc st) (jaa st) .none kV doc pm an cdv ct):=⟨⟨oc,od,kV,doc,pm,an,cdv,ct,osl,rfl,l,c⟩,k⟩
end
section
variable {X : Cx}
theorem pv(i:Nat){x:Str}{pos:Pos}(hN:X.N[i]?=some x:=by rfl)(hv:Vis X.env.scope x:=by first | exact Or.inl rfl | exact Or.inr (Or.inl rfl) | exact Or.inr (Or.inr rfl))(hd:(x==("__debug__":Str))=false:=by decide)
  (hcd:(x==("__classdict__":Str))=false:=by decide):PE X (.Name x pos) (tVar i):=pe_var hN hv hd hcd
theorem jpx:jcj X (.builtin "len") (λxs H Q=>∃a kvs,xs=[V.ref a] /\ H a=some (.dK kvs) /\ Q (.int kvs.length) H):=by
 intro pins s σ H xs us Q I r h
 obtain⟨a,kvs,rfl,ha,q⟩:=h
 obtain⟨u,rfl,ru⟩:=jh8 r
 cases ru
 exact d_len I (.inl ha) λt s' I'=>⟨.int kvs.length,H,I',⟨t,rfl⟩,q⟩
end
def Same(H H':Hp):Prop:=∀b o,H b=some o->H' b=some o
theorem Same.refl(H:Hp):Same H H:=λ_ _ h=>h
theorem Same.trans{H H1 H2:Hp}(a:Same H H1)(b:Same H1 H2):Same H H2:=λc o h=>b c o (a c o h)
theorem jju{prog:Program}{w:World}{A:Around}{R:Result->Shared->Prop}{s:Shared}{elt target iter:Expr}{ifs:List Expr}{scope:Scope}{pos:Pos}{it acc:Value}{env:Env}(I:Nat->Shared->Prop)
  (turn:∀n s,I n s->wpAny (model prog w) A (pyNext it) (λr s₁=>match r with
   | none=>R (.ok .next) s₁
   | some v=>wpAny (model prog w) A (letOwnedTupleGo target it v) (λ_ s₁'=>wpAny (model prog w) A (assign target env v) (λ_ s₂=>
     wpAny (model prog w) A (forIn ifs true λc r=>if r=true then do let ok<-isTrue c env (eval c env);pure (ForInStep.yield ok) else pure (ForInStep.yield r)) (λok s₃=>
      if ok=true then wpAny (model prog w) A (eval elt env) (λx s₄=>
       wpAny (model prog w) A (call (.builtin "list.append") [acc,x]) (λ_ s₅=>∃m,m<n /\ I m s₅) (λ_ _=>False) s₄) (λ_ _=>False) s₃
      else ∃m,m<n /\ I m s₃) (λ_ _=>False) s₂) (λ_ _=>False) s₁') (λ_ _=>False) s₁) (λ_ _=>False) s)
  (n:Nat) (h:I n s):
  codeAny (model prog w) A (.compLoop (.ListComp elt [⟨target,iter,ifs,0⟩] scope pos) 0 it acc env) R s:=by
 refine codeAny_loop rfl I (λn s hI=> ?_) n h
 show wpAny _ A ((compTurn (.ListComp elt [⟨target,iter,ifs,0⟩] scope pos) 0 it acc env).onRaise (λx=>do noteFrame x env;theTreesLotGoes x)) _ _ s
 refine wpAny_noted ?_
 rw[compTurn_list]
 refine wpAny_bind (wpAny_standAt (wpAny_bind (wpAny_mono (turn n s hI) (λr s₁ h₁=> ?_) λ_ _ f=>f.elim)))
 cases r with
 | none=>exact wpAny_pure h₁
 | some v=>
  refine wpAny_bind (wpAny_mono h₁ (λ_ s₁' h₁'=>wpAny_bind (wpAny_mono h₁' (λ_ s₂ h₂=>wpAny_bind (wpAny_mono h₂ (λok s₃ h₃=> ?_) λ_ _ f=>f.elim)) λ_ _ f=>f.elim)) λ_ _ f=>f.elim)
  cases ok with
  | false=>exact wpAny_pure ⟨rfl,h₃⟩
  | true=>
   exact wpAny_bind (wpAny_bind (wpAny_mono h₃ (λx s₄ h₄=>wpAny_bind (wpAny_mono h₄ (λ_ s₅ h₅=>wpAny_pure (wpAny_pure ⟨rfl,h₅⟩)) λ_ _ f=>f.elim)) λ_ _ f=>f.elim))
def PF(X:Cx)(ifs:List Expr)(t:TT):Prop:=
 ∀(pins:List (Addr×Obj)) (s:Shared) (σ:St) (H:Hp) (Q:Bool->Hp->Prop),Inv X pins σ H s->t σ H Q->
  wpAny (model X.prog X.w) X.A (forIn ifs true λc r=>if r=true then do let ok<-isTrue c X.env (eval c X.env);pure (ForInStep.yield ok) else pure (ForInStep.yield r)) (TP X pins σ Q) X.xe s
def tYes:TT:=λ_ H Q=>Q true H
theorem jff{X:Cx}:PF X [] tYes:=λ_ s _ H _ I q=>wpAny_tests_nil ⟨H,I,q⟩
theorem ji8{X:Cx}{c:Expr}{t:TT}(h:PT X c t):PF X [c] t:=λpins s σ H Q I q=>wpAny_tests_one (h pins s σ H Q I q)
def cxC(X:Cx)(N':List Str)(scope:Scope)(cl:List (Str×Addr))(C:Addr)(s₂:Shared)(H₂:Hp)(fp:List Addr):Cx:=
  {prog:=X.prog,w:=X.w,K:=X.K,mg:=X.mg,base:=X.base,A:=X.A,N:=N',s₀:=s₂,H₀:=H₂,env:=compEnvC scope cl C X.env,outer:=X.stack,stack:=X.stack,ex:=fp,
    fn:=λ_=>false,calm:=X.calm,pn:=[],xe:=λ_ _=>False}
inductive Caps (X:Cx) (scope:Scope) (cl:List (Str×Addr)):List Str->List Nat->Prop
 | nil:Caps X scope cl [] []
 | cons {n:Str} {j:Nat} {ns:List Str} {js:List Nat} {c:Addr}:X.N[j]?=some n->(X.env.kindOf n=some .cell \/ X.env.kindOf n=some .free)->((relabel scope X.env).names.lookup n=some .cell \/ (relabel scope X.env).names.lookup n=some .free)->
   X.env.cells.lookup n=some c->cl.lookup n=some c->Caps X scope cl ns js->Caps X scope cl (n::ns) (j::js)
theorem Caps.len{X:Cx}{scope:Scope}{cl:List (Str×Addr)}:∀{ns:List Str} {js:List Nat},Caps X scope cl ns js->ns.length=js.length
 | _,_,.nil=>rfl
 | _,_,.cons _ _ _ _ _ r=>by simp[r.len]
theorem Caps.get{X:Cx}{scope:Scope}{cl:List (Str×Addr)}:∀{ns:List Str} {js:List Nat},Caps X scope cl ns js->∀(i:Nat) (n:Str),ns[i]?=some n->
  ∃j c,js[i]?=some j /\ X.N[j]?=some n /\ (X.env.kindOf n=some .cell \/ X.env.kindOf n=some .free) /\ ((relabel scope X.env).names.lookup n=some .cell \/ (relabel scope X.env).names.lookup n=some .free) /\ X.env.cells.lookup n=some c /\ cl.lookup n=some c
 | _,_,.nil,i,n,h=>by simp at h
 | _,_,.cons a b c d e r,0,n,h=>by
  simp at h;subst h;exact⟨_,_,rfl,a,b,c,d,e⟩
 | _,_,.cons a b c d e r,i+1,n,h=>by
  obtain⟨j,c',h1,h2⟩:=r.get i n (by simpa using h)
  exact⟨j,c',by simpa using h1,h2⟩
def jej(idx:List Nat)(σ:St):St:=idx.map λj=>(σ[j]?).getD none
def jyx(nt:Nat)(idx:List Nat)(wi:TI)(g:TG)(tc:TT)(te:TE):TE:=λσ H Q=>wi σ H λJ H1=>∀l,H1 l=none->
 ∃W:Nat->Nat->List V->Hp->Prop,(∃m,W 0 m [] (upd H1 l (.lst []))) /\ ∀i m ys H2,W i m ys H2->H2 l=some (.lst ys) /\ ys.length<sizeLine /\
  ((J.stop i H2 /\ Q (.ref l) H2) \/ (J.go i H2 /\ ∀x H3,J.yld i H2 x H3->g x (List.replicate nt none++jej idx σ) H3 λσ4 H4=>tc σ4 H4 λc H5=>
   if c=true then te σ4 H5 λy H6=>H6 l=some (.lst ys) /\ ∃m',m'<m /\ W (i+1) m' (ys++[y]) (upd H6 l (.lst (ys++[y]))) else ∃m',m'<m /\ W (i+1) m' ys H5))
theorem cl_sub{X:Cx}{cl:List (Str×Addr)}(hsub:∀p∈cl,X.env.cells.lookup p.1=some p.2):∀x c,cl.lookup x=some c->X.env.cells.lookup x=some c:=by
 intro x c h
 induction cl with
 | nil=>simp at h
 | cons p r ih=>
  obtain⟨y,d⟩:=p
  rw[List.lookup_cons] at h
  cases e:x==y with
  | true=>
   rw[e] at h
   simp at h;subst h
   have:=hsub (y,d) (by simp)
   rw[eq_of_beq e];exact this
  | false=>
   rw[e] at h
   exact ih (λp hp=>hsub p (by simp[hp])) (by simpa using h)
theorem Un.sameBut{fs ex:List Addr}{H₂ H₅:Hp}{h₂ h₅ h':Heap}{C:Addr}(u:Un fs ex H₂ H₅ h₂ h₅)(hC:h₂.objs.size<=C)(sb:Heap.SameBut C h₅ h'):Un fs ex H₂ H₅ h₂ h':=by
 have lt:∀{b o},h₂.get? b=some o->b≠C:=fun{b o} e q=>by
  have:=Heap.lt_size e
  rw[q] at this
  exact absurd this (Nat.not_lt.mpr hC)
 exact⟨λb o e n f x=>sb.extBut b _ (lt e) (u.keep b o e n f x),λb o e n f x=>by
   obtain⟨sl,q⟩:=u.slot b o e n f x
   exact⟨sl,sb.extBut b _ (lt e) q⟩,u.free,λb o e x=>by
   obtain⟨o',q⟩:=u.there b o e x
   exact⟨o',sb.extBut b _ (lt e) q⟩,u.tups,u.frzs,u.tbls⟩
theorem HOk.sameBut{P:Program}{w:World}{H:Hp}{h h':Heap}{C:Addr}(x:HOk P w H h)(hC:H C=none)(sb:Heap.SameBut C h h'):HOk P w H h':=λa o e=>
 (x a o e).stay (λb u hb q=>sb.extBut b u (by
  rintro rfl
  rcases hb with rfl | hb
  ·rw[hC] at e;cases e
  ·rw[hC] at hb;cases hb) q) (λ_ q=>q) λ_ _ q=>q
theorem Un.but{fs:List Addr}{H:Hp}{h h':Heap}{C:Addr}(sb:Heap.SameBut C h h'):Un fs [C] H H h h':=
 ⟨λb o e _ _ x=>sb.extBut b o (by simpa using x) e,λb o e _ _ x=>⟨o.slots,sb.extBut b o (by simpa using x) e⟩,λ_ _ _ n _=>n,λb o e x=>⟨o,sb.extBut b o (by simpa using x) e⟩,λ_ _ q=>q,λ_ _ _ q=>q,
  λ_ ps q=>⟨#[],by simpa using q⟩⟩
def GOk(nt:Nat)(g:TG):Prop:=∀x σ H Q,g x σ H Q->g x σ H λσ' H'=>Q σ' H' /\ σ'.length=σ.length /\ ∀i,nt<=i->σ'[i]?=σ[i]?
theorem jbt{nt i:Nat}(h:i<nt):GOk nt (jac i):=λx σ H Q q=>⟨q,by simp,λj hj=>by rw[List.getElem?_set_ne (by omega)]⟩
section
variable {X : Cx} {elt target iter : Expr} {ifs : List Expr} {scope : Scope} {pos : Pos} {cl : List (Str × Addr)} {nt : Nat} {tgs cap : List Str} {idx : List Nat} {wi : TI} {g : TG} {tc : TT} {te : TE}
structure CompOk (X:Cx) (scope:Scope) (cl:List (Str×Addr)) (tgs cap:List Str) (idx:List Nat):Prop where
 clos:closureFor scope X.env=pure cl
 kind:scope.kind= .function
 cell:∀y∈scope.names,y.2≠ .cell
 names:∀y∈scope.names,y.2= .local->scope.names.lookup y.1=some .local
 sub:∀p∈cl,X.env.cells.lookup p.1=some p.2
 has:((relabel scope X.env).names.all λy=> !(y.2== .cell||y.2== .free)||(cl.lookup y.1).isSome)=true
 caps:Caps X scope cl cap idx
theorem has_of{names:List (Str×NameKind)}{cl:List (Str×Addr)}(h:(names.all λy=> !(y.2== .cell||y.2== .free)||(cl.lookup y.1).isSome)=true):
  ∀x,(names.lookup x=some .cell \/ names.lookup x=some .free)->∃c,cl.lookup x=some c:=by
 induction names with
 | nil=>intro x hx;simp at hx
 | cons p r ih=>
  obtain⟨y,k⟩:=p
  rw[List.all_cons,Bool.and_eq_true] at h
  intro x hx
  rw[List.lookup_cons] at hx
  cases e:x==y with
  | true=>
   rw[e] at hx
   have ey:=eq_of_beq e
   subst ey
   have h1:=h.1
   rcases hx with hx | hx<;>(simp at hx;subst hx;exact Option.isSome_iff_exists.mp (by simpa using h1))
  | false=>
   rw[e] at hx
   exact ih h.2 x (by simpa using hx)
theorem jpg{pins:List (Addr×Obj)}{s₂:Shared}{σ:St}{H₂:Hp}{fp:List Addr}{h₁:Heap}{tk:Nat}{C:Addr}(eC:C=s₂.heap.objs.size+1)(O:CompOk X scope cl tgs cap idx)(I:Inv X pins σ H₂ s₂)(hfp:∀b∈fp,FpOk X pins H₂ b)(hfo:∀b∈fp,b<s₂.heap.objs.size)
  (hns:h₁.Ns C (λx=>([]:List (Str×Value)).reverse.lookup x))
  (hsb:Heap.SameBut C ((s₂.heap.push {cls:= .type "list",dict:=none,data:= .seq ([]:List Value).toArray}).push {cls:= .type "dict",data:= .dict #[]}) h₁):
  Inv (cxC X (tgs++cap) scope cl C s₂ H₂ fp) [] (List.replicate tgs.length none++jej idx σ) (upd H₂ s₂.heap.objs.size (.lst [])) {s₂ with heap:=h₁,toks:=tk}:=by
 have ltC:∀{b:Addr},b<s₂.heap.objs.size->b≠C:=fun{b} lt=>by rw[eC];exact Nat.ne_of_lt (Nat.lt_succ_of_lt lt)
 have kp:∀b o,s₂.heap.get? b=some o->h₁.get? b=some o:=λb o e=>by
  have lt:=Heap.lt_size e
  exact hsb.extBut b o (ltC lt) (Heap.get?_push_of_some _ (Heap.get?_push_of_some _ e))
 have hD:h₁.get? s₂.heap.objs.size=some {cls:= .type "list",dict:=none,data:= .seq ([]:List Value).toArray}:=
  hsb.extBut _ _ (by rw[eC];exact Nat.ne_of_lt (Nat.lt_succ_self _)) (Heap.get?_push_of_some _ (Heap.get?_push_size _ rfl))
 have fresh:∀a,s₂.heap.objs.size<=a->H₂ a=none:=λa ha=>I.hok.fresh ha
 have stk:=I.stkSub
 have nf:∀b∈fp,b∉frs X.stack:=λb hb hm=>by
  rcases List.mem_cons.mp (stk b hm) with e | e
  ·exact(hfp b hb).2.1 e
  ·exact(hfp b hb).2.2.1 e
 have sub:=cl_sub O.sub
 have clt:∀x c,cl.lookup x=some c->c<s₂.heap.objs.size:=λx c e=>by
  obtain⟨v,o,e',_⟩:=I.cell x c (sub x c e)
  exact Heap.lt_size e'
 refine⟨⟨I.ok.mod,?_,I.ok.glob,I.ok.blt,(by show s₂.heap.objs.size<=C;rw[eC];exact Nat.le_succ _),?_,?_,?_,I.ok.hd,I.ok.frames,.inl rfl,?_,?_,?_,?_,nf,I.stack,I.stkFree⟩,rfl,I.bare,?_,?_,?_,?_,?_,?_,?_,?_⟩
 ·exact O.kind
 ·intro x y c h1 h2;exact I.ok.inj x y c (sub _ _ h1) (sub _ _ h2)
 ·exact has_of O.has
 ·intro x c h;cases h
 ·intro b hb
  have lt:=hfo b hb
  exact⟨ltC lt,λx c h=>(hfp b hb).2.2.2.2.1 x c (sub _ _ h)⟩
 ·exact I.bs
 ·exact Nat.le_trans I.ok.bsz I.sz
 ·intro b o e hb
  rcases(hfp b hb).2.2.2.1 with h | h
  ·exact I.ok.noex b o e h
  ·exact absurd (Heap.lt_size e) (Nat.not_lt.mpr (Nat.le_trans I.ok.bsz h))
 ·exact(Un.laid (a:=s₂.heap.objs.size) kp (Nat.le_refl _) (fresh _ (Nat.le_refl _)))
 ·refine⟨_,hns,λi x v hN hv hvis=> ?_⟩
  by_cases hi:i<tgs.length
  ·rw[List.getElem?_append_left (by simpa using hi)] at hv
   rw[List.getElem?_replicate] at hv
   simp[hi] at hv
  ·have hi':tgs.length<=i:=Nat.not_lt.mp hi
   have hN':(tgs++cap)[i]?=some x:=hN
   rw[List.getElem?_append_right hi'] at hN'
   rw[List.getElem?_append_right (by simpa using hi')] at hv
   simp only[List.length_replicate] at hv
   obtain⟨j,c,h1,h2,h3,h4,h5,h6⟩:=O.caps.get _ _ hN'
   unfold jej at hv
   rw[List.getElem?_map,h1] at hv
   simp at hv
   have hv':σ[j]?=some (some v):=by
    cases e:σ[j]? with
    | none=>rw[e] at hv;cases hv
    | some z=>rw[e] at hv;simp at hv;rw[hv]
   obtain⟨m,hm,lk⟩:=I.loc
   obtain⟨u,ru,lk⟩:=lk j x v h2 hv' (by rcases h3 with h3 | h3;exact .inr (.inl h3);exact .inr (.inr h3))
   refine⟨u,ru,.inr ⟨h4,?_⟩⟩
   rcases lk with⟨k1,_⟩ | ⟨_,c',k2,k3⟩
   ·rcases h3 with h3 | h3<;>(rw[h3] at k1;cases k1)
   ·rw[h5] at k2;cases k2
    obtain⟨o,k4,k5⟩:=k3
    exact⟨c,h6,o,kp _ _ k4,k5⟩
 ·intro x c e
  obtain⟨v,o,e',q⟩:=I.cell x c (sub x c e)
  exact⟨v,o,kp _ _ e',q⟩
 ·show(upd H₂ s₂.heap.objs.size (.lst [])) C=none
  rw[eC,jan (Nat.ne_of_gt (Nat.lt_succ_self _))];exact fresh _ (Nat.le_succ _)
 ·intro x c e
  have:=clt x c e
  rw[jan (Nat.ne_of_lt this)];exact I.freeC x c (sub x c e)
 ·intro p hp;cases hp
 ·exact I.hok.laid kp (Nat.le_refl _) ⟨Nat.zero_le _,[],0,.nil,hD⟩
 ·have:=O.caps.len
  simp[jej,cxC,this]
theorem jiq{RR:Value->Addr->Result->Shared->Prop}{E₀:Value->Shared->Prop}{pins:List (Addr×Obj)}{s₂:Shared}{σ:St}{H₂:Hp}{it:Addr}{fp:List Addr}{tn:Nat->Heap->Prop}{J:It}{Fin:Addr->Hp->Prop}
  (O:CompOk X scope cl tgs cap idx) (hc:X.calm=true) (hgo:GOk tgs.length g)
  (hg:∀C s₂ H₂ fp,PG (cxC X (tgs++cap) scope cl C s₂ H₂ fp) target g) (ht:∀C s₂ H₂ fp,PF (cxC X (tgs++cap) scope cl C s₂ H₂ fp) ifs tc) (he:∀C s₂ H₂ fp,PE (cxC X (tgs++cap) scope cl C s₂ H₂ fp) elt te)
  (I:Inv X pins σ H₂ s₂) (T:Turn X.prog X.w X.K target J fp it tn) (st:tn 0 s₂.heap) (hfp:∀b∈fp,FpOk X pins H₂ b)
  (rd:∀l,H₂ l=none->∃W:Nat->Nat->List V->Hp->Prop,(∃m,W 0 m [] (upd H₂ l (.lst []))) /\ ∀i m ys H2,W i m ys H2->H2 l=some (.lst ys) /\ ys.length<sizeLine /\
   ((J.stop i H2 /\ Fin l H2) \/ (J.go i H2 /\ ∀x H3,J.yld i H2 x H3->g x (List.replicate tgs.length none++jej idx σ) H3 λσ4 H4=>tc σ4 H4 λc H5=>
    if c=true then te σ4 H5 λy H6=>H6 l=some (.lst ys) /\ ∃m',m'<m /\ W (i+1) m' (ys++[y]) (upd H6 l (.lst (ys++[y]))) else ∃m',m'<m /\ W (i+1) m' ys H5)))
  (fin:∀C σ5 H5 s5,s₂.heap.objs.size<=C->s₂.heap.objs.size≠C->Inv (cxC X (tgs++cap) scope cl C s₂ H₂ fp) [] σ5 H5 s5->Fin s₂.heap.objs.size H5->RR (.ref s₂.heap.objs.size) C (.ok .next) s5):
  wpAny (model X.prog X.w) X.A (newList []) (λacc s₃=>wpAny (model X.prog X.w) X.A (newFunctionEnv scope X.env.globals cl [] X.env.qual none .none (some X.env)) (λcenv s₄=>
   codeAny (model X.prog X.w) X.A (.compStart (.ListComp elt [⟨target,iter,ifs,0⟩] scope pos) 0 (.ref it) acc {cenv with scope:=relabel scope X.env}) (RR acc cenv.locals) s₄) E₀ s₃) E₀ s₂:=by
 have hfo:∀b∈fp,b<s₂.heap.objs.size:=λb hb=>by
  obtain⟨o,e,_⟩:=T.obj 0 _ st b hb
  exact Heap.lt_size e
 refine wpAny_newObj_type (wpAny_newFunctionEnv O.cell (by intro y hy;simp at hy) (λh₁ hns₁ hsb₁=> ?_) O.kind)
 have eC:(s₂.heap.push {cls:= .type "list",dict:=none,data:= .seq ([]:List Value).toArray}).objs.size=s₂.heap.objs.size+1:=Heap.size_push ..
 dsimp only at hns₁ hsb₁ ⊢
 generalize (s₂.heap.push {cls:= .type "list",dict:=none,data:= .seq ([]:List Value).toArray}).objs.size=C at eC hns₁ hsb₁ ⊢
 have ltC:∀{b:Addr},b<s₂.heap.objs.size->b≠C:=fun{b} lt=>by rw[eC];exact Nat.ne_of_lt (Nat.lt_succ_of_lt lt)
 have IC:=jpg (tk:=s₂.toks+([]:List (Str×Value)).length) eC O I hfp hfo hns₁ hsb₁
 have kp:∀b o,s₂.heap.get? b=some o->h₁.get? b=some o:=λb o e=>by
  have lt:=Heap.lt_size e
  exact hsb₁.extBut b o (ltC lt) (Heap.get?_push_of_some _ (Heap.get?_push_of_some _ e))
 have st₁:tn 0 h₁:=T.keep 0 _ _ st λb _ o e=>kp b o e
 obtain⟨W,⟨m₀,w₀⟩,step⟩:=rd s₂.heap.objs.size (I.hok.fresh (Nat.le_refl _))
 have fp0:∀b∈fp,(upd H₂ s₂.heap.objs.size (.lst [])) b=none:=λb hb=>by
  rw[jan (Nat.ne_of_lt (hfo b hb))];exact(hfp b hb).1
 have stat:∀{pl:List (Addr×Obj)} {H':Hp},(∀b∈fp,H' b=none)->pl=[]->∀b∈fp,FpOk (cxC X (tgs++cap) scope cl C s₂ H₂ fp) pl H' b:=fun{pl H'} hn hp b hb=>by
  subst hp
  have lt:=hfo b hb
  refine⟨hn b hb,ltC lt,IC.ok.exfs b hb,.inl hb,λx c h=>(IC.ok.exf b hb).2 x c h,λp hp=>by cases hp⟩
 have loop:codeAny (model X.prog X.w) X.A (.compLoop (.ListComp elt [⟨target,iter,ifs,0⟩] scope pos) 0 (.ref it) (.ref s₂.heap.objs.size) (compEnvC scope cl C X.env))
   (RR (.ref s₂.heap.objs.size) C) {s₂ with heap:=h₁,toks:=s₂.toks+([]:List (Str×Value)).length}:=by
  refine jju (λn s'=>∃i ys H',Inv (cxC X (tgs++cap) scope cl C s₂ H₂ fp) [] (List.replicate tgs.length none++jej idx σ) H' s' /\ tn i s'.heap /\ (∀b∈fp,H' b=none) /\ W i n ys H') ?_ m₀
   ⟨0,[],_,IC,st₁,fp0,w₀⟩
  rintro n s3 ⟨i,ys,H3,I3,st3,fr3,w3⟩
  obtain⟨hl,hz,w3⟩:=step i n ys H3 w3
  rcases w3 with⟨stop,q⟩ | ⟨go,w3⟩
  ·refine thn (T.done (cxC X (tgs++cap) scope cl C s₂ H₂ fp) rfl rfl rfl hc i [] s3 _ H3 _ I3 (stat fr3 rfl) st3 stop) λr s4 ⟨hr,I4⟩=> ?_
   subst hr
   exact fin C _ H3 s4 (by rw[eC];exact Nat.le_succ _) (by rw[eC];exact Nat.ne_of_lt (Nat.lt_succ_self _)) I4 q
  ·refine thn (T.item (cxC X (tgs++cap) scope cl C s₂ H₂ fp) rfl rfl rfl hc i [] s3 _ H3 _ I3 (stat fr3 rfl) st3 go) λr s4 ⟨u,hr,h4⟩=> ?_
   subst hr
   refine thn h4 λ_ s5 ⟨x,H5,I5,r5,y5,st5,fr5⟩=> ?_
   have I5':=I5.pinned (stat fr5 rfl) (T.obj _ _ st5)
   refine thn (hg _ _ _ _ _ s5 _ H5 x u _ I5' r5 (hgo _ _ _ _ (w3 x H5 y5))) λ_ s6 ⟨σ6,H6,I6,q6,len6,same6⟩=> ?_
   refine thn (ht _ _ _ _ _ s6 σ6 H6 _ I6 q6) λok s7 ⟨H7,I7,q7⟩=> ?_
   have again:∀{H8:Hp} {s8:Shared},Inv (cxC X (tgs++cap) scope cl C s₂ H₂ fp) ([]++jki fp s5.heap) σ6 H8 s8->
     Inv (cxC X (tgs++cap) scope cl C s₂ H₂ fp) [] (List.replicate tgs.length none++jej idx σ) H8 s8 /\ tn (i+1) s8.heap /\ ∀b∈fp,H8 b=none:=fun{H8 s8} I8=>by
    refine⟨?_,T.keep _ _ _ st5 λb hb o e=>(I8.pin (b,o) (List.mem_append_right _ (List.mem_append_right _ (jf8 hb e)))).1,λb hb=> ?_⟩
    ·refine I8.unpinned.weak len6.symm λj v hv=> ?_
     by_cases hj:tgs.length<=j
     ·rw[same6 j hj];exact hv
     ·rw[List.getElem?_append_left (by simp;omega),List.getElem?_replicate] at hv
      simp[Nat.not_le.mp hj] at hv
    ·obtain⟨o,e,d⟩:=T.obj _ _ st5 b hb
     exact(I8.pin (b,o) (List.mem_append_right _ (List.mem_append_right _ (jf8 hb e)))).2.1
   cases ok with
   | false=>
    rw[if_neg Bool.false_ne_true] at q7 ⊢
    obtain⟨m',hm,w8⟩:=q7
    obtain⟨a1,a2,a3⟩:=again I7
    exact⟨m',hm,i+1,ys,H7,a1,a2,a3,w8⟩
   | true=>
    rw[if_pos rfl] at q7 ⊢
    refine thn (he _ _ _ _ _ s7 σ6 H7 _ I7 q7) λy s8 ⟨v,H8,I8,r8,hl8,m',hm,w8⟩=> ?_
    refine thn (jg7 _ s8 σ6 H8 (.ref s₂.heap.objs.size) [v] (.ref s₂.heap.objs.size) [y] (λ_ H9=>H9=upd H8 s₂.heap.objs.size (.lst (ys++[v]))) I8 rfl (.cons r8 .nil) ⟨_,ys,v,rfl,rfl,hl8,hz,rfl⟩) λz s9 ⟨v9,H9,I9,_,e9⟩=> ?_
    subst e9
    obtain⟨a1,a2,a3⟩:=again I9
    exact⟨m',hm,i+1,_,_,a1,a2,a3,w8⟩
 exact codeAny_compStart_list loop (T.self _ 0 _ _ _ st₁ loop)
theorem jiv{pins:List (Addr×Obj)}{s₂ s5:Shared}{σ σ5:St}{H₂ H5:Hp}{fp:List Addr}{C:Addr}{h':Heap}(I:Inv X pins σ H₂ s₂)(hfp:∀b∈fp,FpOk X pins H₂ b)(hC:s₂.heap.objs.size<=C)
  (I5:Inv (cxC X (tgs++cap) scope cl C s₂ H₂ fp) [] σ5 H5 s5) (sb:Heap.SameBut C s5.heap h'):Inv X pins σ H5 {s5 with heap:=h'}:=
 I.call' (ch:=fp) I5.os (Un.sameBut I5.base hC sb) (HOk.sameBut I5.hok I5.free sb) I5.bare λb hb=>⟨(hfp b hb).2.2.2.1,(hfp b hb).2.1,(hfp b hb).2.2.2.2.1,(hfp b hb).2.2.2.2.2⟩
theorem jgc(O:CompOk X scope cl tgs cap idx)(hc:X.calm=true)(hi:PI X target iter wi)(hgo:GOk tgs.length g)
  (hg:∀C s₂ H₂ fp,PG (cxC X (tgs++cap) scope cl C s₂ H₂ fp) target g) (ht:∀C s₂ H₂ fp,PF (cxC X (tgs++cap) scope cl C s₂ H₂ fp) ifs tc) (he:∀C s₂ H₂ fp,PE (cxC X (tgs++cap) scope cl C s₂ H₂ fp) elt te)
  (hs:∀x,foldedSetIterable iter X.env x=pure x:=by intro _;rfl):
  PE X (.ListComp elt [⟨target,iter,ifs,0⟩] scope pos) (jyx tgs.length idx wi g tc te):=by
 intro pins s σ H Q I h
 rw[eval_ListComp]
 refine wpAny_comprehension_free (use:=none) rfl hs O.clos O.kind O.names (wpAny_mono (hi pins s σ H _ I h) (λxv s₁ h₁=>wpAny_mono h₁ (λitv s₂ h₂=> ?_) λ_ _ e=>e) λ_ _ e=>e)
 obtain⟨it,fp,tn,J,H₂,rfl,I₂,T,st,hfp,rd⟩:=h₂
 refine jiq (RR:=λacc C=>compPost (model X.prog X.w) X.A X.xe none (EP X pins σ Q) acc C) (Fin:=λl H=>Q (.ref l) H) O hc hgo hg ht he I₂ T st hfp rd ?_
 intro C σ5 H5 s5 hC _ I5 q
 obtain⟨m,hn,_⟩:=I5.loc
 exact⟨m,hn,λh' sb=>⟨.ref _,H5,jiv I₂ hfp hC I5 sb,rfl,q⟩⟩
theorem jhf{i:Nat}{y:Str}{py spos:Pos}(hN:X.N.Nodup)(hy:X.N[i]?=some y)(hly:Loc X.env.scope y)(O:CompOk X scope cl tgs cap idx)(hc:X.calm=true)(hi:PI X target iter wi)(hgo:GOk tgs.length g)
  (hg:∀C s₂ H₂ fp,PG (cxC X (tgs++cap) scope cl C s₂ H₂ fp) target g) (ht:∀C s₂ H₂ fp,PF (cxC X (tgs++cap) scope cl C s₂ H₂ fp) ifs tc) (he:∀C s₂ H₂ fp,PE (cxC X (tgs++cap) scope cl C s₂ H₂ fp) elt te)
  (hsw:swapsWith (.ListComp elt [⟨target,iter,ifs,0⟩] scope pos) (some (.Name y py)) spos.line X.env=pure true:=by rfl)
  (hs:∀x,foldedSetIterable iter X.env x=pure x:=by intro _;rfl) (hf:X.fn y=true \/ X.env.scope.names.lookup y=some .local:=by first | exact .inl rfl | exact .inr rfl | assumption):
  PS X (.Assign [.Name y py] (.ListComp elt [⟨target,iter,ifs,0⟩] scope pos) spos) (λD σ H=>jyx tgs.length idx wi g tc te σ H λx H1=>D.nx (σ.set i (some x)) H1):=by
 intro pins s σ H D I h
 rw[exec_Assign_Name_used _ _ _ _ hsw]
 refine wpAny_bind (wpAny_standAt (wpAny_bind ?_))
 show wpAny _ X.A (do let _<-comprehension (.ListComp elt [⟨target,iter,ifs,0⟩] scope pos) scope X.env _ (newList []) false (eval iter X.env) (some (assign (.Name y py) X.env))) _ _ s
 refine wpAny_bind (wpAny_mono (wpAny_comprehension_free (use:=some (assign (.Name y py) X.env)) (Q:=λ_ s'=>SP X pins D .next s') rfl hs O.clos O.kind O.names
  (wpAny_mono (hi pins s σ H _ I h) (λxv s₁ h₁=>wpAny_mono h₁ (λitv s₂ h₂=> ?_) λ_ _ e=>e) λ_ _ e=>e)) (λ_ s' hq=>wpAny_pure (wpAny_pure hq)) λ_ _ e=>e)
 obtain⟨it,fp,tn,J,H₂,rfl,I₂,T,st,hfp,rd⟩:=h₂
 refine jiq (RR:=λacc C=>compPost (model X.prog X.w) X.A X.xe (some (assign (.Name y py) X.env)) (λ_ s'=>SP X pins D .next s') acc C) (Fin:=λl H=>D.nx (σ.set i (some (.ref l))) H) O hc hgo hg ht he I₂ T st hfp rd ?_
 intro C σ5 H5 s5 hC hDC I5 q
 obtain⟨m,hn,_⟩:=I5.loc
 have I6:Inv X pins σ H5 s5:=jiv I₂ hfp hC I5 (Heap.SameBut.refl _ _)
 show wpAny _ X.A (assign (.Name y py) X.env (.ref s₂.heap.objs.size)) _ _ _
 refine wpAny_assign_Name (jjt I6 hN hy hly (v:= .ref s₂.heap.objs.size) rfl (λs7 I7 ⟨a,sb,ha⟩=> ?_) hf)
 have haC:C≠a:=by
  rcases ha with rfl | ha
  ·exact Nat.ne_of_gt (Nat.lt_of_lt_of_le I₂.lt hC)
  ·obtain⟨v,o,e,_⟩:=I₂.cell _ _ ha
   exact Nat.ne_of_gt (Nat.lt_of_lt_of_le (Heap.lt_size e) hC)
 refine⟨m,hn.sameBut sb haC,λh' sb'=>⟨_,H5,?_,q⟩⟩
 have hCn:H5 C=none:=I5.free
 refine I7.call' (ch:=[C]) rfl (Un.but sb') (HOk.sameBut I7.hok hCn sb') I7.bare λb hb=> ?_
 have eb:b=C:=by simpa using hb
 subst eb
 refine⟨.inr (Nat.le_trans I₂.sz hC),?_,λx c e=> ?_,λp hp=> ?_⟩
 ·exact Nat.ne_of_gt (Nat.lt_of_lt_of_le I₂.lt hC)
 ·obtain⟨v,o,e',_⟩:=I₂.cell _ _ e
  exact Nat.ne_of_lt (Nat.lt_of_lt_of_le (Heap.lt_size e') hC)
 ·exact Nat.ne_of_lt (Nat.lt_of_lt_of_le (Heap.lt_size (I₂.pin p hp).1) hC)
end
def FnG(P:Program)(w:World)(K:W.Frag)(mg:Str->Option Value)(base:Heap)(CX:CXT)(k:Nat)(x:Str)(sp:Sp):Prop:=
 ∃f fd ps,FnOk P w K mg base CX k f fd ps sp /\ mg x=some (.ref f) /\ W.keepIn K (.ref f)=true /\ jfc K fd ps []
def MethG(P:Program)(w:World)(K:W.Frag)(mg:Str->Option Value)(base:Heap)(CX:CXT)(k:Nat)(C:Addr)(m:Str)(sp:Sp):Prop:=
 ∃f fd ps,Meth K C m f /\ FnOk P w K mg base CX k f fd ps sp /\ jfc K fd ps []
def jxl(P:Program)(w:World)(K:W.Frag)(mg:Str->Option Value)(base:Heap)(CX:CXT)(k:Nat)(x:Str)(C:Addr)(sp:Sp):Prop:=
 ∃f fd ps,Mk K C f /\ FnOk P w K mg base CX k f fd ps sp /\ mg x=some (.ref C) /\ jfc K fd ps []
section
variable {X : Cx} {CX : CXT} {k : Nat} {C : Addr} {sp : Sp} {E : XK} {x m : Str} {p pos apos : Pos} {e o : Expr} {es : List Expr} {ta : TE} {t : TA}
theorem pe_g(G:FnG X.prog X.w X.K X.mg X.base CX k x sp)(hr:Room k X.A)(hx:jef CX X E)(ha:PA X (e::es) t)(hg:Gl X x:=by rfl)(hdb:(x==("__debug__":Str))=false:=by decide)
  (he:starEach (e::es) X.env=(false,eval e X.env)::starEach es X.env:=by rfl) (hpl:(backTo pos (starEach es X.env)).any (·.1)=false:=by rfl):
  PE X (.Call (.Name x p) (e::es) [] pos) (jyi sp [] E t):=by
 obtain⟨f,fd,ps,F,hm,hk,hb⟩:=G
 exact jzg F hr hg hm hk hb .nil hx ha hdb he hpl
theorem jjd(G:jxl X.prog X.w X.K X.mg X.base CX k x C sp)(hr:Room (k+1) X.A)(hx:jef CX X E)(ha:PA X (e::es) t)(hg:Gl X x:=by rfl)(hdb:(x==("__debug__":Str))=false:=by decide)
  (he:starEach (e::es) X.env=(false,eval e X.env)::starEach es X.env:=by rfl) (hpl:(backTo pos (starEach es X.env)).any (·.1)=false:=by rfl):
  PE X (.Call (.Name x p) (e::es) [] pos) (jp0 C sp [] E t):=by
 obtain⟨f,fd,ps,M,F,hm,hb⟩:=G
 exact jzq M F hr hg hm hb .nil hx ha hdb he hpl
theorem pe_mk0(G:jxl X.prog X.w X.K X.mg X.base CX k x C sp)(hr:Room (k+1) X.A)(hx:jef CX X E)(hg:Gl X x:=by rfl)(hdb:(x==("__debug__":Str))=false:=by decide):
  PE X (.Call (.Name x p) [] [] pos) (jp0 C sp [] E tNil):=by
 obtain⟨f,fd,ps,M,F,hm,hb⟩:=G
 exact jw1 M F hr hg hm hb .nil hx hdb
def jgt(P:Program)(w:World)(K:W.Frag)(mg:Str->Option Value)(base:Heap)(CX:CXT)(k:Nat)(m:Str)(E:XK)(ta:TE)(t:TA):TE:=λσ H Q=>ta σ H λx H1=>
 ∃a C dx fs sp,x= .ref a /\ H1 a=some (.ins C dx fs) /\ Cls K C /\ MethG P w K mg base CX k C m sp /\ fs.lookup m=none /\ t σ H1 λvs H2=>sp (x::vs) H2 Q E
theorem jd1{pl:Sem Bool}(he:PE X o ta)(hr:Room k X.A)(hx:jef CX X E)(ha:PA X (e::es) t)
  (hst:starEach (e::es) X.env=(false,eval e X.env)::starEach es X.env:=by rfl) (hpl:(backTo pos (starEach es X.env)).any (·.1)=false:=by rfl)
  (ht:eval (.Call (.Attribute o m apos) (e::es) [] pos) X.env=(do
   let ov<-eval o X.env
   standAt apos.atName
   let (f,first)<-holding [ov] (getMethod ov m pl)
   callWith pos f first (backTo pos (starEach (e::es) X.env)) (backToKw pos (keywordEach [] X.env))):=by rfl):
  PE X (.Call (.Attribute o m apos) (e::es) [] pos) (jgt X.prog X.w X.K X.mg X.base CX k m E ta t):=by
 intro pins s σ H Q I h
 refine W.methodCall_KW (pl:=pl) (thn (he pins s σ H _ I h) λu s1 ⟨x,H1,I1,rx,a,C,dx,fs,sp,ex,ea,c,⟨f,fd,ps,hm,F,hb⟩,l,q⟩=> ?_) ht
 subst ex
 obtain rfl:u=Value.ref a:=rx
 refine jgm I1 ea c hm l ?_
 refine W.callWith_K (first:=[.ref a]) (h₀:=X.base) I.ok.mod.kin hm.kp (thn (ha pos pins s1 σ H1 _ I1 q) λus s2 ⟨vs,H2,I2,r,q2⟩=>⟨I2.kIn,?_⟩) hst hpl
 exact jt5 (us:= .ref a::us) (vs:= .ref a::vs) (dvs:=[]) (ds:=[]) F hr hb .nil hx I2 (.cons rfl r) (by simpa using q2)
theorem je2{pl:Sem Bool}(he:PE X o ta)(hr:Room k X.A)(hx:jef CX X E)
  (ht:eval (.Call (.Attribute o m apos) [] [] pos) X.env=(do
   let ov<-eval o X.env
   standAt apos.atName
   let (f,first)<-holding [ov] (getMethod ov m pl)
   callWith pos f first (backTo pos (starEach [] X.env)) (backToKw pos (keywordEach [] X.env))):=by rfl):
  PE X (.Call (.Attribute o m apos) [] [] pos) (jgt X.prog X.w X.K X.mg X.base CX k m E ta tNil):=by
 intro pins s σ H Q I h
 refine W.methodCall_KW (pl:=pl) (thn (he pins s σ H _ I h) λu s1 ⟨x,H1,I1,rx,a,C,dx,fs,sp,ex,ea,c,⟨f,fd,ps,hm,F,hb⟩,l,q⟩=> ?_) ht
 subst ex
 obtain rfl:u=Value.ref a:=rx
 refine jgm I1 ea c hm l ?_
 exact W.callWith_K0 (first:=[.ref a]) I1.kIn hm.kp (jt5 (us:=[.ref a]) (vs:=[.ref a]) (dvs:=[]) (ds:=[]) F hr hb .nil hx I1 (.cons rfl .nil) q)
end
abbrev RU:=V->V->Hp->VK->Prop
def uAdd(K:W.Frag):RU:=λx y H Q=>match x,y with
 | .int i,.int j=>Q (.int (i+j)) H
 | .str a,.str b=>a.length+b.length<=sizeLine /\ Q (.str (a++b)) H
 | .ref a,.ref b=>rCat (.ref a) (.ref b) H Q \/ rCatT K (.ref a) (.ref b) H Q
 | _,_=>False
theorem jzs{X:Cx}:OpR X (binaryOp .Add) (uAdd X.K):=by
 intro pins s σ H x y v u Q I rx ry h
 cases x<;>cases y<;>first | exact h.elim | skip
 ·exact op_add pins s σ H _ _ v u Q I rx ry ⟨_,_,rfl,rfl,h⟩
 ·exact jpl pins s σ H _ _ v u Q I rx ry ⟨_,_,rfl,rfl,h.1,h.2⟩
 ·rcases h with h | h
  ·exact op_cat pins s σ H _ _ v u Q I rx ry h
  ·exact jz7 pins s σ H _ _ v u Q I rx ry h
mutual
def Rep(H:Hp):V->PyData->Prop
 | v,.none=>v= .non
 | v,.bool b=>v= .bl b
 | v,.int i=>v= .int i
 | v,.str x=>v= .str x
 | v,.list ds=>∃a vs,v= .ref a /\ H a=some (.lst vs) /\ Reps H vs ds
 | v,.tuple ds=>∃a vs,v= .ref a /\ H a=some (.tup vs) /\ Reps H vs ds
 | _,.dict _=>False
def Reps(H:Hp):List V->List PyData->Prop
 | [],[]=>True
 | v::vs,d::ds=>Rep H v d /\ Reps H vs ds
 | _,_=>False
end
mutual
theorem Rep.same{H H':Hp}(e:Same H H'):∀{v:V} {d:PyData},Rep H v d->Rep H' v d
 | v,.none,h=>h
 | v,.bool b,h=>h
 | v,.int i,h=>h
 | v,.str x,h=>h
 | v,.list ds,h=>by
  simp only[Rep] at h ⊢
  obtain⟨a,vs,h1,h2,h3⟩:=h
  exact⟨a,vs,h1,e _ _ h2,Reps.same e h3⟩
 | v,.tuple ds,h=>by
  simp only[Rep] at h ⊢
  obtain⟨a,vs,h1,h2,h3⟩:=h
  exact⟨a,vs,h1,e _ _ h2,Reps.same e h3⟩
 | _,.dict _,h=>by simp only[Rep] at h
theorem Reps.same{H H':Hp}(e:Same H H'):∀{vs:List V} {ds:List PyData},Reps H vs ds->Reps H' vs ds
 | [],[],_=>by simp only[Reps]
 | v::vs,d::ds,h=>by
  simp only[Reps] at h ⊢
  exact⟨Rep.same e h.1,Reps.same e h.2⟩
 | [],_::_,h=>by simp only[Reps] at h
 | _::_,[],h=>by simp only[Reps] at h
end
mutual
theorem jfw{P:Program}{w:World}{H:Hp}{h:Heap}(hk:HOk P w H h):∀{x:V} {v:Value} {d:PyData},RelV x v->Rep H x d->∃as,Reads h v d as
 | x,v,.none,r,q=>by simp only[Rep] at q;subst q;cases r;exact⟨_,.none⟩
 | x,v,.bool b,r,q=>by simp only[Rep] at q;subst q;cases r;exact⟨_,.bool b⟩
 | x,v,.int i,r,q=>by simp only[Rep] at q;subst q;obtain⟨t,rfl⟩:=r;exact⟨_,.int i t⟩
 | x,v,.str y,r,q=>by simp only[Rep] at q;subst q;obtain⟨t,rfl⟩:=r;exact⟨_,.str y t⟩
 | x,v,.list ds,r,q=>by
  simp only[Rep] at q
  obtain⟨a,vs,rfl,e,q⟩:=q
  cases r
  obtain⟨_,its,n,rv,g⟩:=hk a _ e
  obtain⟨as,z⟩:=jhu hk rv q
  exact⟨_,.list g rfl rfl (by simpa using z)⟩
 | x,v,.tuple ds,r,q=>by
  simp only[Rep] at q
  obtain⟨a,vs,rfl,e,q⟩:=q
  cases r
  obtain⟨_,its,rv,o,g,hc,n,hd⟩:=hk a _ e
  obtain⟨as,z⟩:=jhu hk rv q
  exact⟨_,.tuple g hc hd (by simpa using z)⟩
 | _,_,.dict _,_,q=>by simp only[Rep] at q
theorem jhu{P:Program}{w:World}{H:Hp}{h:Heap}(hk:HOk P w H h):∀{xs:List V} {us:List Value} {ds:List PyData},Vals xs us->Reps H xs ds->∃as,ReadsAll h us ds as
 | _,_,[],.nil,_=>⟨_,.nil⟩
 | _,_,d::ds,.cons r rs,q=>by
  simp only[Reps] at q
  obtain⟨as,z⟩:=jfw hk r q.1
  obtain⟨bs,y⟩:=jhu hk rs q.2
  exact⟨_,.cons z y⟩
 | _,_,_::_,.nil,q=>by simp only[Reps] at q
 | _,_,[],.cons _ _,q=>by simp only[Reps] at q
end
def jh1(d:PyData):Prop:=SeqAt.shaped d=true
def uEq:RU:=λx y H Q=>(scal x y=true /\ Q (.bl (decide (x=y))) H) \/ ∃d e,Rep H x d /\ Rep H y e /\ jh1 d /\ jh1 e /\ Q (.bl (PyData.eqv d e)) H
def uNe:RU:=λx y H Q=>(scal x y=true /\ Q (.bl (!decide (x=y))) H) \/ ∃d e,Rep H x d /\ Rep H y e /\ jh1 d /\ jh1 e /\ Q (.bl (!PyData.eqv d e)) H
section
variable {X : Cx}
theorem jb9(hu:X.A.units+64<cLine):OpR X (compareOp .Eq) uEq:=by
 intro pins s σ H x y v u Q I rx ry h
 rcases h with h | ⟨d,e,hd,he,sd,se,q⟩
 ·exact op_eq pins s σ H x y v u Q I rx ry h
 ·obtain⟨as,ra⟩:=jfw I.hok rx hd
  obtain⟨bs,rb⟩:=jfw I.hok ry he
  exact eq_dataH ra rb sd se hu ⟨.bl _,H,I,rfl,q⟩
theorem jct(hu:X.A.units+64<cLine):OpR X (compareOp .NotEq) uNe:=by
 intro pins s σ H x y v u Q I rx ry h
 rcases h with h | ⟨d,e,hd,he,sd,se,q⟩
 ·exact op_ne pins s σ H x y v u Q I rx ry h
 ·obtain⟨as,ra⟩:=jfw I.hok rx hd
  obtain⟨bs,rb⟩:=jfw I.hok ry he
  exact ne_dataH ra rb sd se hu ⟨.bl _,H,I,rfl,q⟩
def jun(P:Program)(w:World)(K:W.Frag)(a:Addr)(kvs:List (Key×V)):Prop:=
 ∀h:Heap,K.In h->(a==sysModules)=false /\ ∃vs,KV kvs vs /\ h.DictOf (jc7 P w) a vs
def jvq(P:Program)(w:World)(K:W.Frag)(H:Hp)(a:Addr)(y:V)(r:Option V):Prop:=
 DGet H a y r \/ (∃kvs k,jun P w K a kvs /\ y=kV k /\ r=valV kvs k) \/ ∃o kvs k,H a=some (.frz o (.dK kvs)) /\ y=kV k /\ r=valV kvs k
def rIxD(P:Program)(w:World)(K:W.Frag):R2:=λx y H Q=>∃a v,x= .ref a /\ jvq P w K H a y (some v) /\ Q v H
theorem jxt(hu:X.A.units+64<cLine):IxR X (rIxD X.prog X.w X.K):=by
 intro value slice pins s σ H x y v u Q I rx ry h hs
 obtain⟨a,z,rfl,g,q⟩:=h
 cases rx
 rcases g with g | ⟨kvs,k,kd,rfl,e⟩ | ⟨o,kvs,k,kd,rfl,e⟩
 ·exact tail_any (jmn I g) PySem.F.slot_dict_getitem.lookup (jqw (by omega) I g ry λw' s3 I3 rw'=>⟨z,H,I3,rw',q⟩) hs
 ·obtain⟨hd,vs,rel,dd⟩:=kd _ I.kIn
  obtain⟨w',hw,rw'⟩:=RelO.some_of (v:=z) (o:=valueAt vs k) (by rw[e];exact rel.val k)
  exact tail_any dd.typeIs PySem.F.slot_dict_getitem.lookup (wpAny_getItem_of (jih ry) dd.mapOf hw ⟨z,H,I.tok _,rw',q⟩) hs
 ·obtain⟨_,_,hd,vs,rel,dd⟩:=(show jcm X.prog X.w H s.heap a (.frz o (.dK kvs)) from I.hok a _ kd)
  obtain⟨w',hw,rw'⟩:=RelO.some_of (v:=z) (o:=valueAt vs k) (by rw[e];exact rel.val k)
  exact tail_any dd.typeIs PySem.F.slot_dict_getitem.lookup (wpAny_getItem_of (jih ry) dd.mapOf hw ⟨z,H,I.tok _,rw',q⟩) hs
def uIx(P:Program)(w:World)(K:W.Frag):R2:=λx y H Q=>rIx K x y H Q \/ rIxD P w K x y H Q
theorem ix_U(hu:X.A.units+64<cLine):IxR X (uIx X.prog X.w X.K):=IxR.or ix_seq (jxt hu)
def uIn(P:Program)(w:World)(K:W.Frag)(neg:Bool):RU:=λx y H Q=>
 rIn K neg x y H Q \/ (∃i j,x= .str i /\ y= .str j /\ Q (.bl (if neg then !(!(Builtin.Str.occurrences j i 0 j.length 1).isEmpty) else !(Builtin.Str.occurrences j i 0 j.length 1).isEmpty)) H) \/
 ∃a o,y= .ref a /\ jvq P w K H a x o /\ Q (.bl (if neg then !o.isSome else o.isSome)) H
theorem op_inU(hu:X.A.units+64<cLine):OpR X (compareOp .In) (uIn X.prog X.w X.K false):=by
 intro pins s σ H x y v u Q I rx ry h
 rcases h with h | h | ⟨a,o,rfl,g,q⟩
 ·exact jpy pins s σ H x y v u Q I rx ry h
 ·exact jqs pins s σ H x y v u Q I rx ry h
 ·cases ry
  rcases g with g | ⟨kvs,k,kd,rfl,e⟩ | ⟨o',kvs,k,kd,rfl,e⟩
  ·exact d_in (by omega) I g rx λs' I'=>⟨.bl _,H,I',rfl,q⟩
  ·obtain⟨hd,vs,rel,dd⟩:=kd _ I.kIn
   refine wpAny_in_of (jih rx) hd dd.mapOf ?_
   rw[<-(rel.val k).isSome_eq,<-e]
   exact⟨.bl _,H,I.tok _,rfl,q⟩
  ·obtain⟨_,_,hd,vs,rel,dd⟩:=(show jcm X.prog X.w H s.heap a (.frz o' (.dK kvs)) from I.hok a _ kd)
   refine wpAny_in_of (jih rx) hd dd.mapOf ?_
   rw[<-(rel.val k).isSome_eq,<-e]
   exact⟨.bl _,H,I.tok _,rfl,q⟩
theorem jre(hu:X.A.units+64<cLine):OpR X (compareOp .NotIn) (uIn X.prog X.w X.K true):=by
 intro pins s σ H x y v u Q I rx ry h
 rcases h with h | h | ⟨a,o,rfl,g,q⟩
 ·exact jk0 pins s σ H x y v u Q I rx ry h
 ·exact jl3 pins s σ H x y v u Q I rx ry h
 ·cases ry
  rcases g with g | ⟨kvs,k,kd,rfl,e⟩ | ⟨o',kvs,k,kd,rfl,e⟩
  ·exact jyz (by omega) I g rx λs' I'=>⟨.bl _,H,I',rfl,q⟩
  ·obtain⟨hd,vs,rel,dd⟩:=kd _ I.kIn
   refine wpAny_notIn_of (jih rx) hd dd.mapOf ?_
   rw[<-(rel.val k).isSome_eq,<-e]
   exact⟨.bl _,H,I.tok _,rfl,q⟩
  ·obtain⟨_,_,hd,vs,rel,dd⟩:=(show jcm X.prog X.w H s.heap a (.frz o' (.dK kvs)) from I.hok a _ kd)
   refine wpAny_notIn_of (jih rx) hd dd.mapOf ?_
   rw[<-(rel.val k).isSome_eq,<-e]
   exact⟨.bl _,H,I.tok _,rfl,q⟩
def rSlS:V->Option Int->Option Int->Hp->VK->Prop:=λx lo hi H Q=>∃z,x= .str z /\ z.length<=sizeLine /\ Q (.str (Txt.slice z lo hi)) H
def uSl(K:W.Frag):V->Option Int->Option Int->Hp->VK->Prop:=λx lo hi H Q=>rSlL K x lo hi H Q \/ rSlT K x lo hi H Q
theorem sl_U:SlR X (uSl X.K):=SlR.or jz3 sl_tup
def rLenU(P:Program)(w:World)(K:W.Frag):List V->Hp->VK->Prop:=λxs H Q=>(∃p ys,xs=[.ref p] /\ (SqL K H p ys \/ SqT K H p ys) /\ Q (.int ys.length) H) \/ ∃z,xs=[.str z] /\ z.length<=sizeLine /\ Q (.int z.length) H
theorem jqk:jcj X (.builtin "len") (rLenU X.prog X.w X.K):=jcj.or jl1 jkv
def rAll(K:W.Frag):List V->Hp->VK->Prop:=λxs H Q=>∃(p:Addr) (bs:List Bool),xs=[.ref p] /\ SqL K H p (bs.map V.bl) /\ Q (.bl (bs.all id)) H
def tyVal:V->Value
 | .ty n=> .type n
 | .ref a=> .ref a
 | _=> .none
def rIsi(K:W.Frag):List V->Hp->VK->Prop:=λxs H Q=>∃x c t b,xs=[x,c] /\ ((∃n,c= .ty n) \/ ∃a,c= .ref a) /\ TyOf K H x t /\ W.kitOne K t (tyVal c)=some b /\ Q (.bl b) H
theorem jvn:jcj X (.builtin "isinstance") (rIsi X.K):=by
 intro pins s σ H xs us Q I r h
 obtain⟨x,c,t,b,rfl,hc,ty,e,q⟩:=h
 obtain⟨u,w',rfl,rx,rc⟩:=vals2 r
 have ec:w'=tyVal c:=by
  rcases hc with⟨n,rfl⟩ | ⟨a,rfl⟩<;>exact rc
 subst ec
 exact jrp I rx ty e λtk=>⟨.bl b,H,I.tok tk,rfl,q⟩
def GV(mg:Str->Option Value)(x:Str)(v:V):Prop:=∃u,mg x=some u /\ RelV v u
theorem jp6{x:Str}{v:V}{pos:Pos}(h:GV X.mg x v)(hg:Gl X x:=by rfl)(hd:(x==("__debug__":Str))=false:=by decide):PE X (.Name x pos) (tC v):=by
 obtain⟨u,hm,r⟩:=h
 exact jyd hg hm r hd
theorem jxo{a:Expr}{ta:TE}{pos:Pos}(ha:PE X a ta):PE X (.UnaryOp .Not a pos) (λσ H Q=>ta σ H λx H1=>∃k,TruV X.K x H1 k /\ Q (.bl (!k)) H1):=by
 intro pins s σ H Q I h
 refine UnaryOp_ (thn (ha pins s σ H _ I h) λv s1 ⟨x,H1,I1,r1,q1⟩=> ?_)
 exact not_of (thn (jx5 pins s1 σ H1 x v (λk H2=>Q (.bl (!k)) H2) I1 r1 q1) λk s2 ⟨H2,I2,q2⟩=>⟨.bl (!k),H2,I2,rfl,q2⟩)
end
theorem jex:bootBuiltins "len"=some (.builtin "len"):=by decide+kernel
theorem jxf:bootBuiltins "all"=some (.builtin "all"):=by decide+kernel
theorem jj4:bootBuiltins "isinstance"=some (.builtin "isinstance"):=by decide+kernel
theorem bt_max:bootBuiltins "max"=some (.builtin "max"):=by decide+kernel
theorem jk5:bootBuiltins "sorted"=some (.builtin "sorted"):=by decide+kernel
theorem jk2:bootBuiltins "int"=some (.type "int"):=by decide+kernel
theorem jis:bootBuiltins "str"=some (.type "str"):=by decide+kernel
theorem jry:bootBuiltins "list"=some (.type "list"):=by decide+kernel
theorem jw5:bootBuiltins "tuple"=some (.type "tuple"):=by decide+kernel
theorem pe_ty{X:Cx}{x:Str}{n:String}{pos:Pos}(hm:X.mg x=none)(hv:bootBuiltins x=some (.type n))(hg:Gl X x:=by rfl)(hn:x≠"__name__":=by decide)(hd:(x==("__debug__":Str))=false:=by decide):PE X (.Name x pos) (tC (.ty n)):=jy5 hg hm hv rfl hn hd
def CXE(P:Program)(w:World):CXT:=λouter H s E e s'=>
 ∃(ea C:Addr) (a0:Value) (B:Heap) (H':Hp),e= .ref ea /\ s'.os=s.os /\ AllBare s'.gens /\ Un (frs outer) [] H H' s.heap s'.heap /\ HOk P w H' B /\ Heap.FlyingW B outer ea (.ref C) a0 s'.heap /\
  (∀b o,s.heap.get? b=some o->b∉frs outer->∃o',B.get? b=some o') /\ (∀b o,s.heap.get? b=some o->H b=none->b∉frs outer->B.get? b=some o) /\ E (.ref C) none H'
theorem jhm{P:Program}{w:World}{X:Cx}:jef (CXE P w) X E0:=λ_ _ _ _ _ _ _ ⟨_,_,_,_,_,_,_,_,_,_,_,_,_,h⟩=>h.elim
section
variable {P : Program} {w : World} {K : W.Frag} {mg : Str -> Option Value} {base : Heap} {N : List Str} {qual : Str} {scope : Scope} {f : Addr} {cd : Value} {A : Around} {outer : List Env} {s₀ : Shared} {H₀ : Hp} {E : XK}
theorem jap:jef (CXE P w) (cxOf (CXE P w) P w K mg base N qual scope f cd A outer s₀ H₀ E) E:=by
 intro pins σ H s e s' I h
 obtain⟨ea,C,a0,B,H',rfl,hos,hg,u,hok,fl,hB,hBk,hE⟩:=h
 have fsE:frs (cxOf (CXE P w) P w K mg base N qual scope f cd A outer s₀ H₀ E).stack=s₀.heap.objs.size::frs outer:=rfl
 have ltL:∀{b o},s₀.heap.get? b=some o->b≠s₀.heap.objs.size:=fun{b o} q=>Nat.ne_of_lt (Heap.lt_size q)
 have nst:∀{b o},s₀.heap.get? b=some o->b∉frs outer->b∉frs (cxOf (CXE P w) P w K mg base N qual scope f cd A outer s₀ H₀ E).stack:=fun{b o} q n hm=>by
  rw[fsE] at hm
  rcases List.mem_cons.mp hm with z | z
  ·exact ltL q z
  ·exact n z
 have bu:=I.base
 refine wpAny_leaves_onW (env:=envOfC qual scope s₀.heap.objs.size f cd) (outer:=outer) (L:=s₀.heap.objs.size) I.ok.frames rfl fl λh'' fl'' sm=> ?_
 have nf:∀{b},b∈frs (cxOf (CXE P w) P w K mg base N qual scope f cd A outer s₀ H₀ E).stack->∀o,s'.heap.get? b=some o->∀vs,o.data≠ .fields vs:=fun{b} hb o ho=>by
  obtain⟨_,o',ho',hd⟩:=fl.2.2.1.mem (b:=b) hb
  rw[ho] at ho';cases ho';exact hd
 refine⟨ea,C,a0,B,H',rfl,hos.trans I.os,hg,⟨?_,?_,?_,?_,?_,?_,?_⟩,hok,fl'',?_,?_,hE⟩
 ·intro b o q n nm _
  have q1:=bu.keep b o q n nm (by simp[cxOf])
  have n1:=bu.free b o q n (by simp[cxOf])
  exact fl''.1 b o (hBk b o q1 n1 (nst q nm))
 ·intro b o q n hm _
  obtain⟨sl,q1⟩:=bu.slot b o q n hm (by simp[cxOf])
  have n1:=bu.free b o q n (by simp[cxOf])
  have hm':b∈frs (cxOf (CXE P w) P w K mg base N qual scope f cd A outer s₀ H₀ E).stack:=by rw[fsE];exact List.mem_cons_of_mem _ hm
  obtain⟨sl2,q2⟩:=u.slot b _ q1 n1 hm' (by simp)
  obtain⟨sl3,q3⟩:=sm b _ q2 (nf hm' _ q2)
  exact⟨sl3,q3⟩
 ·intro b o q n _
  have n1:=bu.free b o q n (by simp[cxOf])
  obtain⟨o1,q1⟩:=bu.there b o q (by simp[cxOf])
  exact u.free b o1 q1 n1 (by simp)
 ·intro b o q _
  obtain⟨o1,q1⟩:=bu.there b o q (by simp[cxOf])
  by_cases hm:b∈frs outer
  ·have hm':b∈frs (cxOf (CXE P w) P w K mg base N qual scope f cd A outer s₀ H₀ E).stack:=by rw[fsE];exact List.mem_cons_of_mem _ hm
   obtain⟨o2,q2⟩:=u.there b o1 q1 (by simp)
   obtain⟨sl3,q3⟩:=sm b _ q2 (nf hm' _ q2)
   exact⟨_,q3⟩
  ·obtain⟨o2,q2⟩:=hB b o1 q1 (nst q hm)
   exact⟨o2,fl''.1 b o2 q2⟩
 ·intro b xs q;exact u.tups b xs (bu.tups b xs q)
 ·intro b o v q;exact u.frzs b o v (bu.frzs b o v q)
 ·intro b ps q
  obtain⟨m1,q1⟩:=bu.tbls b ps q
  obtain⟨m2,q2⟩:=u.tbls b _ q1
  exact⟨m1++m2,by rw[q2,Array.append_assoc]⟩
 ·intro b o q nm
  obtain⟨o1,q1⟩:=bu.there b o q (by simp[cxOf])
  exact hB b o1 q1 (nst q nm)
 ·intro b o q n nm
  have q1:=bu.keep b o q n nm (by simp[cxOf])
  have n1:=bu.free b o q n (by simp[cxOf])
  exact hBk b o q1 n1 (nst q nm)
theorem raiseE{pins:List (Addr×Obj)}{σ:St}{H:Hp}{s:Shared}{h':Heap}{e C:Addr}{vs:List Value}(I:Inv (cxOf (CXE P w) P w K mg base N qual scope f cd A outer s₀ H₀ E) pins σ H s)
  (hx:Heap.MadeExcOf s.heap h' e (.ref C) vs) (hE:E (.ref C) none H):(cxOf (CXE P w) P w K mg base N qual scope f cd A outer s₀ H₀ E).xe (.ref e) {s with heap:=h'}:=by
 have fsE:frs (cxOf (CXE P w) P w K mg base N qual scope f cd A outer s₀ H₀ E).stack=s₀.heap.objs.size::frs outer:=rfl
 have bu:=I.base
 have ltL:∀{b o},s₀.heap.get? b=some o->b≠s₀.heap.objs.size:=fun{b o} q=>Nat.ne_of_lt (Heap.lt_size q)
 have nst:∀{b o},s₀.heap.get? b=some o->b∉frs outer->b∉(s₀.heap.objs.size::frs outer):=fun{b o} q n hm=>by
  rcases List.mem_cons.mp hm with z | z
  ·exact ltL q z
  ·exact n z
 have hin:∀env∈(envOfC qual scope s₀.heap.objs.size f cd::outer),∀a,env.frame=some a->a∈(s₀.heap.objs.size::frs outer):=λenv he b hb=>by
  rcases List.mem_cons.mp he with rfl | he
  ·have:s₀.heap.objs.size=b:=Option.some.inj hb
   subst this;exact List.mem_cons_self ..
  ·exact List.mem_cons_of_mem _ (List.mem_filterMap.mpr ⟨env,he,hb⟩)
 have stk:s.heap.FunFrames base (envOfC qual scope s₀.heap.objs.size f cd::outer):=I.stack
 have hl:=W.funFrames_hide (as:=s₀.heap.objs.size::frs outer) stk hin
 refine wpAny_leaves_madeW (base:=W.hideAll s.heap (s₀.heap.objs.size::frs outer)) (h:=s.heap) (env:=envOfC qual scope s₀.heap.objs.size f cd) (outer:=outer) (L:=s₀.heap.objs.size) I.ok.frames rfl
  (λb o q=>W.of_hideAll _ q) hl hx λh'' t fl _ _ sm=> ?_
 have hide:∀{b o},s.heap.get? b=some o->b∉(s₀.heap.objs.size::frs outer)->(W.hideAll s.heap (s₀.heap.objs.size::frs outer)).get? b=some o:=fun{b o} q n=>W.hideAll_get _ q n
 have nf:∀{b},b∈frs outer->∀o,s.heap.get? b=some o->∀vs,o.data≠ .fields vs:=fun{b} hb o ho=>by
  obtain⟨_,o',ho',hd⟩:=stk.mem (b:=b) (by rw[show List.filterMap (·.frame) (envOfC qual scope s₀.heap.objs.size f cd::outer)=s₀.heap.objs.size::frs outer from rfl];exact List.mem_cons_of_mem _ hb)
  rw[ho] at ho';cases ho';exact hd
 have thr:∀b o,s₀.heap.get? b=some o->b∉frs outer->∃o',(W.hideAll s.heap (s₀.heap.objs.size::frs outer)).get? b=some o':=λb o q nm=>by
  obtain⟨o1,q1⟩:=bu.there b o q (by simp[cxOf])
  exact⟨o1,hide q1 (nst q nm)⟩
 have kpt:∀b o,s₀.heap.get? b=some o->H₀ b=none->b∉frs outer->(W.hideAll s.heap (s₀.heap.objs.size::frs outer)).get? b=some o:=λb o q n nm=>
  hide (bu.keep b o q n nm (by simp[cxOf])) (nst q nm)
 refine⟨e,C,.ref t,_,H,rfl,I.os,I.bare,⟨?_,?_,?_,?_,bu.tups,bu.frzs,bu.tbls⟩,?_,fl,thr,kpt,hE⟩
 ·intro b o q n nm _
  exact fl.1 b o (kpt b o q n nm)
 ·intro b o q n hm _
  obtain⟨sl,q1⟩:=bu.slot b o q n hm (by simp[cxOf])
  obtain⟨sl3,q3⟩:=sm b _ (hx.keeps b _ q1) (nf hm _ q1)
  exact⟨sl3,q3⟩
 ·intro b o q n _;exact bu.free b o q n (by simp[cxOf])
 ·intro b o q _
  by_cases hm:b∈frs outer
  ·obtain⟨o1,q1⟩:=bu.there b o q (by simp[cxOf])
   obtain⟨sl3,q3⟩:=sm b _ (hx.keeps b _ q1) (nf hm _ q1)
   exact⟨_,q3⟩
  ·obtain⟨o2,q2⟩:=thr b o q hm
   exact⟨o2,fl.1 b o2 q2⟩
 ·intro a o q
  have frn:=I.stkFree
  rw[fsE] at frn
  refine(I.hok a o q).stay (λb u hb q'=>hide q' λhm=> ?_) (λ_ z=>z) λ_ _ z=>z
  have n:=frn b hm
  rcases hb with rfl | hb
  ·rw[q] at n;cases n
  ·rw[hb] at n;cases n
structure Exc (K:W.Frag) (mg:Str->Option Value) (x:Str) (C:Addr):Prop where
 at_:W.nsIn K mainGlobals x=some (some (.ref C))
 ex:∃bmB newId B initId,W.excIn K C bmB newId=true /\ ExcBaseFacts B newId initId bmB
 mg_:mg x=some (.ref C)
def RaiseK(C:Addr)(E:XK)(v:V)(H:Hp):Prop:=∃v',[v]=[v'] /\ E (.ref C) none H
def jxc(C:Addr)(E:XK)(te:TE):TS:=λ_ σ H=>te σ H λv H1=>RaiseK C E v H1
theorem jbc{x:Str}{C:Addr}{e₀:Expr}{te:TE}{np cpos pos:Pos}(O:Exc K mg x C)
  (he:PE (cxOf (CXE P w) P w K mg base N qual scope f cd A outer s₀ H₀ E) e₀ te) (hh:Room 0 (A.deeper (envOfC qual scope s₀.heap.objs.size f cd)))
  (hg:Gl (cxOf (CXE P w) P w K mg base N qual scope f cd A outer s₀ H₀ E) x:=by rfl) (hdb:(x==("__debug__":Str))=false:=by decide)
  (hst:starEach [e₀] (envOfC qual scope s₀.heap.objs.size f cd)=[(false,eval e₀ (envOfC qual scope s₀.heap.objs.size f cd))]:=by rfl):
  PS (cxOf (CXE P w) P w K mg base N qual scope f cd A outer s₀ H₀ E) (.Raise (some (.Call (.Name x np) [e₀] [] cpos)) none pos) (jxc C E te):=by
 intro pins s σ H D I h
 obtain⟨bmB,newId,B,initId,q,FB⟩:=O.ex
 have hC0:W.excIn K C bmB newId=true:=q
 have cls:∀{h:Heap},K.In h->∃bm N nm q bs hdct sn sub ab col dd k0 k1 k2 k3 k5 mN,h.get? C=some (excClassObj nm q C N bs bm hdct sn sub ab col dd k0 k1 k2 k3 k5 newId) /\ h.Ns N mN /\ mN "__init__"=none /\ OwnTail h bmB bm:=fun{h} X=>by
  unfold W.excIn at q
  split at q
  ·rename_i dd cd sl ho
   split at q
   ·rename_i C' bm k0 k1 k2 k3 n k5 hm hs
    simp only[Bool.and_eq_true,beq_iff_eq,Bool.not_eq_true'] at q
    obtain⟨⟨⟨⟨⟨rfl,rfl⟩,hdel⟩,ht⟩,hok⟩,hni⟩:=q
    obtain⟨nm,bs,mro,ns,qn,hd,sn,sub,ab,col,del⟩:=cd
    dsimp only at hm hdel hok hni
    subst hm hdel
    have hsl:sl=#[k0,k1,k2,k3,some (.builtin n),k5]:=by
     obtain⟨l⟩:=sl
     simp only at hs
     rw[hs]
    subst hsl
    exact⟨bm,ns,nm,qn,bs,hd,sn,sub,ab,col,dd,k0,k1,k2,k3,k5,_,X _ _ ho,.of_isNs (W.isNs_of_in X hok),W.nsMap_none_of_in X hok hni,W.tail_of_in X ht⟩
   ·cases q
  ·cases q
 obtain⟨tl,Nc,nm,qn,bs,hdct,sn,sub,ab,col,dd,k0,k1,k2,k3,k5,mN,hC,hN,hni,T⟩:=cls I.ok.mod.kin
 refine wpAny_Raise_call_subT (C:=C) (nm:=nm) (q:=qn) (N:=Nc) (bs:=bs) (bm:=tl) (hdct:=hdct) (sn:=sn) (sub:=sub) (ab:=ab) (col:=col) (dd:=dd) (k0:=k0) (k1:=k1) (k2:=k2) (k3:=k3) (k5:=k5)
  FB (mN:=mN) (T.hasType FB.hasBase) hh.hd (by show(backTo cpos (starEach [e₀] (envOfC qual scope s₀.heap.objs.size f cd))).any (·.1)=false;rw[hst];rfl) hni (jgl I hg O.mg_ ⟨rfl,?_⟩ hdb)
 show wpAny _ _ (evalArgs (.ref C) true (backTo cpos (starEach [e₀] (envOfC qual scope s₀.heap.objs.size f cd))) []) _ _ s
 have hA:=(ja0 he ja7 (by show starEach [e₀] (envOfC qual scope s₀.heap.objs.size f cd)=_;rw[hst];rfl)) cpos pins s σ H (λvs H1=>∃v,vs=[v] /\ E (.ref C) none H1) I h
 rw[show starEach [e₀] (cxOf (CXE P w) P w K mg base N qual scope f cd A outer s₀ H₀ E).env=[(false,eval e₀ (envOfC qual scope s₀.heap.objs.size f cd))] from hst] at hA
 rw[hst]
 refine Calls.evalArgs_plain (wpAny_mono hA (λus s₂ ⟨vs,H1,I1,r,⟨v,hl,q1⟩⟩=> ?_) λ_ _ y=>y)
 have kb:=I1.bk
 refine⟨rfl,by show us.length<=sizeLine;rw[<-r.length,hl];exact(by decide:1<=sizeLine),kb _ _ hC,hN.keeps kb,T.keeps kb,λh' e hm=>raiseE I1 hm q1⟩
theorem Fun.okE{x qual:Str}{st:Stmt}{f:Addr}{fd:FuncData}{N ps:List Str}{k:Nat}{sp:Sp}(F:Fun K x qual st f fd)(S:FnScope N ps (jaa st))(len:∀vs H Q E,sp vs H Q E->vs.length=ps.length)
  (hbody:∀(cdv:Value) (A:Around) (outer:List Env) (s:Shared) (H:Hp) (vs:List V) (Q:VK) (E:XK),Room k (A.deeper (envOfC qual (jaa st) s.heap.objs.size f cdv))->sp vs H Q E->
   ∃t,PSs (cxOf (CXE P w) P w K mg base N qual (jaa st) f cdv A outer s H E) (jdc st) t /\ t {nx:=λ_ H'=>Q .non H',rt:=Q} (start N vs) H):FnOk P w K mg base (CXE P w) (k+1) f fd ps sp:=by
 obtain⟨oc,od,kV,doc,pm,an,cdv,ct,osl,rfl,lk,hcd⟩:=F.ex
 exact fn_of lk hcd S len λA outer s H vs Q E hr hsp=>hbody cdv A outer s H vs Q E hr hsp
theorem ownE:PassesOwn (model P w) (A.deeper (envOfC qual scope s₀.heap.objs.size f cd)) (envOfC qual scope s₀.heap.objs.size f cd) (cxOf (CXE P w) P w K mg base N qual scope f cd A outer s₀ H₀ E).xe:=PassesOwn.leaving
theorem cxe_out{H:Hp}{s:Shared}{e:Value}{s':Shared}(h:CXE P w [] H s (λ_ _ _=>False) e s'):False:=by
 obtain⟨_,_,_,_,_,_,_,_,_,_,_,_,_,h⟩:=h;exact h
end
def Its(z:Str):It:=⟨λi _=>i<z.length,λi H x H'=>H'=H /\ ∃c,z.cps[i]?=some c /\ x= .str ⟨#[c]⟩,λi _=>z.length<=i⟩
theorem jqq{P:Program}{w:World}{K:W.Frag}{tg:Expr}(z:Str)(t:Tok)(it:Addr):Turn P w K tg (Its z) [it] it (λi h=>h.IsStrIter it "str_ascii_iterator" z t i) where
 mem:=by simp
 obj:=λi h st b hb=>by
  have e:b=it:=by simpa using hb
  subst e
  obtain⟨o,e,c,d⟩:=st
  exact⟨o,e,λv z=>by rw[d] at z;cases z⟩
 keep:=λi h h' st k=>let ⟨o,ho,r⟩:=st;⟨o,k it (by simp) o ho,r⟩
 item:=by
  intro X hP hw hK hc i pins s σ H E I hf st hg
  subst hP hw hK
  obtain⟨f0,f1,f2,f3,f4,f5⟩:=hf it (by simp)
  have hi:i<z.cps.size:=hg
  refine wpAny_pyNext_ascii_item st (c:=z.cps[i]) (by simp[hi]) λh' st' sb=> ?_
  have I1:Inv X pins σ H {s with heap:=h',toks:=s.toks+1}:=I.turned (t':=s.toks+1) (λb o hb e=>(sb.2 b hb).trans e) f0 f1 f3 f4 f5
  obtain⟨o,e,c,d⟩:=id st'
  exact⟨_,rfl,jop (s:={s with heap:=h',toks:=s.toks+1}) e c d (by decide) ⟨.str ⟨#[z.cps[i]]⟩,H,I1,⟨_,rfl⟩,⟨rfl,z.cps[i],by simp[hi],rfl⟩,st',λb hb=>(hf b hb).1⟩⟩
 done:=by
  intro X hP hw hK hc i pins s σ H E I hf st hg
  subst hP hw hK
  obtain⟨f0,f1,f2,f3,f4,f5⟩:=hf it (by simp)
  have hi:z.cps.size<=i:=hg
  exact wpAny_pyNext_ascii_end (I.ok.hd hc) st (by simp;omega) λh' eb=>⟨rfl,I.turned (t':=s.toks) (λb o hb e=>eb b o hb e) f0 f1 f3 f4 f5⟩
 self:=λ_ _ _ _ _ st h=>wpAny_pyIter_striter_ascii st h
theorem jrt{P:Program}{w:World}{K:W.Frag}{tg:Expr}(z:Str)(t:Tok)(it:Addr):Turn P w K tg (Its z) [it] it (λi h=>h.IsStrIter it "str_iterator" z t i) where
 mem:=by simp
 obj:=λi h st b hb=>by
  have e:b=it:=by simpa using hb
  subst e
  obtain⟨o,e,c,d⟩:=st
  exact⟨o,e,λv z=>by rw[d] at z;cases z⟩
 keep:=λi h h' st k=>let ⟨o,ho,r⟩:=st;⟨o,k it (by simp) o ho,r⟩
 item:=by
  intro X hP hw hK hc i pins s σ H E I hf st hg
  subst hP hw hK
  obtain⟨f0,f1,f2,f3,f4,f5⟩:=hf it (by simp)
  have hi:i<z.cps.size:=hg
  refine wpAny_pyNext_wide_item st (c:=z.cps[i]) (by simp[hi]) λh' st' sb=> ?_
  have I1:Inv X pins σ H {s with heap:=h',toks:=s.toks+1}:=I.turned (t':=s.toks+1) (λb o hb e=>(sb.2 b hb).trans e) f0 f1 f3 f4 f5
  obtain⟨o,e,c,d⟩:=id st'
  exact⟨_,rfl,jop (s:={s with heap:=h',toks:=s.toks+1}) e c d (by decide) ⟨.str ⟨#[z.cps[i]]⟩,H,I1,⟨_,rfl⟩,⟨rfl,z.cps[i],by simp[hi],rfl⟩,st',λb hb=>(hf b hb).1⟩⟩
 done:=by
  intro X hP hw hK hc i pins s σ H E I hf st hg
  subst hP hw hK
  obtain⟨f0,f1,f2,f3,f4,f5⟩:=hf it (by simp)
  have hi:z.cps.size<=i:=hg
  exact wpAny_pyNext_wide_end (I.ok.hd hc) st (by simp;omega) λh' eb=>⟨rfl,I.turned (t':=s.toks) (λb o hb e=>eb b o hb e) f0 f1 f3 f4 f5⟩
 self:=λ_ _ _ _ _ st h=>wpAny_pyIter_striter_wide st h
def iV(K:W.Frag)(tl:TE):TI:=λσ H R=>tl σ H λx H1=>(∃a,x= .ref a /\ (((∃xs,SqL K H1 a xs) /\ R (Itl K a) H1) \/ ((∃xs,SqT K H1 a xs) /\ R (Itt K a) H1))) \/ ∃z,x= .str z /\ R (Its z) H1
section
variable {X : Cx}
theorem pi_V{tg l:Expr}{tl:TE}(hl:PE X l tl):PI X tg l (iV X.K tl):=by
 intro pins s σ H R I h
 refine thn (hl pins s σ H _ I h) λv s1 ⟨x,H1,I1,r1,q1⟩=> ?_
 have fp:∀b∈[s1.heap.objs.size],FpOk X pins H1 b:=λb hb=>by
  have e:b=s1.heap.objs.size:=by simpa using hb
  subst e
  exact I1.fpOk (Nat.le_refl _) (I1.hok.fresh (Nat.le_refl _))
 rcases q1 with⟨a,e,q⟩ | ⟨z,e,q⟩
 ·subst e
  cases r1
  rcases q with⟨⟨xs,hq⟩,q⟩ | ⟨⟨xs,hq⟩,q⟩
  ·obtain⟨its,rv,p,hz⟩:=I1.list hq
   refine wpAny_pyIter_list p.isList ?_
   exact⟨s1.heap.objs.size,[s1.heap.objs.size],_,_,H1,rfl,I1.kept (t':=s1.toks) λb o e=>Heap.get?_push_of_some _ e,jrl a _,⟨_,Heap.get?_push_size _ rfl,rfl,rfl⟩,fp,q⟩
  ·obtain⟨its,rv,p,hz⟩:=I1.tuple hq
   refine wpAny_pyIter_tuple (show s1.heap.IsTuple a its.toArray from p) ?_
   exact⟨s1.heap.objs.size,[s1.heap.objs.size],_,_,H1,rfl,I1.kept (t':=s1.toks) λb o e=>Heap.get?_push_of_some _ e,jpk a _,⟨_,Heap.get?_push_size _ rfl,rfl,rfl⟩,fp,q⟩
 ·subst e
  obtain⟨t,rfl⟩:=r1
  cases ha:z.cps.all (·<128)
  ·exact wpAny_pyIter_wide ha ⟨s1.heap.objs.size,[s1.heap.objs.size],_,_,H1,rfl,I1.kept (t':=s1.toks) λb o e=>Heap.get?_push_of_some _ e,jrt z t _,⟨_,Heap.get?_push_size _ rfl,rfl,rfl⟩,fp,q⟩
  ·exact wpAny_pyIter_ascii ha ⟨s1.heap.objs.size,[s1.heap.objs.size],_,_,H1,rfl,I1.kept (t':=s1.toks) λb o e=>Heap.get?_push_of_some _ e,jqq z t _,⟨_,Heap.get?_push_size _ rfl,rfl,rfl⟩,fp,q⟩
theorem jwh:∀{bs:List Bool} {its:List Value},Vals (bs.map V.bl) its->its=bs.map Value.bool
 | [],_,.nil=>rfl
 | b::bs,_,.cons r rr=>by rw[List.map_cons,<-jwh rr];cases r;rfl
theorem juw(hc:X.calm=true):jcj X (.builtin "all") (rAll X.K):=by
 intro pins s σ H xs us Q I r h
 obtain⟨p,bs,rfl,hq,q⟩:=h
 obtain⟨u,rfl,rx⟩:=jh8 r
 cases rx
 obtain⟨its,r',pl,hz⟩:=I.list hq
 have e:=jwh r'
 have hh:X.A.in1.handled=none:=I.ok.hd hc
 refine call_all_walk (wpAny_pyIter_list pl.isList ?_)
 have hne:p≠s.heap.objs.size:=by
  obtain⟨o,ho,_⟩:=pl.isList
  exact Nat.ne_of_lt (Heap.lt_size ho)
 refine⟨s.heap.objs.size,_,_,_,_,_,λi=>bs.getD i false,rfl,Walks.list hh _ p hne its.toArray,?_,?_,λh' tk hk=> ?_⟩
 ·exact⟨⟨_,Heap.get?_push_size _ rfl,rfl,rfl⟩,pl.isList.at λo e=>Heap.get?_push_of_some _ e⟩
 ·intro i v s' Q' E' hP hQ
  have hv:its[i]?=some v:=by simpa using hP
  rw[e,List.getElem?_map] at hv
  obtain⟨b,hb,rfl⟩:=Option.map_eq_some_iff.mp hv
  have:bs.getD i false=b:=by simp[List.getD,hb]
  have hQ':Q' (bs.getD i false) s':=hQ
  rw[this] at hQ'
  exact wpAny_truthy_bool hQ'
 ·have k:∀b o,s.heap.get? b=some o->h'.get? b=some o:=λb o e=>hk b o (by
   intro hm
   have:b=s.heap.objs.size:=by simpa using hm
   exact absurd (Heap.lt_size e) (by rw[this];exact Nat.lt_irrefl _)) (Heap.get?_push_of_some _ e)
  refine⟨.bl (bs.all id),H,I.kept (t':=tk) k,?_,q⟩
  have hl:=r'.length
  simp only[List.length_map] at hl
  have e2:(List.range its.toArray.size).all (λi=>bs.getD i false)=bs.all id:=by
   rw[List.size_toArray,<-hl]
   rw[Bool.eq_iff_iff,List.all_eq_true,List.all_eq_true]
   constructor
   ·intro hh x hx
    obtain⟨i,hi,rfl⟩:=List.getElem_of_mem hx
    have:=hh i (List.mem_range.mpr hi)
    simpa [List.getD,hi] using this
   ·intro hh i hi
    have hi':=List.mem_range.mp hi
    have:=hh bs[i] (List.getElem_mem hi')
    simpa [List.getD,hi'] using this
  rw[e2];rfl
theorem jio:∀{ys:List Str} {its:List Value},Vals (ys.map V.str) its->StrsAre its ys
 | [],_,.nil=> .nil
 | y::ys,_,.cons r rr=>by obtain⟨t,rfl⟩:=r;exact .cons y t (jio rr)
def jze(K:W.Frag):V->List V->Hp->VK->Prop:=λx vs H Q=>∃(z:Str) (p:Addr) (ys:List Str),x= .str z /\ vs=[.ref p] /\ SqL K H p (ys.map V.str) /\ (ys.map (·.length)).sum+ys.length*z.length<=16777216 /\ Q (.str (Txt.join z ys)) H
theorem jy2:MtR X "str.join" (jze X.K):=by
 intro pins s σ H x xs v us Q I rx rv h
 obtain⟨z,p,ys,rfl,rfl,hq,hz,q⟩:=h
 obtain⟨t,rfl⟩:=rx
 obtain⟨u,rfl,ru⟩:=rv.one
 cases ru
 obtain⟨its,r',pl,_⟩:=I.list hq
 exact join_list pl.isList (by simpa using jio r') hz λt' k=>⟨.str _,H,I.tok k,⟨t',rfl⟩,q⟩
theorem jl9:∀(l:List (Str×Tok)),Vals ((l.map (·.1)).map V.str) (strValues l)
  | []=> .nil
  | (x,t)::r=> .cons ⟨t,rfl⟩ (jl9 r)
def jx0:V->List V->Hp->VK->Prop:=λx vs H Q=>∃(z y:Str),x= .str z /\ vs=[.str y] /\ y.length≠0 /\ z.length<=sizeLine /\ (Txt.split z y).length<=sizeLine /\ ∀p H',H p=none->H' p=some (.lst ((Txt.split z y).map V.str))->Same H H'->Q (.ref p) H'
open Builtin Builtin.Str in
theorem joc:MtR X "str.split" jx0:=by
 intro pins s σ H x xs v us Q I rx rv h
 obtain⟨z,y,rfl,rfl,hy,hz,hl,q⟩:=h
 obtain⟨t,rfl⟩:=rx
 obtain⟨w',rfl,u,rfl⟩:=rv.one
 have hy':(y.length==0)=false:=by simpa using hy
 have fin:∀(l:List (Str×Tok)) (tk:Nat),l.map (·.1)=Txt.split z y->EP X pins σ Q (.ref s.heap.objs.size) {s with heap:=s.heap.push {cls:= .type "list",data:= .seq (strValues l).toArray},toks:=tk}:=λl tk e=>
  ⟨.ref s.heap.objs.size,_,I.lnew (t':=tk) (ys:=(Txt.split z y).map V.str) (by rw[<-e];exact jl9 l) (by rw[List.length_map];exact hl),rfl,q _ _ I.fresh jb6 λb o e=>by rw[jan (jbu e I.fresh)];exact e⟩
 cases h1:(decide (z.length<y.length)||decide (strKind z<strKind y))
 ·cases hf:(occurrences z y 0 z.length (z.length+1)).isEmpty
  ·have e0:Txt.split z y=partsBetween z (occurrences z y 0 z.length (z.length+1)) y.length:=(if_neg (ne_true_of_eq_false h1)).trans (if_neg (ne_true_of_eq_false hf))
   refine call_meets F.slot_str_split (typeIs_str _ _ _) F.entry_str_split (F.args_str_split_2 _ _) (meets_str_split_sep z y t u h1 hy' hf hz (by rw[<-e0];exact hl)) ?_
   show wants (EP X pins σ Q) X.xe _ {s with toks:=_,heap:=s.heap.push {cls:= .type "list",data:= .seq (strsFrom s.toks (partsBetween z (occurrences z y 0 z.length (z.length+1)) y.length)).toArray}}
   rw[strsFrom_eq]
   exact fin (numbered s.toks _) _ ((numbered_texts _ _).trans e0.symm)
  ·exact call_meets F.slot_str_split (typeIs_str _ _ _) F.entry_str_split (F.args_str_split_2 _ _) (meets_str_split_not_found z y t u h1 hy' hf)
    (fin [(z,t)] s.toks ((if_neg (ne_true_of_eq_false h1)).trans (if_pos hf)).symm)
 ·exact call_meets F.slot_str_split (typeIs_str _ _ _) F.entry_str_split (F.args_str_split_2 _ _) (meets_str_split_cannot_occur z y t u h1)
   (fin [(z,t)] s.toks (if_pos h1).symm)
def rInt:List V->Hp->VK->Prop:=λxs H Q=>((∃i,xs=[.int i] /\ Q (.int i) H) \/ ∃k,xs=[.bl k] /\ Q (.int (if k then 1 else 0)) H) \/ ∃z n,xs=[.str z] /\ z.length<=640 /\ intText? z=some n /\ Q (.int n) H
theorem jek:jcj X (.type "int") rInt:=by
 refine jcj.or jt1 ?_
 intro pins s σ H xs us Q I r h
 obtain⟨z,n,rfl,hl,hn,q⟩:=h
 obtain⟨u,rfl,t,rfl⟩:=jh8 r
 exact W.KIN.call_text hn hl ⟨.int n,H,I.tok _,⟨_,rfl⟩,q⟩
def rStr:List V->Hp->VK->Prop:=λxs H Q=>∃i,xs=[.int i] /\ i.natAbs.log2<1920 /\ Q (.str (toString i)) H
theorem jev:jcj X (.type "str") rStr:=jjr
/-! ### f"..{x}.." -/
abbrev TJ:=Str->St->Hp->(Str->Hp->Prop)->Prop
def PJ(X:Cx)(es:List Expr)(t:TJ):Prop:=∀(out:Str) (pins:List (Addr×Obj)) (s:Shared) (σ:St) (H:Hp) (Q:VK),Inv X pins σ H s->t out σ H (λz H'=>z.length<=sizeLine /\ Q (.str z) H')->
 wpAny (model X.prog X.w) X.A (joinParts out (evalEach es X.env)) (EP X pins σ Q) X.xe s
def tJnil:TJ:=λout _ H Q=>Q out H
def jx7(te:TE)(t:TJ):TJ:=λout σ H Q=>te σ H λx H1=>∃y,x= .str y /\ (out++y).length<=sizeLine /\ t (out++y) σ H1 Q
theorem pj_nil:PJ X [] tJnil:=λout pins s σ H Q I h=>joinParts_nil ⟨.str out,H,I.tok _,⟨_,rfl⟩,h.2⟩ h.1
theorem jq4{e:Expr}{es:List Expr}{te:TE}{t:TJ}(he:PE X e te)(hr:PJ X es t):PJ X (e::es) (jx7 te t):=by
 intro out pins s σ H Q I h
 show wpAny _ _ (joinParts out (eval e X.env::evalEach es X.env)) _ _ s
 refine joinParts_cons (thn (he pins s σ H _ I h) λv s1 ⟨x,H1,I1,r1,y,ex,hz,q⟩=> ?_)
 subst ex
 obtain⟨t,rfl⟩:=r1
 exact⟨hz,hr (out++y) pins s1 σ H1 Q I1 q⟩
def tJs(t:TJ):TE:=λσ H Q=>t Str.empty σ H λz H'=>z.length<=sizeLine /\ Q (.str z) H'
theorem pe_js{v₁ v₂:Expr}{rest:List Expr}{t:TJ}{pos:Pos}(h:PJ X (v₁::v₂::rest) t):PE X (.JoinedStr (v₁::v₂::rest) pos) (tJs t):=by
 intro pins s σ H Q I q
 exact JoinedStr_many (h Str.empty pins s σ H Q I q)
def tFmt(te:TE):TE:=λσ H Q=>te σ H λx H1=>(∃i,x= .int i /\ i.natAbs.log2<1920 /\ Q (.str (toString i)) H1) \/ ∃z,x= .str z /\ z.length<=sizeLine /\ Q (.str z) H1
theorem pe_fmt{e:Expr}{te:TE}{pos:Pos}(he:PE X e te):PE X (.FormattedValue e (-1) none pos) (tFmt te):=by
 intro pins s σ H Q I h
 refine FormattedValue_plain (thn (he pins s σ H _ I h) λv s1 ⟨x,H1,I1,r1,q⟩=> ?_)
 rcases q with⟨i,rfl,hd,q⟩ | ⟨z,rfl,hz,q⟩
 ·obtain⟨t,rfl⟩:=r1
  exact wpAny_formatField_int hd ⟨.str _,H1,I1.tok _,⟨_,rfl⟩,q⟩
 ·obtain⟨t,rfl⟩:=r1
  exact wpAny_formatField_str ⟨.str z,H1,I1,⟨_,rfl⟩,q⟩ ⟨.str z,H1,I1.tok _,⟨_,rfl⟩,q⟩ hz
end
section
variable {X : Cx}
theorem jkc{ns:List Int}{its:List Value}(r:Vals (ns.map V.int) its){i:Nat}{v:Value}(h:its[i]?=some v):∃t,v= .int (ns.getD i 0) t /\ i<ns.length:=by
 have hl:=r.length
 rw[List.length_map] at hl
 have hi:i<its.length:=(List.getElem?_eq_some_iff.mp h).1
 have hx:(ns.map V.int)[i]?=some (.int ns[i]):=by simp[List.getElem?_map,List.getElem?_eq_getElem (show i<ns.length by omega)]
 obtain⟨u,hu,⟨t,rfl⟩⟩:=r.get hx
 rw[h] at hu
 refine⟨t,?_,by omega⟩
 have:ns.getD i 0=ns[i]:=by simp[List.getD,List.getElem?_eq_getElem (show i<ns.length by omega)]
 rw[this];exact Option.some.inj hu
theorem jzr{ns:List Int}{i:Nat}(h:i<ns.length):ns.getD i 0∈ns:=by
 have:ns.getD i 0=ns[i]:=by simp[List.getD,List.getElem?_eq_getElem h]
 rw[this];exact List.getElem_mem _
def rMaxT(K:W.Frag):List V->Hp->VK->Prop:=λxs H Q=>∃(p:Addr) (ns:List Int),xs=[.ref p] /\ SqT K H p (ns.map V.int) /\ 0<ns.length /\ ∀M,M∈ns->(∀a∈ns,a<=M)->Q (.int M) H
theorem jru(hc:X.calm=true):jcj X (.builtin "max") (rMaxT X.K):=by
 intro pins s σ H xs us Q I r h
 obtain⟨p,ns,rfl,hq,hn,q⟩:=h
 obtain⟨u,rfl,rx⟩:=jh8 r
 cases rx
 obtain⟨its,r',pl,hz⟩:=I.tuple hq
 have hl:=r'.length
 rw[List.length_map] at hl
 have hh:X.A.in1.handled=none:=I.ok.hd hc
 refine call_max_walk (wpAny_pyIter_tuple (show s.heap.IsTuple p its.toArray from pl) ?_)
 have hne:p≠s.heap.objs.size:=by
  obtain⟨o,ho,_⟩:=pl
  exact Nat.ne_of_lt (Heap.lt_size ho)
 have pl':s.heap.IsTuple p its.toArray:=pl
 have hfp:∀b∈[s.heap.objs.size,p],b<(s.heap.push {cls:= .type "tuple_iterator",data:= .fields #[.ref p,rawInt 0]}).objs.size:=λb hb=>by
  rw[Heap.size_push]
  obtain⟨o,ho,_⟩:=pl
  have:=Heap.lt_size ho
  rcases List.mem_cons.mp hb with rfl | hb
  ·exact Nat.lt_succ_self _
  ·have e:b=p:=by simpa using hb
   subst e;exact Nat.lt_succ_of_lt this
 refine⟨s.heap.objs.size,_,_,_,_,_,λi j=>decide (ns.getD i 0>ns.getD j 0),rfl,Walks.tuple hh _ p hne its.toArray,⟨⟨_,Heap.get?_push_size _ rfl,rfl,rfl⟩,pl'.at λo e=>Heap.get?_push_of_some _ e⟩,hfp,by rw[List.size_toArray];omega,
  CmpOf.ints_gt (λi=>ns.getD i 0) (λi v hv=>by obtain⟨t,e,_⟩:=jkc r' (by simpa using hv);exact⟨t,e⟩),λv h' tk hP hk=> ?_⟩
 have k:∀b o,s.heap.get? b=some o->h'.get? b=some o:=λb o e=>hk b o (by
  intro hm
  have:b=s.heap.objs.size:=by simpa using hm
  exact absurd (Heap.lt_size e) (by rw[this];exact Nat.lt_irrefl _)) (Heap.get?_push_of_some _ e)
 obtain⟨t,e,hlt⟩:=jkc r' (by simpa using hP)
 subst e
 obtain⟨h1,h2⟩:=argBest_gt (λi=>ns.getD i 0) (its.toArray.size - 1)
 refine⟨.int _,H,I.kept (t':=tk) k,⟨t,rfl⟩,q _ ?_ λa ha=> ?_⟩
 ·exact jzr hlt
 ·obtain⟨j,hj,rfl⟩:=List.getElem_of_mem ha
  have:=h2 j (by rw[List.size_toArray];omega)
  simpa [List.getD,List.getElem?_eq_getElem hj] using this
def rMax(K:W.Frag):List V->Hp->VK->Prop:=λxs H Q=>(∃i j,xs=[.int i,.int j] /\ Q (.int (if j>i then j else i)) H) \/ rMaxT K xs H Q
theorem jqx(hc:X.calm=true):jcj X (.builtin "max") (rMax X.K):=jcj.or (jqi hc) (jru hc)
end
def Fly(X:Cx)(pins:List (Addr×Obj))(σ:St)(H':Hp)(ea C:Addr)(s':Shared):Prop:=
 ∃(a0:Value) (B:Heap) (H:Hp) (s:Shared),Inv X pins σ H s /\ s'.os=s.os /\ AllBare s'.gens /\ Un (frs X.stack) [] H H' s.heap s'.heap /\ HOk X.prog X.w H' B /\ Heap.FlyingW B X.stack ea (.ref C) a0 s'.heap /\
  (∀b o,s.heap.get? b=some o->b∉frs X.stack->∃o',B.get? b=some o') /\ (∀b o,s.heap.get? b=some o->H b=none->b∉frs X.stack->B.get? b=some o)
abbrev FK:=St->Addr->Hp->Prop
def XP(X:Cx)(pins:List (Addr×Obj))(σ:St)(F:Addr->Hp->Prop)(e:Value)(s':Shared):Prop:=
 ∃ea C H',e= .ref ea /\ Fly X pins σ H' ea C s' /\ F C H'
section
variable {X : Cx} {pins : List (Addr × Obj)} {σ : St} {H H' : Hp} {s s' : Shared} {ea C : Addr}
theorem Fly.inv(F:Fly X pins σ H' ea C s'):Inv X pins σ H' s':=by
 obtain⟨a0,B,H,s,I,ho,hg,u,hok,fl,_,_⟩:=F
 exact I.call' ho u (hok.kept fl.1) hg λb z=>absurd z (by simp)
theorem Fly.there(F:Fly X pins σ H' ea C s'):∃o,s'.heap.get? ea=some o /\ o.cls= .ref C:=by
 obtain⟨a0,B,H,s,I,ho,hg,u,hok,fl,_,_⟩:=F
 exact fl.there
theorem Fly.step{B:Heap}{a0:Value}{h:Heap}(I:Inv X pins σ H s)(ho:s'.os=s.os)(hg:AllBare s'.gens)(u:Un (frs X.stack) [] H H' s.heap s'.heap)(hok:HOk X.prog X.w H' B)
  (hB:∀b o,s.heap.get? b=some o->b∉frs X.stack->∃o',B.get? b=some o') (hBk:∀b o,s.heap.get? b=some o->H b=none->b∉frs X.stack->B.get? b=some o)
  (sm:s'.heap.UpToSlots h) (ff:s'.heap.FunFrames B X.stack) (fl:Heap.FlyingW B X.stack ea (.ref C) a0 h):Fly X pins σ H' ea C {s' with heap:=h}:=by
 have nf:∀{b},b∈frs X.stack->∀o,s'.heap.get? b=some o->∀vs,o.data≠ .fields vs:=fun{b} hb o ho=>by
  obtain⟨_,o',ho',hd⟩:=ff.mem (b:=b) hb
  rw[ho] at ho';cases ho';exact hd
 refine⟨a0,B,H,s,I,ho,hg,⟨?_,?_,u.free,?_,u.tups,u.frzs,u.tbls⟩,hok,fl,hB,hBk⟩
 ·intro b o q n nm _
  exact fl.1 b o (hBk b o q n nm)
 ·intro b o q n hm _
  obtain⟨sl2,q2⟩:=u.slot b _ q n hm (by simp)
  obtain⟨sl3,q3⟩:=sm b _ q2 (nf hm _ q2)
  exact⟨sl3,q3⟩
 ·intro b o q _
  by_cases hm:b∈frs X.stack
  ·obtain⟨o2,q2⟩:=u.there b o q (by simp)
   obtain⟨sl3,q3⟩:=sm b _ q2 (nf hm _ q2)
   exact⟨_,q3⟩
  ·obtain⟨o2,q2⟩:=hB b o q hm
   exact⟨o2,fl.1 b o2 q2⟩
theorem Fly.lands{M:Model}{A:Around}{E:Value->Shared->Prop}{Q:Unit->Shared->Prop}(F:Fly X pins σ H' ea C s')(hst:X.stack=X.env::X.outer)(hfr:X.env.frame=some X.env.locals)(hA:A.frames=some X.stack)
  (k:∀s2,Fly X pins σ H' ea C s2->Q () s2):wpAny M A (noteFrame (.ref ea) X.env) (λ_ s2=>wpAny M A (setFlight (.ref ea) none) Q E s2) E s':=by
 obtain⟨a0,B,H,s,I,ho,hg,u,hok,fl,hB,hBk⟩:=F
 have ff:=fl.2.2.1
 refine wpAny_looks_onW (env:=X.env) (outer:=X.outer) (L:=X.env.locals) (by rw[hA,hst]) hfr (by rw[<-hst];exact fl) λh₄ hheld₄ hsm₄=> ?_
 refine wpAny_landsW hheld₄ λh₅ hheld hsm₅=> ?_
 rw[<-hst] at hheld
 exact k _ (Fly.step (s':=s') I ho hg u hok hB hBk (hsm₄.trans hsm₅) ff hheld)
theorem Fly.again{M:Model}{A:Around}{E:Value->Shared->Prop}{Q:Unit->Shared->Prop}(F:Fly X pins σ H' ea C s')(k:∀s2,Fly X pins σ H' ea C s2->Q () s2):wpAny M A (setFlight (.ref ea) none) Q E s':=by
 obtain⟨a0,B,H,s,I,ho,hg,u,hok,fl,hB,hBk⟩:=F
 exact lands_againW fl λh₅ hheld hsm=>k _ (Fly.step (s':=s') I ho hg u hok hB hBk hsm fl.2.2.1 hheld)
abbrev Cx.mkd(X:Cx)(ea:Addr):Cx:={X with A:=X.A.mark (some (.ref ea)),calm:=false,xe:=λ_ _=>False}
theorem Inv.mkd(I:Inv X pins σ H s)(ea:Addr):Inv (X.mkd ea) pins σ H s:=
 ⟨⟨I.ok.mod,I.ok.kind,I.ok.glob,I.ok.blt,I.ok.above,I.ok.inj,I.ok.has,I.ok.cab,(λz=>nomatch z),I.ok.frames,I.ok.stk,I.ok.exf,I.ok.bs,I.ok.bsz,I.ok.noex,I.ok.exfs,I.ok.funs,I.ok.frf⟩,I.os,I.bare,I.base,I.loc,I.cell,I.free,I.freeC,I.pin,I.hok,I.len⟩
theorem Inv.unmkd(ok:X.Ok)(I:Inv (X.mkd ea) pins σ H s):Inv X pins σ H s:=⟨ok,I.os,I.bare,I.base,I.loc,I.cell,I.free,I.freeC,I.pin,I.hok,I.len⟩
end
structure Clause (K:PySem.W.Frag) (W:Addr):Prop where
 nt:PySem.W.instIn K (.ref W) (.type "tuple")=some false
 cl:PySem.W.hasDictIn K W=true
 ex:PySem.W.subIn K (.ref W) (.type "BaseException")=some true
theorem jjv{M:Model}{A:Around}{E:Value->Shared->Prop}{K:PySem.W.Frag}{s:Shared}{ea C W:Addr}{oe:Obj}{b:Bool}{Q:Bool->Shared->Prop}(k:K.In s.heap)(c:Clause K W)(he:s.heap.get? ea=some oe)(hc:oe.cls= .ref C)
  (hs:PySem.W.subIn K (.ref C) (.ref W)=some b) (h:Q b s):wpAny M A (excMatches (.ref ea) (.ref W)) Q E s:=by
 obtain⟨hh,g,d,tk,os⟩:=s
 have k':K.In hh:=k
 have L1:PySem.W.Looks M hh (isInstance (.ref W) (.type "tuple")) false:=PySem.W.looks_instIn k' c.nt
 have L2:PySem.W.Looks M hh (isType (.ref W)) true:=by
  have z0:(PySem.W.clsIn K W).isSome=true:=by obtain⟨cd,hc,_⟩:=PySem.W.any_some c.cl;rw[hc];rfl
  unfold PySem.W.clsIn at z0
  split at z0
  ·rename_i c' d' cd' sl' ho
   intro A' Q' E' s' kk q
   unfold isType loadHead
   exact wpAny_bind (wpAny_loadPart (kk _ _ (k' _ _ ho)) (wpAny_pure q))
  ·cases z0
 have L3:PySem.W.Looks M hh (isSubtype (.ref W) (.type "BaseException")) true:=PySem.W.looks_subIn k' c.ex
 have L4:PySem.W.Looks M hh (isSubtype (.ref C) (.ref W)) b:=PySem.W.looks_subIn k' hs
 have L5:PySem.W.Looks M hh (typeOf (.ref ea)) (.ref C):=hc▸(PySem.W.Looks.ld (h:=hh) he).andThen .now
 unfold excMatches isExcClass
 repeat (first | (with_reducible refine L1.at ?_) | (with_reducible refine L2.at ?_) | (with_reducible refine L3.at ?_) | (with_reducible refine L4.at ?_) | (with_reducible refine L5.at ?_) | wp_step)
 cases b<;>(wp_walk;exact h)
section
variable {X : Cx}
def PH(X:Cx)(hs:List ExceptHandler)(t:Addr->TS):Prop:=
 ∀(pins:List (Addr×Obj)) (s:Shared) (σ:St) (H:Hp) (ea C:Addr) (D:Ends),Fly X pins σ H ea C s->t C D σ H->wpAny (model X.prog X.w) X.A (handleBy (.ref ea) X.env hs) (SP X pins D) X.xe s
def hNil:Addr->TS:=λ_ _ _ _=>False
theorem ph_nil:PH X [] hNil:=λ_ _ _ _ _ _ _ _ h=>h.elim
def jvl(K:PySem.W.Frag)(W:Addr)(th:TS)(rest:Addr->TS):Addr->TS:=λC D σ H=>
 ∃b,PySem.W.subIn K (.ref C) (.ref W)=some b /\ if b=true then th D σ H else rest C D σ H
theorem SP.unmkd{pins:List (Addr×Obj)}{ea:Addr}{D:Ends}{f:Flow}{s':Shared}(ok:X.Ok)(h:SP (X.mkd ea) pins D f s'):SP X pins D f s':=by
 cases f with
 | next=>obtain⟨σ',H',I,q⟩:=h;exact⟨σ',H',I.unmkd ok,q⟩
 | brk=>obtain⟨σ',H',I,q⟩:=h;exact⟨σ',H',I.unmkd ok,q⟩
 | cont=>obtain⟨σ',H',I,q⟩:=h;exact⟨σ',H',I.unmkd ok,q⟩
 | ret u=>obtain⟨v,σ',H',I,r,q⟩:=h;exact⟨v,σ',H',I.unmkd ok,r,q⟩
theorem jge{y:Str}{W:Addr}{np pos:Pos}{b₀:Stmt}{suite:List Stmt}{rest:List ExceptHandler}{th:TS}{tr:Addr->TS}
  (hg:Gl X y) (hm:X.mg y=some (.ref W)) (hW:Clause X.K W) (hb:∀ea,PSs (X.mkd ea) (b₀::suite) th) (hr:PH X rest tr) (hd:(y==("__debug__":Str))=false:=by decide):
  PH X (.ExceptHandler (some (.Name y np)) none (b₀::suite) pos::rest) (jvl X.K W th tr):=by
 intro pins s σ H ea C D F h
 obtain⟨b,hs,h⟩:=h
 obtain⟨oe,he,hc⟩:=F.there
 have I:=F.inv
 refine wpAny_handleBy_cons (codeAny_handlers_test (jgl (X:=X.mkd ea) (I.mkd ea) hg hm (jjv I.kIn hW he hc hs ?_) hd)) (by intro q;cases q)
 cases b with
 | false=>exact hr pins s σ H ea C D F h
 | true=>
  refine codeAny_handlers_suite (F.again λs2 F2=> ?_)
  exact wpAny_mono (hb ea pins s2 _ _ D (F2.inv.mkd ea) h) (λf s4 q=>SP.unmkd I.ok q) λ_ _ z=>False.elim z
def PSX(X:Cx)(st:Stmt)(t:FK->TS):Prop:=
 ∀(pins:List (Addr×Obj)) (s:Shared) (σ:St) (H:Hp) (D:Ends) (F:FK),Inv X pins σ H s->t F D σ H->wpAny (model X.prog X.w) X.A (exec st X.env) (SP X pins D) (λe s'=>∃σ',XP X pins σ' (F σ') e s') s
def PSXs(X:Cx)(st:List Stmt)(t:FK->TS):Prop:=
 ∀(pins:List (Addr×Obj)) (s:Shared) (σ:St) (H:Hp) (D:Ends) (F:FK),Inv X pins σ H s->t F D σ H->wpAny (model X.prog X.w) X.A (execs st X.env) (SP X pins D) (λe s'=>∃σ',XP X pins σ' (F σ') e s') s
def PEX(X:Cx)(e:Expr)(t:(Addr->Hp->Prop)->TE):Prop:=
 ∀(pins:List (Addr×Obj)) (s:Shared) (σ:St) (H:Hp) (Q:VK) (F:Addr->Hp->Prop),Inv X pins σ H s->t F σ H Q->wpAny (model X.prog X.w) X.A (eval e X.env) (EP X pins σ Q) (XP X pins σ F) s
def FE(F:Addr->Hp->Prop):XK:=λc _ H=>∃C,c= .ref C /\ F C H
theorem jxn{k:Nat}{f:Addr}{fd:FuncData}{ps:List Str}{sp:Sp}{dvs:List V}{ds:List Value}{pins:List (Addr×Obj)}{σ:St}{H:Hp}{s:Shared}{Q:VK}{us:List Value}{vs:List V}{Fx:Addr->Hp->Prop}
  (F:FnOk X.prog X.w X.K X.mg X.base (CXE X.prog X.w) k f fd ps sp) (hr:Room k X.A) (hb:jfc X.K fd ps ds) (hd:Vals dvs ds)
  (I:Inv X pins σ H s) (r:Vals vs us) (h:sp (vs++dvs) H Q (FE Fx)):wpAny (model X.prog X.w) X.A (call (.ref f) us) (EP X pins σ Q) (XP X pins σ Fx) s:=by
 have r2:Vals (vs++dvs) (us++ds):=r.append hd
 have hl:(us++ds).length=ps.length:=by rw[<-r2.length];exact F.len _ _ _ _ h
 refine wpAny_call (codeAny_mono (F.run X.A X.stack s H ⟨us,[]⟩ (us++ds) (vs++dvs) Q (FE Fx) hr I.env0 (hb s us I.kIn hl) r2 h) λr s' hq=> ?_)
 cases r with
 | error e=>
  obtain⟨ea,C,a0,B,H',rfl,hos,hg,u,hok,fl,hB,hBk,C',hC,hE⟩:=hq
  cases hC
  exact⟨ea,C,H',rfl,⟨a0,B,H,s,I,hos,hg,u,hok,fl,hB,hBk⟩,hE⟩
 | ok fl=>
  cases fl with
  | ret u=>exact I.after hq
  | next=>exact False.elim hq
  | brk=>exact False.elim hq
  | cont=>exact False.elim hq
theorem nxa{α:Type}{M:Model}{A:Around}{t:Sem α}{Q Q':α->Shared->Prop}{E:Value->Shared->Prop}{s:Shared}(h:wpAny M A t Q (λ_ _=>False) s)(hQ:∀a s,Q a s->Q' a s):wpAny M A t Q' E s:=wpAny_mono h hQ λ_ _ z=>False.elim z
def sxSet(i:Nat)(t:(Addr->Hp->Prop)->TE):FK->TS:=λF D σ H=>t (F σ) σ H λv H1=>D.nx (σ.set i (some v)) H1
theorem jy0{i:Nat}{x:Str}{e:Expr}{t:(Addr->Hp->Prop)->TE}{pos pos':Pos}(hN:X.N.Nodup)(hi:X.N[i]?=some x)(hx:Loc X.env.scope x)(he:PEX X e t)(hs:swapsWith e (some (.Name x pos')) pos.line X.env=pure false:=by rfl)
  (hf:X.fn x=true \/ X.env.scope.names.lookup x=some .local:=by first | exact .inl rfl | exact .inr rfl | assumption):PSX X (.Assign [.Name x pos'] e pos) (sxSet i t):=by
 intro pins s σ H D F I h
 refine wpAny_Assign_Name (wpAny_mono (he pins s σ H _ _ I h) (λv s1 ⟨y,H1,I1,r1,q1⟩=> ?_) λ_ _ z=>⟨σ,z⟩) hs
 exact jjj I1 hN hi hx r1 (λs2 I2=>⟨_,H1,I2,q1⟩) hf
def sxSeq(t u:FK->TS):FK->TS:=λF D σ H=>t F {D with nx:=u F D} σ H
theorem juk:PSXs X [] (λ_=>jtp):=λ_ _ σ H _ _ I h=>wpAny_execs_nil ⟨σ,H,I,h⟩
theorem jth{st:Stmt}{rest:List Stmt}{t u:FK->TS}(h1:PSX X st t)(h2:PSXs X rest u):PSXs X (st::rest) (sxSeq t u):=by
 intro pins s σ H D F I h
 refine wpAny_execs_cons (thn (h1 pins s σ H {D with nx:=u F D} F I h) λf s1 q=> ?_)
 cases f with
 | next=>obtain⟨σ',H',I',q⟩:=q;exact h2 pins s1 σ' H' D F I' q
 | brk=>exact q
 | cont=>exact q
 | ret u=>exact q
def tTry(tb:FK->TS)(th:Addr->TS):TS:=λD σ H=>tb (λσ1 C H1=>th C D σ1 H1) D σ H
theorem ps_try{body:List Stmt}{h₀:ExceptHandler}{hs:List ExceptHandler}{pos:Pos}{tb:FK->TS}{th:Addr->TS}(hst:X.stack=X.env::X.outer)(hfr:X.env.frame=some X.env.locals)(hb:PSXs X body tb)(hh:PH X (h₀::hs) th):
  PS X (.Try body (h₀::hs) [] [] pos) (tTry tb th):=by
 intro pins s σ H D I h
 refine wpAny_Try_except (wpAny_mono (hb pins s σ H D _ I h) (λf s1 q=> ?_) λe s1 q=> ?_)
 ·cases f with
  | next=>exact wpAny_execs_nil q
  | brk=>exact q
  | cont=>exact q
  | ret u=>exact q
 ·obtain⟨σ',ea,C,H',rfl,F,q⟩:=q
  exact F.lands hst hfr I.ok.frames λs2 F2=>hh pins s2 σ' H' ea C D F2 q
end
section
variable {X : Cx}
def uMulS:RU:=λx y H Q=>match x,y with
 | .int i,.int j=>CMul i j /\ Q (.int (i*j)) H
 | .ref a,.int k=>rRep (.ref a) (.int k) H Q
 | .str z,.int n=>n.natAbs<=16777216 /\ z.length*n.toNat<=16777216 /\ Q (.str (Txt.mul z n)) H
 | _,_=>False
theorem jz8:OpR X (binaryOp .Mult) uMulS:=by
 intro pins s σ H x y v u Q I rx ry h
 cases x<;>cases y<;>first | exact h.elim | skip
 ·exact op_mul pins s σ H _ _ v u Q I rx ry ⟨_,_,rfl,rfl,h.1,h.2⟩
 ·obtain⟨h1,h2,q⟩:=h
  obtain⟨t,rfl⟩:=rx
  obtain⟨t',rfl⟩:=ry
  rename_i z n
  refine SB.mul ?_ λt' k=>⟨.str _,H,I.tok k,⟨t',rfl⟩,q⟩
  have hp:¬n<1->z.length*n.toNat<=16777216:=λ_=>h2
  refine⟨?_,λh1' _=> ?_,λh1' _=> ?_⟩
  ·have a1:¬n< -(2^63:Int):=by omega
   have a2:¬n>=(2^63:Int):=by omega
   rw[decide_eq_false a1,decide_eq_false a2];rfl
  ·have hpos:0<n:=by omega
   have e:((z.length*n.toNat:Nat):Int)=(z.length:Int)*n:=by
    rw[Int.natCast_mul,Int.toNat_of_nonneg (by omega)]
   have h3:(z.length:Int)*n<=2^63 - 1:=by rw[<-e];omega
   have h4:(z.length:Int)<=(2^63 - 1) / n:=(Int.le_ediv_iff_mul_le hpos).mpr h3
   omega
  ·exact short24 h2
 ·exact op_rep pins s σ H _ _ v u Q I rx ry h
theorem sl_txt:SlR X rSlS:=by
 intro pins s σ H x v vl vu lo hi sl Q I rx hs pl pu h
 obtain⟨z,rfl,hz,q⟩:=h
 obtain⟨t,rfl⟩:=rx
 refine⟨"str",_,F.slot_str_getitem.lookup,typeIs_str _ _ _,?_⟩
 obtain⟨l,rfl,rfl⟩:∃l:Option (Int×Tok),vl=partValue l /\ lo=l.map (·.1):=by
  cases pl with
  | none=>exact⟨none,rfl,rfl⟩
  | int i t=>exact⟨some (i,t),rfl,rfl⟩
 obtain⟨u,rfl,rfl⟩:∃l:Option (Int×Tok),vu=partValue l /\ hi=l.map (·.1):=by
  cases pu with
  | none=>exact⟨none,rfl,rfl⟩
  | int i t=>exact⟨some (i,t),rfl,rfl⟩
 exact wpAny_getItem_str_slice (l:=l) (u:=u) (st:=none) hs rfl (post_val_or_str ⟨Nat.le_trans (Txt.slice_le z _ _) hz,λt' k=>⟨.str _,H,I.tok k,⟨t',rfl⟩,q⟩⟩)
def uSlS(K:W.Frag):V->Option Int->Option Int->Hp->VK->Prop:=λx lo hi H Q=>uSl K x lo hi H Q \/ rSlS x lo hi H Q
theorem sl_S:SlR X (uSlS X.K):=SlR.or sl_U sl_txt
end
def Ite(K:W.Frag)(a:Addr):It:=
 ⟨λi H=>∃xs x,SqL K H a xs /\ xs[i]?=some x,λi H v H'=>∃p x,H p=none /\ (∀xs,SqL K H a xs->xs[i]?=some x) /\ v= .ref p /\ H'=upd H p (.tup [.int i,x]),λi H=>∃xs,SqL K H a xs /\ xs.length<=i⟩
theorem jt3{P:Program}{w:World}{K:W.Frag}{elts:List Expr}{x1}{tpos:Pos}(a en it:Addr)(hne:en≠it):Turn P w K (.Tuple elts x1 tpos) (Ite K a) [en,it] en (λi h=>∃old,IsEnum h en it ((i:Nat):Int) old /\ h.IsListIter it a i) where
 mem:=by simp
 obj:=λi h st b hb=>by
  obtain⟨old,h1,h2⟩:=st
  rcases List.mem_cons.mp hb with rfl | hb
  ·exact⟨_,h1,λv z=>by
    have z':Data.fields _=Data.cell v:=z
    cases z'⟩
  ·have e:b=it:=by simpa using hb
   subst e
   obtain⟨o,e,c,d⟩:=h2
   exact⟨o,e,λv z=>by rw[d] at z;cases z⟩
 keep:=λi h h' st k=>by
  obtain⟨old,h1,h2⟩:=st
  exact⟨old,k en (by simp) _ h1,h2.at λo e=>k it (by simp) o e⟩
 item:=by
  intro X hP hw hK hc i pins s σ H E I hf st hg
  subst hP hw hK
  obtain⟨xs,x,hq,hx⟩:=hg
  obtain⟨its,rv,p,hz⟩:=I.list hq
  obtain⟨u,hu,ru⟩:=rv.get hx
  obtain⟨old,he,hit⟩:=st
  have g0:=hf en (by simp)
  have f0:=hf it (by simp)
  refine wpAny_pyNext_enum_item he hit p.isList (x:=u) (by simpa using hu) hne λh₁ heo hit₁ ht₁ hz₁ hk₁=> ?_
  refine⟨.ref s.heap.objs.size,rfl,wpAny_letOwnedTupleGo_enum heo λh₂ he₂ hs₂=> ?_⟩
  replace hs₂:Heap.SameBut en h₁ h₂:=hs₂
  have fr:H s.heap.objs.size=none:=I.hok.fresh (Nat.le_refl _)
  have kp:∀b o,b≠en->b≠it->s.heap.get? b=some o->h₂.get? b=some o:=λb o n1 n2 e=>hs₂.extBut b o n1 (hk₁ b o n1 n2 e)
  have enlt:en<s.heap.objs.size:=Heap.lt_size he
  have tup:h₂.get? s.heap.objs.size=some {cls:= .type "tuple",data:= .seq #[.int i s.toks,u]}:=hs₂.extBut _ _ (Nat.ne_of_gt enlt) ht₁
  have tr:∀{b u},H b=some u->b≠en /\ b≠it:=fun{b u} e=>⟨λz=>(by rw[z,g0.1] at e;cases e),λz=>(by rw[z,f0.1] at e;cases e)⟩
  have hok:HOk X.prog X.w (upd H s.heap.objs.size (.tup [.int i,x])) h₂:=by
   intro b o e
   by_cases hb:b=s.heap.objs.size
   ·subst hb
    rw[jb6] at e;cases e
    exact⟨(show 2<=sizeLine by decide),[.int i s.toks,u],.cons ⟨_,rfl⟩ (.cons ru .nil),⟨_,tup,rfl,_,rfl⟩⟩
   ·rw[jan hb] at e
    refine(I.hok b o e).stay (λc v hcc q=> ?_) (λc q=>by rw[jan (jbu q fr)];exact q) λc ys q=>by rw[jan (jbu q fr)];exact q
    have t:c≠en /\ c≠it:=by
     rcases hcc with rfl | hcc
     ·exact tr e
     ·exact tr hcc
    exact kp c v t.1 t.2 q
  have un:Un (frs X.stack) [en,it] H (upd H s.heap.objs.size (.tup [.int i,x])) s.heap h₂:=by
   have nx:∀{b:Addr},b∉[en,it]->b≠en /\ b≠it:=fun{b} hb=>⟨λz=>hb (by simp[z]),λz=>hb (by simp[z])⟩
   refine⟨λb o e _ _ hb=>kp b o (nx hb).1 (nx hb).2 e,λb o e _ _ hb=>⟨o.slots,kp b o (nx hb).1 (nx hb).2 e⟩,λb o e n _=> ?_,λb o e hb=>⟨o,kp b o (nx hb).1 (nx hb).2 e⟩,λb ys e=> ?_,λb o v e=> ?_,λb ps e=>⟨#[],?_⟩⟩
   ·rw[jan (Nat.ne_of_lt (Heap.lt_size e))];exact n
   ·rw[jan (jbu e fr)];exact e
   ·rw[jan (jbu e fr)];exact e
   ·rw[jan (jbu e fr)];simpa using e
  have I2:Inv X pins σ (upd H s.heap.objs.size (.tup [.int i,x])) {s with heap:=h₂,toks:=s.toks+1}:=
   I.call' (s':={s with heap:=h₂,toks:=s.toks+1}) (ch:=[en,it]) rfl un hok I.bare λb hb=>⟨(hf b hb).2.2.2.1,(hf b hb).2.1,(hf b hb).2.2.2.2.1,(hf b hb).2.2.2.2.2⟩
  refine⟨.ref s.heap.objs.size,_,I2,rfl,⟨s.heap.objs.size,x,fr,λys hy=>by rw[I.list_inj hy hq];exact hx,rfl,rfl⟩,⟨u,?_,?_⟩,λb hb=> ?_⟩
  ·have:((i+1:Nat):Int)=(i:Int)+1:=by push_cast;rfl
   rw[this];exact he₂
  ·exact hit₁.extBut hs₂.extBut (Ne.symm hne)
  ·have:b<s.heap.objs.size:=by
    rcases List.mem_cons.mp hb with rfl | hb
    ·exact enlt
    ·have e:b=it:=by simpa using hb
     subst e
     obtain⟨o,e,_⟩:=hit
     exact Heap.lt_size e
   rw[jan (Nat.ne_of_lt this)];exact(hf b hb).1
 done:=by
  intro X hP hw hK hc i pins s σ H E I hf st hg
  subst hP hw hK
  obtain⟨xs,hq,hx⟩:=hg
  obtain⟨its,rv,p,hz⟩:=I.list hq
  obtain⟨f0,f1,f2,f3,f4,f5⟩:=hf it (by simp)
  have hl:=rv.length
  obtain⟨old,he,hit⟩:=st
  exact wpAny_pyNext_enum_end (I.ok.hd hc) he hit p.isList (by simp;omega) λh' eb=>⟨rfl,I.turned (t':=s.toks) (λb o hb e=>eb b o hb e) f0 f1 f3 f4 f5⟩
 self:=λ_ _ _ _ _ st h=>by
  obtain⟨old,he,_⟩:=st
  exact wpAny_pyIter_enum he h
theorem jjw:bootBuiltins "enumerate"=some (.type "enumerate"):=by decide+kernel
def juh(K:W.Frag)(ta:TA):TI:=λσ H R=>ta σ H λvs H1=>∃a xs,vs=[.ref a] /\ SqL K H1 a xs /\ R (Ite K a) H1
theorem jyy{X:Cx}{elts:List Expr}{x1}{tpos:Pos}{e:Expr}{ta:TA}{p pos:Pos}(hg:Gl X "enumerate")(hm:X.mg "enumerate"=none)(ha:PA X [e] ta)
  (hs:starEach [e] X.env=[(false,eval e X.env)]:=by rfl):PI X (.Tuple elts x1 tpos) (.Call (.Name "enumerate" p) [e] [] pos) (juh X.K ta):=by
 intro pins s σ H R I h
 refine Call_ (jku I hg hm jjw (PyProof.Rows.callWith_type1 (thn (ha pos pins s σ H _ I h) λus s1 ⟨vs,H1,I1,r1,q1⟩=> ?_) hs rfl))
 obtain⟨a,xs,rfl,hq,q⟩:=q1
 cases r1 with
 | cons r rr=>
  cases rr
  cases r
  obtain⟨its,rv,pl,hz⟩:=I1.list hq
  refine call_enumerate_list pl.isList λh' he hit hsz kp=>wpAny_pyIter_enum (s:={s1 with heap:=h'}) he ?_
  have I2:Inv X pins σ H1 {s1 with heap:=h'}:=I1.kept (t':=s1.toks) kp
  refine⟨s1.heap.objs.size+1,[s1.heap.objs.size+1,s1.heap.objs.size],_,_,H1,rfl,I2,jt3 a _ _ (Nat.succ_ne_self _),⟨_,he,hit⟩,λb hb=> ?_,q⟩
  have hb':s1.heap.objs.size<=b:=by
   rcases List.mem_cons.mp hb with rfl | hb
   ·omega
   ·have e:b=s1.heap.objs.size:=by simpa using hb
    exact Nat.le_of_eq e.symm
  exact I1.fpOk hb' (I1.hok.fresh hb')
theorem jvu{X:Cx}{K:W.Frag}{tg e:Expr}{ta:TA}(k:X.K=K)(h:PI X tg e (juh X.K ta)):PI X tg e (juh K ta):=by subst k;exact h
section
variable {prog : Program} {w : World} {A : Around} {E : Value -> Shared -> Prop}
theorem jkz{it l:Addr}{items:Array Value}(hne:l≠it):∀(n i:Nat) (s:Shared) (Q:List Value->Shared->Prop),s.heap.IsListIter it l i->s.heap.IsList l items->i+n<=items.size->
  (∀h',h'.IsListIter it l (i+n)->Heap.SameBut it s.heap h'->Q ((items.toList.drop i).take n) {s with heap:=h'})->wpAny (model prog w) A (draw (.ref it) n) Q E s
 | 0,i,s,Q,hit,_,_,hQ=>by
  show wpAny _ _ (pure []) Q E s
  exact wpAny_pure (by simpa using hQ s.heap hit (Heap.SameBut.refl ..))
 | n+1,i,s,Q,hit,hl,hle,hQ=>by
  have hlt:i<items.size:=by omega
  show wpAny _ _ (pyNext (.ref it) >>= _) Q E s
  refine wpAny_bind (wpAny_pyNext_list_item hit hl (x:=items[i]) (by simp[hlt]) λh₁ hit₁ hs₁=> ?_)
  refine wpAny_bind (wpAny_holding (jkz hne n (i+1) _ _ hit₁ (hl.extBut hs₁.extBut hne) (by omega) λh₂ hit₂ hs₂=>wpAny_pure ?_))
  have hd:items.toList.drop i=items[i]::items.toList.drop (i+1):=by simp[List.drop_eq_getElem_cons,hlt]
  have:=hQ h₂ (by rw[show i+(n+1)=i+1+n by omega];exact hit₂) (hs₁.trans hs₂)
  rw[hd,List.take_succ_cons] at this
  exact this
theorem jh9{s:Shared}{l:Addr}{items:Array Value}{Q:List Value->Shared->Prop}(hh:A.handled=none)(hl:s.heap.IsList l items)
  (hQ:∀h',Heap.ExtBut s.heap.objs.size s.heap h'->Q items.toList {s with heap:=h'}):wpAny (model prog w) A (unpackItems (.ref l) items.size none) Q E s:=by
 have hlt:l≠s.heap.objs.size:=by obtain⟨o,ho,_⟩:=hl;exact Nat.ne_of_lt (Heap.lt_size ho)
 unfold unpackItems
 refine wpAny_bind ?_
 ·unfold notIterableAtAll
  refine wpAny_bind (wpAny_specialOf hl.typeIs slot_list_iter.lookup ?_)
  refine wpAny_pure ?_
  simp only[Bool.false_eq_true,if_false]
  refine wpAny_bind (wpAny_holding (wpAny_pyIter_list hl ?_))
  refine wpAny_bind (wpAny_holding (jkz hlt items.size 0 _ _ ⟨_,Heap.get?_push_size _ rfl,rfl,rfl⟩ (hl.push _) (by omega) λh₁ hit₁ hs₁=> ?_))
  have hall:List.take items.size (List.drop 0 items.toList)=items.toList:=by
   rw[List.drop_zero];exact List.take_of_length_le (by simp)
  rw[hall]
  rw[if_neg (by simp)]
  have hl₁:h₁.IsList l items:=(hl.push _).extBut hs₁.extBut hlt
  refine wpAny_bind (wpAny_holding (wpAny_pyNext_list_end hh hit₁ hl₁ (by simp) λh₂ he₂=> ?_))
  simp only[Option.isSome_none,Bool.false_eq_true,if_false]
  refine wpAny_pure (hQ h₂ λb o hb e=>he₂ b o hb (hs₁.extBut b o hb (Heap.get?_push_of_some _ e)))
end
def gSeq(K:W.Frag)(n:Nat)(t:TGs):TG:=λv σ H Q=>∃a xs,v= .ref a /\ (SqT K H a xs \/ SqL K H a xs) /\ xs.length=n /\ t xs σ H Q
theorem jro{X:Cx}{pos:Pos}{es:List Expr}{k:Nat}{t:TGs}{n:Nat}(hc:X.calm=true)(h:PGs X es t)
  (hn:(assignEach es X.env).length=n:=by rfl) (hst:(assignEach es X.env).findIdx? (·.1)=none:=by rfl):PG X (.Tuple es k pos) (gSeq X.K n t):=by
 intro pins s σ H v u Q I r hw
 obtain⟨a,xs,e1,hq,hl,hw⟩:=hw
 subst e1
 rcases hq with hq | hq
 ·exact pg_tup (n:=n) hc h hn hst pins s σ H (.ref a) u Q I r ⟨a,xs,rfl,hq,hl,hw⟩
 ·cases r
  obtain⟨its,rv,p,hz⟩:=I.list hq
  rw[PyProof.Rows.assign_Tuple]
  refine wpAny_bind (wpAny_standAt ?_)
  unfold unpack
  have hsz:(assignEach es X.env).length=its.toArray.size:=by simp[hn,<-hl,rv.length]
  rw[hsz,hst]
  refine wpAny_bind (wpAny_holding (jh9 (I.ok.hd hc) p.isList λh' hx=> ?_))
  have I1:Inv X pins σ H {s with heap:=h'}:=I.kept (t':=s.toks) λb o e=>hx b o (Nat.ne_of_lt (Heap.lt_size e)) e
  exact h pins _ σ H xs _ Q I1 (by simpa using rv) hw
theorem jm1{X:Cx}{K:W.Frag}{tg:Expr}{n:Nat}{t:TGs}(k:X.K=K)(h:PG X tg (gSeq X.K n t)):PG X tg (gSeq K n t):=by subst k;exact h
section
variable {X : Cx}
theorem op_isB:OpR X (compareOp .Is) (λx y H Q=>(y= .non /\ Q (.bl (decide (x= .non))) H) \/ ∃a b,x= .bl a /\ y= .bl b /\ Q (.bl (a==b)) H):=by
 intro pins s σ H x y v u Q I rx ry h
 rcases h with h | ⟨a,b,rfl,rfl,q⟩
 ·exact op_isN pins s σ H x y v u Q I rx ry h
 ·cases rx;cases ry
  refine PySem.wpAny_is_plain (by rfl) (jbh I q ?_)
  cases a<;>cases b<;>rfl
end
def GOks(nt:Nat)(g:TGs):Prop:=∀xs σ H Q (σ0:St),(σ.length=σ0.length /\ ∀i,nt<=i->σ[i]?=σ0[i]?)->g xs σ H Q->g xs σ H λσ' H'=>Q σ' H' /\ σ'.length=σ0.length /\ ∀i,nt<=i->σ'[i]?=σ0[i]?
theorem jud{nt:Nat}:GOks nt gNil:=λxs σ H Q σ0 k ⟨e,q⟩=>⟨e,q,k⟩
theorem jlb{nt i:Nat}{u:TGs}(h:i<nt)(r:GOks nt u):GOks nt (jxw (jac i) u):=λxs σ H Q σ0 k ⟨v,r',e,q⟩=>
 ⟨v,r',e,r r' _ H Q σ0 ⟨by simp[k.1],λj hj=>by rw[List.getElem?_set_ne (by omega)];exact k.2 j hj⟩ q⟩
theorem jzl{nt n:Nat}{K:W.Frag}{u:TGs}(r:GOks nt u):GOk nt (gSeq K n u):=λx σ H Q ⟨a,xs,e,hq,hl,q⟩=>⟨a,xs,e,hq,hl,r xs σ H Q σ ⟨rfl,λ_ _=>rfl⟩ q⟩
theorem jaw{X:Cx}{K:W.Frag}{e:Expr}{ta:TE}{f:Str}(k:X.K=K)(h:PE X e (tFld X.K ta f)):PE X e (tFld K ta f):=by subst k;exact h
theorem jbv{X:Cx}{K:W.Frag}{e:Stmt}{ta tv:TE}{f:Str}(k:X.K=K)(h:PS X e (sFld X.K ta tv f)):PS X e (sFld K ta tv f):=by subst k;exact h
theorem pe_mdK{X:Cx}{P:Program}{w:World}{K:W.Frag}{mg:Str->Option Value}{base:Heap}{CX:CXT}{k:Nat}{m:Str}{E:XK}{e:Expr}{ta:TE}{t:TA}(h1:X.prog=P)(h2:X.w=w)(h3:X.K=K)(h4:X.mg=mg)(h5:X.base=base)
  (h:PE X e (jgt X.prog X.w X.K X.mg X.base CX k m E ta t)):PE X e (jgt P w K mg base CX k m E ta t):=by subst h1 h2 h3 h4 h5;exact h
section
variable {X : Cx}
def jnx(ns ms:List Int):Prop:=ms.Perm ns /\ ms.Pairwise (·<=·)
def rBits:V->List V->Hp->VK->Prop:=λx xs H Q=>∃i:Int,x= .int i /\ xs=[] /\ Q (.int (Builtin.Int.intBits i:Nat)) H
theorem jy3:MtR X "int.bit_length" rBits:=by
 intro pins s σ H x xs v us Q I rx rv h
 obtain⟨i,rfl,rfl,q⟩:=h
 obtain⟨t,rfl⟩:=rx
 cases rv
 refine call_gives PySem.F.slot_int_bit_length (typeIs_int _ _ _) PySem.F.entry_int_bit_length (PySem.F.args_int_bit_length_1 _) (AutoIntG2.int_bit_length_int_0 i t) ?_
 exact⟨.int _,H,I.tok _,⟨_,rfl⟩,q⟩
end
section
variable {X : Cx} {k : Nat} {m : Str} {p pos apos : Pos} {e o : Expr} {es : List Expr} {ta : TE} {t : TA}
def jol(P:Program)(w:World)(K:W.Frag)(mg:Str->Option Value)(base:Heap)(k:Nat)(m:Str)(ta:TE)(t:TA):(Addr->Hp->Prop)->TE:=λF=>jgt P w K mg base (CXE P w) k m (FE F) ta t
theorem pex_md{pl:Sem Bool}(he:PE X.nox o ta)(hr:Room k X.A)(ha:PA X.nox (e::es) t)
  (hst:starEach (e::es) X.env=(false,eval e X.env)::starEach es X.env:=by rfl) (hpl:(backTo pos (starEach es X.env)).any (·.1)=false:=by rfl)
  (ht:eval (.Call (.Attribute o m apos) (e::es) [] pos) X.env=(do
   let ov<-eval o X.env
   standAt apos.atName
   let (f,first)<-holding [ov] (getMethod ov m pl)
   callWith pos f first (backTo pos (starEach (e::es) X.env)) (backToKw pos (keywordEach [] X.env))):=by rfl):
  PEX X (.Call (.Attribute o m apos) (e::es) [] pos) (jol X.prog X.w X.K X.mg X.base k m ta t):=by
 intro pins s σ H Q Fx I h
 refine W.methodCall_KW (pl:=pl) (nxa (he pins s σ H _ (I.wish _) h) λu s1 ⟨x,H1,I1,rx,a,C,dx,fs,sp,ex,ea,c,⟨f,fd,ps,hm,F,hb⟩,l,q⟩=> ?_) ht
 subst ex
 obtain rfl:u=Value.ref a:=rx
 refine jgm I1.unwish ea c hm l ?_
 refine W.callWith_K (first:=[.ref a]) (h₀:=X.base) I.ok.mod.kin hm.kp (nxa (ha pos pins s1 σ H1 _ I1 q) λus s2 ⟨vs,H2,I2,r,q2⟩=>⟨I2.kIn,?_⟩) hst hpl
 exact jxn (us:= .ref a::us) (vs:= .ref a::vs) (dvs:=[]) (ds:=[]) F hr hb .nil I2.unwish (.cons rfl r) (by simpa using q2)
theorem jxs{P:Program}{w:World}{K:W.Frag}{mg:Str->Option Value}{base:Heap}{e:Expr}(h1:X.prog=P)(h2:X.w=w)(h3:X.K=K)(h4:X.mg=mg)(h5:X.base=base)
  (h:PEX X e (jol X.prog X.w X.K X.mg X.base k m ta t)):PEX X e (jol P w K mg base k m ta t):=by subst h1 h2 h3 h4 h5;exact h
end
def Itfz(a:Addr)(o:Obj)(kvs:List (Key×V)):It:=
 ⟨λi H=>H a=some (.frz o (.dK kvs)) /\ i<kvs.length,λi H x H'=>H'=H /\ (kvs[i]?).map (·.2)=some x,λi H=>H a=some (.frz o (.dK kvs)) /\ kvs.length<=i⟩
theorem KV.get{kvs:List (Key×V)}{vs:List (Key×Value)}(r:KV kvs vs){i:Nat}{k:Key}{u:Value}(h:vs[i]?=some (k,u)):∃x,kvs[i]?=some (k,x) /\ RelV x u:=by
 induction r generalizing i with
 | nil=>simp at h
 | @cons p q ps qs hq t ih=>
  cases i with
  | zero=>
   simp only[List.getElem?_cons_zero,Option.some.injEq] at h
   subst h
   obtain⟨h1,h2⟩:=hq
   exact⟨p.2,congrArg some (Prod.ext h1 rfl),h2⟩
  | succ i=>exact ih h
theorem jk1{prog:Program}{w:World}{h:Heap}{a:Addr}{o:Obj}{vs:List (Key×Value)}{ep:Nat}(e:h.get? a=some o)(hep:∀es x,o.data= .dict es x->x=ep)(dd:h.DictOf (jc7 prog w) a vs):h.DictAt (jc7 prog w) a vs ep:=by
 obtain⟨ep',hat⟩:=dd.dictAt
 obtain⟨o',es,h1,h2,h3,h4⟩:=id hat
 rw[e] at h1;cases h1
 rw[hep es ep' h3] at hat
 exact hat
theorem jq8{P:Program}{w:World}{K:W.Frag}{tg:Expr}(a it:Addr)(o:Obj)(kvs:List (Key×V))(ep:Nat)(hep:∀es x,o.data= .dict es x->x=ep):Turn P w K tg (Itfz a o kvs) [it] it (λi h=>h.IsValIter it a i kvs.length ep) where
 mem:=by simp
 obj:=λi h st b hb=>by
  have e:b=it:=by simpa using hb
  subst e
  obtain⟨o,e,c,d⟩:=st
  exact⟨o,e,λv z=>by rw[d] at z;cases z⟩
 keep:=λi h h' st k=>st.at λo e=>k it (by simp) o e
 item:=by
  intro X hP hw hK hc i pins s σ H E I hf st hg
  subst hP hw hK
  obtain⟨hq,hi⟩:=hg
  obtain⟨f0,f1,f2,f3,f4,f5⟩:=hf it (by simp)
  obtain⟨eo,z,hd,vs,rel,dd⟩:=(show jcm X.prog X.w H s.heap a (.frz o (.dK kvs)) from I.hok a _ hq)
  have hl:=rel.length
  have hat:=jk1 eo hep dd
  have hlt:i<vs.length:=by omega
  obtain⟨⟨k,u⟩,hx⟩:∃p,vs[i]?=some p:=⟨vs[i],by simp[hlt]⟩
  obtain⟨x,hkx,rx⟩:=rel.get hx
  rw[hl] at st
  refine wpAny_pyNext_values_item st hat hx λh' st' sb=> ?_
  have I1:Inv X pins σ H {s with heap:=h'}:=I.turned (t':=s.toks) (λb o hb e=>(sb.2 b hb).trans e) f0 f1 f3 f4 f5
  obtain⟨o',e,c,d⟩:=id st'
  rw[<-hl] at st'
  exact⟨u,rfl,jop (s:={s with heap:=h'}) e c d (by decide) ⟨x,H,I1,rx,⟨rfl,by rw[hkx];rfl⟩,st',λb hb=>(hf b hb).1⟩⟩
 done:=by
  intro X hP hw hK hc i pins s σ H E I hf st hg
  subst hP hw hK
  obtain⟨hq,hi⟩:=hg
  obtain⟨f0,f1,f2,f3,f4,f5⟩:=hf it (by simp)
  obtain⟨eo,z,hd,vs,rel,dd⟩:=(show jcm X.prog X.w H s.heap a (.frz o (.dK kvs)) from I.hok a _ hq)
  have hl:=rel.length
  have hat:=jk1 eo hep dd
  rw[hl] at st
  exact wpAny_pyNext_values_end (I.ok.hd hc) st hat (List.getElem?_eq_none (by omega)) λh' eb=>⟨rfl,I.turned (t':=s.toks) (λb o hb e=>eb b o hb e) f0 f1 f3 f4 f5⟩
 self:=λ_ _ _ _ _ st h=>wpAny_pyIter_valiter st h
def NF(X:Cx)(a:Addr):Prop:=∀o u,X.H₀ a≠some (.frz o u)
theorem Inv.recast{X:Cx}{pins:List (Addr×Obj)}{σ:St}{H:Hp}{s:Shared}{a:Addr}{u v:HO}(I:Inv X pins σ H s)(e:H a=some u)(n:NF X a)(h1:∀xs,u≠ .tup xs)(h2:∀ps,u≠ .tbl ps)(h3:∀y,u≠ .own y)(new:jcm X.prog X.w (upd H a v) s.heap a v):Inv X pins σ (upd H a v) s:=by
 have ne:∀b,H b=none->b≠a:=λb hb z=>by rw[z,e] at hb;cases hb
 refine⟨I.ok,I.os,I.bare,⟨I.base.keep,I.base.slot,λb ob q m x=> ?_,I.base.there,λb xs q=> ?_,λb ob w q=> ?_,λb ps q=> ?_⟩,I.loc,I.cell,?_,λx c q=> ?_,λp hp=> ?_,λb ob q=> ?_,I.len⟩
 ·have:=I.base.free b ob q m x
  rw[jan (ne b this)];exact this
 ·have:=I.base.tups b xs q
  rw[jan (λz=>by rw[z,e] at this;exact h1 xs (Option.some.inj this))];exact this
 ·have nb:b≠a:=λz=>by subst z;exact n ob w q
  rw[jan nb];exact I.base.frzs b ob w q
 ·obtain⟨more,this⟩:=I.base.tbls b ps q
  exact⟨more,by rw[jan (λz=>by rw[z,e] at this;exact h2 _ (Option.some.inj this))];exact this⟩
 ·rw[jan (ne _ I.free)];exact I.free
 ·rw[jan (ne _ (I.freeC x c q))];exact I.freeC x c q
 ·obtain⟨p1,p2,p3⟩:=I.pin p hp
  exact⟨p1,by rw[jan (ne _ p2)];exact p2,p3⟩
 ·by_cases hb:b=a
  ·subst hb;rw[jb6] at q;cases q;exact new
  ·rw[jan hb] at q
   exact(I.hok b ob q).stay (λ_ _ _ r=>r) (λc r=>by rw[jan (λz=>by rw[z,e] at r;exact h3 b (Option.some.inj r))];exact r) λc xs r=>by
    rw[jan (λz=>by rw[z,e] at r;exact h1 xs (Option.some.inj r))];exact r
theorem Inv.nf{X:Cx}{pins:List (Addr×Obj)}{σ:St}{H:Hp}{s:Shared}{a:Addr}{u:HO}(I:Inv X pins σ H s)(e:H a=some u)(h:∀o w,u≠ .frz o w):NF X a:=λo w q=>by
 have:=I.base.frzs a o w q
 rw[e] at this
 exact h o w (Option.some.inj this)
theorem Inv.thaw{X:Cx}{pins:List (Addr×Obj)}{σ:St}{H:Hp}{s:Shared}{a:Addr}{o:Obj}{kvs:List (Key×V)}(I:Inv X pins σ H s)(n:NF X a)(e:H a=some (.frz o (.dK kvs))):Inv X pins σ (upd H a (.dK kvs)) s:=by
 obtain⟨_,z,hd,vs,rel,dd⟩:=(show jcm X.prog X.w H s.heap a (.frz o (.dK kvs)) from I.hok a _ e)
 exact I.recast e n (λ_ z=>nomatch z) (λ_ z=>nomatch z) (λ_ z=>nomatch z) ⟨z,hd,vs,rel,dd⟩
def iVals(N:Addr->Prop)(te:TE):TI:=λσ H R=>te σ H λx H1=>∃a kvs,x= .ref a /\ H1 a=some (.dK kvs) /\ ∀o,o.cls= .type "dict"->N a->R (Itfz a o kvs) (upd H1 a (.frz o (.dK kvs)))
theorem jzj{X:Cx}{tg e:Expr}{te:TE}{apos cpos:Pos}(he:PE X e te)(hbase:attributeBase e "values" X.env (eval e X.env)=eval e X.env:=by rfl)(hline:(apos.endLine==cpos.line)=true:=by rfl):
  PI X tg (.Call (.Attribute e "values" apos) [] [] cpos) (iVals (NF X) te):=by
 intro pins s σ H R I h
 refine wpAny_Call_method0_late hbase hline (thn (he pins s σ H _ I h) λv s1 ⟨x,H1,I1,r1,q1⟩=> ?_)
 obtain⟨a,kvs,rfl,ea,q⟩:=q1
 cases r1
 obtain⟨z,hd,vs,rel,dd⟩:=dk_of I1.hok ea
 obtain⟨h1,h2⟩:=jqr I1 (show RelV (.ref a) (.ref a) from rfl) (T:="dict") (.inr (.inr (.inl ⟨rfl,.inl ⟨_,ea⟩⟩)))
 refine⟨"dict","dict.values",PySem.F.plainAttrs_dict,PySem.F.slot_dict_values,PySem.F.type_dict_values,h1,h2,Calls.callWith_builtin rfl (PySem.evalArgs_none ?_)⟩
 refine call_meetsIn PySem.F.slot_dict_values dd.typeIs PySem.F.entry_dict_values (PySem.F.args_dict_values_1 _) (meets_dict_values (jc7 X.prog X.w) a hd) ⟨⟨vs,dd⟩,?_⟩
 obtain⟨ep,hat⟩:=dd.dictAt
 obtain⟨o,es,eo,ec,edat,_⟩:=id hat
 have kp:∀b ob,s1.heap.get? b=some ob->((s1.heap.push {cls:= .type "dict_values",data:= .fields #[.ref a]}).push {cls:= .type "dict_valueiterator",data:= .fields #[.ref a,.int 0 0,.int vs.length 0,.int ep 0]}).get? b=some ob:=λb ob e=>Heap.get?_push_of_some _ (Heap.get?_push_of_some _ e)
 have I2:Inv X pins σ H1 {s1 with heap:=(s1.heap.push {cls:= .type "dict_values",data:= .fields #[.ref a]}).push {cls:= .type "dict_valueiterator",data:= .fields #[.ref a,.int 0 0,.int vs.length 0,.int ep 0]}}:=I1.kept (t':=s1.toks) kp
 have nf:NF X a:=I1.nf ea λ_ _ z=>nomatch z
 have hok2:=I2.hok a _ ea
 have I3:=I2.recast (v:= .frz o (.dK kvs)) ea nf (λ_ z=>nomatch z) (λ_ z=>nomatch z) (λ_ z=>nomatch z) ⟨kp a o eo,hok2.1,hok2.2.1,hok2.2.2⟩
 show wpAny (model X.prog X.w) X.A (pyIter (.ref s1.heap.objs.size)) (PIE X pins σ tg R) X.xe {s1 with heap:=s1.heap.push {cls:= .type "dict_values",data:= .fields #[.ref a]}}
 refine wpAny_pyIter_values (knd:=jc7 X.prog X.w) (kvs:=vs) (ep:=ep) ⟨_,Heap.get?_push_size _ rfl,rfl,rfl⟩ (hat.push _) ?_
 have hl:=rel.length
 have gz:s1.heap.objs.size<=(s1.heap.push {cls:= .type "dict_values",data:= .fields #[.ref a]}).objs.size:=by rw[Heap.size_push];omega
 have na:a≠(s1.heap.push {cls:= .type "dict_values",data:= .fields #[.ref a]}).objs.size:=Nat.ne_of_lt (Nat.lt_of_lt_of_le (Heap.lt_size eo) gz)
 refine⟨_,[(s1.heap.push {cls:= .type "dict_values",data:= .fields #[.ref a]}).objs.size],_,_,_,rfl,I3,jq8 a _ o kvs ep (λes' x e=> ?_),?_,λb hb=> ?_,q o ec.1 nf⟩
 ·rw[edat] at e;cases e;rfl
 ·rw[hl];exact⟨_,Heap.get?_push_size _ rfl,rfl,rfl⟩
 ·have e:b=(s1.heap.push {cls:= .type "dict_values",data:= .fields #[.ref a]}).objs.size:=by simpa using hb
  subst e
  refine I1.fpOk gz ?_
  rw[jan (Ne.symm na)]
  exact I1.hok.fresh gz
def thawE(N:Addr->Prop)(D:Ends):Ends:=
 ⟨λσ H=>∃a o kvs,N a /\ H a=some (.frz o (.dK kvs)) /\ D.nx σ (upd H a (.dK kvs)),λv H=>∃a o kvs,N a /\ H a=some (.frz o (.dK kvs)) /\ D.rt v (upd H a (.dK kvs)),λ_ _=>False,λ_ _=>False⟩
def tForV(te:TE)(g:TG)(tb:TS):TS:=λD σ H=>∀N:Addr->Prop,tFor (iVals N te) g tb (thawE N D) σ H
theorem jxh{X:Cx}{tg e:Expr}{te:TE}{apos cpos:Pos}{body:List Stmt}{g:TG}{tb:TS}{pos:Pos}(hp:PassesOwn (model X.prog X.w) X.A X.env X.xe)(hc:X.calm=true)(he:PE X e te)(hg:PG X tg g)(hb:PSs X body tb)
  (hs:∀x,foldedSetIterable (.Call (.Attribute e "values" apos) [] [] cpos) X.env x=pure x:=by intro _;rfl) (hbase:attributeBase e "values" X.env (eval e X.env)=eval e X.env:=by rfl) (hline:(apos.endLine==cpos.line)=true:=by rfl):
  PS X (.For tg (.Call (.Attribute e "values" apos) [] [] cpos) body [] pos) (tForV te g tb):=by
 intro pins s σ H D I h
 refine thn (jfu hp hc (jzj he hbase hline) hg hb hs pins s σ H (thawE (NF X) D) I (h (NF X))) λf s1 q=> ?_
 cases f with
 | next=>obtain⟨σ1,H1,I1,a,o,kvs,n,e,q⟩:=q;exact⟨σ1,_,I1.thaw n e,q⟩
 | ret u=>obtain⟨v,σ1,H1,I1,r,a,o,kvs,n,e,q⟩:=q;exact⟨v,σ1,_,I1.thaw n e,r,q⟩
 | brk=>obtain⟨_,_,_,q⟩:=q;exact q.elim
 | cont=>obtain⟨_,_,_,q⟩:=q;exact q.elim
def jmr(K:W.Frag):List V->Hp->VK->Prop:=λxs H Q=>∃(p:Addr) (ns:List Int),xs=[.ref p] /\ SqL K H p (ns.map V.int) /\ ns.length<64 /\ ∀l ms,jnx ns ms->H l=none->Q (.ref l) (upd H l (.lst (ms.map V.int)))
theorem jmm{X:Cx}:jcj X (.builtin "sorted") (jmr X.K):=by
 intro pins s σ H xs us Q I r h
 obtain⟨p,ns,rfl,hq,hn,q⟩:=h
 obtain⟨u,rfl,rx⟩:=jh8 r
 cases rx
 obtain⟨its,r',pl,hz⟩:=I.list hq
 have hl:=r'.length
 rw[List.length_map] at hl hz
 refine PyProof.Rows.sorted_ints pl.isList (jpa r') (by omega) λout ns' hI hp hs=> ?_
 obtain⟨ep,hat⟩:=PyProof.Rows.sortedAll_at s.heap its out
 have hl':=hp.length_eq
 refine⟨.ref _,_,I.laid (t':=s.toks) (a:=s.heap.objs.size+1) (o:= .lst (ns'.map V.int)) (λb o e=>PyProof.Rows.sortedAll_old e) (Nat.le_succ _) ⟨by rw[List.length_map];omega,out.toList,ep,jhn hI,by simpa using hat⟩,rfl,q _ ns' ⟨hp,hs⟩ (I.hok.fresh (Nat.le_succ _))⟩
theorem jgs{X:Cx}{K:W.Frag}(k:X.K=K):jcj X (.builtin "sorted") (jmr K):=by subst k;exact jmm
end L2
namespace Z
open PySem
inductive D where
 | non | bl (b:Bool) | int (i:Int) | str (x:Str) | tup (xs:List D) | lst (xs:List D) | arg (ns:List Int) | ref (k:Nat)
 | ty (n:String) | cls (n:String) | exc (n:String) | obj (c:String) (fs:List (Str×D)) | dic (kvs:List (Sum Int Str×D))
inductive Cell where
 | lst (xs:List D) | dct (kvs:List (Sum Int Str×D)) | ins (c:String) (fs:List (Str×D)) | fdc (kvs:List (Sum Int Str×D))
def Cell.live:Cell->Bool
 | .fdc _=>false | _=>true
abbrev MH:=List (Option Cell)
abbrev Ro:=List (Option D)
inductive Res (α:Type) where
 | ok (a:α) (h:MH) | exc (c:String) (h:MH) | stuck
inductive RS where
 | nx (ρ:Ro) (h:MH) | rt (d:D) (h:MH) | bk (ρ:Ro) (h:MH) | ct (ρ:Ro) (h:MH) | exc (c:String) (h:MH) | stuck
def Res.bind{α β:Type}(r:Res α)(f:α->MH->Res β):Res β:=match r with
 | .ok a h=>f a h | .exc c h=> .exc c h | .stuck=> .stuck
@[simp] theorem jde{α β:Type}{a:α}{h:MH}{f:α->MH->Res β}:(Res.ok a h).bind f=f a h:=rfl
@[simp] theorem bind_exc{α β:Type}{c:String}{h:MH}{f:α->MH->Res β}:(Res.exc c h).bind f= .exc c h:=rfl
@[simp] theorem bind_stuck{α β:Type}{f:α->MH->Res β}:(Res.stuck).bind f= .stuck:=rfl
def Res.toS{α:Type}(r:Res α)(f:α->MH->RS):RS:=match r with
 | .ok a h=>f a h | .exc c h=> .exc c h | .stuck=> .stuck
@[simp] theorem jdr{α:Type}{a:α}{h:MH}{f:α->MH->RS}:(Res.ok a h).toS f=f a h:=rfl
@[simp] theorem toS_exc{α:Type}{c:String}{h:MH}{f:α->MH->RS}:(Res.exc c h).toS f= .exc c h:=rfl
@[simp] theorem toS_stuck{α:Type}{f:α->MH->RS}:(Res.stuck).toS f= .stuck:=rfl
abbrev ME:=Ro->MH->Res D
abbrev MT:=Ro->MH->Res Bool
abbrev ML:=Ro->MH->Res (List D)
abbrev MO:=Ro->MH->Res (Option Int)
abbrev MI:=Ro->MH->Res (Option Nat×List D)
abbrev MS:=Ro->MH->RS
abbrev MG:=D->Ro->MH->RS
abbrev MF:=List D->MH->Res D
abbrev B2:=D->D->MH->Res D
@[simp] def chk{α:Type}(c:Prop)[Decidable c](r:Res α):Res α:=if c then r else .stuck
@[simp] def mVar(i:Nat):ME:=λρ h=>match ρ[i]? with
 | some (some d)=> .ok d h | _=> .stuck
@[simp] def mC(d:D):ME:=λ_ h=> .ok d h
@[simp] def mBin(f:B2)(a b:ME):ME:=λρ h=>(a ρ h).bind λx h1=>(b ρ h1).bind λy h2=>f x y h2
@[simp] def mUn(f:D->MH->Res D)(a:ME):ME:=λρ h=>(a ρ h).bind f
@[simp] def mNil:ML:=λ_ h=> .ok [] h
@[simp] def ja2(a:ME)(l:ML):ML:=λρ h=>(a ρ h).bind λx h1=>(l ρ h1).bind λxs h2=> .ok (x::xs) h2
@[simp] def mTup(l:ML):ME:=λρ h=>(l ρ h).bind λxs h1=>chk (xs.length<=16777216) (.ok (.tup xs) h1)
@[simp] def jc8(l:ML):ML:=λρ h=>(l ρ h).bind λxs h1=>chk (xs.length<=16777216) (.ok xs h1)
@[simp] def jb5(l:ML):ME:=λρ h=>(l ρ h).bind λxs h1=> .ok (.lst xs) h1
@[simp] def js1(l:ML):ME:=λρ h=>(l ρ h).bind λxs h1=> .ok (.ref h1.length) (h1++[some (.lst xs)])
@[simp] def jar(z:MF)(l:ML):ME:=λρ h=>(l ρ h).bind z
@[simp] def mFn(f:List D->MH->Res D)(l:ML):ME:=λρ h=>(l ρ h).bind f
@[simp] def tB(m:ME):MT:=λρ h=>(m ρ h).bind λd h1=>match d with
 | .bl b=> .ok b h1 | _=> .stuck
@[simp] def tAnd(a b:MT):MT:=λρ h=>(a ρ h).bind λc h1=>if c=true then b ρ h1 else .ok false h1
@[simp] def tOr(a b:MT):MT:=λρ h=>(a ρ h).bind λc h1=>if c=true then .ok true h1 else b ρ h1
@[simp] def tNot(a:MT):MT:=λρ h=>(a ρ h).bind λc h1=> .ok (!c) h1
@[simp] def mIf(t:MT)(a b:ME):ME:=λρ h=>(t ρ h).bind λc h1=>if c=true then a ρ h1 else b ρ h1
@[simp] def mOr(a b:ME):ME:=λρ h=>(a ρ h).bind λd h1=>match d with
 | .bl c=>if c=true then .ok (.bl true) h1 else b ρ h1
 | _=> .stuck
@[simp] def jnh(f g:B2)(a b c:ME):ME:=λρ h=>(a ρ h).bind λx h1=>(b ρ h1).bind λy h2=>(f x y h2).bind λz h3=>match z with
 | .bl k=>if k=true then(c ρ h3).bind λw h4=>g y w h4 else .ok (.bl false) h3
 | _=> .stuck
@[simp] def asL(h:MH):D->Option (List D)
 | .lst xs=>some xs
 | .ref k=>match h[k]? with
  | some (some (.lst xs))=>some xs
  | _=>none
 | _=>none
@[simp] def asQ(h:MH):D->Option (List D)
 | .lst xs=>some xs
 | .tup xs=>some xs
 | .arg ns=>some (ns.map .int)
 | .ref k=>match h[k]? with
  | some (some (.lst xs))=>some xs
  | _=>none
 | _=>none
@[simp] def asD(h:MH):D->Option (List (Sum Int Str×D))
 | .dic kvs=>some kvs
 | .ref k=>match h[k]? with
  | some (some (.dct kvs))=>some kvs
  | _=>none
 | _=>none
@[simp] def asR(h:MH):D->Option (List (Sum Int Str×D))
 | .dic kvs=>some kvs
 | .ref k=>match h[k]? with
  | some (some (.dct kvs))=>some kvs
  | some (some (.fdc kvs))=>some kvs
  | _=>none
 | _=>none
@[simp] def jgk(h:MH):D->Option Bool
 | .non=>some false
 | .bl b=>some b
 | .int i=>some (i !=0)
 | .str y=>if y.length<=16777216 then some ((y.length:Int)!=0) else none
 | d=>match asQ h d with
  | some xs=>some (!xs.isEmpty)
  | none=>match d with
   | .ref _=>(asD h d).map λkvs=> !kvs.isEmpty
   | _=>none
def oR{α:Type}(o:Option α)(h:MH):Res α:=match o with
 | some a=> .ok a h | none=> .stuck
@[simp] theorem jsv{α:Type}{a:α}{h:MH}:oR (some a) h= .ok a h:=rfl
@[simp] theorem oR_none{α:Type}{h:MH}:oR (none:Option α) h= .stuck:=rfl
@[simp] def tTru(m:ME):MT:=λρ h=>(m ρ h).bind λd h1=>oR (jgk h1 d) h1
@[simp] def js3(m:ME):ME:=λρ h=>(m ρ h).bind λd h1=>(oR (jgk h1 d) h1).bind λb h2=> .ok (.bl (!b)) h2
def jph(i j:Int):Prop:=i.natAbs<18446744073709551616 \/ j.natAbs<18446744073709551616
instance (i j:Int):Decidable (jph i j):=by unfold jph;infer_instance
def jor(i j:Int):Prop:=0<=j /\ j<=1000000 /\ i.natAbs<18446744073709551616
instance (i j:Int):Decidable (jor i j):=by unfold jor;infer_instance
@[simp] def dAdd:B2:=λx y h=>match x,y with
 | .int i,.int j=> .ok (.int (i+j)) h
 | .str a,.str b=>chk (a.length+b.length<=16777216) (.ok (.str (a++b)) h)
 | .tup a,.tup b=>chk (a≠[] /\ a.length+b.length<=16777216) (.ok (.tup (a++b)) h)
 | _,_=>(oR (asL h x) h).bind λa h=>(oR (asL h y) h).bind λb h=>chk (a.length+b.length<=16777216) (.ok (.lst (a++b)) h)
@[simp] def dInt(f:Int->Int->Int):B2:=λx y h=>match x,y with
 | .int i,.int j=> .ok (.int (f i j)) h | _,_=> .stuck
@[simp] def jlc(c:Int->Int->Prop)[∀i j,Decidable (c i j)](f:Int->Int->Int):B2:=λx y h=>match x,y with
 | .int i,.int j=>chk (c i j) (.ok (.int (f i j)) h) | _,_=> .stuck
@[simp] def dSub:B2:=dInt (· - ·)
@[simp] def dMul:B2:=λx y h=>match x,y with
 | .int i,.int j=>chk (jph i j) (.ok (.int (i*j)) h)
 | .str z,.int n=>chk (n.natAbs<=16777216 /\ z.length*n.toNat<=16777216) (.ok (.str (Txt.mul z n)) h)
 | _,.int k=>(oR (asL h x) h).bind λa h=>chk (k.natAbs<9223372036854775808 /\ a.length*k.toNat<=16777216) (.ok (.lst (List.replicate k.toNat a).flatten) h)
 | _,_=> .stuck
@[simp] def dDiv:B2:=jlc (λ_ j=>0<j /\ j<1073741824) (· / ·)
@[simp] def dMod:B2:=jlc (λ_ j=>0<j) (· % ·)
@[simp] def dShl:B2:=jlc jor (λi j=>i*2^j.toNat)
@[simp] def dShr:B2:=jlc (λ_ j=>0<=j) (λi j=>i / 2^j.toNat)
@[simp] def dAnd:B2:=dInt Builtin.bitAnd
@[simp] def dOr:B2:=dInt Builtin.bitOr
@[simp] def dXor:B2:=dInt Builtin.bitXor
@[simp] def dNeg:D->MH->Res D:=λx h=>match x with
 | .int i=> .ok (.int (-i)) h | _=> .stuck
@[simp] def dInv:D->MH->Res D:=λx h=>match x with
 | .int i=> .ok (.int (Builtin.bitNot i)) h | _=> .stuck
@[simp] def dCmp(f:Int->Int->Bool):B2:=λx y h=>match x,y with
 | .int i,.int j=> .ok (.bl (f i j)) h | _,_=> .stuck
@[simp] def dLt:B2:=dCmp λi j=>decide (i<j)
@[simp] def dLe:B2:=dCmp λi j=>decide (i<=j)
@[simp] def dGt:B2:=dCmp λi j=>decide (j<i)
@[simp] def dGe:B2:=dCmp λi j=>decide (j<=i)
@[simp] def jkx:D->Bool
 | .non=>true | _=>false
@[simp] def dIs:B2:=λx y h=>match x,y with
 | .bl a,.bl b=> .ok (.bl (a==b)) h
 | x,.non=> .ok (.bl (jkx x)) h
 | _,_=> .stuck
def strOk(x:Str):Bool:=x.cps.all (·<0x110000)
mutual
def D.py:D->Option PyData
 | .non=>some .none
 | .bl b=>some (.bool b)
 | .int i=>some (.int i)
 | .str x=>if strOk x then some (.str x) else none
 | .tup xs=>(D.pys xs).map .tuple
 | .lst xs=>(D.pys xs).map .list
 | _=>none
def D.pys:List D->Option (List PyData)
 | []=>some []
 | d::ds=>match D.py d,D.pys ds with
  | some p,some ps=>some (p::ps)
  | _,_=>none
end
mutual
def D.deep:D->Nat
 | .tup xs | .lst xs=>D.deeps xs+1
 | _=>0
def D.deeps:List D->Nat
 | []=>0
 | d::ds=>max (D.deep d) (D.deeps ds)
end
mutual
def D.eq:D->D->Bool
 | .non,.non=>true
 | .bl a,.bl b=>a==b
 | .bl a,.int j=>(if a then 1 else 0)==j
 | .int i,.bl b=>i==(if b then 1 else 0)
 | .int i,.int j=>i==j
 | .str x,.str y=>x==y
 | .tup xs,.tup ys=>D.eqs xs ys
 | .lst xs,.lst ys=>D.eqs xs ys
 | _,_=>false
def D.eqs:List D->List D->Bool
 | [],[]=>true
 | x::xs,y::ys=>D.eq x y&&D.eqs xs ys
 | _,_=>false
end
def D.dat(d:D):Bool:=d.py.isSome&&decide (d.deep<=64)
def res:Nat->MH->D->D
 | 0,_,d=>d
 | n+1,h,.ref k=>match h[k]? with
  | some (some (.lst xs))=> .lst (xs.map (res n h))
  | _=> .ref k
 | n+1,h,.tup xs=> .tup (xs.map (res n h))
 | n+1,h,.lst xs=> .lst (xs.map (res n h))
 | _+1,_,d=>d
def see(h:MH)(d:D):D:=res 8 h d
@[simp] def flat:D->Bool
 | .non | .bl _ | .int _ | .str _=>true
 | _=>false
@[simp] def dEq:B2:=λx y h=>match x,y with
 | .int i,.int j=> .ok (.bl (decide (i=j))) h
 | .str i,.str j=> .ok (.bl (decide (i=j))) h
 | .bl i,.bl j=> .ok (.bl (i==j)) h
 | _,_=>if x.dat=true /\ y.dat=true then .ok (.bl (x.eq y)) h else chk ((see h x).dat=true /\ (see h y).dat=true) (.ok (.bl ((see h x).eq (see h y))) h)
@[simp] def dNe:B2:=λx y h=>(dEq x y h).bind λz h=>match z with
 | .bl b=> .ok (.bl (!b)) h | _=> .stuck
def numS(n:Int):Str:=Str.ofString (toString n)
def ixN(n:Nat)(i:Int):Option Nat:=if 0<=i then(if i<n then some i.toNat else none) else if -(n:Int)<=i then some (i+n).toNat else none
def atI{α:Type}(xs:List α)(i:Int):Option α:=(ixN xs.length i).bind λj=>xs[j]?
@[simp] def jvj:D->Option (Sum Int Str)
 | .int i=>some (.inl i)
 | .str x=>some (.inr x)
 | _=>none
def valK(kvs:List (Sum Int Str×D))(k:Sum Int Str):Option D:=(kvs.find? λkv=>decide (kv.1=k)).map (·.2)
def putK(kvs:List (Sum Int Str×D))(k:Sum Int Str)(v:D):List (Sum Int Str×D):=
 if kvs.any (λkv=>decide (kv.1=k)) then kvs.map λkv=>if kv.1=k then(kv.1,v) else kv else kvs++[(k,v)]
@[simp] def dIx:B2:=λx y h=>match x,y with
 | .str z,.int i=>chk (z.length<=16777216) ((oR (atI z.cps.toList i) h).bind λc h=> .ok (.str ⟨#[c]⟩) h)
 | x,y=>match asQ h x with
  | some xs=>match y with
   | .int i=>oR (atI xs i) h
   | _=> .stuck
  | none=>match asR h x,jvj y with
   | some kvs,some k=>oR (valK kvs k) h
   | _,_=> .stuck
def eqF:D->D->Bool
 | .non,.non=>true
 | .bl a,.bl b=>a==b
 | .bl a,.int b=>(if a then 1 else 0)==b
 | .int a,.bl b=>a==(if b then 1 else 0)
 | .int a,.int b=>a==b
 | .str a,.str b=>a==b
 | _,_=>false
@[simp] def dIn(neg:Bool):B2:=λx y h=>match x,y with
 | .str i,.str j=> .ok (.bl (if neg then !(!(Builtin.Str.occurrences j i 0 j.length 1).isEmpty) else !(Builtin.Str.occurrences j i 0 j.length 1).isEmpty)) h
 | x,y=>match asQ h y with
  | some ys=>chk (flat x=true /\ ys.all flat=true) (.ok (.bl (if neg then !(ys.any λy=>eqF y x) else ys.any λy=>eqF y x)) h)
  | none=>match asR h y,jvj x with
   | some kvs,some k=> .ok (.bl (if neg then !(valK kvs k).isSome else(valK kvs k).isSome)) h
   | _,_=> .stuck
def sIx(n d:Nat):Option Int->Nat
 | none=>d
 | some v=>if v<0 then(v+(n:Int)).toNat else min v.toNat n
def cut{α:Type}(xs:List α)(lo hi:Option Int):List α:=(xs.drop (sIx xs.length 0 lo)).take (sIx xs.length xs.length hi - sIx xs.length 0 lo)
@[simp] def oNo:MO:=λ_ h=> .ok none h
@[simp] def oSo(m:ME):MO:=λρ h=>(m ρ h).bind λd h1=>match d with
 | .int i=> .ok (some i) h1 | _=> .stuck
@[simp] def mSl(m:ME)(lo hi:MO):ME:=λρ h=>(m ρ h).bind λd h1=>(lo ρ h1).bind λl h2=>(hi ρ h2).bind λu h3=>match d with
 | .tup xs=>chk (¬(sIx xs.length 0 l=0 /\ sIx xs.length xs.length u=xs.length)) (.ok (.tup (cut xs l u)) h3)
 | .str z=>chk (z.length<=16777216) (.ok (.str (Txt.slice z l u)) h3)
 | d=>(oR (asQ h3 d) h3).bind λxs h4=> .ok (.lst (cut xs l u)) h4
@[simp] def jld:List D->Option (List Int)
 | []=>some []
 | .int i::r=>(jld r).map (i::·)
 | _::_=>none
@[simp] def jsx:List D->Option (List Str)
 | []=>some []
 | .str i::r=>(jsx r).map (i::·)
 | _::_=>none
@[simp] def jjy:List D->Option (List Bool)
 | []=>some []
 | .bl i::r=>(jjy r).map (i::·)
 | _::_=>none
@[simp] def asLi(h:MH)(d:D):Option (List Int):=match d with
 | .arg ns=>some ns
 | d=>(asL h d).bind jld
@[simp] def fLen:List D->MH->Res D:=λl h=>match l with
 | [.str z]=>chk (z.length<=16777216) (.ok (.int z.length) h)
 | [d]=>match asQ h d with
  | some xs=> .ok (.int xs.length) h
  | none=>match d with
   | .ref _=>(oR (asD h d) h).bind λkvs h=> .ok (.int kvs.length) h
   | _=> .stuck
 | _=> .stuck
def maxI:List Int->Int
 | []=>0
 | [a]=>a
 | a::r=>if maxI r>a then maxI r else a
@[simp] def fMax:List D->MH->Res D:=λl h=>match l with
 | [.int i,.int j]=> .ok (.int (if j>i then j else i)) h
 | [.tup xs]=>(oR (jld xs) h).bind λns h=>chk (0<ns.length) (.ok (.int (maxI ns)) h)
 | _=> .stuck
@[simp] def fAll:List D->MH->Res D:=λl h=>match l with
 | [d]=>(oR ((asL h d).bind jjy) h).bind λbs h=> .ok (.bl (bs.all id)) h
 | _=> .stuck
@[simp] def fInt:List D->MH->Res D:=λl h=>match l with
 | [.int i]=> .ok (.int i) h
 | [.bl k]=> .ok (.int (if k then 1 else 0)) h
 | [.str z]=>chk (z.length<=640) ((oR (intText? z) h).bind λn h=> .ok (.int n) h)
 | _=> .stuck
@[simp] def fStr:List D->MH->Res D:=λl h=>match l with
 | [.int i]=>chk (i.natAbs.log2<1920) (.ok (.str (numS i)) h)
 | _=> .stuck
@[simp] def jyb(m:ML):ML:=λρ h=>(m ρ h).bind λl h1=>match l with
 | [d]=>oR (asQ h1 d) h1
 | _=> .stuck
@[simp] def jsm:List D->MH->Res D:=λl h=>match l with
 | [.tup xs]=> .ok (.tup xs) h
 | [d]=>(oR (asQ h d) h).bind λxs h=> .ok (.tup xs) h
 | _=> .stuck
@[simp] def tyOf(h:MH):D->Option String
 | .non=>some "NoneType" | .bl _=>some "bool" | .int _=>some "int" | .str _=>some "str" | .tup _=>some "tuple" | .lst _=>some "list"
 | .ref k=>match h[k]? with
  | some (some (.lst _))=>some "list"
  | some (some (.dct _))=>some "dict"
  | _=>none
 | _=>none
@[simp] def isB(a b:String):Bool:=a==b||(a=="bool"&&b=="int")
@[simp] def jlq(b:String):Bool:=b=="int"||b=="bool"||b=="str"||b=="tuple"||b=="list"
@[simp] def fIsi:List D->MH->Res D:=λl h=>match l with
 | [d,.ty n]=>chk (jlq n=true) ((oR (tyOf h d) h).bind λt h=> .ok (.bl (isB t n)) h)
 | _=> .stuck
@[simp] def mSm(f:Str->List D->MH->Res D)(m:ME)(l:ML):ME:=λρ h=>(m ρ h).bind λd h1=>match d with
 | .str z=>(l ρ h1).bind λxs h2=>f z xs h2
 | _=> .stuck
@[simp] def jpj:Str->List D->MH->Res D:=λz l h=>match l with
 | [d]=>(oR ((asL h d).bind jsx) h).bind λys h=>chk ((ys.map (·.length)).sum+ys.length*z.length<=16777216) (.ok (.str (Txt.join z ys)) h)
 | _=> .stuck
@[simp] def jir(m:ME)(l:ML):ML:=λρ h=>(m ρ h).bind λd h1=>match d with
 | .str z=>(l ρ h1).bind λxs h2=>match xs with
  | [.str y]=>chk (y.length≠0 /\ z.length<=16777216 /\ (Txt.split z y).length<=16777216) (.ok ((Txt.split z y).map .str) h2)
  | _=> .stuck
 | _=> .stuck
/-- f"..{x}..":the parts,in order -/
abbrev MJ:=Str->Ro->MH->Res Str
@[simp] def jNil:MJ:=λout _ h=> .ok out h
@[simp] def jzk(m:ME)(j:MJ):MJ:=λout ρ h=>(m ρ h).bind λd h1=>match d with
 | .str y=>chk ((out++y).length<=16777216) (j (out++y) ρ h1)
 | _=> .stuck
@[simp] def mJs(j:MJ):ME:=λρ h=>(j Str.empty ρ h).bind λz h1=>chk (z.length<=16777216) (.ok (.str z) h1)
@[simp] def mFmt(m:ME):ME:=λρ h=>(m ρ h).bind λd h1=>match d with
 | .int i=>chk (i.natAbs.log2<1920) (.ok (.str (numS i)) h1)
 | .str z=>chk (z.length<=16777216) (.ok (.str z) h1)
 | _=> .stuck
@[simp] def jas:MS:=λρ h=> .nx ρ h
@[simp] def jug:MS:=λρ h=> .ct ρ h
@[simp] def sSeq(a b:MS):MS:=λρ h=>match a ρ h with
 | .nx ρ1 h1=>b ρ1 h1
 | r=>r
@[simp] def sIf(t:MT)(a b:MS):MS:=λρ h=>(t ρ h).toS λc h1=>if c=true then a ρ h1 else b ρ h1
@[simp] def sRet(m:ME):MS:=λρ h=>(m ρ h).toS .rt
@[simp] def jkp(m:ME):MS:=λρ h=>(m ρ h).toS λ_ h1=> .nx ρ h1
@[simp] def sAsg(m:ME)(g:MG):MS:=λρ h=>(m ρ h).toS λd h1=>g d ρ h1
@[simp] def jcb(c:String)(m:ME):MS:=λρ h=>(m ρ h).toS λ_ h1=> .exc c h1
@[simp] def jac(i:Nat):MG:=λd ρ h=> .nx (ρ.set i (some d)) h
@[simp] def jnr:List Nat->List D->Ro->MH->RS
 | [],[],ρ,h=> .nx ρ h
 | i::is,d::ds,ρ,h=>jnr is ds (ρ.set i (some d)) h
 | _,_,_,_=> .stuck
@[simp] def gTup(is:List Nat):MG:=λd ρ h=>match d with
 | .tup xs=>jnr is xs ρ h
 | .lst xs=>jnr is xs ρ h
 | _=> .stuck
@[simp] def gSub(mo mi:ME):MG:=λd ρ h=>(mo ρ h).toS λo h1=>(mi ρ h1).toS λi h2=>match o with
 | .ref k=>match h2[k]? with
  | some (some (.lst xs))=>match i with
   | .int j=>match ixN xs.length j with
    | some n=> .nx ρ (h2.set k (some (.lst (xs.set n d))))
    | none=> .stuck
   | _=> .stuck
  | _=> .stuck
 | _=> .stuck
@[simp] def jhv(mo me:ME):MS:=λρ h=>(mo ρ h).toS λo h1=>match o with
 | .ref k=>match h1[k]? with
  | some (some (.lst _))=>(me ρ h1).toS λd h2=>match h2[k]? with
   | some (some (.lst xs))=>if xs.length<16777216 then .nx ρ (h2.set k (some (.lst (xs++[d])))) else .stuck
   | _=> .stuck
  | _=> .stuck
 | _=> .stuck
@[simp] def jfp(i:Nat)(b:MS):MS:=λρ h=>match ρ[i]? with
 | some (some (.ref k))=>match h[k]? with
  | some (some (.lst xs))=>b (ρ.set i (some (.lst xs))) (h.set k none)
  | _=> .stuck
 | _=> .stuck
@[simp] def mDnew:ME:=λ_ h=> .ok (.ref h.length) (h++[some (.dct [])])
def jdf(g:MG)(b:MS):List D->Ro->MH->RS
 | [],ρ,h=> .nx ρ h
 | d::ds,ρ,h=>match g d ρ h with
  | .nx ρ1 h1=>match b ρ1 h1 with
   | .nx ρ2 h2=>jdf g b ds ρ2 h2
   | .ct ρ2 h2=>jdf g b ds ρ2 h2
   | .bk ρ2 h2=> .nx ρ2 h2
   | r=>r
  | _=> .stuck
def okG(q:Option Nat)(all:List D)(h:MH):Prop:=match q with
 | none=>True
 | some k=>h[k]?=some (some (.lst all))
open Classical in
def jec(q:Option Nat)(all:List D)(g:MG)(b:MS):List D->Ro->MH->RS
 | [],ρ,h=>if okG q all h then .nx ρ h else .stuck
 | d::ds,ρ,h=>if okG q all h then(match g d ρ h with
  | .nx ρ1 h1=>match b ρ1 h1 with
   | .nx ρ2 h2=>jec q all g b ds ρ2 h2
   | .ct ρ2 h2=>jec q all g b ds ρ2 h2
   | .bk ρ2 h2=> .nx ρ2 h2
   | r=>r
  | _=> .stuck) else .stuck
@[simp] theorem jd4(all:List D)(g:MG)(b:MS):∀(ds:List D) (ρ:Ro) (h:MH),jec none all g b ds ρ h=jdf g b ds ρ h
 | [],ρ,h=>by unfold jec jdf;exact if_pos trivial
 | d::ds,ρ,h=>by
  unfold jec jdf
  rw[if_pos (show okG none all h from trivial)]
  split
  ·split
   ·exact jd4 all g b ds _ _
   ·exact jd4 all g b ds _ _
   ·rfl
   ·rfl
  ·rfl
def sFor(l:MI)(g:MG)(b:MS):MS:=λρ h=>(l ρ h).toS λs h1=>jec s.1 s.2 g b s.2 ρ h1
@[simp] theorem jjc(l:MI)(g:MG)(b:MS)(ρ:Ro)(h:MH):sFor l g b ρ h=(l ρ h).toS λs h1=>jec s.1 s.2 g b s.2 ρ h1:=rfl
@[simp] def lIt(m:ME):MI:=λρ h=>(m ρ h).bind λd h1=>match d with
 | .lst xs=> .ok (none,xs) h1
 | .tup xs=> .ok (none,xs) h1
 | .arg ns=> .ok (none,ns.map .int) h1
 | .str z=> .ok (none,z.cps.toList.map λc=> .str ⟨#[c]⟩) h1
 | .ref k=>match h1[k]? with
  | some (some (.lst xs))=> .ok (some k,xs) h1
  | _=> .stuck
 | _=> .stuck
def rng(lo:Int)(n:Nat):List D:=(List.range n).map λ(k:Nat)=> .int (lo+k)
@[simp] def ji0(m:ML):MI:=λρ h=>(m ρ h).bind λl h1=>match l with
 | [.int j]=>chk (j.natAbs<4611686018427387904) (.ok (none,rng 0 j.toNat) h1)
 | _=> .stuck
def jck(c:MT)(b:MS):Nat->Ro->MH->RS
 | 0,_,_=> .stuck
 | n+1,ρ,h=>match c ρ h with
  | .ok true h1=>match b ρ h1 with
   | .nx ρ2 h2=>jck c b n ρ2 h2
   | .ct ρ2 h2=>jck c b n ρ2 h2
   | .bk ρ2 h2=> .nx ρ2 h2
   | r=>r
  | .ok false h1=> .nx ρ h1
  | .exc e h1=> .exc e h1
  | .stuck=> .stuck
open Classical in
def jcr(c:MT)(b:MS):MS:=λρ h=>if e:∃n,jck c b n ρ h≠ .stuck then jck c b e.choose ρ h else .stuck
theorem jeb(c:MT)(b:MS):∀(n k:Nat) (ρ:Ro) (h:MH),jck c b n ρ h≠ .stuck->jck c b (n+k) ρ h=jck c b n ρ h
 | 0,k,ρ,h,q=>absurd rfl q
 | n+1,k,ρ,h,q=>by
  rw[show n+1+k=(n+k)+1 by omega]
  unfold jck at q ⊢
  cases e:c ρ h with
  | ok b0 h1=>
   cases b0 with
   | false=>rfl
   | true=>
    simp only[e] at q ⊢
    cases e2:b ρ h1 with
    | nx ρ2 h2=>simp only[e2] at q ⊢;exact jeb c b n k ρ2 h2 q
    | ct ρ2 h2=>simp only[e2] at q ⊢;exact jeb c b n k ρ2 h2 q
    | bk ρ2 h2=>rfl
    | rt d h2=>rfl
    | exc x h2=>rfl
    | stuck=>rfl
  | exc x h1=>rfl
  | stuck=>rfl
theorem jhy{c:MT}{b:MS}{n:Nat}{ρ:Ro}{h:MH}(q:jck c b n ρ h≠ .stuck):jcr c b ρ h=jck c b n ρ h:=by
 have e:∃n,jck c b n ρ h≠ .stuck:=⟨n,q⟩
 unfold jcr
 rw[dif_pos e]
 have h1:=jeb c b e.choose n ρ h e.choose_spec
 have h2:=jeb c b n e.choose ρ h q
 rw[<-h1,<-h2,Nat.add_comm]
theorem jhz{c:MT}{b:MS}{ρ:Ro}{h:MH}(q:jcr c b ρ h≠ .stuck):∃n,jck c b n ρ h=jcr c b ρ h:=by
 unfold jcr at q
 by_cases e:∃n,jck c b n ρ h≠ .stuck
 ·exact⟨e.choose,by unfold jcr;rw[dif_pos e]⟩
 ·rw[dif_neg e] at q;exact absurd rfl q
theorem jjm{c:MT}{b:MS}{ρ ρ2:Ro}{h h1 h2:MH}(ec:c ρ h= .ok true h1)(eb:b ρ h1= .nx ρ2 h2):jcr c b ρ h=jcr c b ρ2 h2:=by
 by_cases q:jcr c b ρ2 h2= .stuck
 ·rw[q]
  by_cases q1:jcr c b ρ h= .stuck
  ·exact q1
  ·obtain⟨n,e⟩:=jhz q1
   cases n with
   | zero=>rw[<-e];rfl
   | succ n=>
    rw[<-e] at q1 ⊢
    unfold jck at q1 ⊢
    simp only[ec,eb] at q1 ⊢
    rw[<-jhy q1];exact q
 ·obtain⟨n,e⟩:=jhz q
  have e1:jck c b (n+1) ρ h=jck c b n ρ2 h2:=by
   conv=>lhs;unfold jck
   simp only[ec,eb]
  rw[jhy (n:=n+1) (by rw[e1,e];exact q),e1,e]
theorem jje{c:MT}{b:MS}{ρ:Ro}{h h1:MH}(ec:c ρ h= .ok false h1):jcr c b ρ h= .nx ρ h1:=by
 have e1:jck c b 1 ρ h= .nx ρ h1:=by unfold jck;simp only[ec]
 rw[jhy (n:=1) (by rw[e1];exact λz=>nomatch z),e1]
@[simp] def caps(idx:List Nat)(ρ:Ro):Ro:=idx.map λj=>(ρ[j]?).getD none
def compLoop(g:MG)(t:MT)(m:ME)(ρ0:Ro):List D->MH->Res (List D)
 | [],h=> .ok [] h
 | d::ds,h=>match g d ρ0 h with
  | .nx ρ1 h1=>match t ρ1 h1 with
   | .ok true h2=>match m ρ1 h2 with
    | .ok y h3=>match compLoop g t m ρ0 ds h3 with
     | .ok ys h4=> .ok (y::ys) h4
     | _=> .stuck
    | _=> .stuck
   | .ok false h2=>compLoop g t m ρ0 ds h2
   | _=> .stuck
  | _=> .stuck
@[simp] def tYes:MT:=λ_ h=> .ok true h
open Classical in
def jbi(q:Option Nat)(all:List D)(g:MG)(t:MT)(m:ME)(ρ0:Ro):List D->MH->Res (List D)
 | [],h=>if okG q all h then .ok [] h else .stuck
 | d::ds,h=>if okG q all h then(match g d ρ0 h with
  | .nx ρ1 h1=>match t ρ1 h1 with
   | .ok true h2=>match m ρ1 h2 with
    | .ok y h3=>match jbi q all g t m ρ0 ds h3 with
     | .ok ys h4=> .ok (y::ys) h4
     | _=> .stuck
    | _=> .stuck
   | .ok false h2=>jbi q all g t m ρ0 ds h2
   | _=> .stuck
  | _=> .stuck) else .stuck
@[simp] theorem jdx(all:List D)(g:MG)(t:MT)(m:ME)(ρ0:Ro):∀(ds:List D) (h:MH),jbi none all g t m ρ0 ds h=compLoop g t m ρ0 ds h
 | [],h=>by unfold jbi compLoop;exact if_pos trivial
 | d::ds,h=>by
  unfold jbi compLoop
  rw[if_pos (show okG none all h from trivial)]
  split
  ·split
   ·split
    ·rw[jdx all g t m ρ0 ds]
    ·rfl
   ·exact jdx all g t m ρ0 ds _
   ·rfl
  ·rfl
def jd3(nt:Nat)(idx:List Nat)(l:MI)(g:MG)(t:MT)(m:ME):ML:=λρ h=>(l ρ h).bind λs h1=>chk (s.2.length<16777216) (jbi s.1 s.2 g t m (List.replicate nt none++caps idx ρ) s.2 h1)
@[simp] theorem jen(nt:Nat)(idx:List Nat)(l:MI)(g:MG)(t:MT)(m:ME)(ρ:Ro)(h:MH):jd3 nt idx l g t m ρ h=(l ρ h).bind λs h1=>chk (s.2.length<16777216) (jbi s.1 s.2 g t m (List.replicate nt none++caps idx ρ) s.2 h1):=rfl
@[simp] def asO(h:MH):D->Option (String×List (Str×D))
 | .obj c fs=>some (c,fs)
 | .ref k=>match h[k]? with
  | some (some (.ins c fs))=>some (c,fs)
  | _=>none
 | _=>none
def putF(f:Str)(d:D):List (Str×D)->List (Str×D)
  | []=>[(f,d)]
  | (g,x)::r=>if g=f then(g,d)::r else(g,x)::putF f d r
@[simp] def mFld(tab:List String)(f:Str)(m:ME):ME:=λρ h=>(m ρ h).bind λd h1=>(oR (asO h1 d) h1).bind λo h2=>chk (o.1∈tab) (oR (o.2.lookup f) h2)
@[simp] def jdo(tab:List String)(f:Str)(mo me:ME):MS:=λρ h=>(me ρ h).toS λd h1=>(mo ρ h1).toS λo h2=>match o with
 | .ref k=>match h2[k]? with
  | some (some (.ins c fs))=>if c∈tab /\ fs.length<1000 then .nx ρ (h2.set k (some (.ins c (putF f d fs)))) else .stuck
  | _=> .stuck
 | _=> .stuck
@[simp] def jao(tab:List (String×MF))(f:Str)(m:ME)(l:ML):ME:=λρ h=>(m ρ h).bind λd h1=>(oR (asO h1 d) h1).bind λo h2=>(oR (tab.lookup o.1) h2).bind λz h2=>chk (o.2.lookup f=none) ((l ρ h1).bind λds h3=>z (d::ds) h3)
@[simp] def jfb(c:String)(z:MF)(l:ML):ME:=λρ h=>(l ρ h).bind λds h1=>(z (.ref h1.length::ds) (h1++[some (.ins c [])])).bind λd h2=>match d with
 | .non=>match h2[h1.length]? with
  | some (some (.ins c' fs))=> .ok (.obj c' fs) (h2.set h1.length none)
  | _=> .stuck
 | _=> .stuck
@[simp] def jo4(c:String)(z:MF)(l:ML):ME:=λρ h=>(l ρ h).bind λds h1=>(z (.ref h1.length::ds) (h1++[some (.ins c [])])).bind λd h2=>match d with
 | .non=> .ok (.ref h1.length) h2
 | _=> .stuck
def jhq(ds:List D):List D:=ds.mapIdx λi d=> .tup [.int i,d]
@[simp] def lEnum(m:ML):MI:=λρ h=>(m ρ h).bind λl h1=>match l with
 | [.lst xs]=> .ok (none,jhq xs) h1
 | [.arg ns]=> .ok (none,jhq (ns.map .int)) h1
 | _=> .stuck
def Res.noX{α:Type}(r:Res α):Res α:=match r with
 | .ok a h=> .ok a h | .exc _ _=> .stuck | .stuck=> .stuck
@[simp] theorem noX_ok{α:Type}{a:α}{h:MH}:(Res.ok a h).noX= .ok a h:=rfl
@[simp] theorem noX_exc{α:Type}{c:String}{h:MH}:(Res.exc c h:Res α).noX= .stuck:=rfl
@[simp] theorem noX_stuck{α:Type}:(Res.stuck:Res α).noX= .stuck:=rfl
@[simp] def lNox(l:ML):ML:=λρ h=>(l ρ h).noX
def RS.noX:RS->RS
 | .exc _ _=> .stuck | r=>r
@[simp] theorem noXS_nx{ρ:Ro}{h:MH}:(RS.nx ρ h).noX= .nx ρ h:=rfl
@[simp] theorem noXS_rt{d:D}{h:MH}:(RS.rt d h).noX= .rt d h:=rfl
@[simp] theorem noXS_bk{ρ:Ro}{h:MH}:(RS.bk ρ h).noX= .bk ρ h:=rfl
@[simp] theorem noXS_ct{ρ:Ro}{h:MH}:(RS.ct ρ h).noX= .ct ρ h:=rfl
@[simp] theorem noXS_exc{c:String}{h:MH}:(RS.exc c h).noX= .stuck:=rfl
@[simp] theorem noXS_stuck:RS.stuck.noX= .stuck:=rfl
@[simp] def sTry(b:MS)(f:String->MS):MS:=λρ h=>match b ρ h with
 | .exc c h1=>f c ρ h1 | r=>r
@[simp] def cNil:String->MS:=λ_ _ _=> .stuck
@[simp] def jk9(tab:List (String×Bool))(m:MS)(r:String->MS):String->MS:=λc ρ h=>match tab.lookup c with
 | some true=>(m ρ h).noX
 | some false=>r c ρ h
 | none=> .stuck
mutual
def D.bnd(n:Nat):D->Bool
 | .ref k=>k<n
 | .tup xs | .lst xs=>D.bnds n xs
 | .obj _ fs=>D.bndf n fs
 | _=>true
def D.bnds(n:Nat):List D->Bool
 | []=>true
 | d::ds=>D.bnd n d&&D.bnds n ds
def D.bndf(n:Nat):List (Str×D)->Bool
  | []=>true
  | (_,d)::ds=>D.bnd n d&&D.bndf n ds
end
def Cell.bnd(n:Nat):Option Cell->Bool
 | none=>true
 | some (.lst xs)=>D.bnds n xs
 | some (.dct kvs)=>D.bnds n (kvs.map (·.2))
 | some (.fdc kvs)=>D.bnds n (kvs.map (·.2))
 | some (.ins _ fs)=>D.bnds n (fs.map (·.2))
@[simp] def fin(n:Nat)(d:D)(h:MH):Res D:=
 if h.length<=n then .ok d h else if(d.bnd n&&(h.take n).all (Cell.bnd n))=true then .ok d (h.take n) else .ok d h
@[simp] def mFun(np nn:Nat)(b:MS):MF:=λds h=>if ds.length=np then match b (ds.map some++List.replicate (nn - ds.length) none) h with
 | .nx _ h1=>fin h.length .non h1
 | .rt d h1=>fin h.length d h1
 | .exc c h1=>if h1.length<=h.length then .exc c h1 else if(h1.take h.length).all (Cell.bnd h.length)=true then .exc c (h1.take h.length) else .exc c h1
 | _=> .stuck
 else .stuck
@[simp] def keysI:List (Sum Int Str×D)->Option (List Int)
  | []=>some []
  | (.inl i,_)::r=>(keysI r).map (i::·)
  | (.inr _,_)::_=>none
def srt(ns:List Int):List Int:=ns.mergeSort (λa b=>decide (a<=b))
@[simp] def mBits(m:ME):ME:=λρ h=>(m ρ h).bind λd h1=>match d with
 | .int i=> .ok (.int (Builtin.Int.intBits i:Nat)) h1
 | _=> .stuck
@[simp] def jxp(k:Nat)(kvs:List (Sum Int Str×D)):RS->RS
 | .nx ρ h=>match h[k]? with
  | some none=> .nx ρ (h.set k (some (.dct kvs)))
  | _=> .stuck
 | .rt d h=>match h[k]? with
  | some none=> .rt d (h.set k (some (.dct kvs)))
  | _=> .stuck
 | .exc c h=> .exc c h
 | _=> .stuck
@[simp] def sForV(mo:ME)(g:MG)(b:MS):MS:=λρ h=>(mo ρ h).toS λo h1=>match o with
 | .ref k=>match h1[k]? with
  | some (some (.dct kvs))=>jxp k kvs (jdf g b (kvs.map (·.2)) ρ (h1.set k none))
  | _=> .stuck
 | _=> .stuck
@[simp] def jj7(m:ML):ML:=λρ h=>(m ρ h).bind λl h1=>match l with
 | [d]=>(oR (asLi h1 d) h1).bind λns h2=>chk (ns.length<64) (.ok ((srt ns).map D.int) h2)
 | _=> .stuck
end Z
set_option maxHeartbeats 4000000
namespace L2
open PySem PySem.Spec
structure Ct where
 P:Program
 w:World
 K:W.Frag
 cm:String->Addr
def fv:Z.D->Option V
 | .non=>some .non
 | .bl b=>some (.bl b)
 | .int i=>some (.int i)
 | .str x=>some (.str x)
 | _=>none
section
variable (C : Ct)
mutual
def RV(bs:List Addr)(G:Hp):V->Z.D->Prop
 | v,.non=>v= .non
 | v,.bl b=>v= .bl b
 | v,.int i=>v= .int i
 | v,.str x=>v= .str x
 | v,.tup ds=>∃a vs,v= .ref a /\ G a=some (.tup vs) /\ RVs bs G vs ds
 | v,.lst ds=>∃a vs,v= .ref a /\ G a=some (.lst vs) /\ RVs bs G vs ds
 | v,.arg ns=>∃a,v= .ref a /\ SqL C.K G a (ns.map V.int)
 | v,.ref k=>∃a,v= .ref a /\ bs[k]?=some a
 | v,.ty n=>v= .ty n
 | v,.cls n=>v= .ref (C.cm n)
 | v,.exc c=>∃a oe u,v= .ref a /\ G a=some (.frz oe u) /\ oe.cls= .ref (C.cm c)
 | v,.obj c fs=>∃a dx fvs,v= .ref a /\ G a=some (.ins (C.cm c) dx fvs) /\ RVf bs G fvs fs
 | v,.dic kvs=>∃a kws,v= .ref a /\ jun C.P C.w C.K a kws /\ kvs.map (λp=>(p.1,fv p.2))=kws.map (λp=>(p.1,some p.2))
def RVs(bs:List Addr)(G:Hp):List V->List Z.D->Prop
 | [],[]=>True
 | v::vs,d::ds=>RV bs G v d /\ RVs bs G vs ds
 | _,_=>False
def RVf(bs:List Addr)(G:Hp):List (Str×V)->List (Str×Z.D)->Prop
  | [],[]=>True
  | (x,v)::vs,(y,d)::ds=>x=y /\ RV bs G v d /\ RVf bs G vs ds
  | _,_=>False
def RVk(bs:List Addr)(G:Hp):List (Key×V)->List (Sum Int Str×Z.D)->Prop
  | [],[]=>True
  | (x,v)::vs,(y,d)::ds=>x=y /\ RV bs G v d /\ RVk bs G vs ds
  | _,_=>False
end
end
theorem Same.sql{K:W.Frag}{H H':Hp}{a:Addr}{xs:List V}(e:Same H H')(h:SqL K H a xs):SqL K H' a xs:=by
 rcases h with(h | ⟨o,h⟩) | h
 ·exact .inl (.inl (e _ _ h))
 ·exact .inl (.inr ⟨o,e _ _ h⟩)
 ·exact .inr h
section
variable {C : Ct}
mutual
theorem RV.mono{bs bs':List Addr}{G G':Hp}(hb:∀(k:Nat) (a:Addr),bs[k]?=some a->bs'[k]?=some a)(hs:Same G G'):∀{d:Z.D} {v:V},RV C bs G v d->RV C bs' G' v d
 | .non,v,h=>by simp only[RV] at h ⊢;exact h
 | .bl b,v,h=>by simp only[RV] at h ⊢;exact h
 | .int i,v,h=>by simp only[RV] at h ⊢;exact h
 | .str x,v,h=>by simp only[RV] at h ⊢;exact h
 | .tup ds,v,h=>by
  simp only[RV] at h ⊢
  obtain⟨a,vs,h1,h2,h3⟩:=h
  exact⟨a,vs,h1,hs _ _ h2,RVs.mono hb hs h3⟩
 | .lst ds,v,h=>by
  simp only[RV] at h ⊢
  obtain⟨a,vs,h1,h2,h3⟩:=h
  exact⟨a,vs,h1,hs _ _ h2,RVs.mono hb hs h3⟩
 | .arg ns,v,h=>by
  simp only[RV] at h ⊢
  obtain⟨a,h1,h2⟩:=h
  exact⟨a,h1,hs.sql h2⟩
 | .ref k,v,h=>by
  simp only[RV] at h ⊢
  obtain⟨a,h1,h2⟩:=h
  exact⟨a,h1,hb _ _ h2⟩
 | .ty n,v,h=>by simp only[RV] at h ⊢;exact h
 | .cls n,v,h=>by simp only[RV] at h ⊢;exact h
 | .exc n,v,h=>by
  simp only[RV] at h ⊢
  obtain⟨a,oe,u,h1,h2,h3⟩:=h
  exact⟨a,oe,u,h1,hs _ _ h2,h3⟩
 | .obj c fs,v,h=>by
  simp only[RV] at h ⊢
  obtain⟨a,dx,fvs,h1,h2,h3⟩:=h
  exact⟨a,dx,fvs,h1,hs _ _ h2,RVf.mono hb hs h3⟩
 | .dic kvs,v,h=>by simp only[RV] at h ⊢;exact h
theorem RVs.mono{bs bs':List Addr}{G G':Hp}(hb:∀(k:Nat) (a:Addr),bs[k]?=some a->bs'[k]?=some a)(hs:Same G G'):∀{ds:List Z.D} {vs:List V},RVs C bs G vs ds->RVs C bs' G' vs ds
 | [],[],_=>by simp only[RVs]
 | d::ds,v::vs,h=>by
  simp only[RVs] at h ⊢
  exact⟨RV.mono hb hs h.1,RVs.mono hb hs h.2⟩
 | [],_::_,h=>by simp only[RVs] at h
 | _::_,[],h=>by simp only[RVs] at h
theorem RVf.mono{bs bs':List Addr}{G G':Hp}(hb:∀(k:Nat) (a:Addr),bs[k]?=some a->bs'[k]?=some a)(hs:Same G G'):∀{ds:List (Str×Z.D)} {vs:List (Str×V)},RVf C bs G vs ds->RVf C bs' G' vs ds
  | [],[],_=>by simp only[RVf]
  | (y,d)::ds,(x,v)::vs,h=>by
    simp only[RVf] at h ⊢
    exact⟨h.1,RV.mono hb hs h.2.1,RVf.mono hb hs h.2.2⟩
  | [],_::_,h=>by simp only[RVf] at h
  | _::_,[],h=>by simp only[RVf] at h
theorem RVk.mono{bs bs':List Addr}{G G':Hp}(hb:∀(k:Nat) (a:Addr),bs[k]?=some a->bs'[k]?=some a)(hs:Same G G'):∀{ds:List (Sum Int Str×Z.D)} {vs:List (Key×V)},RVk C bs G vs ds->RVk C bs' G' vs ds
  | [],[],_=>by simp only[RVk]
  | (y,d)::ds,(x,v)::vs,h=>by
    simp only[RVk] at h ⊢
    exact⟨h.1,RV.mono hb hs h.2.1,RVk.mono hb hs h.2.2⟩
  | [],_::_,h=>by simp only[RVk] at h
  | _::_,[],h=>by simp only[RVk] at h
end
def lv(bs:List Addr)(h:Z.MH)(a:Addr):Prop:=∃(k:Nat) (c:Z.Cell),bs[k]?=some a /\ h[k]?=some (some c) /\ c.live=true
open Classical in
def gh(ex bs:List Addr)(h:Z.MH)(H:Hp):Hp:=λa=>if a∈ex \/ lv bs h a then none else H a
theorem jbe{ex bs:List Addr}{h:Z.MH}{H:Hp}{a:Addr}{o:HO}:gh ex bs h H a=some o↔a∉ex /\ ¬lv bs h a /\ H a=some o:=by
 unfold gh
 by_cases q:a∈ex \/ lv bs h a
 ·rw[if_pos q]
  constructor
  ·intro z;cases z
  ·rintro⟨h1,h2,_⟩
   rcases q with q | q
   ·exact absurd q h1
   ·exact absurd q h2
 ·rw[if_neg q]
  exact⟨λz=>⟨λm=>q (.inl m),λm=>q (.inr m),z⟩,λz=>z.2.2⟩
theorem jbq{ex bs:List Addr}{h:Z.MH}{H:Hp}:Same (gh ex bs h H) H:=λa o e=>(jbe.mp e).2.2
def jed(C:Ct)(bs:List Addr)(G H:Hp)(a:Addr):Z.Cell->Prop
 | .lst ds=>∃vs,H a=some (.lst vs) /\ RVs C bs G vs ds
 | .dct kvs=>∃kws,H a=some (.dK kws) /\ RVk C bs G kws kvs
 | .ins c fs=>∃dx fvs,H a=some (.ins (C.cm c) dx fvs) /\ RVf C bs G fvs fs
 | .fdc kvs=>∃o kws,G a=some (.frz o (.dK kws)) /\ o.cls= .type "dict" /\ RVk C bs G kws kvs
theorem jed.mono{bs bs':List Addr}{G G' H H':Hp}{a:Addr}{c:Z.Cell}(hb:∀(k:Nat) (a:Addr),bs[k]?=some a->bs'[k]?=some a)(hs:Same G G')(e:H' a=H a)(h:jed C bs G H a c):jed C bs' G' H' a c:=by
 cases c with
 | lst ds=>obtain⟨vs,h1,h2⟩:=h;exact⟨vs,by rw[e];exact h1,h2.mono hb hs⟩
 | dct kvs=>obtain⟨vs,h1,h2⟩:=h;exact⟨vs,by rw[e];exact h1,h2.mono hb hs⟩
 | ins c fs=>obtain⟨dx,vs,h1,h2⟩:=h;exact⟨dx,vs,by rw[e];exact h1,h2.mono hb hs⟩
 | fdc kvs=>obtain⟨o,vs,h1,hc,h2⟩:=h;exact⟨o,vs,hs _ _ h1,hc,h2.mono hb hs⟩
structure HR (C:Ct) (ex bs:List Addr) (h:Z.MH) (H:Hp):Prop where
 len:bs.length=h.length
 inj:∀(i j:Nat) (a:Addr),bs[i]?=some a->bs[j]?=some a->i=j
 sep:∀a∈ex,a∉bs
 dom:∀a∈bs,H a≠none
 domx:∀a∈ex,H a≠none
 cell:∀(k:Nat) (a:Addr) (c:Z.Cell),bs[k]?=some a->h[k]?=some (some c)->jed C bs (gh ex bs h H) H a c
structure Ev (C:Ct) (ex bs:List Addr) (h:Z.MH) (H:Hp) (bs':List Addr) (h':Z.MH) (H':Hp):Prop where
 pre:∀(k:Nat) (a:Addr),bs[k]?=some a->bs'[k]?=some a
 hr:HR C ex bs' h' H'
 same:Same (gh ex bs h H) (gh ex bs' h' H')
 exs:∀a∈ex,H' a=H a
variable {ex bs bs1 bs2 : List Addr} {h h1 h2 : Z.MH} {H H1 H2 : Hp}
theorem Ev.refl(r:HR C ex bs h H):Ev C ex bs h H bs h H:=⟨λ_ _ e=>e,r,Same.refl _,λ_ _=>rfl⟩
theorem Ev.trans(a:Ev C ex bs h H bs1 h1 H1)(b:Ev C ex bs1 h1 H1 bs2 h2 H2):Ev C ex bs h H bs2 h2 H2:=
 ⟨λk x e=>b.pre k x (a.pre k x e),b.hr,a.same.trans b.same,λx hx=>(b.exs x hx).trans (a.exs x hx)⟩
theorem RV.ev{v:V}{d:Z.D}(e:Ev C ex bs h H bs1 h1 H1)(r:RV C bs (gh ex bs h H) v d):RV C bs1 (gh ex bs1 h1 H1) v d:=r.mono e.pre e.same
theorem RVs.ev{v:List V}{d:List Z.D}(e:Ev C ex bs h H bs1 h1 H1)(r:RVs C bs (gh ex bs h H) v d):RVs C bs1 (gh ex bs1 h1 H1) v d:=r.mono e.pre e.same
def RE(C:Ct)(bs:List Addr)(G:Hp)(ρ:Z.Ro)(σ:St):Prop:=ρ.length=σ.length /\ ∀(i:Nat) (d:Z.D),ρ[i]?=some (some d)->∃v,σ[i]?=some (some v) /\ RV C bs G v d
theorem RE.ev{ρ:Z.Ro}{σ:St}(e:Ev C ex bs h H bs1 h1 H1)(r:RE C bs (gh ex bs h H) ρ σ):RE C bs1 (gh ex bs1 h1 H1) ρ σ:=
 ⟨r.1,λi d q=>by obtain⟨v,h1,h2⟩:=r.2 i d q;exact⟨v,h1,h2.ev e⟩⟩
theorem RE.set{G:Hp}{ρ:Z.Ro}{σ:St}{i:Nat}{d:Z.D}{v:V}(r:RE C bs G ρ σ)(q:RV C bs G v d):RE C bs G (ρ.set i (some d)) (σ.set i (some v)):=by
 refine⟨by simp[r.1],λj e hj=> ?_⟩
 by_cases hij:i=j
 ·subst hij
  rw[List.getElem?_set_self'] at hj
  have hl:i<ρ.length:=by
   by_cases hl:i<ρ.length
   ·exact hl
   ·rw[List.getElem?_eq_none (by omega)] at hj;simp at hj
  rw[List.getElem?_eq_getElem hl] at hj
  simp at hj
  subst hj
  refine⟨v,?_,q⟩
  rw[List.getElem?_set_self (by rw[<-r.1];exact hl)]
 ·rw[List.getElem?_set_ne hij] at hj
  obtain⟨u,h1,h2⟩:=r.2 j e hj
  exact⟨u,by rw[List.getElem?_set_ne hij];exact h1,h2⟩
def Post(C:Ct)(ex:List Addr)(E:XK)(bs:List Addr)(h:Z.MH)(H:Hp){α β:Type}(R:List Addr->Hp->β->α->Prop)(r:Z.Res α)(Q:β->Hp->Prop):Prop:=match r with
 | .ok a h'=>∀b bs' H',Ev C ex bs h H bs' h' H'->R bs' (gh ex bs' h' H') b a->Q b H'
 | .exc c h'=>∀bs' H',Ev C ex bs h H bs' h' H'->E (.ref (C.cm c)) none H'
 | .stuck=>False
variable {E : XK} {α β γ δ : Type} {R : List Addr -> Hp -> β -> α -> Prop} {R1 : List Addr -> Hp -> β -> α -> Prop} {R3 : List Addr -> Hp -> δ -> γ -> Prop}
theorem Post.from{r:Z.Res α}{Q:β->Hp->Prop}(e:Ev C ex bs h H bs1 h1 H1)(p:Post C ex E bs h H R r Q):Post C ex E bs1 h1 H1 R r Q:=by
 cases r with
 | ok a h'=>exact λb bs' H' e' q=>p b bs' H' (e.trans e') q
 | exc c h'=>exact λbs' H' e'=>p bs' H' (e.trans e')
 | stuck=>exact p
theorem Post.bind{r:Z.Res α}{f:α->Z.MH->Z.Res γ}{Q:δ->Hp->Prop}{Q1:β->Hp->Prop}(p:Post C ex E bs h H R3 (r.bind f) Q)
  (k:∀a b h1 bs1 H1,Ev C ex bs h H bs1 h1 H1->R1 bs1 (gh ex bs1 h1 H1) b a->Post C ex E bs1 h1 H1 R3 (f a h1) Q->Q1 b H1):Post C ex E bs h H R1 r Q1:=by
 cases r with
 | ok a h'=>exact λb bs' H' e' q=>k a b h' bs' H' e' q (Post.from e' p)
 | exc c h'=>exact p
 | stuck=>exact p
theorem Post.now{a:α}{b:β}{Q:β->Hp->Prop}(hr:HR C ex bs h H)(p:Post C ex E bs h H R (.ok a h) Q)(q:R bs (gh ex bs h H) b a):Q b H:=p b bs H (Ev.refl hr) q
theorem Post.chk{c:Prop}[Decidable c]{r:Z.Res α}{Q:β->Hp->Prop}(p:Post C ex E bs h H R (Z.chk c r) Q):c /\ Post C ex E bs h H R r Q:=by
 unfold Z.chk at p
 by_cases q:c
 ·rw[if_pos q] at p;exact⟨q,p⟩
 ·rw[if_neg q] at p;exact p.elim
theorem Post.oR{o:Option α}{f:α->Z.MH->Z.Res γ}{Q:δ->Hp->Prop}(p:Post C ex E bs h H R3 ((Z.oR o h1).bind f) Q):∃a,o=some a /\ Post C ex E bs h H R3 (f a h1) Q:=by
 cases o with
 | none=>exact p.elim
 | some a=>exact⟨a,rfl,p⟩
theorem Post.oR1{o:Option α}{Q:β->Hp->Prop}(p:Post C ex E bs h H R (Z.oR o h1) Q):∃a,o=some a /\ Post C ex E bs h H R (.ok a h1) Q:=by
 cases o with
 | none=>exact p.elim
 | some a=>exact⟨a,rfl,p⟩
def Snd(C:Ct)(E:XK){α β:Type}(R:List Addr->Hp->β->α->Prop)(t:St->Hp->(β->Hp->Prop)->Prop)(m:Z.Ro->Z.MH->Z.Res α):Prop:=
 ∀(ex bs:List Addr) (h:Z.MH) (ρ:Z.Ro) (σ:St) (H:Hp) (Q:β->Hp->Prop),HR C ex bs h H->RE C bs (gh ex bs h H) ρ σ->Post C ex E bs h H R (m ρ h) Q->t σ H Q
abbrev SE(C:Ct)(E:XK)(t:TE)(m:Z.ME):Prop:=Snd C E (RV C) t m
abbrev SA(C:Ct)(E:XK)(t:TA)(m:Z.ML):Prop:=Snd C E (RVs C) t m
def REq{α:Type}:List Addr->Hp->α->α->Prop:=λ_ _ b a=>b=a
abbrev ST(C:Ct)(E:XK)(t:TT)(m:Z.MT):Prop:=Snd C E REq t m
abbrev SO(C:Ct)(E:XK)(t:TO)(m:Z.MO):Prop:=Snd C E REq t m
def S2(C:Ct)(r:R2)(f:Z.B2):Prop:=∀(ex bs:List Addr) (h:Z.MH) (H:Hp) (E:XK) (x y:V) (dx dy:Z.D) (Q:VK),HR C ex bs h H->RV C bs (gh ex bs h H) x dx->RV C bs (gh ex bs h H) y dy->Post C ex E bs h H (RV C) (f dx dy h) Q->r x y H Q
def S1(C:Ct)(r:V->Hp->VK->Prop)(f:Z.D->Z.MH->Z.Res Z.D):Prop:=∀(ex bs:List Addr) (h:Z.MH) (H:Hp) (E:XK) (x:V) (dx:Z.D) (Q:VK),HR C ex bs h H->RV C bs (gh ex bs h H) x dx->Post C ex E bs h H (RV C) (f dx h) Q->r x H Q
def SL(C:Ct)(r:List V->Hp->VK->Prop)(f:List Z.D->Z.MH->Z.Res Z.D):Prop:=∀(ex bs:List Addr) (h:Z.MH) (H:Hp) (E:XK) (xs:List V) (ds:List Z.D) (Q:VK),HR C ex bs h H->RVs C bs (gh ex bs h H) xs ds->Post C ex E bs h H (RV C) (f ds h) Q->r xs H Q
theorem ja1{i:Nat}:SE C E (tVar i) (Z.mVar i):=by
 intro ex bs h ρ σ H Q hr re p
 unfold Z.mVar at p
 cases q:ρ[i]? with
 | none=>rw[q] at p;exact p.elim
 | some o=>
  cases o with
  | none=>rw[q] at p;exact p.elim
  | some d=>
   rw[q] at p
   obtain⟨v,h1,h2⟩:=re.2 i d q
   exact⟨v,h1,p.now hr h2⟩
theorem s_c{v:V}{d:Z.D}(q:∀bs G,RV C bs G v d):SE C E (tC v) (Z.mC d):=λex bs h ρ σ H Q hr re p=>Post.now hr p (q _ _)
theorem jak{i:Int}:SE C E (tC (.int i)) (Z.mC (.int i)):=s_c λ_ _=>by simp only[RV]
theorem jav{i:Str}:SE C E (tC (.str i)) (Z.mC (.str i)):=s_c λ_ _=>by simp only[RV]
theorem s_bl{i:Bool}:SE C E (tC (.bl i)) (Z.mC (.bl i)):=s_c λ_ _=>by simp only[RV]
theorem jvx:SE C E (tC .non) (Z.mC .non):=s_c λ_ _=>by simp only[RV]
theorem s_ty{n:String}:SE C E (tC (.ty n)) (Z.mC (.ty n)):=s_c λ_ _=>by simp only[RV]
theorem s_op{r:R2}{f:Z.B2}{ta tb:TE}{ma mb:Z.ME}(o:S2 C r f)(ha:SE C E ta ma)(hb:SE C E tb mb):SE C E (tOp r ta tb) (Z.mBin f ma mb):=by
 intro ex bs h ρ σ H Q hr re p
 refine ha ex bs h ρ σ H _ hr re (p.bind λdx x h1 bs1 H1 e1 rx p1=> ?_)
 refine hb ex bs1 h1 ρ σ H1 _ e1.hr (re.ev e1) (p1.bind λdy y h2 bs2 H2 e2 ry p2=> ?_)
 exact o ex bs2 h2 H2 E x y dx dy Q e2.hr (rx.ev e2) ry p2
theorem s_un{r:V->Hp->VK->Prop}{f:Z.D->Z.MH->Z.Res Z.D}{ta:TE}{ma:Z.ME}(o:S1 C r f)(ha:SE C E ta ma):SE C E (tUn r ta) (Z.mUn f ma):=by
 intro ex bs h ρ σ H Q hr re p
 refine ha ex bs h ρ σ H _ hr re (p.bind λdx x h1 bs1 H1 e1 rx p1=> ?_)
 exact o ex bs1 h1 H1 E x dx Q e1.hr rx p1
theorem jab:SA C E tNil Z.mNil:=λex bs h ρ σ H Q hr re p=>Post.now hr p (by simp only[RVs])
theorem ja3{ta:TE}{tl:TA}{ma:Z.ME}{ml:Z.ML}(ha:SE C E ta ma)(hl:SA C E tl ml):SA C E (jyt ta tl) (Z.ja2 ma ml):=by
 intro ex bs h ρ σ H Q hr re p
 refine ha ex bs h ρ σ H _ hr re (p.bind λdx x h1 bs1 H1 e1 rx p1=> ?_)
 refine hl ex bs1 h1 ρ σ H1 _ e1.hr (re.ev e1) (p1.bind λdy y h2 bs2 H2 e2 ry p2=> ?_)
 exact Post.now e2.hr p2 (by simp only[RVs];exact⟨rx.ev e2,ry⟩)
theorem s_cb{r:List V->Hp->VK->Prop}{f:List Z.D->Z.MH->Z.Res Z.D}{tl:TA}{ml:Z.ML}(o:SL C r f)(hl:SA C E tl ml):SE C E (tCB r tl) (Z.mFn f ml):=by
 intro ex bs h ρ σ H Q hr re p
 refine hl ex bs h ρ σ H _ hr re (p.bind λdx x h1 bs1 H1 e1 rx p1=> ?_)
 exact o ex bs1 h1 H1 E x dx Q e1.hr rx p1
theorem RVs.len{bs:List Addr}{G:Hp}:∀{ds:List Z.D} {vs:List V},RVs C bs G vs ds->vs.length=ds.length
 | [],[],_=>rfl
 | d::ds,v::vs,h=>by simp only[RVs] at h;simp[RVs.len h.2]
 | [],_::_,h=>by simp only[RVs] at h
 | _::_,[],h=>by simp only[RVs] at h
theorem Ev.alloc{p:Addr}{o:HO}(hr:HR C ex bs h H)(hp:H p=none):Ev C ex bs h H bs h (upd H p o) /\ gh ex bs h (upd H p o) p=some o:=by
 have nx:p∉ex:=λm=>hr.domx p m hp
 have nb:p∉bs:=λm=>hr.dom p m hp
 have nl:¬lv bs h p:=λ⟨k,c,e,_⟩=>nb (List.mem_of_getElem? e)
 have ne:∀{a},H a≠none->a≠p:=fun{a} q e=>q (by rw[e];exact hp)
 have sm:Same (gh ex bs h H) (gh ex bs h (upd H p o)):=λa u e=>by
  obtain⟨h1,h2,h3⟩:=jbe.mp e
  exact jbe.mpr ⟨h1,h2,by rw[jan (ne (by rw[h3];exact λz=>nomatch z))];exact h3⟩
 refine⟨⟨λ_ _ e=>e,⟨hr.len,hr.inj,hr.sep,λa m=> ?_,λa m=> ?_,λk a c e1 e2=> ?_⟩,sm,λa m=> ?_⟩,jbe.mpr ⟨nx,nl,jb6⟩⟩
 ·rw[jan (ne (hr.dom a m))];exact hr.dom a m
 ·rw[jan (ne (hr.domx a m))];exact hr.domx a m
 ·exact(hr.cell k a c e1 e2).mono (λ_ _ e=>e) sm (by rw[jan (ne (hr.dom a (List.mem_of_getElem? e1)))])
 ·rw[jan (ne (hr.domx a m))]
theorem jig{tl:TA}{ml:Z.ML}(hl:SA C E tl ml):SE C E (tTup tl) (Z.mTup ml):=by
 intro ex bs h ρ σ H Q hr re p
 refine hl ex bs h ρ σ H _ hr re (p.bind λds xs h1 bs1 H1 e1 rx p1=> ?_)
 obtain⟨hz,p1⟩:=p1.chk
 refine⟨by rw[rx.len];exact hz,λa ha=> ?_⟩
 obtain⟨e2,g⟩:=Ev.alloc (o:= .tup xs) e1.hr ha
 exact p1 (.ref a) bs1 _ e2 (by simp only[RV];exact⟨a,xs,rfl,g,rx.ev e2⟩)
def jd2(C:Ct)(ex:List Addr)(E:XK)(bs:List Addr)(h:Z.MH)(H:Hp)(r:Z.Res (List Z.D))(Q:VK):Prop:=match r with
 | .ok ds h'=>∀p vs bs' H1,Ev C ex bs h H bs' h' H1->H1 p=none->RVs C bs' (gh ex bs' h' H1) vs ds->Q (.ref p) (upd H1 p (.lst vs))
 | .exc c h'=>∀bs' H',Ev C ex bs h H bs' h' H'->E (.ref (C.cm c)) none H'
 | .stuck=>False
def SN(C:Ct)(E:XK)(t:TE)(m:Z.ML):Prop:=
 ∀(ex bs:List Addr) (h:Z.MH) (ρ:Z.Ro) (σ:St) (H:Hp) (Q:VK),HR C ex bs h H->RE C bs (gh ex bs h H) ρ σ->jd2 C ex E bs h H (m ρ h) Q->t σ H Q
theorem jd2.from{r:Z.Res (List Z.D)}{Q:VK}(e:Ev C ex bs h H bs1 h1 H1)(p:jd2 C ex E bs h H r Q):jd2 C ex E bs1 h1 H1 r Q:=by
 cases r with
 | ok a h'=>exact λb vs bs' H' e' hn q=>p b vs bs' H' (e.trans e') hn q
 | exc c h'=>exact λbs' H' e'=>p bs' H' (e.trans e')
 | stuck=>exact p
theorem jd2.bind{r:Z.Res α}{f:α->Z.MH->Z.Res (List Z.D)}{Q:VK}{Q1:β->Hp->Prop}(p:jd2 C ex E bs h H (r.bind f) Q)
  (k:∀a b h1 bs1 H1,Ev C ex bs h H bs1 h1 H1->R1 bs1 (gh ex bs1 h1 H1) b a->jd2 C ex E bs1 h1 H1 (f a h1) Q->Q1 b H1):Post C ex E bs h H R1 r Q1:=by
 cases r with
 | ok a h'=>exact λb bs' H' e' q=>k a b h' bs' H' e' q (jd2.from e' p)
 | exc c h'=>exact p
 | stuck=>exact p
theorem jd2.chk{c:Prop}[Decidable c]{r:Z.Res (List Z.D)}{Q:VK}(p:jd2 C ex E bs h H (Z.chk c r) Q):c /\ jd2 C ex E bs h H r Q:=by
 unfold Z.chk at p
 by_cases q:c
 ·rw[if_pos q] at p;exact⟨q,p⟩
 ·rw[if_neg q] at p;exact p.elim
theorem jd2.now{ds:List Z.D}{Q:VK}{p:Addr}{vs:List V}(hr:HR C ex bs h H)(q:jd2 C ex E bs h H (.ok ds h) Q)(hp:H p=none)(r:RVs C bs (gh ex bs h H) vs ds):Q (.ref p) (upd H p (.lst vs)):=q p vs bs H (Ev.refl hr) hp r
theorem jb3{t:TE}{m:Z.ML}(hn:SN C E t m):SE C E t (Z.jb5 m):=by
 intro ex bs h ρ σ H Q hr re p
 refine hn ex bs h ρ σ H Q hr re ?_
 unfold Z.jb5 at p
 cases e:m ρ h with
 | ok ds h1=>
  rw[e] at p
  intro a vs bs1 H1 e1 ha rv
  obtain⟨e2,g⟩:=Ev.alloc (o:= .lst vs) e1.hr ha
  exact p (.ref a) bs1 _ (e1.trans e2) (by simp only[RV];exact⟨a,vs,rfl,g,rv.ev e2⟩)
 | exc c h1=>rw[e] at p;exact p
 | stuck=>rw[e] at p;exact p
theorem jh7{α:Type}{l:List α}{a x:α}{k:Nat}(e:l[k]?=some a):(l++[x])[k]?=some a:=by
 rw[List.getElem?_append_left (List.getElem?_eq_some_iff.mp e).1];exact e
theorem jbn{α:Type}{l:List α}{a x:α}{k:Nat}(e:(l++[x])[k]?=some a):l[k]?=some a \/ (k=l.length /\ a=x):=by
 by_cases hk:k<l.length
 ·rw[List.getElem?_append_left hk] at e;exact .inl e
 ·rw[List.getElem?_append_right (by omega)] at e
  by_cases hk2:k=l.length
  ·subst hk2;simp at e;exact .inr ⟨rfl,e.symm⟩
  ·rw[List.getElem?_eq_none (by simp;omega)] at e;cases e
theorem Ev.cell{p:Addr}{o:HO}{c:Z.Cell}(hr:HR C ex bs h H)(hp:H p=none)(hc:jed C bs (gh ex bs h H) (upd H p o) p c):Ev C ex bs h H (bs++[p]) (h++[some c]) (upd H p o):=by
 have nx:p∉ex:=λm=>hr.domx p m hp
 have nb:p∉bs:=λm=>hr.dom p m hp
 have ne:∀{a},H a≠none->a≠p:=fun{a} q e=>q (by rw[e];exact hp)
 have hb:∀(k:Nat) (a:Addr),bs[k]?=some a->(bs++[p])[k]?=some a:=λk a e=>jh7 e
 have lvs:∀a,lv (bs++[p]) (h++[some c]) a->lv bs h a \/ a=p:=λa ⟨k,c',e1,e2,l2⟩=>by
  rcases jbn e1 with e1 | ⟨_,e1⟩
  ·rcases jbn e2 with e2 | ⟨e2,_⟩
   ·exact .inl ⟨k,c',e1,e2,l2⟩
   ·have:=(List.getElem?_eq_some_iff.mp e1).1
    have:=hr.len
    omega
  ·exact .inr e1
 have sm:Same (gh ex bs h H) (gh ex (bs++[p]) (h++[some c]) (upd H p o)):=λa u e=>by
  obtain⟨h1,h2,h3⟩:=jbe.mp e
  have na:a≠p:=ne (by rw[h3];exact λz=>nomatch z)
  refine jbe.mpr ⟨h1,λl=> ?_,by rw[jan na];exact h3⟩
  rcases lvs a l with l | l
  ·exact h2 l
  ·exact na l
 refine⟨hb,⟨by simp[hr.len],λi j a e1 e2=> ?_,λa m=> ?_,λa m=> ?_,λa m=> ?_,λk a c' e1 e2=> ?_⟩,sm,λa m=> ?_⟩
 ·rcases jbn e1 with e1 | ⟨k1,e1⟩
  ·rcases jbn e2 with e2 | ⟨k2,e2⟩
   ·exact hr.inj i j a e1 e2
   ·rw[e2] at e1;exact absurd (List.mem_of_getElem? e1) nb
  ·rcases jbn e2 with e2 | ⟨k2,e2⟩
   ·rw[e1] at e2;exact absurd (List.mem_of_getElem? e2) nb
   ·omega
 ·intro z
  rcases List.mem_append.mp z with z | z
  ·exact hr.sep a m z
  ·exact nx (by rw[<-(show a=p by simpa using z)];exact m)
 ·rcases List.mem_append.mp m with m | m
  ·rw[jan (ne (hr.dom a m))];exact hr.dom a m
  ·rw[show a=p by simpa using m,jb6];exact λz=>nomatch z
 ·rw[jan (ne (hr.domx a m))];exact hr.domx a m
 ·rcases jbn e1 with e1 | ⟨k1,e1⟩
  ·rcases jbn e2 with e2 | ⟨k2,e2⟩
   ·exact(hr.cell k a c' e1 e2).mono hb sm (by rw[jan (ne (hr.dom a (List.mem_of_getElem? e1)))])
   ·have:=(List.getElem?_eq_some_iff.mp e1).1
    have:=hr.len
    omega
  ·rcases jbn e2 with e2 | ⟨k2,e2⟩
   ·have:=(List.getElem?_eq_some_iff.mp e2).1
    have:=hr.len
    omega
   ·rw[e1]
    injection e2 with e2
    subst e2
    exact hc.mono hb sm rfl
 ·rw[jan (ne (hr.domx a m))]
theorem jri{t:TE}{m:Z.ML}(hn:SN C E t m):SE C E t (Z.js1 m):=by
 intro ex bs h ρ σ H Q hr re p
 refine hn ex bs h ρ σ H Q hr re ?_
 unfold Z.js1 at p
 cases e:m ρ h with
 | ok ds h1=>
  rw[e] at p
  intro a vs bs1 H1 e1 ha rv
  have e2:=Ev.cell (o:= .lst vs) (c:= .lst ds) e1.hr ha ⟨vs,jb6,rv⟩
  refine p (.ref a) (bs1++[a]) _ (e1.trans e2) ?_
  simp only[RV]
  exact⟨a,rfl,by rw[<-e1.hr.len];simp⟩
 | exc c h1=>rw[e] at p;exact p
 | stuck=>rw[e] at p;exact p
theorem jby{tl:TA}{ml:Z.ML}(hl:SA C E tl ml):SN C E (tLst tl) (Z.jc8 ml):=by
 intro ex bs h ρ σ H Q hr re p
 refine hl ex bs h ρ σ H _ hr re (jd2.bind p λds xs h1 bs1 H1 e1 rx p1=> ?_)
 obtain⟨hz,p1⟩:=p1.chk
 exact⟨by rw[rx.len];exact hz,λa ha=>p1.now e1.hr ha rx⟩
theorem jwg{k:Nat}{a x:Addr}{c c0:Z.Cell}(hk:bs[k]?=some a)(h0:h[k]?=some (some c0))(l1:c.live=true)(l0:c0.live=true):lv bs (h.set k (some c)) x↔lv bs h x:=by
 constructor
 ·rintro⟨j,c',e1,e2,l2⟩
  by_cases hj:k=j
  ·subst hj;exact⟨k,c0,e1,h0,l0⟩
  ·rw[List.getElem?_set_ne hj] at e2;exact⟨j,c',e1,e2,l2⟩
 ·rintro⟨j,c',e1,e2,l2⟩
  by_cases hj:k=j
  ·subst hj;exact⟨k,c,e1,by rw[List.getElem?_set_self (List.getElem?_eq_some_iff.mp h0).1],l1⟩
  ·exact⟨j,c',e1,by rw[List.getElem?_set_ne hj];exact e2,l2⟩
theorem Ev.put{k:Nat}{a:Addr}{o:HO}{c c0:Z.Cell}(hr:HR C ex bs h H)(hk:bs[k]?=some a)(h0:h[k]?=some (some c0))(hc:jed C bs (gh ex bs h H) (upd H a o) a c)(l1:c.live=true:=by rfl)(l0:c0.live=true:=by rfl):
  Ev C ex bs h H bs (h.set k (some c)) (upd H a o):=by
 have la:lv bs h a:=⟨k,c0,hk,h0,l0⟩
 have ab:a∈bs:=List.mem_of_getElem? hk
 have ge:gh ex bs (h.set k (some c)) (upd H a o)=gh ex bs h H:=by
  funext x
  unfold gh
  by_cases q:x∈ex \/ lv bs h x
  ·rw[if_pos q,if_pos (q.imp id (jwg hk h0 l1 l0).mpr)]
  ·rw[if_neg q,if_neg (λz=>q (z.imp id (jwg hk h0 l1 l0).mp)),jan (λz=>q (.inr (by rw[z];exact la)))]
 have na:∀{x},x∈ex->x≠a:=fun{x} m z=>hr.sep x m (by rw[z];exact ab)
 refine⟨λ_ _ e=>e,⟨by simp[hr.len],hr.inj,hr.sep,λx m=> ?_,λx m=> ?_,λj x c' e1 e2=> ?_⟩,by rw[ge];exact Same.refl _,λx m=>by rw[jan (na m)]⟩
 ·by_cases q:x=a
  ·rw[q,jb6];exact λz=>nomatch z
  ·rw[jan q];exact hr.dom x m
 ·rw[jan (na m)];exact hr.domx x m
 ·rw[ge]
  by_cases hj:k=j
  ·subst hj
   rw[hk] at e1;cases e1
   rw[List.getElem?_set_self (List.getElem?_eq_some_iff.mp h0).1] at e2
   cases e2;exact hc
  ·rw[List.getElem?_set_ne hj] at e2
   refine(hr.cell j x c' e1 e2).mono (λ_ _ e=>e) (Same.refl _) ?_
   rw[jan (λz=>hj (hr.inj k j a hk (by rw[<-z];exact e1)))]
theorem Ev.freeze{k:Nat}{a:Addr}{ds:List Z.D}(hr:HR C ex bs h H)(hk:bs[k]?=some a)(h0:h[k]?=some (some (.lst ds))):
  Ev C ex bs h H bs (h.set k none) H /\ RV C bs (gh ex bs (h.set k none) H) (.ref a) (.lst ds):=by
 have ab:a∈bs:=List.mem_of_getElem? hk
 have lvs:∀x,lv bs (h.set k none) x->lv bs h x /\ x≠a:=λx ⟨j,c',e1,e2,l2⟩=>by
  by_cases hj:k=j
  ·subst hj;rw[List.getElem?_set_self (List.getElem?_eq_some_iff.mp h0).1] at e2;cases e2
  ·rw[List.getElem?_set_ne hj] at e2
   exact⟨⟨j,c',e1,e2,l2⟩,λz=>hj (hr.inj k j a hk (by rw[<-z];exact e1))⟩
 have sm:Same (gh ex bs h H) (gh ex bs (h.set k none) H):=λx u e=>by
  obtain⟨h1,h2,h3⟩:=jbe.mp e
  exact jbe.mpr ⟨h1,λl=>h2 (lvs x l).1,h3⟩
 obtain⟨vs,h1,h2⟩:=hr.cell k a _ hk h0
 refine⟨⟨λ_ _ e=>e,⟨by simp[hr.len],hr.inj,hr.sep,hr.dom,hr.domx,λj x c' e1 e2=> ?_⟩,sm,λ_ _=>rfl⟩,?_⟩
 ·by_cases hj:k=j
  ·subst hj;rw[List.getElem?_set_self (List.getElem?_eq_some_iff.mp h0).1] at e2;cases e2
  ·rw[List.getElem?_set_ne hj] at e2
   exact(hr.cell j x c' e1 e2).mono (λ_ _ e=>e) sm rfl
 ·simp only[RV]
  exact⟨a,vs,rfl,jbe.mpr ⟨λm=>hr.sep a m ab,λl=>(lvs a l).2 rfl,h1⟩,h2.mono (λ_ _ e=>e) sm⟩
def spZ(C:Ct)(z:Z.MF):Sp:=λvs H Q E=>∃ex bs h ds,HR C ex bs h H /\ RVs C bs (gh ex bs h H) vs ds /\ Post C ex E bs h H (RV C) (z ds h) Q
theorem jaq{z:Z.MF}{tl:TA}{ml:Z.ML}(hl:SA C E tl ml):SE C E (jyi (spZ C z) [] E tl) (Z.jar z ml):=by
 intro ex bs h ρ σ H Q hr re p
 refine hl ex bs h ρ σ H _ hr re (p.bind λds xs h1 bs1 H1 e1 rx p1=> ?_)
 exact⟨ex,bs1,h1,ds,e1.hr,by rw[List.append_nil];exact rx,p1⟩
theorem s_tB{t:TE}{m:Z.ME}(h0:SE C E t m):ST C E (tB t) (Z.tB m):=by
 intro ex bs h ρ σ H Q hr re p
 refine h0 ex bs h ρ σ H _ hr re (p.bind λd x h1 bs1 H1 e1 rx p1=> ?_)
 cases d with
 | bl b=>simp only[RV] at rx;exact⟨b,rx,Post.now e1.hr p1 rfl⟩
 | _=>exact p1.elim
theorem jaj{t:TE}{m:Z.ME}(h0:SE C E t m):ST C E (jzn t) (Z.tB m):=s_tB h0
theorem jgr{t u:TT}{m n:Z.MT}(ht:ST C E t m)(hu:ST C E u n):ST C E (tAnd t u) (Z.tAnd m n):=by
 intro ex bs h ρ σ H Q hr re p
 refine ht ex bs h ρ σ H _ hr re (p.bind λc b h1 bs1 H1 e1 rx p1=> ?_)
 cases rx
 cases c with
 | true=>exact hu ex bs1 h1 ρ σ H1 Q e1.hr (re.ev e1) p1
 | false=>exact Post.now e1.hr p1 rfl
theorem jvk{t u:TT}{m n:Z.MT}(ht:ST C E t m)(hu:ST C E u n):ST C E (tOr t u) (Z.tOr m n):=by
 intro ex bs h ρ σ H Q hr re p
 refine ht ex bs h ρ σ H _ hr re (p.bind λc b h1 bs1 H1 e1 rx p1=> ?_)
 cases rx
 cases c with
 | false=>exact hu ex bs1 h1 ρ σ H1 Q e1.hr (re.ev e1) p1
 | true=>exact Post.now e1.hr p1 rfl
theorem jdy{t:TT}{m:Z.MT}(ht:ST C E t m):ST C E (tNot t) (Z.tNot m):=by
 intro ex bs h ρ σ H Q hr re p
 refine ht ex bs h ρ σ H _ hr re (p.bind λc b h1 bs1 H1 e1 rx p1=> ?_)
 cases rx
 exact Post.now e1.hr p1 rfl
theorem s_if{c:TT}{t u:TE}{mc:Z.MT}{m n:Z.ME}(hc:ST C E c mc)(ht:SE C E t m)(hu:SE C E u n):SE C E (tIf c t u) (Z.mIf mc m n):=by
 intro ex bs h ρ σ H Q hr re p
 refine hc ex bs h ρ σ H _ hr re (p.bind λc b h1 bs1 H1 e1 rx p1=> ?_)
 cases rx
 cases c with
 | true=>exact ht ex bs1 h1 ρ σ H1 Q e1.hr (re.ev e1) p1
 | false=>exact hu ex bs1 h1 ρ σ H1 Q e1.hr (re.ev e1) p1
theorem s_orV{t u:TE}{m n:Z.ME}(ht:SE C E t m)(hu:SE C E u n):SE C E (tOrV t u) (Z.mOr m n):=by
 intro ex bs h ρ σ H Q hr re p
 refine ht ex bs h ρ σ H _ hr re (p.bind λd x h1 bs1 H1 e1 rx p1=> ?_)
 cases d with
 | bl b=>
  simp only[RV] at rx
  refine⟨b,rx,?_⟩
  cases b with
  | false=>exact hu ex bs1 h1 ρ σ H1 Q e1.hr (re.ev e1) p1
  | true=>exact Post.now e1.hr p1 (by simp only[RV])
 | _=>exact p1.elim
theorem jmt{r r':R2}{f g:Z.B2}{ta tb tc:TE}{ma mb mc:Z.ME}(o:S2 C r f)(o':S2 C r' g)(ha:SE C E ta ma)(hb:SE C E tb mb)(hc:SE C E tc mc):SE C E (jwq r r' ta tb tc) (Z.jnh f g ma mb mc):=by
 intro ex bs h ρ σ H Q hr re p
 refine ha ex bs h ρ σ H _ hr re (p.bind λdx x h1 bs1 H1 e1 rx p1=> ?_)
 refine hb ex bs1 h1 ρ σ H1 _ e1.hr (re.ev e1) (p1.bind λdy y h2 bs2 H2 e2 ry p2=> ?_)
 refine o ex bs2 h2 H2 E x y dx dy _ e2.hr (rx.ev e2) ry (p2.bind λdz z h3 bs3 H3 e3 rz p3=> ?_)
 cases dz with
 | bl k=>
  simp only[RV] at rz
  refine⟨k,rz,?_⟩
  cases k with
  | false=>exact Post.now e3.hr p3 (by simp only[RV])
  | true=>
   refine hc ex bs3 h3 ρ σ H3 _ e3.hr ((re.ev e1).ev (e2.trans e3)) (p3.bind λdw w' h4 bs4 H4 e4 rw' p4=> ?_)
   exact o' ex bs4 h4 H4 E y w' dy dw Q e4.hr ((ry.ev e3).ev e4) rw' p4
 | _=>exact p3.elim
end
end L2
namespace L2
open PySem PySem.Spec
section
variable {C : Ct} {ex bs bs1 bs2 : List Addr} {h h1 h2 : Z.MH} {H H1 H2 : Hp} {E : XK} {α β : Type} {R1 : List Addr -> Hp -> β -> α -> Prop}
def je3(C:Ct)(ex:List Addr)(E:XK)(bs:List Addr)(h:Z.MH)(H:Hp)(r:Z.RS)(D:Ends):Prop:=match r with
 | .nx ρ' h'=>∀σ' bs' H',Ev C ex bs h H bs' h' H'->RE C bs' (gh ex bs' h' H') ρ' σ'->D.nx σ' H'
 | .rt d h'=>∀v bs' H',Ev C ex bs h H bs' h' H'->RV C bs' (gh ex bs' h' H') v d->D.rt v H'
 | .bk ρ' h'=>∀σ' bs' H',Ev C ex bs h H bs' h' H'->RE C bs' (gh ex bs' h' H') ρ' σ'->D.bk σ' H'
 | .ct ρ' h'=>∀σ' bs' H',Ev C ex bs h H bs' h' H'->RE C bs' (gh ex bs' h' H') ρ' σ'->D.ct σ' H'
 | .exc c h'=>∀bs' H',Ev C ex bs h H bs' h' H'->E (.ref (C.cm c)) none H'
 | .stuck=>False
def SS(C:Ct)(E:XK)(t:TS)(m:Z.MS):Prop:=
 ∀(ex bs:List Addr) (h:Z.MH) (ρ:Z.Ro) (σ:St) (H:Hp) (D:Ends),HR C ex bs h H->RE C bs (gh ex bs h H) ρ σ->je3 C ex E bs h H (m ρ h) D->t D σ H
theorem je3.from{r:Z.RS}{D:Ends}(e:Ev C ex bs h H bs1 h1 H1)(p:je3 C ex E bs h H r D):je3 C ex E bs1 h1 H1 r D:=by
 cases r with
 | nx ρ h'=>exact λb bs' H' e' q=>p b bs' H' (e.trans e') q
 | rt d h'=>exact λb bs' H' e' q=>p b bs' H' (e.trans e') q
 | bk ρ h'=>exact λb bs' H' e' q=>p b bs' H' (e.trans e') q
 | ct ρ h'=>exact λb bs' H' e' q=>p b bs' H' (e.trans e') q
 | exc c h'=>exact λbs' H' e'=>p bs' H' (e.trans e')
 | stuck=>exact p
theorem je3.bind{r:Z.Res α}{f:α->Z.MH->Z.RS}{D:Ends}{Q1:β->Hp->Prop}(p:je3 C ex E bs h H (r.toS f) D)
  (k:∀a b h1 bs1 H1,Ev C ex bs h H bs1 h1 H1->R1 bs1 (gh ex bs1 h1 H1) b a->je3 C ex E bs1 h1 H1 (f a h1) D->Q1 b H1):Post C ex E bs h H R1 r Q1:=by
 cases r with
 | ok a h'=>exact λb bs' H' e' q=>k a b h' bs' H' e' q (je3.from e' p)
 | exc c h'=>exact p
 | stuck=>exact p
theorem jag:SS C E jtp Z.jas:=λex bs h ρ σ H D hr re p=>p σ bs H (Ev.refl hr) re
theorem jyw:SS C E tCont Z.jug:=λex bs h ρ σ H D hr re p=>p σ bs H (Ev.refl hr) re
theorem ja8{t u:TS}{m n:Z.MS}(ht:SS C E t m)(hu:SS C E u n):SS C E (tSeq t u) (Z.sSeq m n):=by
 intro ex bs h ρ σ H D hr re p
 refine ht ex bs h ρ σ H _ hr re ?_
 unfold Z.sSeq at p
 cases e:m ρ h with
 | nx ρ1 h1=>rw[e] at p;exact λσ1 bs1 H1 e1 re1=>hu ex bs1 h1 ρ1 σ1 H1 D e1.hr re1 (p.from e1)
 | rt d h1=>rw[e] at p;exact p
 | bk ρ1 h1=>rw[e] at p;exact p
 | ct ρ1 h1=>rw[e] at p;exact p
 | exc c h1=>rw[e] at p;exact p
 | stuck=>rw[e] at p;exact p
theorem jay{c:TT}{t u:TS}{mc:Z.MT}{m n:Z.MS}(hc:ST C E c mc)(ht:SS C E t m)(hu:SS C E u n):SS C E (tIfS c t u) (Z.sIf mc m n):=by
 intro ex bs h ρ σ H D hr re p
 refine hc ex bs h ρ σ H _ hr re (p.bind λc b h1 bs1 H1 e1 rx p1=> ?_)
 cases rx
 cases c with
 | true=>exact ht ex bs1 h1 ρ σ H1 D e1.hr (re.ev e1) p1
 | false=>exact hu ex bs1 h1 ρ σ H1 D e1.hr (re.ev e1) p1
theorem jai{t:TE}{m:Z.ME}(ht:SE C E t m):SS C E (tRet t) (Z.sRet m):=by
 intro ex bs h ρ σ H D hr re p
 exact ht ex bs h ρ σ H _ hr re (p.bind λd x h1 bs1 H1 e1 rx p1=>p1 x bs1 H1 (Ev.refl e1.hr) rx)
theorem jfh{t:TE}{m:Z.ME}(ht:SE C E t m):SS C E (jyc t) (Z.jkp m):=by
 intro ex bs h ρ σ H D hr re p
 exact ht ex bs h ρ σ H _ hr re (p.bind λd x h1 bs1 H1 e1 rx p1=>p1 σ bs1 H1 (Ev.refl e1.hr) (re.ev e1))
def SG(C:Ct)(E:XK)(g:TG)(m:Z.MG):Prop:=
 ∀(ex bs:List Addr) (h:Z.MH) (ρ:Z.Ro) (σ:St) (H:Hp) (v:V) (d:Z.D) (D:Ends),HR C ex bs h H->RE C bs (gh ex bs h H) ρ σ->RV C bs (gh ex bs h H) v d->je3 C ex E bs h H (m d ρ h) D->g v σ H D.nx
theorem jau{t:TE}{m:Z.ME}{g:TG}{mg:Z.MG}(ht:SE C E t m)(hg:SG C E g mg):SS C E (tAsg t g) (Z.sAsg m mg):=by
 intro ex bs h ρ σ H D hr re p
 exact ht ex bs h ρ σ H _ hr re (p.bind λd x h1 bs1 H1 e1 rx p1=>hg ex bs1 h1 ρ σ H1 x d D e1.hr (re.ev e1) rx p1)
theorem jad{i:Nat}:SG C E (jac i) (Z.jac i):=λex bs h ρ σ H v d D hr re rv p=>p _ bs H (Ev.refl hr) (re.set rv)
theorem jk3{t:TE}{m:Z.ME}{i:Nat}(ht:SE C E t m):SS C E (λD σ H=>t σ H λx H1=>D.nx (σ.set i (some x)) H1) (Z.sAsg m (Z.jac i)):=jau (g:=jac i) ht jad
def SGs(C:Ct)(E:XK)(g:TGs)(is:List Nat):Prop:=
 ∀(ex bs:List Addr) (h:Z.MH) (ρ:Z.Ro) (σ:St) (H:Hp) (vs:List V) (ds:List Z.D) (D:Ends),HR C ex bs h H->RE C bs (gh ex bs h H) ρ σ->RVs C bs (gh ex bs h H) vs ds->je3 C ex E bs h H (Z.jnr is ds ρ h) D->g vs σ H D.nx /\ vs.length=is.length
theorem jlt:SGs C E gNil []:=by
 intro ex bs h ρ σ H vs ds D hr re rv p
 cases ds with
 | nil=>
  cases vs with
  | nil=>exact⟨⟨rfl,p σ bs H (Ev.refl hr) re⟩,rfl⟩
  | cons _ _=>simp only[RVs] at rv
 | cons d ds=>exact p.elim
theorem jfa{g:TGs}{is:List Nat}{i:Nat}(hg:SGs C E g is):SGs C E (jxw (jac i) g) (i::is):=by
 intro ex bs h ρ σ H vs ds D hr re rv p
 cases ds with
 | nil=>exact p.elim
 | cons d ds=>
  cases vs with
  | nil=>simp only[RVs] at rv
  | cons v vs=>
   simp only[RVs] at rv
   have:=hg ex bs h (ρ.set i (some d)) (σ.set i (some v)) H vs ds D hr (re.set rv.1) rv.2 p
   exact⟨⟨v,vs,rfl,this.1⟩,by simp[this.2]⟩
theorem jr8{g:TGs}{is:List Nat}{n:Nat}(hn:n=is.length)(hg:SGs C E g is):SG C E (gSeq C.K n g) (Z.gTup is):=by
 intro ex bs h ρ σ H v d D hr re rv p
 cases d with
 | tup ds=>
  simp only[RV] at rv
  obtain⟨a,vs,rfl,ga,rs⟩:=rv
  have:=hg ex bs h ρ σ H vs ds D hr re rs p
  exact⟨a,vs,rfl,.inl (SqT.of (jbq _ _ ga)),by rw[hn];exact this.2,this.1⟩
 | lst ds=>
  simp only[RV] at rv
  obtain⟨a,vs,rfl,ga,rs⟩:=rv
  have:=hg ex bs h ρ σ H vs ds D hr re rs p
  exact⟨a,vs,rfl,.inr (SqL.of (jbq _ _ ga)),by rw[hn];exact this.2,this.1⟩
 | _=>exact p.elim
theorem RVs.set{G:Hp}{v:V}{d:Z.D}(q:RV C bs G v d):∀{ds:List Z.D} {vs:List V} (n:Nat),RVs C bs G vs ds->RVs C bs G (vs.set n v) (ds.set n d)
 | [],[],_,_=>by simp[RVs]
 | d'::ds,v'::vs,0,h=>by
  simp only[RVs,List.set_cons_zero] at h ⊢
  exact⟨q,h.2⟩
 | d'::ds,v'::vs,n+1,h=>by
  simp only[RVs,List.set_cons_succ] at h ⊢
  exact⟨h.1,RVs.set q n h.2⟩
 | [],_::_,_,h=>by simp only[RVs] at h
 | _::_,[],_,h=>by simp only[RVs] at h
theorem RVs.append{G:Hp}:∀{ds es:List Z.D} {vs ws:List V},RVs C bs G vs ds->RVs C bs G ws es->RVs C bs G (vs++ws) (ds++es)
 | [],es,[],ws,_,k=>k
 | d::ds,es,v::vs,ws,h,k=>by
  simp only[RVs,List.cons_append] at h ⊢
  exact⟨h.1,RVs.append h.2 k⟩
 | [],_,_::_,_,h,_=>by simp only[RVs] at h
 | _::_,_,[],_,h,_=>by simp only[RVs] at h
theorem RVs.one{G:Hp}{v:V}{d:Z.D}(q:RV C bs G v d):RVs C bs G [v] [d]:=by simp only[RVs];exact⟨q,trivial⟩
theorem RVs.get{G:Hp}:∀{ds:List Z.D} {vs:List V} {i:Nat} {d:Z.D},RVs C bs G vs ds->ds[i]?=some d->∃v,vs[i]?=some v /\ RV C bs G v d
 | [],_,i,d,_,e=>by simp at e
 | d::ds,v::vs,0,d',h,e=>by
  simp only[RVs] at h
  simp at e;subst e
  exact⟨v,rfl,h.1⟩
 | d::ds,v::vs,i+1,d',h,e=>by
  simp only[RVs] at h
  obtain⟨u,h1,h2⟩:=RVs.get (i:=i) (d:=d') h.2 (by simpa using e)
  exact⟨u,by simpa using h1,h2⟩
 | _::_,[],_,_,h,_=>by simp only[RVs] at h
theorem RVs.drop{G:Hp}:∀{ds:List Z.D} {vs:List V} (n:Nat),RVs C bs G vs ds->RVs C bs G (vs.drop n) (ds.drop n)
 | _,_,0,h=>h
 | [],[],n+1,h=>h
 | d::ds,v::vs,n+1,h=>by
  simp only[RVs] at h
  simpa using RVs.drop n h.2
 | [],_::_,_+1,h=>by simp only[RVs] at h
 | _::_,[],_+1,h=>by simp only[RVs] at h
theorem RVs.take{G:Hp}:∀{ds:List Z.D} {vs:List V} (n:Nat),RVs C bs G vs ds->RVs C bs G (vs.take n) (ds.take n)
 | _,_,0,_=>by simp[RVs]
 | [],[],n+1,h=>by simp[RVs]
 | d::ds,v::vs,n+1,h=>by
  simp only[RVs] at h
  simp only[List.take_succ_cons,RVs]
  exact⟨h.1,RVs.take n h.2⟩
 | [],_::_,_+1,h=>by simp only[RVs] at h
 | _::_,[],_+1,h=>by simp only[RVs] at h
theorem jij{to ti:TE}{mo mi:Z.ME}(ho:SE C E to mo)(hi:SE C E ti mi):SG C E (gSub to ti rSetL) (Z.gSub mo mi):=by
 intro ex bs h ρ σ H v d D hr re rv p
 refine ho ex bs h ρ σ H _ hr re (p.bind λo x h1 bs1 H1 e1 rx p1=> ?_)
 refine hi ex bs1 h1 ρ σ H1 _ e1.hr (re.ev e1) (p1.bind λi y h2 bs2 H2 e2 ry p2=> ?_)
 have e:=e1.trans e2
 have rv2:=rv.ev e
 have rx2:=rx.ev e2
 cases o with
 | ref k=>
  simp only[RV] at rx2
  obtain⟨a,rfl,hk⟩:=rx2
  dsimp only at p2
  split at p2
  ·rename_i xs hc
   split at p2
   ·rename_i j
    split at p2
    ·rename_i n hn
     simp only[RV] at ry
     subst ry
     obtain⟨vs,ha,rs⟩:=e2.hr.cell k a _ hk hc
     refine⟨a,vs,j,n,rfl,rfl,ha,by rw[rs.len];exact hn,?_⟩
     have e3:=Ev.put (o:= .lst (vs.set n v)) (c:= .lst (xs.set n d)) e2.hr hk hc ⟨_,jb6,rs.set rv2 n⟩
     exact p2 σ bs2 _ e3 (((re.ev e1).ev e2).ev e3)
    ·exact p2.elim
   ·exact p2.elim
  ·exact p2.elim
 | _=>exact p2.elim
theorem jia{to te:TE}{mo me:Z.ME}(ho:SE C E to mo)(he:SE C E te me):SS C E (jyc (tBM C.K "list" jqb to (jyt te tNil))) (Z.jhv mo me):=by
 intro ex bs h ρ σ H D hr re p
 refine ho ex bs h ρ σ H _ hr re (p.bind λo x h1 bs1 H1 e1 rx p1=> ?_)
 cases o with
 | ref k=>
  simp only[RV] at rx
  obtain⟨a,rfl,hk⟩:=rx
  dsimp only at p1
  split at p1
  ·rename_i xs0 hc0
   obtain⟨vs0,ha0,_⟩:=e1.hr.cell k a _ hk hc0
   refine⟨.inl ⟨rfl,vs0,SqL.of ha0⟩,?_⟩
   refine he ex bs1 h1 ρ σ H1 _ e1.hr (re.ev e1) (p1.bind λd y h2 bs2 H2 e2 ry p2=> ?_)
   split at p2
   ·rename_i xs hc
    split at p2
    ·rename_i hz
     obtain⟨vs,ha,rs⟩:=e2.hr.cell k a _ (e2.pre k a hk) hc
     refine⟨a,vs,y,rfl,rfl,ha,by rw[rs.len];exact hz,?_⟩
     have e3:=Ev.put (o:= .lst (vs++[y])) (c:= .lst (xs++[d])) e2.hr (e2.pre k a hk) hc ⟨_,jb6,rs.append (.one ry)⟩
     exact p2 σ bs2 _ e3 (((re.ev e1).ev e2).ev e3)
    ·exact p2.elim
   ·exact p2.elim
  ·exact p1.elim
 | _=>exact p1.elim
theorem ji1{i:Nat}{t:TS}{m:Z.MS}(ht:SS C E t m):SS C E t (Z.jfp i m):=by
 intro ex bs h ρ σ H D hr re p
 unfold Z.jfp at p
 split at p
 ·rename_i k hk
  split at p
  ·rename_i xs hc
   obtain⟨v,hv,rv⟩:=re.2 i _ hk
   simp only[RV] at rv
   obtain⟨a,rfl,ha⟩:=rv
   obtain⟨e1,r1⟩:=Ev.freeze hr ha hc
   refine ht ex bs (h.set k none) (ρ.set i (some (.lst xs))) σ H D e1.hr ?_ (p.from e1)
   have r2:=(re.ev e1).set (i:=i) r1
   have:σ.set i (some (.ref a))=σ:=List.ext_getElem? λj=>by
    by_cases hj:i=j
    ·subst hj;rw[List.getElem?_set_self (List.getElem?_eq_some_iff.mp hv).1,hv]
    ·rw[List.getElem?_set_ne hj]
   rw[this] at r2;exact r2
  ·exact p.elim
 ·exact p.elim
end
section
variable {C : Ct} {ex bs bs1 bs2 : List Addr} {h h1 h2 : Z.MH} {H H1 H2 : Hp} {E : XK}
def ItOk(C:Ct)(bs:List Addr)(G:Hp)(J:It)(s:Option Nat×List Z.D):Prop:=
 ∀(ex2 bs2:List Addr) (h2:Z.MH) (H2:Hp),HR C ex2 bs2 h2 H2->(∀(k:Nat) (a:Addr),bs[k]?=some a->bs2[k]?=some a)->Same G (gh ex2 bs2 h2 H2)->Z.okG s.1 s.2 h2->∀i:Nat,
  (∀d,s.2[i]?=some d->J.go i H2 /\ ∀x H3,J.yld i H2 x H3->Ev C ex2 bs2 h2 H2 bs2 h2 H3 /\ RV C bs2 (gh ex2 bs2 h2 H3) x d) /\ (s.2.length<=i->J.stop i H2)
abbrev SI(C:Ct)(E:XK)(t:TI)(m:Z.MI):Prop:=Snd C E (ItOk C) t m
theorem jrw{J:It}{g:TG}{tb:TS}{gd:Option Nat}{items:List Z.D}{mg:Z.MG}{mb:Z.MS}{ρ:Z.Ro}{σ:St}{D:Ends}(hg:SG C E g mg)(hb:SS C E tb mb)(hr:HR C ex bs1 h1 H1)(re:RE C bs1 (gh ex bs1 h1 H1) ρ σ)(it:ItOk C bs1 (gh ex bs1 h1 H1) J (gd,items))(p1:je3 C ex E bs1 h1 H1 (Z.jec gd items mg mb items ρ h1) D):
  ∃W:Nat->Nat->St->Hp->Prop,(∃m,W 0 m σ H1) /\ ∀i m σ H,W i m σ H->(J.stop i H /\ D.nx σ H) \/ (J.go i H /\ ∃N:St->Hp->Prop,(∀σ' H',N σ' H'->∃m',m'<m /\ W (i+1) m' σ' H') /\ ∀x H',J.yld i H x H'->g x σ H' λσ2 H2=>tb {D with nx:=N,ct:=N,bk:=D.nx} σ2 H2):=by
 have lo:∀(i:Nat) (hl:i<items.length),items.drop i=items[i]::items.drop (i+1):=λi hl=>List.drop_eq_getElem_cons hl
 refine⟨λi m σ' H'=>m=items.length - i /\ i<=items.length /\ ∃ρ' bs' h',Ev C ex bs1 h1 H1 bs' h' H' /\ RE C bs' (gh ex bs' h' H') ρ' σ' /\ je3 C ex E bs' h' H' (Z.jec gd items mg mb (items.drop i) ρ' h') D,
  ⟨items.length,by simp,Nat.zero_le _,ρ,bs1,h1,Ev.refl hr,re,p1⟩,?_⟩
 rintro i m σ' H' ⟨rfl,hle,ρ',bs',h',ev,re',p'⟩
 by_cases hlt:i<items.length
 ·rw[lo i hlt] at p'
  unfold Z.jec at p'
  split at p'
  case isFalse=>exact p'.elim
  rename_i okg
  obtain⟨go,yl⟩:=(it ex bs' h' H' ev.hr ev.pre ev.same okg i).1 items[i] (List.getElem?_eq_getElem hlt)
  refine .inr ⟨go,λσ2 H2=>∃m',m'<items.length - i /\ (m'=items.length - (i+1) /\ i+1<=items.length /\ ∃ρ' bs' h',Ev C ex bs1 h1 H1 bs' h' H2 /\ RE C bs' (gh ex bs' h' H2) ρ' σ2 /\ je3 C ex E bs' h' H2 (Z.jec gd items mg mb (items.drop (i+1)) ρ' h') D),λ_ _ q=>q,λx H3 y=> ?_⟩
  obtain⟨ev3,rx⟩:=yl x H3 y
  have p3:=p'.from ev3
  refine hg ex bs' h' ρ' σ' H3 x items[i] ⟨_,λ_ _=>False,λ_ _=>False,λ_ _=>False⟩ ev3.hr (re'.ev ev3) rx ?_
  cases e:mg items[i] ρ' h' with
  | nx ρ1 h1'=>
   rw[e] at p3
   intro σ2 bs2 H2 ev2 re2
   refine hb ex bs2 h1' ρ1 σ2 H2 _ ev2.hr re2 ?_
   have p4:=p3.from ev2
   have ev4:=(ev.trans ev3).trans ev2
   cases e5:mb ρ1 h1' with
   | nx ρ2 h2'=>
    dsimp only at p4
    rw[e5] at p4
    exact λσ5 bs5 H5 ev5 re5=>⟨_,by omega,rfl,hlt,ρ2,bs5,h2',ev4.trans ev5,re5,p4.from ev5⟩
   | ct ρ2 h2'=>
    dsimp only at p4
    rw[e5] at p4
    exact λσ5 bs5 H5 ev5 re5=>⟨_,by omega,rfl,hlt,ρ2,bs5,h2',ev4.trans ev5,re5,p4.from ev5⟩
   | bk ρ2 h2'=>dsimp only at p4;rw[e5] at p4;exact p4
   | rt d h2'=>dsimp only at p4;rw[e5] at p4;exact p4
   | exc c h2'=>dsimp only at p4;rw[e5] at p4;exact p4
   | stuck=>dsimp only at p4;rw[e5] at p4;exact p4
  | rt _ _=>rw[e] at p3;exact p3.elim
  | bk _ _=>rw[e] at p3;exact p3.elim
  | ct _ _=>rw[e] at p3;exact p3.elim
  | exc _ _=>rw[e] at p3;exact p3.elim
  | stuck=>rw[e] at p3;exact p3.elim
 ·have ei:i=items.length:=by omega
  subst ei
  rw[List.drop_length] at p'
  unfold Z.jec at p'
  split at p'
  case isFalse=>exact p'.elim
  rename_i okg
  exact .inl ⟨(it ex bs' h' H' ev.hr ev.pre ev.same okg items.length).2 (Nat.le_refl _),p' σ' bs' H' (Ev.refl ev.hr) re'⟩
theorem jgo{wi:TI}{g:TG}{tb:TS}{l:Z.MI}{mg:Z.MG}{mb:Z.MS}(hi:SI C E wi l)(hg:SG C E g mg)(hb:SS C E tb mb):SS C E (tFor wi g tb) (Z.sFor l mg mb):=by
 intro ex bs h ρ σ H D hr re p
 refine hi ex bs h ρ σ H _ hr re (p.bind λsrc J h1 bs1 H1 e1 it p1=> ?_)
 obtain⟨gd,items⟩:=src
 dsimp only at p1
 exact jrw hg hb e1.hr (re.ev e1) it p1
theorem jo1{c:TT}{tb:TS}{mc:Z.MT}{mb:Z.MS}(hc:ST C E c mc)(hb:SS C E tb mb):SS C E (jwf c tb) (Z.jcr mc mb):=by
 intro ex bs h ρ σ H D hr re p
 have ns:Z.jcr mc mb ρ h≠ .stuck:=λz=>by rw[z] at p;exact p
 obtain⟨n,en⟩:=Z.jhz ns
 rw[<-en] at p
 refine⟨λm σ' H'=>∃ρ' bs' h',HR C ex bs' h' H' /\ RE C bs' (gh ex bs' h' H') ρ' σ' /\ je3 C ex E bs' h' H' (Z.jck mc mb m ρ' h') D,⟨n,ρ,bs,h,hr,re,p⟩,?_⟩
 rintro m σ' H' ⟨ρ',bs',h',hr',re',p'⟩
 cases m with
 | zero=>exact p'.elim
 | succ m=>
  unfold Z.jck at p'
  refine hc ex bs' h' ρ' σ' H' _ hr' re' ?_
  cases e:mc ρ' h' with
  | exc x h1=>rw[e] at p';exact p'
  | stuck=>rw[e] at p';exact p'
  | ok b h1=>
   rw[e] at p'
   rintro b' bs1 H1 e1 rfl
   have p1:=p'.from e1
   cases b' with
   | false=>exact p1 σ' bs1 H1 (Ev.refl e1.hr) (re'.ev e1)
   | true=>
    dsimp only at p1
    refine⟨λσ2 H2=>∃m',m'<m+1 /\ ∃ρ' bs' h',HR C ex bs' h' H2 /\ RE C bs' (gh ex bs' h' H2) ρ' σ2 /\ je3 C ex E bs' h' H2 (Z.jck mc mb m' ρ' h') D,λ_ _ q=>q,?_⟩
    refine hb ex bs1 h1 ρ' σ' H1 _ e1.hr (re'.ev e1) ?_
    cases e5:mb ρ' h1 with
    | nx ρ2 h2=>rw[e5] at p1;exact λσ5 bs5 H5 ev5 re5=>⟨m,by omega,ρ2,bs5,h2,ev5.hr,re5,p1.from ev5⟩
    | ct ρ2 h2=>rw[e5] at p1;exact λσ5 bs5 H5 ev5 re5=>⟨m,by omega,ρ2,bs5,h2,ev5.hr,re5,p1.from ev5⟩
    | bk ρ2 h2=>rw[e5] at p1;exact p1
    | rt d h2=>rw[e5] at p1;exact p1
    | exc c h2=>rw[e5] at p1;exact p1
    | stuck=>rw[e5] at p1;exact p1
def hid(l:Addr)(H:Hp):Hp:=λb=>if b=l then none else H b
theorem jgv{l b:Addr}(n:b≠l):hid l H b=H b:=if_neg n
theorem jo3{l:Addr}:gh ex bs h (hid l H)=gh (l::ex) bs h H:=by
 funext x
 unfold gh
 by_cases q:x∈ex \/ lv bs h x
 ·rw[if_pos q,if_pos (q.imp (List.mem_cons_of_mem _) id)]
 ·by_cases e:x=l
  ·subst e
   rw[if_neg q,if_pos (.inl (List.mem_cons_self ..))]
   exact if_pos rfl
  ·rw[if_neg q,jgv e,if_neg]
   rintro(z | z)
   ·rcases List.mem_cons.mp z with z | z
    ·exact e z
    ·exact q (.inl z)
   ·exact q (.inr z)
theorem HR.hid{l:Addr}(hl:l∉ex)(r:HR C (l::ex) bs h H):HR C ex bs h (hid l H):=by
 have lb:l∉bs:=r.sep l (List.mem_cons_self ..)
 have nb:∀{a},a∈bs->a≠l:=fun{a} m z=>lb (by rw[<-z];exact m)
 refine⟨r.len,r.inj,λa m=>r.sep a (List.mem_cons_of_mem _ m),λa m=> ?_,λa m=> ?_,λk a c e1 e2=> ?_⟩
 ·rw[jgv (nb m)];exact r.dom a m
 ·rw[jgv (λz=>hl (by rw[<-z];exact m))];exact r.domx a (List.mem_cons_of_mem _ m)
 ·rw[jo3]
  exact(r.cell k a c e1 e2).mono (λ_ _ e=>e) (Same.refl _) (by rw[jgv (nb (List.mem_of_getElem? e1))])
theorem jt2{l:Addr}{o:HO}(hl:H l=none):gh (l::ex) bs h (upd H l o)=gh ex bs h H:=by
 rw[<-jo3]
 have:hid l (upd H l o)=H:=by
  funext x
  unfold hid
  by_cases e:x=l
  ·rw[if_pos e,e,hl]
  ·rw[if_neg e,jan e]
 rw[this]
theorem HR.show{l:Addr}{o:HO}(hl:H l=none)(r:HR C ex bs h H):HR C (l::ex) bs h (upd H l o):=by
 have lb:l∉bs:=λm=>r.dom l m hl
 have lx:l∉ex:=λm=>r.domx l m hl
 have nb:∀{a},a∈bs->a≠l:=fun{a} m z=>lb (by rw[<-z];exact m)
 refine⟨r.len,r.inj,λa m=> ?_,λa m=> ?_,λa m=> ?_,λk a c e1 e2=> ?_⟩
 ·rcases List.mem_cons.mp m with m | m
  ·rw[m];exact lb
  ·exact r.sep a m
 ·rw[jan (nb m)];exact r.dom a m
 ·rcases List.mem_cons.mp m with m | m
  ·rw[m,jb6];exact λz=>nomatch z
  ·rw[jan (λz=>lx (by rw[<-z];exact m))];exact r.domx a m
 ·rw[jt2 hl]
  exact(r.cell k a c e1 e2).mono (λ_ _ e=>e) (Same.refl _) (by rw[jan (nb (List.mem_of_getElem? e1))])
theorem jjp{l:Addr}{o:HO}:gh (l::ex) bs h (upd H l o)=gh (l::ex) bs h H:=by
 funext x
 unfold gh
 by_cases q:x∈l::ex \/ lv bs h x
 ·rw[if_pos q,if_pos q]
 ·rw[if_neg q,if_neg q,jan (λz=>q (.inl (by rw[z];exact List.mem_cons_self ..)))]
theorem HR.exput{l:Addr}{o:HO}(r:HR C (l::ex) bs h H):HR C (l::ex) bs h (upd H l o):=by
 have lb:l∉bs:=r.sep l (List.mem_cons_self ..)
 have nb:∀{a},a∈bs->a≠l:=fun{a} m z=>lb (by rw[<-z];exact m)
 refine⟨r.len,r.inj,r.sep,λa m=> ?_,λa m=> ?_,λk a c e1 e2=> ?_⟩
 ·rw[jan (nb m)];exact r.dom a m
 ·by_cases e:a=l
  ·rw[e,jb6];exact λz=>nomatch z
  ·rw[jan e];exact r.domx a m
 ·rw[jjp]
  exact(r.cell k a c e1 e2).mono (λ_ _ e=>e) (Same.refl _) (by rw[jan (nb (List.mem_of_getElem? e1))])
theorem RE.mono{bs bs':List Addr}{G G':Hp}{ρ:Z.Ro}{σ:St}(hb:∀(k:Nat) (a:Addr),bs[k]?=some a->bs'[k]?=some a)(hs:Same G G')(r:RE C bs G ρ σ):RE C bs' G' ρ σ:=
 ⟨r.1,λi d q=>by obtain⟨v,h1,h2⟩:=r.2 i d q;exact⟨v,h1,h2.mono hb hs⟩⟩
theorem RE.caps{G:Hp}{ρ:Z.Ro}{σ:St}(nt:Nat)(idx:List Nat)(r:RE C bs G ρ σ):RE C bs G (List.replicate nt none++Z.caps idx ρ) (List.replicate nt none++jej idx σ):=by
 refine⟨by simp[Z.caps,jej],λi d hi=> ?_⟩
 by_cases hn:i<nt
 ·rw[List.getElem?_append_left (by simpa using hn),List.getElem?_replicate] at hi
  simp[hn] at hi
 ·rw[List.getElem?_append_right (by simp;omega)] at hi ⊢
  simp only[List.length_replicate] at hi ⊢
  unfold Z.caps at hi
  unfold jej
  rw[List.getElem?_map] at hi ⊢
  cases e:idx[i - nt]? with
  | none=>rw[e] at hi;cases hi
  | some j=>
   rw[e] at hi
   simp only[Option.map_some,Option.some.injEq] at hi ⊢
   cases e2:ρ[j]? with
   | none=>rw[e2] at hi;cases hi
   | some z=>
    rw[e2] at hi
    simp only[Option.getD_some] at hi
    subst hi
    obtain⟨v,h1,h2⟩:=r.2 j d e2
    exact⟨v,by rw[h1];rfl,h2⟩
theorem jib(q:Option Nat)(all:List Z.D)(g:Z.MG)(t:Z.MT)(m:Z.ME)(ρ0:Z.Ro):∀(ds:List Z.D) (h:Z.MH) (c:String) (h':Z.MH),Z.jbi q all g t m ρ0 ds h≠ .exc c h'
 | [],h,c,h'=>by unfold Z.jbi;split<;>exact λz=>nomatch z
 | d::ds,h,c,h'=>by
  unfold Z.jbi
  split
  case isFalse=>exact λz=>nomatch z
  split
  ·split
   ·split
    ·split
     ·exact λz=>nomatch z
     ·exact λz=>nomatch z
    ·exact λz=>nomatch z
   ·exact jib q all g t m ρ0 ds _ c h'
   ·exact λz=>nomatch z
  ·exact λz=>nomatch z
theorem jq3{J:It}{nt:Nat}{idx:List Nat}{g:TG}{tc:TT}{te:TE}{gd:Option Nat}{items:List Z.D}{mg:Z.MG}{mt:Z.MT}{me:Z.ME}{ρ:Z.Ro}{σ:St}{Q:VK}(hg:SG C E0 g mg)(ht:ST C E0 tc mt)(he:SE C E0 te me)(hr:HR C ex bs1 h1 H1)(re:RE C bs1 (gh ex bs1 h1 H1) ρ σ)(it:ItOk C bs1 (gh ex bs1 h1 H1) J (gd,items))(hz:items.length<16777216)
  (p1:jd2 C ex E bs1 h1 H1 (Z.jbi gd items mg mt me (List.replicate nt none++Z.caps idx ρ) items h1) Q):∀l,H1 l=none->
 ∃W:Nat->Nat->List V->Hp->Prop,(∃m,W 0 m [] (upd H1 l (.lst []))) /\ ∀i m ys H2,W i m ys H2->H2 l=some (.lst ys) /\ ys.length<sizeLine /\
  ((J.stop i H2 /\ Q (.ref l) H2) \/ (J.go i H2 /\ ∀x H3,J.yld i H2 x H3->g x (List.replicate nt none++jej idx σ) H3 λσ4 H4=>tc σ4 H4 λc H5=>
   if c=true then te σ4 H5 λy H6=>H6 l=some (.lst ys) /\ ∃m',m'<m /\ W (i+1) m' (ys++[y]) (upd H6 l (.lst (ys++[y]))) else ∃m',m'<m /\ W (i+1) m' ys H5)):=by
 intro a ha
 have hax:a∉ex:=λm=>hr.domx a m ha
 cases ec:Z.jbi gd items mg mt me (List.replicate nt none++Z.caps idx ρ) items h1 with
 | exc _ _=>
  exact absurd ec (jib _ _ _ _ _ _ items h1 _ _)
 | stuck=>rw[ec] at p1;exact p1.elim
 | ok all hf=>
  rw[ec] at p1
  have lo:∀(i:Nat) (hl:i<items.length),items.drop i=items[i]::items.drop (i+1):=λi hl=>List.drop_eq_getElem_cons hl
  refine⟨λi m ys H2=>m=items.length - i /\ i<=items.length /\ ∃bs' h' dys rest,HR C (a::ex) bs' h' H2 /\ (∀(k:Nat) (b:Addr),bs1[k]?=some b->bs'[k]?=some b) /\ Same (gh ex bs1 h1 H1) (gh (a::ex) bs' h' H2) /\ (∀b∈ex,H2 b=H1 b) /\
    H2 a=some (.lst ys) /\ RVs C bs' (gh (a::ex) bs' h' H2) ys dys /\ ys.length<=i /\ Z.jbi gd items mg mt me (List.replicate nt none++Z.caps idx ρ) (items.drop i) h'= .ok rest hf /\ dys++rest=all,
   ⟨items.length,by simp,Nat.zero_le _,bs1,h1,[],all,hr.show ha,λ_ _ e=>e,by rw[jt2 ha];exact Same.refl _,λb m=>by rw[jan (λz=>hax (by rw[<-z];exact m))],jb6,by simp only[RVs],Nat.zero_le _,ec,rfl⟩,?_⟩
  rintro i m ys H2 ⟨rfl,hle,bs',h',dys,rest,hr',pre,sm,exs,hl,rv,hy,er,eall⟩
  refine⟨hl,by have:sizeLine=16777216:=rfl;omega,?_⟩
  by_cases hlt:i<items.length
  ·rw[lo i hlt] at er
   unfold Z.jbi at er
   split at er
   case isFalse=>cases er
   rename_i okg
   obtain⟨go,yl⟩:=(it (a::ex) bs' h' H2 hr' pre sm okg i).1 items[i] (List.getElem?_eq_getElem hlt)
   refine .inr ⟨go,λx H3 y=> ?_⟩
   obtain⟨ev3,rx⟩:=yl x H3 y
   have re0:=(((re.mono pre sm).ev ev3).caps nt idx)
   refine hg (a::ex) bs' h' _ _ H3 x items[i] ⟨_,λ_ _=>False,λ_ _=>False,λ_ _=>False⟩ ev3.hr re0 rx ?_
   cases e:mg items[i] (List.replicate nt none++Z.caps idx ρ) h' with
   | nx ρ1 h1'=>
    rw[e] at er
    dsimp only at er
    intro σ4 bs4 H4 ev4 re4
    refine ht (a::ex) bs4 h1' ρ1 σ4 H4 _ ev4.hr re4 ?_
    cases e5:mt ρ1 h1' with
    | exc _ _=>rw[e5] at er;cases er
    | stuck=>rw[e5] at er;cases er
    | ok c h5=>
     rw[e5] at er
     rintro c' bs5 H5 ev5 rfl
     cases c' with
     | false=>
      dsimp only at er
      have ev:=(ev3.trans ev4).trans ev5
      exact⟨_,by omega,rfl,hlt,bs5,h5,dys,rest,ev5.hr,λk b q=>ev.pre k b (pre k b q),sm.trans ev.same,λb m=>(ev.exs b (List.mem_cons_of_mem _ m)).trans (exs b m),
       (ev.exs a (List.mem_cons_self ..)).trans hl,rv.ev ev,by omega,er,eall⟩
     | true=>
      dsimp only at er
      refine he (a::ex) bs5 h5 ρ1 σ4 H5 _ ev5.hr (re4.ev ev5) ?_
      cases e6:me ρ1 h5 with
      | exc _ _=>rw[e6] at er;cases er
      | stuck=>rw[e6] at er;cases er
      | ok d h6=>
       rw[e6] at er
       dsimp only at er
       intro v bs6 H6 ev6 rv6
       have ev:=((ev3.trans ev4).trans ev5).trans ev6
       have hl6:=(ev.exs a (List.mem_cons_self ..)).trans hl
       refine⟨hl6,?_⟩
       cases e7:Z.jbi gd items mg mt me (List.replicate nt none++Z.caps idx ρ) (items.drop (i+1)) h6 with
       | exc _ _=>rw[e7] at er;cases er
       | stuck=>rw[e7] at er;cases er
       | ok rest' hf'=>
        rw[e7] at er
        dsimp only at er
        cases er
        refine⟨_,by omega,rfl,hlt,bs6,h6,dys++[d],rest',ev6.hr.exput,λk b q=>ev.pre k b (pre k b q),by rw[jjp];exact sm.trans ev.same,λb m=> ?_,jb6,?_,by simp;omega,e7,by simpa using eall⟩
        ·rw[jan (λz=>hax (by rw[<-z];exact m))]
         exact(ev.exs b (List.mem_cons_of_mem _ m)).trans (exs b m)
        ·rw[jjp];exact(rv.ev ev).append (.one rv6)
   | rt _ _=>rw[e] at er;cases er
   | bk _ _=>rw[e] at er;cases er
   | ct _ _=>rw[e] at er;cases er
   | exc _ _=>rw[e] at er;cases er
   | stuck=>rw[e] at er;cases er
  ·have ei:i=items.length:=by omega
   subst ei
   rw[List.drop_length] at er
   unfold Z.jbi at er
   split at er
   case isFalse=>cases er
   rename_i okg
   cases er
   rw[List.append_nil] at eall
   subst eall
   refine .inl ⟨(it (a::ex) bs' _ H2 hr' pre sm okg items.length).2 (Nat.le_refl _),?_⟩
   have q:=p1 a ys bs' (hid a H2) ⟨pre,hr'.hid hax,by rw[jo3];exact sm,λb m=>by rw[jgv (λz=>hax (by rw[<-z];exact m))];exact exs b m⟩ (if_pos rfl) (by rw[jo3];exact rv)
   have eq:upd (hid a H2) a (.lst ys)=H2:=by
    funext x
    by_cases e:x=a
    ·rw[e,jb6,hl]
    ·rw[jan e,jgv e]
   rw[eq] at q;exact q
theorem jda{nt:Nat}{idx:List Nat}{wi:TI}{g:TG}{tc:TT}{te:TE}{l:Z.MI}{mg:Z.MG}{mt:Z.MT}{me:Z.ME}(hi:SI C E wi l)(hg:SG C E0 g mg)(ht:ST C E0 tc mt)(he:SE C E0 te me):
  SN C E (jyx nt idx wi g tc te) (Z.jd3 nt idx l mg mt me):=by
 intro ex bs h ρ σ H Q hr re p
 refine hi ex bs h ρ σ H _ hr re (jd2.bind p λsrc J h1 bs1 H1 e1 it p1=> ?_)
 obtain⟨gd,items⟩:=src
 obtain⟨hz,p1⟩:=p1.chk
 dsimp only at hz p1
 exact jq3 hg ht he e1.hr (re.ev e1) it hz p1
end
end L2
namespace L2
open PySem PySem.Spec PyProof.Rows
section
variable {C : Ct} {ex bs bs1 bs2 : List Addr} {h h1 h2 : Z.MH} {H H1 H2 : Hp} {E : XK}
theorem je1{α:Type}{l:List α}{n k:Nat}{a:α}(e:(l.take n)[k]?=some a):l[k]?=some a /\ k<n:=by
 rw[List.getElem?_take] at e
 by_cases hk:k<n
 ·rw[if_pos hk] at e;exact⟨e,hk⟩
 ·rw[if_neg hk] at e;cases e
theorem jlg{α:Type}{l:List α}{n k:Nat}{a:α}(e:l[k]?=some a)(hk:k<n):(l.take n)[k]?=some a:=by
 rw[List.getElem?_take,if_pos hk];exact e
mutual
theorem RV.bnd{G:Hp}{n:Nat}:∀{d:Z.D} {v:V},RV C bs G v d->Z.D.bnd n d=true->RV C (bs.take n) G v d
 | .non,v,h,_=>by simp only[RV] at h ⊢;exact h
 | .bl b,v,h,_=>by simp only[RV] at h ⊢;exact h
 | .int i,v,h,_=>by simp only[RV] at h ⊢;exact h
 | .str x,v,h,_=>by simp only[RV] at h ⊢;exact h
 | .tup ds,v,h,q=>by
  simp only[RV] at h ⊢
  simp only[Z.D.bnd] at q
  obtain⟨a,vs,h1,h2,h3⟩:=h
  exact⟨a,vs,h1,h2,RVs.bnd h3 q⟩
 | .lst ds,v,h,q=>by
  simp only[RV] at h ⊢
  simp only[Z.D.bnd] at q
  obtain⟨a,vs,h1,h2,h3⟩:=h
  exact⟨a,vs,h1,h2,RVs.bnd h3 q⟩
 | .arg ns,v,h,_=>by simp only[RV] at h ⊢;exact h
 | .ref k,v,h,q=>by
  simp only[RV] at h ⊢
  simp only[Z.D.bnd,decide_eq_true_eq] at q
  obtain⟨a,h1,h2⟩:=h
  exact⟨a,h1,jlg h2 q⟩
 | .ty n,v,h,_=>by simp only[RV] at h ⊢;exact h
 | .cls n,v,h,_=>by simp only[RV] at h ⊢;exact h
 | .exc n,v,h,_=>by simp only[RV] at h ⊢;exact h
 | .obj c fs,v,h,q=>by
  simp only[RV] at h ⊢
  simp only[Z.D.bnd] at q
  obtain⟨a,dx,fvs,h1,h2,h3⟩:=h
  exact⟨a,dx,fvs,h1,h2,RVf.bnd h3 q⟩
 | .dic kvs,v,h,_=>by simp only[RV] at h ⊢;exact h
theorem RVs.bnd{G:Hp}{n:Nat}:∀{ds:List Z.D} {vs:List V},RVs C bs G vs ds->Z.D.bnds n ds=true->RVs C (bs.take n) G vs ds
 | [],[],_,_=>by simp only[RVs]
 | d::ds,v::vs,h,q=>by
  simp only[RVs] at h ⊢
  simp only[Z.D.bnds,Bool.and_eq_true] at q
  exact⟨RV.bnd h.1 q.1,RVs.bnd h.2 q.2⟩
 | [],_::_,h,_=>by simp only[RVs] at h
 | _::_,[],h,_=>by simp only[RVs] at h
theorem RVf.bnd{G:Hp}{n:Nat}:∀{ds:List (Str×Z.D)} {vs:List (Str×V)},RVf C bs G vs ds->Z.D.bndf n ds=true->RVf C (bs.take n) G vs ds
  | [],[],_,_=>by simp only[RVf]
  | (y,d)::ds,(x,v)::vs,h,q=>by
    simp only[RVf] at h ⊢
    simp only[Z.D.bndf,Bool.and_eq_true] at q
    exact⟨h.1,RV.bnd h.2.1 q.1,RVf.bnd h.2.2 q.2⟩
  | [],_::_,h,_=>by simp only[RVf] at h
  | _::_,[],h,_=>by simp only[RVf] at h
end
theorem jpv{n:Nat}:∀(fs:List (Str×Z.D)),Z.D.bndf n fs=Z.D.bnds n (fs.map (·.2))
  | []=>by simp only[Z.D.bndf,List.map_nil,Z.D.bnds]
  | (y,d)::fs=>by simp only[Z.D.bndf,List.map_cons,Z.D.bnds,jpv fs]
theorem RVk.bnd{G:Hp}{n:Nat}:∀{ds:List (Sum Int Str×Z.D)} {vs:List (Key×V)},RVk C bs G vs ds->Z.D.bnds n (ds.map (·.2))=true->RVk C (bs.take n) G vs ds
  | [],[],_,_=>by simp only[RVk]
  | (y,d)::ds,(x,v)::vs,h,q=>by
    simp only[RVk] at h ⊢
    simp only[List.map_cons,Z.D.bnds,Bool.and_eq_true] at q
    exact⟨h.1,RV.bnd h.2.1 q.1,RVk.bnd h.2.2 q.2⟩
  | [],_::_,h,_=>by simp only[RVk] at h
  | _::_,[],h,_=>by simp only[RVk] at h
theorem jed.bnd{G H:Hp}{n:Nat}{a:Addr}{c:Z.Cell}(hc:jed C bs G H a c)(q:Z.Cell.bnd n (some c)=true):jed C (bs.take n) G H a c:=by
 cases c with
 | lst ds=>obtain⟨vs,h1,h2⟩:=hc;exact⟨vs,h1,h2.bnd q⟩
 | dct kvs=>obtain⟨vs,h1,h2⟩:=hc;exact⟨vs,h1,h2.bnd q⟩
 | ins c fs=>obtain⟨dx,vs,h1,h2⟩:=hc;exact⟨dx,vs,h1,h2.bnd (by rw[jpv];exact q)⟩
 | fdc kvs=>obtain⟨o,vs,h1,h2,h3⟩:=hc;exact⟨o,vs,h1,h2,h3.bnd q⟩
theorem jm7(n:Nat):Same (gh ex bs h H) (gh ex (bs.take n) (h.take n) H):=λa o e=>by
 obtain⟨h1,h2,h3⟩:=jbe.mp e
 exact jbe.mpr ⟨h1,λ⟨k,c,e1,e2,l2⟩=>h2 ⟨k,c,(je1 e1).1,(je1 e2).1,l2⟩,h3⟩
theorem HR.take{n:Nat}(r:HR C ex bs h H)(q:(h.take n).all (Z.Cell.bnd n)=true):HR C ex (bs.take n) (h.take n) H:=by
 refine⟨by simp[r.len],λi j a e1 e2=>r.inj i j a (je1 e1).1 (je1 e2).1,λa m z=>r.sep a m (List.mem_of_mem_take z),λa m=>r.dom a (List.mem_of_mem_take m),r.domx,λk a c e1 e2=> ?_⟩
 have hc:=r.cell k a c (je1 e1).1 (je1 e2).1
 have qc:Z.Cell.bnd n (some c)=true:=List.all_eq_true.mp q _ (List.mem_of_getElem? e2)
 exact(hc.bnd qc).mono (λ_ _ e=>e) (jm7 n) rfl
theorem Ev.take{bs':List Addr}{h':Z.MH}{H':Hp}(hr:HR C ex bs h H)(e:Ev C ex bs h H bs' h' H')(q:(h'.take h.length).all (Z.Cell.bnd h.length)=true):Ev C ex bs h H (bs'.take h.length) (h'.take h.length) H':=
 ⟨λk a z=>jlg (e.pre k a z) (by rw[<-hr.len];exact(List.getElem?_eq_some_iff.mp z).1),e.hr.take q,e.same.trans (jm7 _),e.exs⟩
theorem jni{d:Z.D}{h':Z.MH}{Q:VK}{v:V}{bs':List Addr}{H':Hp}(hr:HR C ex bs h H)(p:Post C ex E bs h H (RV C) (Z.fin h.length d h') Q)(e:Ev C ex bs h H bs' h' H')(rv:RV C bs' (gh ex bs' h' H') v d):Q v H':=by
 unfold Z.fin at p
 split at p
 ·exact p v bs' H' e rv
 ·split at p
  ·rename_i q
   rw[Bool.and_eq_true] at q
   exact p v _ H' (e.take hr q.2) ((rv.bnd q.1).mono (λ_ _ e=>e) (jm7 _))
  ·exact p v bs' H' e rv
theorem RE.start{G:Hp}{vs:List V}{ds:List Z.D}{N:List Str}(r:RVs C bs G vs ds)(hn:ds.length<=N.length):RE C bs G (ds.map some++List.replicate (N.length - ds.length) none) (L2.start N vs):=by
 have hl:=r.len
 unfold L2.start
 refine⟨by simp[hl],λi d hi=> ?_⟩
 by_cases hlt:i<ds.length
 ·rw[List.getElem?_append_left (by simpa using hlt),List.getElem?_map] at hi
  rw[List.getElem?_append_left (by simp;omega),List.getElem?_map]
  cases e:ds[i]? with
  | none=>rw[e] at hi;cases hi
  | some z=>
   rw[e] at hi
   simp at hi;subst hi
   obtain⟨v,h1,h2⟩:=r.get e
   exact⟨v,by rw[h1];rfl,h2⟩
 ·rw[List.getElem?_append_right (by simp;omega),List.getElem?_replicate] at hi
  split at hi<;>cases hi
theorem okZ{P:Program}{w:World}{K:W.Frag}{mg:Str->Option Value}{base:Heap}{x qual:Str}{st:Stmt}{f:Addr}{fd:FuncData}{N ps:List Str}{k np nn:Nat}{b:Z.MS}{z:Z.MF}(F:Fun K x qual st f fd)(S:FnScope N ps (jaa st))
  (hz:z=Z.mFun np nn b) (hp:ps.length=np) (hn:N.length=nn) (hle:np<=nn)
  (hb:∀(cdv:Value) (A:Around) (outer:List Env) (s:Shared) (H:Hp) (E:XK),Room k (A.deeper (envOfC qual (jaa st) s.heap.objs.size f cdv))->
   ∃t,PSs (cxOf (CXE P w) P w K mg base N qual (jaa st) f cdv A outer s H E) (jdc st) t /\ SS C E t b):FnOk P w K mg base (CXE P w) (k+1) f fd ps (spZ C z):=by
 subst hz
 refine F.okE S (λvs H Q E q=> ?_) λcdv A outer s H vs Q E hr q=> ?_
 ·obtain⟨ex,bs,h,ds,hr,rv,p⟩:=q
  unfold Z.mFun at p
  split at p
  ·rename_i hd;rw[rv.len,hd,hp]
  ·exact p.elim
 ·obtain⟨ex,bs,h,ds,hr',rv,p⟩:=q
  obtain⟨t,hps,hss⟩:=hb cdv A outer s H E hr
  refine⟨t,hps,?_⟩
  unfold Z.mFun at p
  split at p
  ·rename_i hd
   refine hss ex bs h (ds.map some++List.replicate (nn - ds.length) none) (L2.start N vs) H _ hr' (by rw[<-hn];exact RE.start rv (by omega)) ?_
   cases e:b (ds.map some++List.replicate (nn - ds.length) none) h with
   | nx ρ' h'=>rw[e] at p;exact λσ' bs' H' ev re=>jni hr' p ev (by simp only[RV])
   | rt d h'=>rw[e] at p;exact λv bs' H' ev rv=>jni hr' p ev rv
   | exc c h'=>
    rw[e] at p
    intro bs' H' ev
    dsimp only at p
    split at p
    ·exact p bs' H' ev
    ·split at p
     ·rename_i q;exact p _ H' (ev.take hr' q)
     ·exact p bs' H' ev
   | bk _ _=>rw[e] at p;exact p.elim
   | ct _ _=>rw[e] at p;exact p.elim
   | stuck=>rw[e] at p;exact p.elim
  ·exact p.elim
theorem jil{d:Z.D}{v:V}{xs:List Z.D}(hr:HR C ex bs h H)(r:RV C bs (gh ex bs h H) v d)(e:Z.asQ h d=some xs):∃a vs,v= .ref a /\ (SqL C.K H a vs \/ SqT C.K H a vs) /\ RVs C bs (gh ex bs h H) vs xs:=by
 cases d with
 | lst ds=>
  simp only[RV] at r
  obtain⟨a,vs,rfl,ga,rs⟩:=r
  cases e
  exact⟨a,vs,rfl,.inl (SqL.of (jbq _ _ ga)),rs⟩
 | tup ds=>
  simp only[RV] at r
  obtain⟨a,vs,rfl,ga,rs⟩:=r
  cases e
  exact⟨a,vs,rfl,.inr (SqT.of (jbq _ _ ga)),rs⟩
 | arg ns=>
  simp only[RV] at r
  obtain⟨a,rfl,ga⟩:=r
  cases e
  refine⟨a,_,rfl,.inl (jbq.sql ga),?_⟩
  clear ga hr
  induction ns with
  | nil=>simp only[List.map_nil,RVs]
  | cons n ns ih=>simp only[List.map_cons,RVs,RV];exact⟨trivial,ih⟩
 | ref k=>
  simp only[RV] at r
  obtain⟨a,rfl,hk⟩:=r
  simp only[Z.asQ] at e
  split at e
  ·rename_i ys hc
   cases e
   obtain⟨vs,ha,rs⟩:=hr.cell k a _ hk hc
   exact⟨a,vs,rfl,.inl (SqL.of ha),rs⟩
  ·cases e
 | _=>cases e
theorem ItOk.list{a:Addr}{vs:List V}{ds:List Z.D}{G:Hp}(hq:SqL C.K G a vs)(r:RVs C bs G vs ds):ItOk C bs G (Itl C.K a) (none,ds):=by
 intro ex2 bs2 h2 H2 hr pre sm _ i
 have hq2:SqL C.K H2 a vs:=(sm.trans jbq).sql hq
 refine⟨λd e=> ?_,λhle=>⟨vs,hq2,by rw[r.len];exact hle⟩⟩
 obtain⟨v,hv,rv⟩:=r.get e
 refine⟨⟨vs,v,hq2,hv⟩,λx H3 y=> ?_⟩
 obtain⟨rfl,y⟩:=y
 have:=y vs hq2
 rw[hv] at this;cases this
 exact⟨Ev.refl hr,rv.mono pre sm⟩
theorem Same.sqt{K:W.Frag}{H H':Hp}{a:Addr}{xs:List V}(e:Same H H')(h:SqT K H a xs):SqT K H' a xs:=by
 rcases h with(h | ⟨o,h⟩) | h
 ·exact .inl (.inl (e _ _ h))
 ·exact .inl (.inr ⟨o,e _ _ h⟩)
 ·exact .inr h
theorem ItOk.tup{a:Addr}{vs:List V}{ds:List Z.D}{G:Hp}(hq:SqT C.K G a vs)(r:RVs C bs G vs ds):ItOk C bs G (Itt C.K a) (none,ds):=by
 intro ex2 bs2 h2 H2 hr pre sm _ i
 have hq2:SqT C.K H2 a vs:=(sm.trans jbq).sqt hq
 refine⟨λd e=> ?_,λhle=>⟨vs,hq2,by rw[r.len];exact hle⟩⟩
 obtain⟨v,hv,rv⟩:=r.get e
 refine⟨⟨vs,v,hq2,hv⟩,λx H3 y=> ?_⟩
 obtain⟨rfl,y⟩:=y
 have:=y vs hq2
 rw[hv] at this;cases this
 exact⟨Ev.refl hr,rv.mono pre sm⟩
theorem ItOk.rng{lo:Int}{n:Nat}{G:Hp}:ItOk C bs G (Itr lo n) (none,Z.rng lo n):=by
 intro ex2 bs2 h2 H2 hr pre sm _ i
 unfold Z.rng
 refine⟨λd e=> ?_,λhle=>by show n<=i;simpa using hle⟩
 rw[List.getElem?_map] at e
 cases e2:(List.range n)[i]? with
 | none=>rw[e2] at e;cases e
 | some j=>
  rw[e2] at e
  simp at e;subst e
  obtain⟨hi,hj⟩:=List.getElem?_eq_some_iff.mp e2
  simp at hi hj
  subst hj
  refine⟨hi,λx H3 y=> ?_⟩
  obtain⟨rfl,rfl⟩:=y
  exact⟨Ev.refl hr,by simp only[RV]⟩
theorem si_V{t:TE}{m:Z.ME}(ht:SE C E t m):SI C E (iV C.K t) (Z.lIt m):=by
 intro ex bs h ρ σ H Q hr re p
 refine ht ex bs h ρ σ H _ hr re (p.bind λd x h1 bs1 H1 e1 rx p1=> ?_)
 cases d with
 | lst ds=>
  simp only[RV] at rx
  obtain⟨a,vs,rfl,ga,rs⟩:=rx
  exact .inl ⟨a,rfl,.inl ⟨⟨vs,SqL.of (jbq _ _ ga)⟩,Post.now e1.hr p1 (.list (SqL.of ga) rs)⟩⟩
 | tup ds=>
  simp only[RV] at rx
  obtain⟨a,vs,rfl,ga,rs⟩:=rx
  exact .inl ⟨a,rfl,.inr ⟨⟨vs,SqT.of (jbq _ _ ga)⟩,Post.now e1.hr p1 (.tup (SqT.of ga) rs)⟩⟩
 | arg ns=>
  have:=jil e1.hr rx (xs:=ns.map .int) rfl
  simp only[RV] at rx
  obtain⟨a,rfl,ga⟩:=rx
  refine .inl ⟨a,rfl,.inl ⟨⟨_,jbq.sql ga⟩,Post.now e1.hr p1 (.list ga ?_)⟩⟩
  clear this ga p1 p
  induction ns with
  | nil=>simp only[List.map_nil,RVs]
  | cons n ns ih=>simp only[List.map_cons,RVs,RV];exact⟨trivial,ih⟩
 | str z=>
  simp only[RV] at rx
  subst rx
  refine .inr ⟨z,rfl,Post.now e1.hr p1 ?_⟩
  intro ex2 bs2 h2 H2 hr pre sm _ i
  refine⟨λd e=> ?_,λhle=>by show z.length<=i;simpa [Str.length] using hle⟩
  rw[List.getElem?_map] at e
  cases e2:z.cps.toList[i]? with
  | none=>rw[e2] at e;cases e
  | some c=>
   rw[e2] at e
   simp at e;subst e
   have hi:=(List.getElem?_eq_some_iff.mp e2).1
   refine⟨by show i<z.length;simpa [Str.length] using hi,λx H3 y=> ?_⟩
   obtain⟨rfl,c',hc,rfl⟩:=y
   have:z.cps[i]?=some c:=by simpa using e2
   rw[this] at hc;cases hc
   exact⟨Ev.refl hr,by simp only[RV]⟩
 | ref k=>
  simp only[RV] at rx
  obtain⟨a,rfl,hk⟩:=rx
  dsimp only at p1
  split at p1
  ·rename_i xs hc
   obtain⟨vs,ha,rs⟩:=e1.hr.cell k a _ hk hc
   refine .inl ⟨a,rfl,.inl ⟨⟨vs,SqL.of ha⟩,Post.now e1.hr p1 ?_⟩⟩
   intro ex2 bs2 h2 H2 hr pre sm okg i
   obtain⟨ws,ha2,rs2⟩:=hr.cell k a _ (pre k a hk) okg
   refine⟨λd e=> ?_,λhle=>⟨ws,SqL.of ha2,by rw[rs2.len];exact hle⟩⟩
   obtain⟨v,hv,rv⟩:=rs2.get e
   refine⟨⟨ws,v,SqL.of ha2,hv⟩,λx H3 y=> ?_⟩
   obtain⟨rfl,y⟩:=y
   have:=y ws (SqL.of ha2)
   rw[hv] at this;cases this
   exact⟨Ev.refl hr,rv⟩
  ·exact p1.elim
 | _=>exact p1.elim
theorem jjk{t:TA}{m:Z.ML}(ht:SA C E t m):SI C E (iRng1 t) (Z.ji0 m):=by
 intro ex bs h ρ σ H Q hr re p
 refine ht ex bs h ρ σ H _ hr re (p.bind λds xs h1 bs1 H1 e1 rx p1=> ?_)
 split at p1
 ·rename_i j
  obtain⟨hj,p1⟩:=p1.chk
  cases xs with
  | nil=>simp only[RVs] at rx
  | cons v vs=>
   cases vs with
   | cons _ _=>simp only[RVs] at rx;exact rx.2.elim
   | nil=>
    simp only[RVs,RV] at rx
    rw[rx.1]
    exact⟨j,rfl,by omega,by omega,Post.now e1.hr p1 .rng⟩
 ·exact p1.elim
end
section
variable {C : Ct} {ex bs bs1 bs2 : List Addr} {h h1 h2 : Z.MH} {H H1 H2 : Hp} {E : XK}
theorem joh{f:Int->Int->Int}:S2 C (rI0 λi j=> .int (f i j)) (Z.dInt f):=by
 intro ex bs h H E x y dx dy Q hr rx ry p
 unfold Z.dInt at p
 split at p
 ·simp only[RV] at rx ry
  exact⟨_,_,rx,ry,p.now hr (by simp only[RV])⟩
 ·exact p.elim
theorem jjh{c c':Int->Int->Prop}[∀i j,Decidable (c i j)]{f:Int->Int->Int}(hc:∀i j,c i j->c' i j):S2 C (rI c' λi j=> .int (f i j)) (Z.jlc c f):=by
 intro ex bs h H E x y dx dy Q hr rx ry p
 unfold Z.jlc at p
 split at p
 ·obtain⟨q,p⟩:=p.chk
  simp only[RV] at rx ry
  exact⟨_,_,rx,ry,hc _ _ q,p.now hr (by simp only[RV])⟩
 ·exact p.elim
theorem jnk{f:Int->Int->Bool}:S2 C (rI0 λi j=> .bl (f i j)) (Z.dCmp f):=by
 intro ex bs h H E x y dx dy Q hr rx ry p
 unfold Z.dCmp at p
 split at p
 ·simp only[RV] at rx ry
  exact⟨_,_,rx,ry,p.now hr (by simp only[RV])⟩
 ·exact p.elim
theorem s2_sub:S2 C (rI0 λi j=> .int (i - j)) Z.dSub:=joh
theorem jh4:S2 C (rI0 λi j=> .int (Builtin.bitAnd i j)) Z.dAnd:=joh
theorem jlv:S2 C (rI0 λi j=> .int (Builtin.bitOr i j)) Z.dOr:=joh
theorem s2_xor:S2 C (rI0 λi j=> .int (Builtin.bitXor i j)) Z.dXor:=joh
theorem jf1:S2 C (rI CDiv λi j=> .int (i / j)) Z.dDiv:=jjh λ_ _ q=>q
theorem jdi:S2 C (rI (λ_ j=>0<j) λi j=> .int (i % j)) Z.dMod:=jjh λ_ _ q=>q
theorem jtr{i j:Int}(q:Z.jor i j):CPow i j:=by unfold Z.jor at q;unfold CPow;exact⟨q.1,q.2.1,by have:=q.2.2;omega⟩
theorem juj{i j:Int}(q:Z.jph i j):CMul i j:=by unfold Z.jph at q;unfold CMul;omega
theorem jfe:S2 C (rI CPow λi j=> .int (i*2^j.toNat)) Z.dShl:=jjh λ_ _ q=>jtr q
theorem s2_shr:S2 C (rI (λ_ j=>0<=j) λi j=> .int (i / 2^j.toNat)) Z.dShr:=jjh λ_ _ q=>q
theorem jyn:S2 C (rI0 λi j=> .bl (decide (i<j))) Z.dLt:=jnk
theorem jr0:S2 C (rI0 λi j=> .bl (decide (i<=j))) Z.dLe:=jnk
theorem s2_gt:S2 C (rI0 λi j=> .bl (decide (j<i))) Z.dGt:=jnk
theorem s2_ge:S2 C (rI0 λi j=> .bl (decide (j<=i))) Z.dGe:=jnk
theorem s1_neg:S1 C (rU λi=> .int (-i)) Z.dNeg:=by
 intro ex bs h H E x dx Q hr rx p
 unfold Z.dNeg at p
 split at p
 ·simp only[RV] at rx;exact⟨_,rx,p.now hr (by simp only[RV])⟩
 ·exact p.elim
theorem jr4:S1 C (rU λi=> .int (Builtin.bitNot i)) Z.dInv:=by
 intro ex bs h H E x dx Q hr rx p
 unfold Z.dInv at p
 split at p
 ·simp only[RV] at rx;exact⟨_,rx,p.now hr (by simp only[RV])⟩
 ·exact p.elim
theorem jw2{G:Hp}{v:V}{d:Z.D}(r:RV C bs G v d):decide (v= .non)=Z.jkx d:=by
 cases d<;>simp only[RV] at r
 case non=>subst r;rfl
 case bl=>subst r;rfl
 case int=>subst r;rfl
 case str=>subst r;rfl
 case tup=>obtain⟨_,_,rfl,_⟩:=r;rfl
 case lst=>obtain⟨_,_,rfl,_⟩:=r;rfl
 case arg=>obtain⟨_,rfl,_⟩:=r;rfl
 case ref=>obtain⟨_,rfl,_⟩:=r;rfl
 case ty=>subst r;rfl
 case cls=>subst r;rfl
 case exc=>obtain⟨_,_,_,rfl,_⟩:=r;rfl
 case obj=>obtain⟨_,_,_,rfl,_⟩:=r;rfl
 case dic=>obtain⟨_,_,rfl,_⟩:=r;rfl
theorem s2_is:S2 C (λx y H Q=>(y= .non /\ Q (.bl (decide (x= .non))) H) \/ ∃a b,x= .bl a /\ y= .bl b /\ Q (.bl ((a==b))) H) Z.dIs:=by
 intro ex bs h H E x y dx dy Q hr rx ry p
 unfold Z.dIs at p
 split at p
 ·simp only[RV] at rx ry
  exact .inr ⟨_,_,rx,ry,p.now hr (by simp only[RV])⟩
 ·simp only[RV] at ry
  exact .inl ⟨ry,by rw[jw2 rx];exact p.now hr (by simp only[RV])⟩
 ·exact p.elim
theorem jip{d:Z.D}{v:V}{xs:List Z.D}(hr:HR C ex bs h H)(r:RV C bs (gh ex bs h H) v d)(e:Z.asL h d=some xs):∃a vs,v= .ref a /\ H a=some (.lst vs) /\ RVs C bs (gh ex bs h H) vs xs:=by
 cases d with
 | lst ds=>
  simp only[RV] at r
  obtain⟨a,vs,rfl,ga,rs⟩:=r
  cases e
  exact⟨a,vs,rfl,jbq _ _ ga,rs⟩
 | ref k=>
  simp only[RV] at r
  obtain⟨a,rfl,hk⟩:=r
  simp only[Z.asL] at e
  split at e
  ·rename_i ys hc
   cases e
   obtain⟨vs,ha,rs⟩:=hr.cell k a _ hk hc
   exact⟨a,vs,rfl,ha,rs⟩
  ·cases e
 | _=>cases e
theorem Post.tree{ds:List Z.D}{vs:List V}{p:Addr}{Q:VK}(hr:HR C ex bs h H)(q:Post C ex E bs h H (RV C) (.ok (.lst ds) h) Q)(hp:H p=none)(r:RVs C bs (gh ex bs h H) vs ds):Q (.ref p) (upd H p (.lst vs)):=by
 obtain⟨e2,g⟩:=Ev.alloc (o:= .lst vs) hr hp
 exact q (.ref p) bs _ e2 (by simp only[RV];exact⟨p,vs,rfl,g,r.ev e2⟩)
theorem Post.ttup{ds:List Z.D}{vs:List V}{p:Addr}{Q:VK}(hr:HR C ex bs h H)(q:Post C ex E bs h H (RV C) (.ok (.tup ds) h) Q)(hp:H p=none)(r:RVs C bs (gh ex bs h H) vs ds):Q (.ref p) (upd H p (.tup vs)):=by
 obtain⟨e2,g⟩:=Ev.alloc (o:= .tup vs) hr hp
 exact q (.ref p) bs _ e2 (by simp only[RV];exact⟨p,vs,rfl,g,r.ev e2⟩)
theorem jdp:S2 C (uAdd C.K) Z.dAdd:=by
 intro ex bs h H E x y dx dy Q hr rx ry p
 unfold Z.dAdd at p
 split at p
 ·simp only[RV] at rx ry
  subst rx ry
  exact p.now hr (by simp only[RV])
 ·obtain⟨q,p⟩:=p.chk
  simp only[RV] at rx ry
  subst rx ry
  exact⟨q,p.now hr (by simp only[RV])⟩
 ·obtain⟨q,p⟩:=p.chk
  simp only[RV] at rx ry
  obtain⟨a,vs,rfl,ga,rs⟩:=rx
  obtain⟨b,ws,rfl,gb,qs⟩:=ry
  have hl:=rs.len
  have hl':=qs.len
  refine .inr ⟨a,b,vs,ws,rfl,rfl,SqT.of (jbq _ _ ga),SqT.of (jbq _ _ gb),λz=>q.1 (List.eq_nil_of_length_eq_zero (by rw[<-hl,z];rfl)),by rw[hl,hl'];exact q.2,λz=> ?_,λ_ l hl=>Post.ttup hr p hl (rs.append qs)⟩
  subst z
  refine p.now hr ?_
  simp only[RV]
  have:=rs.append qs
  rw[List.append_nil] at this
  exact⟨a,vs,rfl,ga,this⟩
 ·obtain⟨xs,e1,p⟩:=p.oR
  obtain⟨ys,e2,p⟩:=p.oR
  obtain⟨q,p⟩:=p.chk
  obtain⟨a,vs,rfl,ha,rs⟩:=jip hr rx e1
  obtain⟨b,ws,rfl,hb,qs⟩:=jip hr ry e2
  exact .inl ⟨a,b,vs,ws,rfl,rfl,ha,hb,by rw[rs.len,qs.len];exact q,λl hl=>Post.tree hr p hl (rs.append qs)⟩
theorem RVs.rep{G:Hp}{vs:List V}{ds:List Z.D}(r:RVs C bs G vs ds):∀n:Nat,RVs C bs G (List.replicate n vs).flatten (List.replicate n ds).flatten
 | 0=>by simp[RVs]
 | n+1=>by
  rw[List.replicate_succ,List.replicate_succ,List.flatten_cons,List.flatten_cons]
  exact r.append (RVs.rep r n)
theorem s2_mul:S2 C uMulS Z.dMul:=by
 intro ex bs h H E x y dx dy Q hr rx ry p
 unfold Z.dMul at p
 split at p
 ·obtain⟨q,p⟩:=p.chk
  simp only[RV] at rx ry
  subst rx ry
  exact⟨juj q,p.now hr (by simp only[RV])⟩
 ·obtain⟨q,p⟩:=p.chk
  simp only[RV] at rx ry
  subst rx ry
  exact⟨q.1,q.2,p.now hr (by simp only[RV])⟩
 ·obtain⟨xs,e1,p⟩:=p.oR
  obtain⟨q,p⟩:=p.chk
  obtain⟨a,vs,rfl,ha,rs⟩:=jip hr rx e1
  simp only[RV] at ry
  subst ry
  exact⟨a,_,vs,rfl,rfl,ha,by have:=q.1;omega,by have:=q.1;omega,by rw[rs.len];exact q.2,λl hl=>Post.tree hr p hl (rs.rep _)⟩
 ·exact p.elim
theorem RVk.len{G:Hp}:∀{ds:List (Sum Int Str×Z.D)} {vs:List (Key×V)},RVk C bs G vs ds->vs.length=ds.length
  | [],[],_=>rfl
  | (_,_)::ds,(_,_)::vs,h=>by simp only[RVk] at h;simp[RVk.len h.2.2]
  | [],_::_,h=>by simp only[RVk] at h
  | _::_,[],h=>by simp only[RVk] at h
theorem jnq{d:Z.D}{v:V}{k:Bool}(hr:HR C ex bs h H)(r:RV C bs (gh ex bs h H) v d)(e:Z.jgk h d=some k):TruV C.K v H k:=by
 have sq:∀{xs:List Z.D},Z.asQ h d=some xs->k= !xs.isEmpty->TruV C.K v H k:=fun{xs} e1 e2=>by
  obtain⟨a,vs,rfl,hq,rs⟩:=jil hr r e1
  have:k= !vs.isEmpty:=by
   rw[e2]
   have:=rs.len
   cases vs<;>cases xs<;>first | rfl | (simp at this)
  rcases hq with hq | hq
  ·exact .inl ⟨vs,hq,this⟩
  ·exact .inr (.inl ⟨vs,hq,this⟩)
 cases d with
 | non=>simp only[RV] at r;subst r;cases e;rfl
 | bl b=>simp only[RV] at r;subst r;cases e;rfl
 | int i=>simp only[RV] at r;subst r;cases e;rfl
 | str y=>
  simp only[RV] at r;subst r
  simp only[Z.jgk] at e
  split at e
  ·rename_i hz;cases e;exact⟨hz,rfl⟩
  ·cases e
 | lst xs=>simp only[Z.jgk,Z.asQ,Option.some.injEq] at e;exact sq rfl e.symm
 | tup xs=>simp only[Z.jgk,Z.asQ,Option.some.injEq] at e;exact sq rfl e.symm
 | arg ns=>simp only[Z.jgk,Z.asQ,Option.some.injEq] at e;exact sq rfl e.symm
 | ref j=>
  simp only[Z.jgk] at e
  split at e
  ·rename_i xs hx
   simp only[Option.some.injEq] at e
   exact sq hx e.symm
  ·simp only[Z.asD] at e
   split at e
   ·rename_i kvs hc
    simp only[Option.map_some,Option.some.injEq] at e
    simp only[RV] at r
    obtain⟨a,rfl,hk⟩:=r
    obtain⟨kws,ha,rk⟩:=hr.cell j a _ hk hc
    refine .inr (.inr ⟨kws,ha,?_⟩)
    rw[<-e]
    have:=rk.len
    cases kws<;>cases kvs<;>first | rfl | (simp at this)
   ·cases e
 | ty n=>simp[Z.jgk,Z.asQ] at e
 | cls n=>simp[Z.jgk,Z.asQ] at e
 | exc n=>simp[Z.jgk,Z.asQ] at e
 | obj c fs=>simp[Z.jgk,Z.asQ] at e
 | dic kvs=>simp[Z.jgk,Z.asQ] at e
theorem jbk{t:TE}{m:Z.ME}(ht:SE C E t m):ST C E (λσ H Q=>t σ H λx H'=>∃k,TruV C.K x H' k /\ Q k H') (Z.tTru m):=by
 intro ex bs h ρ σ H Q hr re p
 refine ht ex bs h ρ σ H _ hr re (p.bind λd x h1 bs1 H1 e1 rx p1=> ?_)
 obtain⟨k,ek,p1⟩:=p1.oR1
 exact⟨k,jnq e1.hr rx ek,Post.now e1.hr p1 rfl⟩
theorem jwv{t:TE}{m:Z.ME}(ht:SE C E t m):SE C E (λσ H Q=>t σ H λx H1=>∃k,TruV C.K x H1 k /\ Q (.bl (!k)) H1) (Z.js3 m):=by
 intro ex bs h ρ σ H Q hr re p
 refine ht ex bs h ρ σ H _ hr re (p.bind λd x h1 bs1 H1 e1 rx p1=> ?_)
 obtain⟨k,ek,p1⟩:=p1.oR
 exact⟨k,jnq e1.hr rx ek,p1.now e1.hr (by simp only[RV])⟩
mutual
theorem RV.rep{G:Hp}:∀{d:Z.D} {v:V} {q:PyData},RV C bs G v d->d.py=some q->Rep G v q
 | .non,v,q,h,e=>by simp only[RV] at h;simp only[Z.D.py,Option.some.injEq] at e;subst e;simp only[Rep];exact h
 | .bl b,v,q,h,e=>by simp only[RV] at h;simp only[Z.D.py,Option.some.injEq] at e;subst e;simp only[Rep];exact h
 | .int i,v,q,h,e=>by simp only[RV] at h;simp only[Z.D.py,Option.some.injEq] at e;subst e;simp only[Rep];exact h
 | .str x,v,q,h,e=>by
  simp only[RV] at h
  simp only[Z.D.py] at e
  split at e
  ·simp only[Option.some.injEq] at e;subst e;simp only[Rep];exact h
  ·cases e
 | .tup ds,v,q,h,e=>by
  simp only[RV] at h
  simp only[Z.D.py] at e
  obtain⟨a,vs,h1,h2,h3⟩:=h
  cases e2:Z.D.pys ds with
  | none=>rw[e2] at e;cases e
  | some ps=>
   rw[e2] at e
   simp only[Option.map_some,Option.some.injEq] at e
   subst e
   simp only[Rep]
   exact⟨a,vs,h1,h2,RVs.reps h3 e2⟩
 | .lst ds,v,q,h,e=>by
  simp only[RV] at h
  simp only[Z.D.py] at e
  obtain⟨a,vs,h1,h2,h3⟩:=h
  cases e2:Z.D.pys ds with
  | none=>rw[e2] at e;cases e
  | some ps=>
   rw[e2] at e
   simp only[Option.map_some,Option.some.injEq] at e
   subst e
   simp only[Rep]
   exact⟨a,vs,h1,h2,RVs.reps h3 e2⟩
 | .arg _,_,_,_,e=>by simp only[Z.D.py] at e;cases e
 | .ref _,_,_,_,e=>by simp only[Z.D.py] at e;cases e
 | .ty _,_,_,_,e=>by simp only[Z.D.py] at e;cases e
 | .cls _,_,_,_,e=>by simp only[Z.D.py] at e;cases e
 | .exc _,_,_,_,e=>by simp only[Z.D.py] at e;cases e
 | .obj _ _,_,_,_,e=>by simp only[Z.D.py] at e;cases e
 | .dic _,_,_,_,e=>by simp only[Z.D.py] at e;cases e
theorem RVs.reps{G:Hp}:∀{ds:List Z.D} {vs:List V} {qs:List PyData},RVs C bs G vs ds->Z.D.pys ds=some qs->Reps G vs qs
 | [],[],qs,_,e=>by simp only[Z.D.pys,Option.some.injEq] at e;subst e;simp only[Reps]
 | d::ds,v::vs,qs,h,e=>by
  simp only[RVs] at h
  simp only[Z.D.pys] at e
  split at e
  ·rename_i p ps e1 e2
   simp only[Option.some.injEq] at e
   subst e
   simp only[Reps]
   exact⟨RV.rep h.1 e1,RVs.reps h.2 e2⟩
  ·cases e
 | [],_::_,_,h,_=>by simp only[RVs] at h
 | _::_,[],_,h,_=>by simp only[RVs] at h
end
mutual
theorem jxq:∀{d e:Z.D} {p q:PyData},d.py=some p->e.py=some q->PyData.eqv p q=d.eq e
  | .non,e,p,q,hd,he=>by
    simp only[Z.D.py,Option.some.injEq] at hd;subst hd
    cases e<;>simp only[Z.D.py,Option.some.injEq] at he<;>(try cases he)<;>first
      | (subst he;simp[PyData.eqv,Z.D.eq];done)
      | (split at he<;>first | (cases he;simp[PyData.eqv,Z.D.eq];done) | cases he)
      | (simp only[Option.map_eq_some_iff] at he;obtain⟨_,_,rfl⟩:=he;simp[PyData.eqv,Z.D.eq];done)
      | (simp[PyData.eqv,Z.D.eq];done)
  | .bl b,e,p,q,hd,he=>by
    simp only[Z.D.py,Option.some.injEq] at hd;subst hd
    cases e<;>simp only[Z.D.py,Option.some.injEq] at he<;>(try cases he)<;>first
      | (subst he;simp[PyData.eqv,Z.D.eq];done)
      | (split at he<;>first | (cases he;simp[PyData.eqv,Z.D.eq];done) | cases he)
      | (simp only[Option.map_eq_some_iff] at he;obtain⟨_,_,rfl⟩:=he;simp[PyData.eqv,Z.D.eq];done)
      | (simp[PyData.eqv,Z.D.eq];done)
  | .int b,e,p,q,hd,he=>by
    simp only[Z.D.py,Option.some.injEq] at hd;subst hd
    cases e<;>simp only[Z.D.py,Option.some.injEq] at he<;>(try cases he)<;>first
      | (subst he;simp[PyData.eqv,Z.D.eq];done)
      | (split at he<;>first | (cases he;simp[PyData.eqv,Z.D.eq];done) | cases he)
      | (simp only[Option.map_eq_some_iff] at he;obtain⟨_,_,rfl⟩:=he;simp[PyData.eqv,Z.D.eq];done)
      | (simp[PyData.eqv,Z.D.eq];done)
  | .str b,e,p,q,hd,he=>by
    simp only[Z.D.py] at hd
    split at hd
    · cases hd
      cases e<;>simp only[Z.D.py,Option.some.injEq] at he<;>(try cases he)<;>first
        | (subst he;simp[PyData.eqv,Z.D.eq];done)
        | (split at he<;>first | (cases he;simp[PyData.eqv,Z.D.eq];done) | cases he)
        | (simp only[Option.map_eq_some_iff] at he;obtain⟨_,_,rfl⟩:=he;simp[PyData.eqv,Z.D.eq];done)
        | (simp[PyData.eqv,Z.D.eq];done)
    · cases hd
  | .tup xs,e,p,q,hd,he=>by
    simp only[Z.D.py,Option.map_eq_some_iff] at hd
    obtain⟨ps,h1,rfl⟩:=hd
    cases e with
    | tup ys=>
      simp only[Z.D.py,Option.map_eq_some_iff] at he
      obtain⟨qs,h2,rfl⟩:=he
      simp only[PyData.eqv,Z.D.eq]
      exact jqz h1 h2
    | _=>
      simp only[Z.D.py,Option.some.injEq] at he<;>(try cases he)<;>first
        | (subst he;simp[PyData.eqv,Z.D.eq];done)
        | (split at he<;>first | (cases he;simp[PyData.eqv,Z.D.eq];done) | cases he)
        | (simp only[Option.map_eq_some_iff] at he;obtain⟨_,_,rfl⟩:=he;simp[PyData.eqv,Z.D.eq];done)
        | (simp[PyData.eqv,Z.D.eq];done)
  | .lst xs,e,p,q,hd,he=>by
    simp only[Z.D.py,Option.map_eq_some_iff] at hd
    obtain⟨ps,h1,rfl⟩:=hd
    cases e with
    | lst ys=>
      simp only[Z.D.py,Option.map_eq_some_iff] at he
      obtain⟨qs,h2,rfl⟩:=he
      simp only[PyData.eqv,Z.D.eq]
      exact jqz h1 h2
    | _=>
      simp only[Z.D.py,Option.some.injEq] at he<;>(try cases he)<;>first
        | (subst he;simp[PyData.eqv,Z.D.eq];done)
        | (split at he<;>first | (cases he;simp[PyData.eqv,Z.D.eq];done) | cases he)
        | (simp only[Option.map_eq_some_iff] at he;obtain⟨_,_,rfl⟩:=he;simp[PyData.eqv,Z.D.eq];done)
        | (simp[PyData.eqv,Z.D.eq];done)
  | .arg _,_,_,_,e,_=>by simp only[Z.D.py] at e;cases e
  | .ref _,_,_,_,e,_=>by simp only[Z.D.py] at e;cases e
  | .ty _,_,_,_,e,_=>by simp only[Z.D.py] at e;cases e
  | .cls _,_,_,_,e,_=>by simp only[Z.D.py] at e;cases e
  | .exc _,_,_,_,e,_=>by simp only[Z.D.py] at e;cases e
  | .obj _ _,_,_,_,e,_=>by simp only[Z.D.py] at e;cases e
  | .dic _,_,_,_,e,_=>by simp only[Z.D.py] at e;cases e
theorem jqz:∀{ds es:List Z.D} {ps qs:List PyData},Z.D.pys ds=some ps->Z.D.pys es=some qs->PyData.eqvAll ps qs=Z.D.eqs ds es
 | [],[],ps,qs,h1,h2=>by
  simp only[Z.D.pys,Option.some.injEq] at h1 h2;subst h1 h2;simp only[PyData.eqvAll,Z.D.eqs]
 | d::ds,e::es,ps,qs,h1,h2=>by
  simp only[Z.D.pys] at h1 h2
  split at h1
  ·split at h2
   ·rename_i p1 ps1 a1 a2 _ _ q1 qs1 b1 b2
    simp only[Option.some.injEq] at h1 h2
    subst h1 h2
    simp only[PyData.eqvAll,Z.D.eqs]
    rw[jxq a1 b1,jqz a2 b2]
   ·cases h2
  ·cases h1
 | [],e::es,ps,qs,h1,h2=>by
  simp only[Z.D.pys] at h1 h2
  split at h2
  ·simp only[Option.some.injEq] at h1 h2;subst h1 h2;simp only[PyData.eqvAll,Z.D.eqs]
  ·cases h2
 | d::ds,[],ps,qs,h1,h2=>by
  simp only[Z.D.pys] at h1 h2
  split at h1
  ·simp only[Option.some.injEq] at h1 h2;subst h1 h2;simp only[PyData.eqvAll,Z.D.eqs]
  ·cases h1
end
end
section
variable {C : Ct} {ex bs bs1 bs2 : List Addr} {h h1 h2 : Z.MH} {H H1 H2 : Hp} {E : XK}
mutual
theorem jwt:∀{d:Z.D} {q:PyData},d.py=some q->q.canLay0=true /\ q.depth=d.deep
 | .non,q,e=>by simp only[Z.D.py,Option.some.injEq] at e;subst e;exact⟨by simp only[PyData.canLay0],by simp only[PyData.depth,Z.D.deep]⟩
 | .bl b,q,e=>by simp only[Z.D.py,Option.some.injEq] at e;subst e;exact⟨by simp only[PyData.canLay0],by simp only[PyData.depth,Z.D.deep]⟩
 | .int b,q,e=>by simp only[Z.D.py,Option.some.injEq] at e;subst e;exact⟨by simp only[PyData.canLay0],by simp only[PyData.depth,Z.D.deep]⟩
 | .str b,q,e=>by
  simp only[Z.D.py] at e
  split at e
  ·rename_i hs;cases e;exact⟨by simp only[PyData.canLay0];exact hs,by simp only[PyData.depth,Z.D.deep]⟩
  ·cases e
 | .tup ds,q,e=>by
  simp only[Z.D.py,Option.map_eq_some_iff] at e
  obtain⟨ps,h1,rfl⟩:=e
  have:=jmp h1
  exact⟨by simp only[PyData.canLay0];exact this.1,by simp only[PyData.depth,Z.D.deep];rw[this.2]⟩
 | .lst ds,q,e=>by
  simp only[Z.D.py,Option.map_eq_some_iff] at e
  obtain⟨ps,h1,rfl⟩:=e
  have:=jmp h1
  exact⟨by simp only[PyData.canLay0];exact this.1,by simp only[PyData.depth,Z.D.deep];rw[this.2]⟩
 | .arg _,_,e=>by simp only[Z.D.py] at e;cases e
 | .ref _,_,e=>by simp only[Z.D.py] at e;cases e
 | .ty _,_,e=>by simp only[Z.D.py] at e;cases e
 | .cls _,_,e=>by simp only[Z.D.py] at e;cases e
 | .exc _,_,e=>by simp only[Z.D.py] at e;cases e
 | .obj _ _,_,e=>by simp only[Z.D.py] at e;cases e
 | .dic _,_,e=>by simp only[Z.D.py] at e;cases e
theorem jmp:∀{ds:List Z.D} {qs:List PyData},Z.D.pys ds=some qs->PyData.canLayAll0 qs=true /\ PyData.depthAll qs=Z.D.deeps ds
 | [],qs,e=>by simp only[Z.D.pys,Option.some.injEq] at e;subst e;exact⟨by simp only[PyData.canLayAll0],by simp only[PyData.depthAll,Z.D.deeps]⟩
 | d::ds,qs,e=>by
  simp only[Z.D.pys] at e
  split at e
  ·rename_i p ps e1 e2
   simp only[Option.some.injEq] at e
   subst e
   have a:=jwt e1
   have b:=jmp e2
   exact⟨by simp only[PyData.canLayAll0,a.1,b.1,Bool.and_self],by simp only[PyData.depthAll,Z.D.deeps,a.2,b.2]⟩
  ·cases e
end
theorem jhs{d:Z.D}(e:d.dat=true):∃q,d.py=some q /\ jh1 q:=by
 unfold Z.D.dat at e
 rw[Bool.and_eq_true,decide_eq_true_eq,Option.isSome_iff_exists] at e
 obtain⟨⟨q,hq⟩,hd⟩:=e
 refine⟨q,hq,?_⟩
 have:=jwt hq
 show SeqAt.shaped q=true
 unfold SeqAt.shaped
 rw[Bool.and_eq_true,decide_eq_true_eq]
 exact⟨this.1,by rw[this.2];exact hd⟩
mutual
theorem jq9(hr:HR C ex bs h H):∀(n:Nat) {d:Z.D} {v:V} {q:PyData},RV C bs (gh ex bs h H) v d->(Z.res n h d).py=some q->Rep H v q
 | 0,d,v,q,r,e=>by unfold Z.res at e;exact(r.rep e).same jbq
 | n+1,.ref k,v,q,r,e=>by
  unfold Z.res at e
  split at e
  ·rename_i xs hc
   simp only[RV] at r
   obtain⟨a,rfl,hk⟩:=r
   obtain⟨vs,ha,rs⟩:=hr.cell k a _ hk hc
   simp only[Z.D.py,Option.map_eq_some_iff] at e
   obtain⟨ps,h1,rfl⟩:=e
   simp only[Rep]
   exact⟨a,vs,rfl,ha,jha hr n rs h1⟩
  ·simp only[Z.D.py] at e;cases e
 | n+1,.tup xs,v,q,r,e=>by
  unfold Z.res at e
  simp only[RV] at r
  obtain⟨a,vs,rfl,ga,rs⟩:=r
  simp only[Z.D.py,Option.map_eq_some_iff] at e
  obtain⟨ps,h1,rfl⟩:=e
  simp only[Rep]
  exact⟨a,vs,rfl,jbq _ _ ga,jha hr n rs h1⟩
 | n+1,.lst xs,v,q,r,e=>by
  unfold Z.res at e
  simp only[RV] at r
  obtain⟨a,vs,rfl,ga,rs⟩:=r
  simp only[Z.D.py,Option.map_eq_some_iff] at e
  obtain⟨ps,h1,rfl⟩:=e
  simp only[Rep]
  exact⟨a,vs,rfl,jbq _ _ ga,jha hr n rs h1⟩
 | n+1,.non,v,q,r,e=>by unfold Z.res at e;exact(r.rep e).same jbq
 | n+1,.bl _,v,q,r,e=>by unfold Z.res at e;exact(r.rep e).same jbq
 | n+1,.int _,v,q,r,e=>by unfold Z.res at e;exact(r.rep e).same jbq
 | n+1,.str _,v,q,r,e=>by unfold Z.res at e;exact(r.rep e).same jbq
 | n+1,.arg _,v,q,r,e=>by unfold Z.res at e;exact(r.rep e).same jbq
 | n+1,.ty _,v,q,r,e=>by unfold Z.res at e;exact(r.rep e).same jbq
 | n+1,.cls _,v,q,r,e=>by unfold Z.res at e;exact(r.rep e).same jbq
 | n+1,.exc _,v,q,r,e=>by unfold Z.res at e;exact(r.rep e).same jbq
 | n+1,.obj _ _,v,q,r,e=>by unfold Z.res at e;exact(r.rep e).same jbq
 | n+1,.dic _,v,q,r,e=>by unfold Z.res at e;exact(r.rep e).same jbq
theorem jha(hr:HR C ex bs h H):∀(n:Nat) {ds:List Z.D} {vs:List V} {qs:List PyData},RVs C bs (gh ex bs h H) vs ds->Z.D.pys (ds.map (Z.res n h))=some qs->Reps H vs qs
 | n,[],[],qs,_,e=>by simp only[List.map_nil,Z.D.pys,Option.some.injEq] at e;subst e;simp only[Reps]
 | n,d::ds,v::vs,qs,r,e=>by
  simp only[RVs] at r
  simp only[List.map_cons,Z.D.pys] at e
  split at e
  ·rename_i p ps e1 e2
   simp only[Option.some.injEq] at e
   subst e
   simp only[Reps]
   exact⟨jq9 hr n r.1 e1,jha hr n r.2 e2⟩
  ·cases e
 | n,[],_::_,_,r,_=>by simp only[RVs] at r
 | n,_::_,[],_,r,_=>by simp only[RVs] at r
end
theorem jsd{d:Z.D}{v:V}(hr:HR C ex bs h H)(r:RV C bs (gh ex bs h H) v d)(e:(Z.see h d).dat=true):∃q,(Z.see h d).py=some q /\ Rep H v q /\ jh1 q:=by
 obtain⟨q,h1,h2⟩:=jhs e
 exact⟨q,h1,jq9 hr 8 r h1,h2⟩
theorem jk4{x y:V}{dx dy:Z.D}(hr:HR C ex bs h H)(rx:RV C bs (gh ex bs h H) x dx)(ry:RV C bs (gh ex bs h H) y dy):Z.dEq dx dy h= .stuck \/ ∃b,Z.dEq dx dy h= .ok (.bl b) h /\
  ((scal x y=true /\ decide (x=y)=b) \/ ∃d e,Rep H x d /\ Rep H y e /\ jh1 d /\ jh1 e /\ PyData.eqv d e=b):=by
 unfold Z.dEq
 split
 ·simp only[RV] at rx ry;subst rx ry
  exact .inr ⟨_,rfl,.inl ⟨rfl,by simp⟩⟩
 ·simp only[RV] at rx ry;subst rx ry
  exact .inr ⟨_,rfl,.inl ⟨rfl,by simp⟩⟩
 ·simp only[RV] at rx ry;subst rx ry
  exact .inr ⟨_,rfl,.inl ⟨rfl,jta⟩⟩
 ·split
  ·rename_i q
   obtain⟨d,h1,h3⟩:=jhs q.1
   obtain⟨e,k1,k3⟩:=jhs q.2
   exact .inr ⟨_,rfl,.inr ⟨d,e,(rx.rep h1).same jbq,(ry.rep k1).same jbq,h3,k3,jxq h1 k1⟩⟩
  ·unfold Z.chk
   split
   ·rename_i q
    obtain⟨d,h1,h2,h3⟩:=jsd hr rx q.1
    obtain⟨e,k1,k2,k3⟩:=jsd hr ry q.2
    exact .inr ⟨_,rfl,.inr ⟨d,e,h2,k2,h3,k3,jxq h1 k1⟩⟩
   ·exact .inl rfl
theorem jc4:S2 C uEq Z.dEq:=by
 intro ex bs h H E x y dx dy Q hr rx ry p
 rcases jk4 hr rx ry with e | ⟨b,e,q⟩
 ·rw[e] at p;exact p.elim
 ·rw[e] at p
  have:=p.now (b:= .bl b) hr (by simp only[RV])
  rcases q with⟨q1,q2⟩ | ⟨d,e,h1,h2,h3,h4,h5⟩
  ·exact .inl ⟨q1,by rw[q2];exact this⟩
  ·exact .inr ⟨d,e,h1,h2,h3,h4,by rw[h5];exact this⟩
theorem jea:S2 C uNe Z.dNe:=by
 intro ex bs h H E x y dx dy Q hr rx ry p
 unfold Z.dNe at p
 rcases jk4 hr rx ry with e | ⟨b,e,q⟩
 ·rw[e] at p;exact p.elim
 ·rw[e] at p
  have:=Post.now (b:= .bl (!b)) hr p (by simp only[RV])
  rcases q with⟨q1,q2⟩ | ⟨d,e,h1,h2,h3,h4,h5⟩
  ·exact .inl ⟨q1,by rw[q2];exact this⟩
  ·exact .inr ⟨d,e,h1,h2,h3,h4,by rw[h5];exact this⟩
theorem jwe{G:Hp}{d:Z.D}{v:V}(r:RV C bs G v d)(f:Z.flat d=true):fv d=some v /\ jif v=true:=by
 cases d<;>simp only[RV] at r<;>first | (subst r;exact⟨rfl,rfl⟩) | (cases f)
theorem fv_v{G:Hp}{d:Z.D}{v:V}(f:fv d=some v):RV C bs G v d:=by
 cases d<;>simp only[fv,Option.some.injEq] at f<;>first | (subst f;simp only[RV];done) | (cases f)
theorem eqF_v{d e:Z.D}{v u:V}(a:fv d=some v)(b:fv e=some u):eqV v u=Z.eqF d e:=by
 cases d<;>simp only[fv,Option.some.injEq] at a<;>(try cases a)<;>cases e<;>simp only[fv,Option.some.injEq] at b<;>(try cases b)<;>(try subst a)<;>(try subst b)<;>rfl
theorem jq2{G:Hp}{e:Z.D}{u:V}(b:fv e=some u):∀{ds:List Z.D} {vs:List V},RVs C bs G vs ds->ds.all Z.flat=true->vs.all jif=true /\ (vs.any λy=>eqV y u)=ds.any λy=>Z.eqF y e
 | [],[],_,_=>⟨rfl,rfl⟩
 | d::ds,v::vs,h,f=>by
  simp only[RVs] at h
  rw[List.all_cons,Bool.and_eq_true] at f
  obtain⟨h1,h2⟩:=jwe h.1 f.1
  obtain⟨h3,h4⟩:=jq2 b h.2 f.2
  rw[List.all_cons,List.any_cons,List.any_cons,h2,h3,h4,eqF_v h1 b]
  exact⟨rfl,rfl⟩
 | [],_::_,h,_=>by simp only[RVs] at h
 | _::_,[],h,_=>by simp only[RVs] at h
theorem key_v{G:Hp}{d:Z.D}{v:V}{k:Sum Int Str}(r:RV C bs G v d)(e:Z.jvj d=some k):v=kV k:=by
 cases d<;>simp only[Z.jvj,Option.some.injEq] at e<;>(try cases e)<;>simp only[RV] at r<;>exact r
theorem RVk.val{G:Hp}{k:Sum Int Str}:∀{ds:List (Sum Int Str×Z.D)} {vs:List (Key×V)},RVk C bs G vs ds->
    (Z.valK ds k=none /\ valV vs k=none) \/ ∃d v,Z.valK ds k=some d /\ valV vs k=some v /\ RV C bs G v d
  | [],[],_=> .inl ⟨rfl,rfl⟩
  | (y,d)::ds,(x,v)::vs,h=>by
    simp only[RVk] at h
    obtain⟨rfl,h1,h2⟩:=h
    unfold Z.valK valV
    rw[List.find?_cons,List.find?_cons]
    by_cases e:x=k
    · simp only[e,decide_true]
      exact .inr ⟨d,v,rfl,rfl,h1⟩
    · simp only[e,decide_false]
      exact RVk.val h2
  | [],_::_,h=>by simp only[RVk] at h
  | _::_,[],h=>by simp only[RVk] at h
theorem RVk.of{G:Hp}:∀{ds:List (Sum Int Str×Z.D)} {vs:List (Key×V)},ds.map (λp=>(p.1,fv p.2))=vs.map (λp=>(p.1,some p.2))->RVk C bs G vs ds
  | [],[],_=>by simp only[RVk]
  | (y,d)::ds,(x,v)::vs,e=>by
    simp only[List.map_cons,List.cons.injEq,Prod.mk.injEq] at e
    simp only[RVk]
    exact⟨e.1.1.symm,fv_v e.1.2,RVk.of e.2⟩
  | [],_::_,e=>by simp at e
  | _::_,[],e=>by simp at e
theorem jxa{d:Z.D}{v:V}{kvs:List (Sum Int Str×Z.D)}(hr:HR C ex bs h H)(r:RV C bs (gh ex bs h H) v d)(e:Z.asR h d=some kvs)(k:Sum Int Str):∃a,v= .ref a /\
  ((Z.valK kvs k=none /\ jvq C.P C.w C.K H a (kV k) none) \/ ∃d' v',Z.valK kvs k=some d' /\ jvq C.P C.w C.K H a (kV k) (some v') /\ RV C bs (gh ex bs h H) v' d'):=by
 cases d with
 | dic kvs'=>
  simp only[RV] at r
  obtain⟨a,kws,rfl,hk,em⟩:=r
  cases e
  refine⟨a,rfl,?_⟩
  rcases RVk.val (k:=k) (RVk.of (C:=C) (bs:=bs) (G:=gh ex bs h H) em) with⟨h1,h2⟩ | ⟨d',v',h1,h2,h3⟩
  ·exact .inl ⟨h1,.inr (.inl ⟨kws,k,hk,rfl,h2.symm⟩)⟩
  ·exact .inr ⟨d',v',h1,.inr (.inl ⟨kws,k,hk,rfl,h2.symm⟩),h3⟩
 | ref j=>
  simp only[RV] at r
  obtain⟨a,rfl,hj⟩:=r
  simp only[Z.asR] at e
  split at e
  ·rename_i kvs' hc
   cases e
   obtain⟨kws,ha,rk⟩:=hr.cell j a _ hj hc
   refine⟨a,rfl,?_⟩
   rcases rk.val (k:=k) with⟨h1,h2⟩ | ⟨d',v',h1,h2,h3⟩
   ·exact .inl ⟨h1,.inl (by rw[<-h2];exact DGet.k ha)⟩
   ·exact .inr ⟨d',v',h1,.inl (by rw[<-h2];exact DGet.k ha),h3⟩
  ·rename_i kvs' hc
   cases e
   obtain⟨o,kws,hg,_,rk⟩:=hr.cell j a _ hj hc
   have ha:=jbq _ _ hg
   refine⟨a,rfl,?_⟩
   rcases rk.val (k:=k) with⟨h1,h2⟩ | ⟨d',v',h1,h2,h3⟩
   ·exact .inl ⟨h1,.inr (.inr ⟨o,kws,k,ha,rfl,h2.symm⟩)⟩
   ·exact .inr ⟨d',v',h1,.inr (.inr ⟨o,kws,k,ha,rfl,h2.symm⟩),h3⟩
  ·cases e
 | _=>cases e
theorem je0{neg:Bool}:S2 C (uIn C.P C.w C.K neg) (Z.dIn neg):=by
 intro ex bs h H E x y dx dy Q hr rx ry p
 unfold Z.dIn at p
 split at p
 ·simp only[RV] at rx ry;subst rx ry
  exact .inr (.inl ⟨_,_,rfl,rfl,p.now hr (by simp only[RV])⟩)
 ·split at p
  ·rename_i ys hy
   obtain⟨q,p⟩:=p.chk
   obtain⟨a,vs,rfl,hq,rs⟩:=jil hr ry hy
   obtain⟨fx,fx'⟩:=jwe rx q.1
   obtain⟨h1,h2⟩:=jq2 fx rs q.2
   refine .inl ⟨a,vs,rfl,hq,fx',h1,?_⟩
   unfold inV
   rw[h2]
   exact p.now hr (by simp only[RV])
  ·split at p
   ·rename_i kvs k e1 e2
    obtain⟨a,rfl,hd⟩:=jxa hr ry e1 k
    have ek:=key_v rx e2
    subst ek
    rcases hd with⟨h1,h2⟩ | ⟨d',v',h1,h2,h3⟩
    ·refine .inr (.inr ⟨a,none,rfl,h2,?_⟩)
     rw[h1] at p
     exact p.now hr (by simp only[RV];rfl)
    ·refine .inr (.inr ⟨a,some v',rfl,h2,?_⟩)
     rw[h1] at p
     exact p.now hr (by simp only[RV];rfl)
   ·exact p.elim
theorem at_v{G:Hp}{ds:List Z.D}{vs:List V}{i:Int}{d:Z.D}(r:RVs C bs G vs ds)(e:Z.atI ds i=some d):∃v,atI vs i=some v /\ RV C bs G v d:=by
 unfold Z.atI at e
 unfold atI
 rw[r.len]
 have:ixN ds.length i=Z.ixN ds.length i:=rfl
 rw[this]
 cases e2:Z.ixN ds.length i with
 | none=>rw[e2] at e;cases e
 | some j=>
  rw[e2] at e
  exact r.get e
theorem s2_ix:S2 C (uIx C.P C.w C.K) Z.dIx:=by
 intro ex bs h H E x y dx dy Q hr rx ry p
 unfold Z.dIx at p
 split at p
 ·obtain⟨q,p⟩:=p.chk
  obtain⟨c,e1,p⟩:=p.oR
  simp only[RV] at rx ry;subst rx ry
  exact .inl (.inr (.inr ⟨_,_,c,rfl,rfl,q,e1,p.now hr (by simp only[RV])⟩))
 ·split at p
  ·rename_i xs hx
   split at p
   ·obtain⟨d,e1,p⟩:=p.oR1
    obtain⟨a,vs,rfl,hq,rs⟩:=jil hr rx hx
    obtain⟨v,hv,rv⟩:=at_v rs e1
    simp only[RV] at ry;subst ry
    rcases hq with hq | hq
    ·exact .inl (.inl ⟨a,vs,_,v,rfl,rfl,hq,hv,p.now hr rv⟩)
    ·exact .inl (.inr (.inl ⟨a,vs,_,v,rfl,rfl,hq,hv,p.now hr rv⟩))
   ·exact p.elim
  ·split at p
   ·rename_i kvs k e1 e2
    obtain⟨d,ev,p⟩:=p.oR1
    obtain⟨a,rfl,hd⟩:=jxa hr rx e1 k
    have ek:=key_v ry e2
    subst ek
    rcases hd with⟨h1,h2⟩ | ⟨d',v',h1,h2,h3⟩
    ·rw[h1] at ev;cases ev
    ·rw[h1] at ev;cases ev
     exact .inr ⟨a,v',rfl,h2,p.now hr h3⟩
   ·exact p.elim
theorem s_ix{ta tb:TE}{ma mb:Z.ME}(ha:SE C E ta ma)(hb:SE C E tb mb):SE C E (tOp (uIx C.P C.w C.K) ta tb) (Z.mBin Z.dIx ma mb):=s_op s2_ix ha hb
theorem jjs:SO C E jsl Z.oNo:=λex bs h ρ σ H Q hr re p=>Post.now hr p rfl
theorem jk8{t:TE}{m:Z.ME}(ht:SE C E t m):SO C E (tPart t) (Z.oSo m):=by
 intro ex bs h ρ σ H Q hr re p
 refine ht ex bs h ρ σ H _ hr re (p.bind λd x h1 bs1 H1 e1 rx p1=> ?_)
 cases d with
 | int i=>simp only[RV] at rx;exact⟨i,rx,Post.now e1.hr p1 rfl⟩
 | _=>exact p1.elim
theorem RVs.cut{G:Hp}{ds:List Z.D}{vs:List V}(r:RVs C bs G vs ds)(l u:Option Int):RVs C bs G (cutV vs l u) (Z.cut ds l u):=by
 unfold cutV Z.cut
 rw[r.len]
 exact(r.drop _).take _
theorem jwb{d:Z.D}{v:V}{xs:List Z.D}(hr:HR C ex bs h H)(r:RV C bs (gh ex bs h H) v d)(nt:∀ds,d= .tup ds->False)(e:Z.asQ h d=some xs):∃a vs,v= .ref a /\ SqL C.K H a vs /\ RVs C bs (gh ex bs h H) vs xs:=by
 cases d with
 | lst ds=>
  simp only[RV] at r
  obtain⟨a,vs,rfl,ga,rs⟩:=r
  cases e
  exact⟨a,vs,rfl,SqL.of (jbq _ _ ga),rs⟩
 | tup ds=>exact(nt ds rfl).elim
 | arg ns=>
  simp only[RV] at r
  obtain⟨a,rfl,ga⟩:=r
  cases e
  refine⟨a,_,rfl,jbq.sql ga,?_⟩
  clear ga hr nt
  induction ns with
  | nil=>simp only[List.map_nil,RVs]
  | cons n ns ih=>simp only[List.map_cons,RVs,RV];exact⟨trivial,ih⟩
 | ref k=>
  simp only[RV] at r
  obtain⟨a,rfl,hk⟩:=r
  simp only[Z.asQ] at e
  split at e
  ·rename_i ys hc
   cases e
   obtain⟨vs,ha,rs⟩:=hr.cell k a _ hk hc
   exact⟨a,vs,rfl,SqL.of ha,rs⟩
  ·cases e
 | _=>cases e
theorem s_sl{t:TE}{tl th:TO}{m:Z.ME}{ml mh:Z.MO}(ht:SE C E t m)(hl:SO C E tl ml)(hh:SO C E th mh):SE C E (tSl (uSlS C.K) t tl th) (Z.mSl m ml mh):=by
 intro ex bs h ρ σ H Q hr re p
 refine ht ex bs h ρ σ H _ hr re (p.bind λd x h1 bs1 H1 e1 rx p1=> ?_)
 refine hl ex bs1 h1 ρ σ H1 _ e1.hr (re.ev e1) (p1.bind λl l' h2 bs2 H2 e2 rl p2=> ?_)
 refine hh ex bs2 h2 ρ σ H2 _ e2.hr ((re.ev e1).ev e2) (p2.bind λu u' h3 bs3 H3 e3 ru p3=> ?_)
 cases rl;cases ru
 have rx3:=(rx.ev e2).ev e3
 split at p3
 ·rename_i ds
  obtain⟨q,p3⟩:=p3.chk
  simp only[RV] at rx3
  obtain⟨a,vs,rfl,ga,rs⟩:=rx3
  refine .inl (.inr ⟨a,vs,rfl,SqT.of (jbq _ _ ga),by rw[rs.len];exact q,λp hp=>Post.ttup e3.hr p3 hp (rs.cut l u)⟩)
 ·rename_i z
  obtain⟨q,p3⟩:=p3.chk
  simp only[RV] at rx3
  exact .inr ⟨z,rx3,q,p3.now e3.hr (by simp only[RV])⟩
 ·rename_i hnt hns
  obtain⟨xs,e4,p3⟩:=p3.oR
  obtain⟨a,vs,ea,hq,rs⟩:=jwb e3.hr rx3 hnt e4
  subst ea
  exact .inl (.inl ⟨a,vs,rfl,hq,λp hp=>Post.tree e3.hr p3 hp (rs.cut l u)⟩)
theorem jtc{G:Hp}:∀{ds:List Z.D} {vs:List V} {ns:List Int},RVs C bs G vs ds->Z.jld ds=some ns->vs=ns.map V.int
  | [],[],ns,_,e=>by cases e;rfl
  | d::ds,v::vs,ns,h,e=>by
    simp only[RVs] at h
    cases d<;>simp only[Z.jld,Option.map_eq_some_iff] at e<;>first
      | (obtain⟨ms,h1,rfl⟩:=e
         simp only[RV] at h
         rw[List.map_cons,<-jtc h.2 h1,h.1])
      | cases e
  | [],_::_,_,h,_=>by simp only[RVs] at h
  | _::_,[],_,h,_=>by simp only[RVs] at h
theorem jwu{G:Hp}:∀{ds:List Z.D} {vs:List V} {ns:List Str},RVs C bs G vs ds->Z.jsx ds=some ns->vs=ns.map V.str
  | [],[],ns,_,e=>by cases e;rfl
  | d::ds,v::vs,ns,h,e=>by
    simp only[RVs] at h
    cases d<;>simp only[Z.jsx,Option.map_eq_some_iff] at e<;>first
      | (obtain⟨ms,h1,rfl⟩:=e
         simp only[RV] at h
         rw[List.map_cons,<-jwu h.2 h1,h.1])
      | cases e
  | [],_::_,_,h,_=>by simp only[RVs] at h
  | _::_,[],_,h,_=>by simp only[RVs] at h
theorem jqp{G:Hp}:∀{ds:List Z.D} {vs:List V} {ns:List Bool},RVs C bs G vs ds->Z.jjy ds=some ns->vs=ns.map V.bl
  | [],[],ns,_,e=>by cases e;rfl
  | d::ds,v::vs,ns,h,e=>by
    simp only[RVs] at h
    cases d<;>simp only[Z.jjy,Option.map_eq_some_iff] at e<;>first
      | (obtain⟨ms,h1,rfl⟩:=e
         simp only[RV] at h
         rw[List.map_cons,<-jqp h.2 h1,h.1])
      | cases e
  | [],_::_,_,h,_=>by simp only[RVs] at h
  | _::_,[],_,h,_=>by simp only[RVs] at h
theorem jsq{G:Hp}:∀(ns:List Str),RVs C bs G (ns.map V.str) (ns.map Z.D.str)
 | []=>by simp only[List.map_nil,RVs]
 | n::ns=>by simp only[List.map_cons,RVs,RV];exact⟨trivial,jsq ns⟩
theorem jxj{d:Z.D}{v:V}{ns:List Int}(hr:HR C ex bs h H)(r:RV C bs (gh ex bs h H) v d)(e:Z.asLi h d=some ns):∃a,v= .ref a /\ SqL C.K H a (ns.map V.int):=by
 have gen:(Z.asL h d).bind Z.jld=some ns->∃a,v= .ref a /\ SqL C.K H a (ns.map V.int):=λe=>by
  cases e2:Z.asL h d with
  | none=>rw[e2] at e;cases e
  | some ds=>
   rw[e2] at e
   obtain⟨a,vs,rfl,ha,rs⟩:=jip hr r e2
   exact⟨a,rfl,by rw[<-jtc rs e];exact SqL.of ha⟩
 cases d with
 | arg ms=>
  cases e
  simp only[RV] at r
  obtain⟨a,rfl,ga⟩:=r
  exact⟨a,rfl,jbq.sql ga⟩
 | _=>exact gen e
theorem Ev.ext{H':Hp}(hr:HR C ex bs h H)(sm:Same H H'):Ev C ex bs h H bs h H':=by
 have eq:∀{a},H a≠none->H' a=H a:=fun{a} q=>by
  cases e:H a with
  | none=>exact absurd e q
  | some o=>exact sm a o e
 have sg:Same (gh ex bs h H) (gh ex bs h H'):=λa o e=>by
  obtain⟨h1,h2,h3⟩:=jbe.mp e
  exact jbe.mpr ⟨h1,h2,sm a o h3⟩
 exact⟨λ_ _ e=>e,⟨hr.len,hr.inj,hr.sep,λa m=>by rw[eq (hr.dom a m)];exact hr.dom a m,λa m=>by rw[eq (hr.domx a m)];exact hr.domx a m,
  λk a c e1 e2=>(hr.cell k a c e1 e2).mono (λ_ _ e=>e) sg (eq (hr.dom a (List.mem_of_getElem? e1)))⟩,sg,λa m=>eq (hr.domx a m)⟩
theorem jve{p:Addr}{H':Hp}(hp:H p=none)(sm:Same H H'):Same H (hid p H'):=λa o e=>by
 rw[jgv (λz=>by rw[z,hp] at e;cases e)];exact sm a o e
theorem jy7{p:Addr}{H':Hp}{o:HO}(e:H' p=some o):upd (hid p H') p o=H':=by
 funext x
 by_cases q:x=p
 ·rw[q,jb6,e]
 ·rw[jan q,jgv q]
theorem jd2.ext{ds:List Z.D}{Q:VK}{p:Addr}{vs:List V}{H':Hp}(hr:HR C ex bs h H)(q:jd2 C ex E bs h H (.ok ds h) Q)(hp:H p=none)(e:H' p=some (.lst vs))(sm:Same H H')(r:RVs C bs (gh ex bs h H) vs ds):Q (.ref p) H':=by
 have ev:=Ev.ext hr (jve hp sm)
 have:=q p vs bs (hid p H') ev (if_pos rfl) (r.ev ev)
 rw[jy7 e] at this;exact this
end
section
variable {C : Ct} {ex bs bs1 bs2 : List Addr} {h h1 h2 : Z.MH} {H H1 H2 : Hp} {E : XK}
theorem jfx{G:Hp}{d:Z.D}{vs:List V}(r:RVs C bs G vs [d]):∃v,vs=[v] /\ RV C bs G v d:=by
 match vs,r with
 | [v],r=>simp only[RVs] at r;exact⟨v,rfl,r.1⟩
 | [],r=>simp only[RVs] at r
 | _::_::_,r=>simp only[RVs] at r;exact r.2.elim
theorem two_v{G:Hp}{d e:Z.D}{vs:List V}(r:RVs C bs G vs [d,e]):∃v u,vs=[v,u] /\ RV C bs G v d /\ RV C bs G u e:=by
 match vs,r with
 | [v,u],r=>simp only[RVs] at r;exact⟨v,u,rfl,r.1,r.2.1⟩
 | [],r=>simp only[RVs] at r
 | [_],r=>simp only[RVs] at r;exact r.2.elim
 | _::_::_::_,r=>simp only[RVs] at r;exact r.2.2.elim
def jzo(P:Program)(w:World)(K:W.Frag):List V->Hp->VK->Prop:=λxs H Q=>rLenU P w K xs H Q \/ ∃a kvs,xs=[V.ref a] /\ H a=some (.dK kvs) /\ Q (.int kvs.length) H
theorem jsc{X:Cx}:jcj X (.builtin "len") (jzo X.prog X.w X.K):=jcj.or jqk jpx
theorem jem:SL C (jzo C.P C.w C.K) Z.fLen:=by
 intro ex bs h H E xs ds Q hr rs p
 unfold Z.fLen at p
 split at p
 ·obtain⟨q,p⟩:=p.chk
  obtain⟨v,rfl,r⟩:=jfx rs
  simp only[RV] at r;subst r
  exact .inl (.inr ⟨_,rfl,q,p.now hr (by simp only[RV])⟩)
 ·obtain⟨v,rfl,r⟩:=jfx rs
  split at p
  ·rename_i ys hy
   obtain⟨a,vs,rfl,hq,qs⟩:=jil hr r hy
   exact .inl (.inl ⟨a,vs,rfl,hq,p.now hr (by simp only[RV];rw[qs.len])⟩)
  ·split at p
   ·obtain⟨kvs,e,p⟩:=p.oR
    simp only[Z.asD] at e
    split at e
    ·rename_i kvs' hc
     cases e
     simp only[RV] at r
     obtain⟨a,rfl,hk⟩:=r
     obtain⟨kws,ha,rk⟩:=hr.cell _ a _ hk hc
     exact .inr ⟨a,kws,rfl,ha,p.now hr (by simp only[RV];rw[rk.len])⟩
    ·cases e
   ·exact p.elim
 ·exact p.elim
theorem joe:∀(ns:List Int),0<ns.length->Z.maxI ns∈ns
 | [a],_=>by simp[Z.maxI]
 | a::b::r,_=>by
  have ih:=joe (b::r) (by simp)
  unfold Z.maxI
  split
  ·exact List.mem_cons_of_mem _ ih
  ·exact List.mem_cons_self ..
theorem js5:∀(ns:List Int),∀a∈ns,a<=Z.maxI ns
 | [a],x,hx=>by simp at hx;subst hx;simp[Z.maxI]
 | a::b::r,x,hx=>by
  have ih:=js5 (b::r)
  unfold Z.maxI
  rcases List.mem_cons.mp hx with rfl | hx
  ·split<;>omega
  ·have:=ih x hx
   split<;>omega
theorem sl_max:SL C (rMax C.K) Z.fMax:=by
 intro ex bs h H E xs ds Q hr rs p
 unfold Z.fMax at p
 split at p
 ·obtain⟨v,u,rfl,r1,r2⟩:=two_v rs
  simp only[RV] at r1 r2;subst r1 r2
  exact .inl ⟨_,_,rfl,p.now hr (by simp only[RV])⟩
 ·obtain⟨v,rfl,r⟩:=jfx rs
  obtain⟨ns,e,p⟩:=p.oR
  obtain⟨q,p⟩:=p.chk
  simp only[RV] at r
  obtain⟨a,vs,rfl,ga,qs⟩:=r
  have:=jtc qs e
  subst this
  refine .inr ⟨a,ns,rfl,SqT.of (jbq _ _ ga),q,λM hm hle=> ?_⟩
  have e1:M=Z.maxI ns:=by
   have h1:=js5 ns M hm
   have h2:=hle _ (joe ns q)
   omega
  rw[e1]
  exact p.now hr (by simp only[RV])
 ·exact p.elim
theorem jx8:SL C (rAll C.K) Z.fAll:=by
 intro ex bs h H E xs ds Q hr rs p
 unfold Z.fAll at p
 split at p
 ·obtain⟨v,rfl,r⟩:=jfx rs
  obtain⟨bb,e,p⟩:=p.oR
  rw[Option.bind_eq_some_iff] at e
  obtain⟨ys,e1,e2⟩:=e
  obtain⟨a,vs,rfl,ha,qs⟩:=jip hr r e1
  have:=jqp qs e2
  subst this
  exact⟨a,bb,rfl,SqL.of ha,p.now hr (by simp only[RV])⟩
 ·exact p.elim
theorem jka:SL C rInt Z.fInt:=by
 intro ex bs h H E xs ds Q hr rs p
 unfold Z.fInt at p
 split at p
 ·obtain⟨v,rfl,r⟩:=jfx rs
  simp only[RV] at r;subst r
  exact .inl (.inl ⟨_,rfl,p.now hr (by simp only[RV])⟩)
 ·obtain⟨v,rfl,r⟩:=jfx rs
  simp only[RV] at r;subst r
  exact .inl (.inr ⟨_,rfl,p.now hr (by simp only[RV])⟩)
 ·obtain⟨q,p⟩:=p.chk
  obtain⟨n,e,p⟩:=p.oR
  obtain⟨v,rfl,r⟩:=jfx rs
  simp only[RV] at r;subst r
  exact .inr ⟨_,n,rfl,q,e,p.now hr (by simp only[RV])⟩
 ·exact p.elim
theorem jkq:SL C rStr Z.fStr:=by
 intro ex bs h H E xs ds Q hr rs p
 unfold Z.fStr at p
 split at p
 ·obtain⟨q,p⟩:=p.chk
  obtain⟨v,rfl,r⟩:=jfx rs
  simp only[RV] at r;subst r
  exact⟨_,rfl,q,p.now hr (by simp only[RV];rfl)⟩
 ·exact p.elim
theorem jwi{tl:TA}{ml:Z.ML}(hl:SA C E tl ml):SN C E (tCB (λxs H Q=>∃p ys,xs=[.ref p] /\ (SqL C.K H p ys \/ SqT C.K H p ys) /\ ∀l,H l=none->Q (.ref l) (upd H l (.lst ys))) tl) (Z.jyb ml):=by
 intro ex bs h ρ σ H Q hr re p
 refine hl ex bs h ρ σ H _ hr re (jd2.bind p λds xs h1 bs1 H1 e1 rx p1=> ?_)
 split at p1
 ·obtain⟨v,rfl,r⟩:=jfx rx
  rename_i d
  cases e:Z.asQ h1 d with
  | none=>rw[e] at p1;exact p1.elim
  | some ys=>
   rw[e] at p1
   obtain⟨a,vs,rfl,hq,qs⟩:=jil e1.hr r e
   exact⟨a,vs,rfl,hq,λl hl=>jd2.now e1.hr p1 hl qs⟩
 ·exact p1.elim
theorem jw4:SL C (λxs H Q=>∃p ys,xs=[.ref p] /\ ((SqL C.K H p ys /\ ∀l,H l=none->Q (.ref l) (upd H l (.tup ys))) \/ (SqT C.K H p ys /\ Q (.ref p) H))) Z.jsm:=by
 intro ex bs h H E xs ds Q hr rs p
 unfold Z.jsm at p
 split at p
 ·obtain⟨v,rfl,r⟩:=jfx rs
  have r':=r
  simp only[RV] at r
  obtain⟨a,vs,rfl,ga,qs⟩:=r
  exact⟨a,vs,rfl,.inr ⟨SqT.of (jbq _ _ ga),p.now hr r'⟩⟩
 ·rename_i d hnt
  obtain⟨v,rfl,r⟩:=jfx rs
  obtain⟨ys,e,p⟩:=p.oR
  obtain⟨a,vs,rfl,hq,qs⟩:=jwb hr r (λds z=>hnt ds (by rw[z])) e
  exact⟨a,vs,rfl,.inl ⟨hq,λl hl=>Post.ttup hr p hl qs⟩⟩
 ·exact p.elim
theorem jxy{K:W.Frag}{t n:String}(ht:t="NoneType" \/ t="bool" \/ t="int" \/ t="str" \/ t="tuple" \/ t="list" \/ t="dict")(hn:n="int" \/ n="bool" \/ n="str" \/ n="tuple" \/ n="list"):
  W.kitOne K (.type t) (.type n)=some (Z.isB t n):=by
 rcases ht with rfl | rfl | rfl | rfl | rfl | rfl | rfl<;>rcases hn with rfl | rfl | rfl | rfl | rfl<;>first | rfl | kernel_rfl
theorem ty_at{d:Z.D}{v:V}{t:String}(hr:HR C ex bs h H)(r:RV C bs (gh ex bs h H) v d)(e:Z.tyOf h d=some t):TyOf C.K H v (.type t) /\ (t="NoneType" \/ t="bool" \/ t="int" \/ t="str" \/ t="tuple" \/ t="list" \/ t="dict"):=by
 cases d with
 | non=>simp only[RV] at r;subst r;cases e;exact⟨.non,by simp⟩
 | bl b=>simp only[RV] at r;subst r;cases e;exact⟨.bl _,by simp⟩
 | int b=>simp only[RV] at r;subst r;cases e;exact⟨.int _,by simp⟩
 | str b=>simp only[RV] at r;subst r;cases e;exact⟨.str _,by simp⟩
 | tup ds=>
  simp only[RV] at r
  obtain⟨a,vs,rfl,ga,_⟩:=r
  cases e;exact⟨.tup (jbq _ _ ga),by simp⟩
 | lst ds=>
  simp only[RV] at r
  obtain⟨a,vs,rfl,ga,_⟩:=r
  cases e;exact⟨.lst (jbq _ _ ga),by simp⟩
 | ref k=>
  simp only[RV] at r
  obtain⟨a,rfl,hk⟩:=r
  simp only[Z.tyOf] at e
  split at e
  ·rename_i xs hc
   cases e
   obtain⟨vs,ha,_⟩:=hr.cell k a _ hk hc
   exact⟨.lst ha,by simp⟩
  ·rename_i xs hc
   cases e
   obtain⟨vs,ha,_⟩:=hr.cell k a _ hk hc
   exact⟨.dK ha,by simp⟩
  ·cases e
 | _=>cases e
theorem jv8{n:String}(h:Z.jlq n=true):n="int" \/ n="bool" \/ n="str" \/ n="tuple" \/ n="list":=by
 unfold Z.jlq at h
 simpa [or_assoc] using h
theorem sl_isi:SL C (rIsi C.K) Z.fIsi:=by
 intro ex bs h H E xs ds Q hr rs p
 unfold Z.fIsi at p
 split at p
 ·obtain⟨q,p⟩:=p.chk
  obtain⟨t,e,p⟩:=p.oR
  obtain⟨v,u,rfl,r1,r2⟩:=two_v rs
  simp only[RV] at r2;subst r2
  obtain⟨ty,ht⟩:=ty_at hr r1 e
  exact⟨v,_,_,_,rfl,.inl ⟨_,rfl⟩,ty,jxy ht (jv8 q),p.now hr (by simp only[RV])⟩
 ·exact p.elim
def SM(C:Ct)(r:V->List V->Hp->VK->Prop)(f:Str->List Z.D->Z.MH->Z.Res Z.D):Prop:=∀(ex bs:List Addr) (h:Z.MH) (H:Hp) (E:XK) (z:Str) (xs:List V) (ds:List Z.D) (Q:VK),HR C ex bs h H->RVs C bs (gh ex bs h H) xs ds->Post C ex E bs h H (RV C) (f z ds h) Q->r (.str z) xs H Q
theorem s_sm{r:V->List V->Hp->VK->Prop}{f:Str->List Z.D->Z.MH->Z.Res Z.D}{to:TE}{tl:TA}{mo:Z.ME}{ml:Z.ML}(o:SM C r f)(ho:SE C E to mo)(hl:SA C E tl ml):SE C E (tBM C.K "str" r to tl) (Z.mSm f mo ml):=by
 intro ex bs h ρ σ H Q hr re p
 refine ho ex bs h ρ σ H _ hr re (p.bind λd x h1 bs1 H1 e1 rx p1=> ?_)
 cases d with
 | str z=>
  simp only[RV] at rx;subst rx
  refine⟨rfl,hl ex bs1 h1 ρ σ H1 _ e1.hr (re.ev e1) (p1.bind λds xs h2 bs2 H2 e2 rs p2=> ?_)⟩
  exact o ex bs2 h2 H2 E z xs ds Q e2.hr rs p2
 | _=>exact p1.elim
theorem jma:SM C (jze C.K) Z.jpj:=by
 intro ex bs h H E z xs ds Q hr rs p
 unfold Z.jpj at p
 split at p
 ·obtain⟨ys,e,p⟩:=p.oR
  obtain⟨q,p⟩:=p.chk
  obtain⟨v,rfl,r⟩:=jfx rs
  rw[Option.bind_eq_some_iff] at e
  obtain⟨ds',e1,e2⟩:=e
  obtain⟨a,vs,rfl,ha,qs⟩:=jip hr r e1
  have:=jwu qs e2
  subst this
  exact⟨z,a,ys,rfl,rfl,SqL.of ha,q,p.now hr (by simp only[RV])⟩
 ·exact p.elim
theorem jq5{to:TE}{tl:TA}{mo:Z.ME}{ml:Z.ML}(ho:SE C E to mo)(hl:SA C E tl ml):SN C E (tBM C.K "str" jx0 to tl) (Z.jir mo ml):=by
 intro ex bs h ρ σ H Q hr re p
 refine ho ex bs h ρ σ H _ hr re (jd2.bind p λd x h1 bs1 H1 e1 rx p1=> ?_)
 cases d with
 | str z=>
  simp only[RV] at rx;subst rx
  refine⟨rfl,hl ex bs1 h1 ρ σ H1 _ e1.hr (re.ev e1) (jd2.bind p1 λds xs h2 bs2 H2 e2 rs p2=> ?_)⟩
  split at p2
  ·rename_i y
   obtain⟨q,p2⟩:=p2.chk
   obtain⟨v,rfl,r⟩:=jfx rs
   simp only[RV] at r;subst r
   exact⟨z,y,rfl,rfl,q.1,q.2.1,q.2.2,λa H' ha ha' sm=>jd2.ext e2.hr p2 ha ha' sm (jsq _)⟩
  ·exact p2.elim
 | _=>exact p1.elim
def SJ(C:Ct)(E:XK)(t:TJ)(m:Z.MJ):Prop:=∀out:Str,Snd C E REq (t out) (m out)
theorem sj_nil:SJ C E tJnil Z.jNil:=λout ex bs h ρ σ H Q hr re p=>Post.now hr p rfl
theorem jrz{t:TE}{j:TJ}{m:Z.ME}{mj:Z.MJ}(ht:SE C E t m)(hj:SJ C E j mj):SJ C E (jx7 t j) (Z.jzk m mj):=by
 intro out ex bs h ρ σ H Q hr re p
 refine ht ex bs h ρ σ H _ hr re (p.bind λd x h1 bs1 H1 e1 rx p1=> ?_)
 cases d with
 | str y=>
  simp only[RV] at rx
  obtain⟨q,p1⟩:=Post.chk p1
  exact⟨y,rx,q,hj (out++y) ex bs1 h1 ρ σ H1 Q e1.hr (re.ev e1) p1⟩
 | _=>exact p1.elim
theorem s_js{j:TJ}{mj:Z.MJ}(hj:SJ C E j mj):SE C E (tJs j) (Z.mJs mj):=by
 intro ex bs h ρ σ H Q hr re p
 refine hj Str.empty ex bs h ρ σ H _ hr re (p.bind λz z' h1 bs1 H1 e1 rz p1=> ?_)
 cases rz
 obtain⟨q,p1⟩:=Post.chk p1
 exact⟨q,Post.now e1.hr p1 (by simp only[RV])⟩
theorem s_fmt{t:TE}{m:Z.ME}(ht:SE C E t m):SE C E (tFmt t) (Z.mFmt m):=by
 intro ex bs h ρ σ H Q hr re p
 refine ht ex bs h ρ σ H _ hr re (p.bind λd x h1 bs1 H1 e1 rx p1=> ?_)
 cases d with
 | int i=>
  simp only[RV] at rx
  obtain⟨q,p1⟩:=Post.chk p1
  exact .inl ⟨i,rx,q,Post.now e1.hr p1 (by simp only[RV];rfl)⟩
 | str z=>
  simp only[RV] at rx
  obtain⟨q,p1⟩:=Post.chk p1
  exact .inr ⟨z,rx,q,Post.now e1.hr p1 (by simp only[RV])⟩
 | _=>exact p1.elim
theorem jba{a:Addr}{c:String}{t:TE}{m:Z.ME}(ea:C.cm c=a)(ht:SE C E t m):SS C E (jxc a E t) (Z.jcb c m):=by
 intro ex bs h ρ σ H D hr re p
 refine ht ex bs h ρ σ H _ hr re (p.bind λd x h1 bs1 H1 e1 rx p1=> ?_)
 exact⟨x,rfl,by rw[<-ea];exact p1 bs1 H1 (Ev.refl e1.hr)⟩
theorem s_dnew:SE C E jx3 Z.mDnew:=by
 intro ex bs h ρ σ H Q hr re p
 intro a ha
 have e2:=Ev.cell (o:= .dK []) (c:= .dct []) hr ha ⟨[],jb6,by simp only[RVk]⟩
 refine p (.ref a) (bs++[a]) _ e2 ?_
 simp only[RV]
 exact⟨a,rfl,by rw[<-hr.len];simp⟩
end
def spL(K:W.Frag):Sp:=λvs H Q _=>∃(a:Addr) (ns:List Int),vs=[.ref a] /\ SqL K H a (ns.map V.int) /\ ns.length<=63 /\ ∀H',Q (.bl true) H'
theorem spL_of(K:W.Frag)(H:Hp)(a:Addr)(ns:List Int)(hl:ns.length<=63)(hO:Only H)(hS:SqL K H a (ns.map V.int)):spL K [.ref a] H (λv _=>v= .bl true) λ_ _ _=>False:=⟨a,ns,rfl,hS,hl,λ_=>rfl⟩
theorem gh_nil{H:Hp}:gh [] [] [] H=H:=by
 funext x
 unfold gh
 rw[if_neg]
 rintro(z | ⟨k,c,z,_⟩)
 ·cases z
 ·simp at z
theorem law_ok{C:Ct}{P:Program}{w:World}{mg:Str->Option Value}{base:Heap}{CX:CXT}{k:Nat}{f:Addr}{fd:FuncData}{ps:List Str}{z:Z.MF}(F:FnOk P w C.K mg base CX k f fd ps (spZ C z))
  (hz:∀ns:List Int,ns.length<=63->∃h,z [.arg ns] []= .ok (.bl true) h):FnOk P w C.K mg base CX k f fd ps (spL C.K):=by
 refine F.imp λvs H Q E q=> ?_
 obtain⟨a,ns,rfl,hS,hl,q⟩:=q
 obtain⟨h,e⟩:=hz ns hl
 refine⟨[],[],[],[.arg ns],⟨rfl,λi j a e=>by simp at e,λa m=>(by cases m),λa m=>(by cases m),λa m=>(by cases m),λk a c e=>by simp at e⟩,?_,?_⟩
 ·rw[gh_nil];simp only[RVs,RV];exact⟨⟨a,rfl,hS⟩,trivial⟩
 ·rw[e]
  intro v bs' H' _ rv
  simp only[RV] at rv
  subst rv;exact q H'
theorem walk_ofE{l:W.OpenLaw}{n k:Nat}{q:Program}{loose:List Str}{XP:(Str->Option Value)->Heap->Prop}{YP:World->Heap->Prop}{d:DefRec}{K:Params->W.Frag}{CX:World->CXT}{sp:W.Frag->Sp}{x:Str}
  (hn:l.most=some n) (hn2:n<=sizeLine) (hdf:d.params.defaults=[]) (hr:Room k callerA)
  (hY:∀(w:World) (h:Heap),YP w h->(K w.params).In h)
  (F:∀(w:World) (mg:Str->Option Value) (fa:Addr) (h:Heap),(K w.params).In h->h.Ns mainGlobals mg->mg d.name=some (.ref fa)->
   ∃fd:FuncData,(∀(s:Shared) (u:Value),BindsTo s fd ⟨[u],[]⟩ [(x,u)]) /\
    ∀base:Heap,(K w.params).In base->base.Ns mainGlobals mg->FnOk l.prog w (K w.params) mg base (CX w) k fa fd [x] (sp (K w.params)))
  (hsp:∀(K:W.Frag) (H:Hp) (a:Addr) (ns:List Int),ns.length<=n->Only H->SqL K H a (ns.map V.int)->sp K [.ref a] H (λv _=>v= .bl true) λ_ _ _=>False)
  (hCX:∀(w:World) (H:Hp) (s:Shared) (e:Value) (s':Shared),CX w [] H s (λ_ _ _=>False) e s'->False):
  W.WalkO q loose XP YP l.row.toRowW d [] (λf vs=>PySem.call f vs):=
 jzc (K:=K) (CX:=CX) (sp:=λw=>sp (K w.params)) hn hn2 hdf hr hY F (λw H a ns h1 h2 h3=>hsp (K w.params) H a ns h1 h2 h3) hCX
def jm8:List DictEntry->List (Key×V)->Prop
 | [],[]=>True
 | e::es,(k,v)::r=>(∃x t,e.key= .str x t /\ k=Sum.inr x) /\ RelV v e.val /\ jm8 es r
 | _,_=>False
theorem jiw{P:Program}{w:World}:∀{es:List DictEntry} {kvs:List (Key×V)},jm8 es kvs->∃vs:List (Key×Value),KV kvs vs /\ Pairs (jc7 P w) es vs /\ vs.map (·.1)=kvs.map (·.1)
 | [],[],_=>⟨[],.nil,.nil,rfl⟩
 | e::es,(k,v)::r,h=>by
  obtain⟨⟨x,t,h1,h2⟩,h3,h4⟩:=h
  obtain⟨vs,a,b,c⟩:=jiw (P:=P) (w:=w) h4
  refine⟨(k,e.val)::vs,.cons ⟨rfl,h3⟩ a,.cons ?_ rfl b,by simp[c]⟩
  rw[h1,h2]
  exact jfn P w x t
 | [],_::_,h=>h.elim
 | _::_,[],h=>h.elim
theorem kdict_of{P:Program}{w:World}{K:W.Frag}{a:Addr}{es:Array DictEntry}{n:Nat}{kvs:List (Key×V)}(hl:K.lookup a=some ⟨.type "dict",none,.dict es n,#[]⟩)(ha:(a==sysModules)=false)
  (hk:W.KeysLit w.params es.toList) (hp:jm8 es.toList kvs) (nd:(kvs.map (·.1)).Nodup):jun P w K a kvs:=by
 intro h X
 obtain⟨vs,a1,b,c⟩:=jiw (P:=P) (w:=w) hp
 refine⟨ha,vs,a1,_,es,n,X _ _ hl,⟨rfl,rfl,rfl⟩,rfl,λe he=> ?_,b,by rw[c];exact nd⟩
 obtain⟨x,t,e1,e2⟩:=hk.all e (Array.mem_toList_iff.mpr he)
 exact⟨.inr x,by rw[e1];exact jfn P w x t,e2⟩
theorem jic{C:Ct}{E:XK}:ST C E tYes Z.tYes:=λex bs h ρ σ H Q hr re p=>Post.now hr p rfl
section
variable {X : Cx} {P : Program} {w : World} {K : W.Frag}
theorem jcw(k:X.K=K):OpR X (binaryOp .Add) (uAdd K):=by subst k;exact jzs
theorem ix_K(p:X.prog=P)(w':X.w=w)(k:X.K=K)(hu:X.A.units+64<cLine):IxR X (uIx P w K):=by subst p w' k;exact ix_U hu
theorem jdl(p:X.prog=P)(w':X.w=w)(k:X.K=K)(hu:X.A.units+64<cLine):OpR X (compareOp .In) (uIn P w K false):=by subst p w' k;exact op_inU hu
theorem jel(p:X.prog=P)(w':X.w=w)(k:X.K=K)(hu:X.A.units+64<cLine):OpR X (compareOp .NotIn) (uIn P w K true):=by subst p w' k;exact jre hu
theorem sl_K(k:X.K=K):SlR X (uSlS K):=by subst k;exact sl_S
theorem jzm{e:Expr}{T:String}{r:V->List V->Hp->VK->Prop}{to:TE}(k:X.K=K)(h:PE X e (tBM0 X.K T r to)):PE X e (tBM0 K T r to):=by subst k;exact h
theorem jcg(p:X.prog=P)(w':X.w=w)(k:X.K=K):jcj X (.builtin "len") (jzo P w K):=by subst p w' k;exact jsc
theorem jrg(k:X.K=K)(hc:X.calm=true):jcj X (.builtin "max") (rMax K):=by subst k;exact jqx hc
theorem jk6(k:X.K=K)(hc:X.calm=true):jcj X (.builtin "all") (rAll K):=by subst k;exact juw hc
theorem jq0(k:X.K=K):jcj X (.builtin "isinstance") (rIsi K):=by subst k;exact jvn
theorem jii(k:X.K=K):jcj X (.type "list") (λxs H Q=>∃p ys,xs=[.ref p] /\ (SqL K H p ys \/ SqT K H p ys) /\ ∀l,H l=none->Q (.ref l) (upd H l (.lst ys))):=by subst k;exact jkf
theorem jln(k:X.K=K):jcj X (.type "tuple") (λxs H Q=>∃p ys,xs=[.ref p] /\ ((SqL K H p ys /\ ∀l,H l=none->Q (.ref l) (upd H l (.tup ys))) \/ (SqT K H p ys /\ Q (.ref p) H))):=by subst k;exact jjb
theorem jj2(k:X.K=K):MtR X "str.join" (jze K):=by subst k;exact jy2
theorem jb1{a:Expr}{ta:TE}(k:X.K=K)(ha:PE X a ta)(he:∀whole,isTrue a X.env whole=(do let v<-whole;standAt a.pos;holding [v] (truthy v))):
  PT X a (λσ H Q=>ta σ H λx H'=>∃k,TruV K x H' k /\ Q k H'):=by subst k;exact jvm ha he
theorem js2{a:Expr}{ta:TE}{pos:Pos}(k:X.K=K)(ha:PE X a ta):PE X (.UnaryOp .Not a pos) (λσ H Q=>ta σ H λx H1=>∃k,TruV K x H1 k /\ Q (.bl (!k)) H1):=by subst k;exact jxo ha
theorem pi_K{tg l:Expr}{tl:TE}(k:X.K=K)(hl:PE X l tl):PI X tg l (iV K tl):=by subst k;exact pi_V hl
theorem jh2{e:Expr}{T:String}{r:V->List V->Hp->VK->Prop}{to:TE}{t:TA}(k:X.K=K)(h:PE X e (tBM X.K T r to t)):PE X e (tBM K T r to t):=by subst k;exact h
end
section
variable {C : Ct} {E : XK} {ex bs bs1 : List Addr} {h : Z.MH} {H : Hp} {α β : Type} {R : List Addr -> Hp -> β -> α -> Prop}
theorem Post.noX{r:Z.Res α}{Q:β->Hp->Prop}(p:Post C ex E bs h H R r.noX Q):Post C ex E0 bs h H R r Q:=by
 cases r with
 | ok a h'=>exact p
 | exc c h'=>exact p.elim
 | stuck=>exact p
theorem s_noxA{t:TA}{m:Z.ML}(q:SA C E0 t m):SA C E t (Z.lNox m):=λex bs hh ρ σ H Q hr re p=>q ex bs hh ρ σ H Q hr re p.noX
def SX(C:Ct)(t:FK->TS)(m:Z.MS):Prop:=
 ∀(ex bs:List Addr) (h:Z.MH) (ρ:Z.Ro) (σ:St) (H:Hp) (D:Ends) (F:FK),HR C ex bs h H->RE C bs (gh ex bs h H) ρ σ->je3 C ex (FE (F σ)) bs h H (m ρ h) D->t F D σ H
def SXE(C:Ct)(t:(Addr->Hp->Prop)->TE)(m:Z.ME):Prop:=∀F,SE C (FE F) (t F) m
theorem sx_set{i:Nat}{t:(Addr->Hp->Prop)->TE}{m:Z.ME}(q:SXE C t m):SX C (sxSet i t) (Z.sAsg m (Z.jac i)):=λex bs h ρ σ H D F hr re p=>jk3 (q (F σ)) ex bs h ρ σ H D hr re p
theorem je3.noX{r:Z.RS}{D:Ends}(p:je3 C ex E bs h H r.noX D):je3 C ex E0 bs h H r D:=by
 cases r with
 | exc c h'=>exact p.elim
 | _=>exact p
theorem sx_one{t:FK->TS}{m:Z.MS}(q:SX C t m):SX C (sxSeq t (λ_=>jtp)) m:=λex bs h ρ σ H D F hr re p=>q ex bs h ρ σ H D F hr re p
def jh6(C:Ct)(W:Addr)(tab:List (String×Bool)):Prop:=∀c b,tab.lookup c=some b->PySem.W.subIn C.K (.ref (C.cm c)) (.ref W)=some b
theorem jga{W:Addr}:jh6 C W []:=λ_ _ e=>nomatch e
theorem jvd{W:Addr}{c:String}{b:Bool}{tab:List (String×Bool)}(q:PySem.W.subIn C.K (.ref (C.cm c)) (.ref W)=some b)(r:jh6 C W tab):jh6 C W ((c,b)::tab):=by
 intro x y e
 by_cases z:x=c
 ·subst z
  simp at e;subst e;exact q
 ·rw[List.lookup_cons,beq_eq_false_iff_ne.mpr z] at e;exact r x y e
theorem sh_nil{c:String}:SS C E (hNil (C.cm c)) (Z.cNil c):=λex bs h ρ σ H D hr re p=>p.elim
theorem jgd{W:Addr}{tab:List (String×Bool)}{th:TS}{m:Z.MS}{rest:Addr->TS}{r:String->Z.MS}(ht:jh6 C W tab)(hm:SS C E0 th m)(hrest:∀c,SS C E (rest (C.cm c)) (r c))(c:String):
  SS C E (jvl C.K W th rest (C.cm c)) (Z.jk9 tab m r c):=by
 intro ex bs h ρ σ H D hr re p
 unfold Z.jk9 at p
 cases e:tab.lookup c with
 | none=>rw[e] at p;exact p.elim
 | some b=>
  rw[e] at p
  refine⟨b,ht c b e,?_⟩
  cases b with
  | false=>exact hrest c ex bs h ρ σ H D hr re p
  | true=>exact hm ex bs h ρ σ H D hr re p.noX
theorem ss_try{tb:FK->TS}{th:Addr->TS}{m:Z.MS}{f:String->Z.MS}(hb:SX C tb m)(hh:∀c,SS C E (th (C.cm c)) (f c)):SS C E (tTry tb th) (Z.sTry m f):=by
 intro ex bs h ρ σ H D hr re p
 refine hb ex bs h ρ σ H D _ hr re ?_
 unfold Z.sTry at p
 cases e:m ρ h with
 | exc c h1=>rw[e] at p;exact λbs' H' e'=>⟨C.cm c,rfl,hh c ex bs' h1 ρ σ H' D e'.hr (re.ev e') (p.from e')⟩
 | nx ρ1 h1=>rw[e] at p;exact p
 | rt d h1=>rw[e] at p;exact p
 | bk ρ1 h1=>rw[e] at p;exact p
 | ct ρ1 h1=>rw[e] at p;exact p
 | stuck=>rw[e] at p;exact p
theorem jf9{X:Cx}{K:PySem.W.Frag}{hs:List ExceptHandler}{W:Addr}{th:TS}{tr:Addr->TS}(k:X.K=K)(q:PH X hs (jvl X.K W th tr)):PH X hs (jvl K W th tr):=by subst k;exact q
end
end L2
namespace L2
open PySem PySem.Spec
section
variable {C : Ct} {ex bs bs1 bs2 : List Addr} {h h1 h2 : Z.MH} {H H1 H2 : Hp} {E : XK}
theorem RVf.lookup{G:Hp}{f:Str}:∀{fs:List (Str×Z.D)} {vs:List (Str×V)},RVf C bs G vs fs->(∀d,fs.lookup f=some d->∃v,vs.lookup f=some v /\ RV C bs G v d) /\ (fs.lookup f=none->vs.lookup f=none)
  | [],[],_=>⟨λd e=>by simp at e,λ_=>rfl⟩
  | (y,d)::ds,(x,v)::vs,r=>by
    simp only[RVf] at r
    obtain⟨rfl,r1,r2⟩:=r
    have ih:=RVf.lookup (f:=f) r2
    by_cases q:(f==x)=true
    · simp only[List.lookup,q]
      exact⟨λd' e=>by cases e;exact⟨v,rfl,r1⟩,λe=>by cases e⟩
    · have q':(f==x)=false:=by simpa using q
      simp only[List.lookup,q']
      exact ih
  | [],_::_,r=>by simp only[RVf] at r
  | _::_,[],r=>by simp only[RVf] at r
theorem RVf.put{G:Hp}{f:Str}{d:Z.D}{v:V}(rv:RV C bs G v d):∀{fs:List (Str×Z.D)} {vs:List (Str×V)},RVf C bs G vs fs->RVf C bs G (putF f v vs) (Z.putF f d fs)
  | [],[],_=>by simp only[putF,Z.putF,RVf];exact⟨trivial,rv,trivial⟩
  | (y,e)::ds,(x,u)::vs,r=>by
    simp only[RVf] at r
    obtain⟨rfl,r1,r2⟩:=r
    simp only[putF,Z.putF]
    by_cases q:x=f
    · rw[if_pos q,if_pos q];simp only[RVf];exact⟨trivial,rv,r2⟩
    · rw[if_neg q,if_neg q];simp only[RVf];exact⟨trivial,r1,RVf.put rv r2⟩
  | [],_::_,r=>by simp only[RVf] at r
  | _::_,[],r=>by simp only[RVf] at r
theorem RVf.len{G:Hp}:∀{fs:List (Str×Z.D)} {vs:List (Str×V)},RVf C bs G vs fs->vs.length=fs.length
  | [],[],_=>rfl
  | (y,d)::ds,(x,v)::vs,r=>by simp only[RVf] at r;simp[RVf.len r.2.2]
  | [],_::_,r=>by simp only[RVf] at r
  | _::_,[],r=>by simp only[RVf] at r
theorem jwm{d:Z.D}{x:V}{c:String}{fs:List (Str×Z.D)}(hr:HR C ex bs h H)(rx:RV C bs (gh ex bs h H) x d)(e:Z.asO h d=some (c,fs)):
  ∃a dx fvs,x= .ref a /\ H a=some (.ins (C.cm c) dx fvs) /\ RVf C bs (gh ex bs h H) fvs fs:=by
 cases d with
 | obj c' fs'=>
  simp only[Z.asO,Option.some.injEq,Prod.mk.injEq] at e
  obtain⟨rfl,rfl⟩:=e
  simp only[RV] at rx
  obtain⟨a,dx,fvs,h1,h2,h3⟩:=rx
  exact⟨a,dx,fvs,h1,jbq _ _ h2,h3⟩
 | ref k=>
  simp only[RV] at rx
  obtain⟨a,rfl,hk⟩:=rx
  simp only[Z.asO] at e
  split at e
  ·rename_i c' fs' hc
   simp only[Option.some.injEq,Prod.mk.injEq] at e
   obtain⟨rfl,rfl⟩:=e
   obtain⟨dx,fvs,h1,h2⟩:=hr.cell k a _ hk hc
   exact⟨a,dx,fvs,rfl,h1,h2⟩
  ·cases e
 | _=>simp[Z.asO] at e
def jeh(C:Ct)(f:Str)(tab:List String):Prop:=∀c∈tab,Cls C.K (C.cm c) /\ jbj C.K (C.cm c) f
theorem jdk{f:Str}:jeh C f []:=λc m=>by simp at m
theorem jub{f:Str}{c:String}{tab:List String}(a:Cls C.K (C.cm c))(b:jbj C.K (C.cm c) f)(r:jeh C f tab):jeh C f (c::tab):=λc' m=>by
 rcases List.mem_cons.mp m with rfl | m
 ·exact⟨a,b⟩
 ·exact r c' m
theorem jbl{f:Str}{tab:List String}{t:TE}{m:Z.ME}(ok:jeh C f tab)(ht:SE C E t m):SE C E (tFld C.K t f) (Z.mFld tab f m):=by
 intro ex bs h ρ σ H Q hr re p
 refine ht ex bs h ρ σ H _ hr re (p.bind λd x h1 bs1 H1 e1 rx p1=> ?_)
 obtain⟨⟨c,fs⟩,eo,p1⟩:=p1.oR
 obtain⟨hc,p1⟩:=p1.chk
 obtain⟨v,el,p1⟩:=p1.oR1
 obtain⟨a,dx,fvs,rfl,ha,rf⟩:=jwm e1.hr rx eo
 obtain⟨u,hu,ru⟩:=rf.lookup.1 v el
 exact⟨a,_,dx,fvs,u,rfl,ha,(ok c hc).1,(ok c hc).2,hu,Post.now e1.hr p1 ru⟩
theorem jcq{f:Str}{tab:List String}{to te:TE}{mo me:Z.ME}(ok:jeh C f tab)(ho:SE C E to mo)(he:SE C E te me):SS C E (sFld C.K to te f) (Z.jdo tab f mo me):=by
 intro ex bs h ρ σ H D hr re p
 refine he ex bs h ρ σ H _ hr re (p.bind λd v h0 bs0 H0 e0 rv p0=> ?_)
 refine ho ex bs0 h0 ρ σ H0 _ e0.hr (re.ev e0) (p0.bind λo x h1 bs1 H1 e1 rx p1=> ?_)
 cases o with
 | ref k=>
  simp only[RV] at rx
  obtain⟨a,rfl,hk⟩:=rx
  dsimp only at p1
  split at p1
  ·rename_i c fs hc
   split at p1
   case isFalse=>exact p1.elim
   rename_i q
   obtain⟨dx,fvs,ha,rf⟩:=e1.hr.cell k a _ hk hc
   refine⟨a,_,dx,fvs,rfl,ha,(ok c q.1).1,(ok c q.1).2,by rw[rf.len];exact q.2,?_⟩
   have e2:=Ev.put (o:= .ins (C.cm c) dx (putF f v fvs)) (c:= .ins c (Z.putF f d fs)) e1.hr hk hc ⟨dx,_,jb6,RVf.put (rv.ev e1) rf⟩
   exact p1 σ bs1 _ e2 ((re.ev e0).ev (e1.trans e2))
  ·exact p1.elim
 | _=>exact p1.elim
def jco(C:Ct)(mg:Str->Option Value)(base:Heap)(k:Nat)(m:Str)(tab:List (String×Z.MF)):Prop:=
 ∀c z,tab.lookup c=some z->Cls C.K (C.cm c) /\ MethG C.P C.w C.K mg base (CXE C.P C.w) k (C.cm c) m (spZ C z)
theorem jca{mg:Str->Option Value}{base:Heap}{k:Nat}{m:Str}:jco C mg base k m []:=λc z e=>by simp at e
theorem jyq{mg:Str->Option Value}{base:Heap}{k j:Nat}{m:Str}{c:String}{z:Z.MF}{tab:List (String×Z.MF)}{f:Addr}{fd:FuncData}{ps:List Str}(a:Cls C.K (C.cm c))(b:Meth C.K (C.cm c) m f)(F:FnOk C.P C.w C.K mg base (CXE C.P C.w) j f fd ps (spZ C z))(hj:j<=k)(B:jfc C.K fd ps [])(r:jco C mg base k m tab):
  jco C mg base k m ((c,z)::tab):=λc' z' e=>by
 by_cases q:(c'==c)=true
 ·simp only[List.lookup,q] at e
  cases e
  have:c'=c:=by simpa using q
  subst this
  exact⟨a,f,fd,ps,b,F.mono hj,B⟩
 ·have q':(c'==c)=false:=by simpa using q
  simp only[List.lookup,q'] at e
  exact r c' z' e
theorem jb8{mg:Str->Option Value}{base:Heap}{k:Nat}{f:Str}{tab:List (String×Z.MF)}{to:TE}{ta:TA}{m:Z.ME}{l:Z.ML}(ok:jco C mg base k f tab)(ho:SE C E to m)(hl:SA C E ta l):
  SE C E (jgt C.P C.w C.K mg base (CXE C.P C.w) k f E to ta) (Z.jao tab f m l):=by
 intro ex bs h ρ σ H Q hr re p
 refine ho ex bs h ρ σ H _ hr re (p.bind λd x h1 bs1 H1 e1 rx p1=> ?_)
 obtain⟨⟨c,fs⟩,eo,p1⟩:=p1.oR
 obtain⟨z,ez,p1⟩:=p1.oR
 obtain⟨hn,p1⟩:=p1.chk
 obtain⟨a,dx,fvs,rfl,ha,rf⟩:=jwm e1.hr rx eo
 obtain⟨k1,k2⟩:=ok c z ez
 refine⟨a,_,dx,fvs,_,rfl,ha,k1,k2,rf.lookup.2 hn,?_⟩
 refine hl ex bs1 h1 ρ σ H1 _ e1.hr (re.ev e1) (p1.bind λds xs h2 bs2 H2 e2 rxs p2=> ?_)
 exact⟨ex,bs2,h2,d::ds,e2.hr,by simp only[RVs];exact⟨rx.ev e2,rxs⟩,p2⟩
theorem Ev.freezeI{k:Nat}{a:Addr}{c:String}{fs:List (Str×Z.D)}(hr:HR C ex bs h H)(hk:bs[k]?=some a)(h0:h[k]?=some (some (.ins c fs))):
  Ev C ex bs h H bs (h.set k none) H /\ RV C bs (gh ex bs (h.set k none) H) (.ref a) (.obj c fs):=by
 have ab:a∈bs:=List.mem_of_getElem? hk
 have lvs:∀x,lv bs (h.set k none) x->lv bs h x /\ x≠a:=λx ⟨j,c',e1,e2,l2⟩=>by
  by_cases hj:k=j
  ·subst hj;rw[List.getElem?_set_self (List.getElem?_eq_some_iff.mp h0).1] at e2;cases e2
  ·rw[List.getElem?_set_ne hj] at e2
   exact⟨⟨j,c',e1,e2,l2⟩,λz=>hj (hr.inj k j a hk (by rw[<-z];exact e1))⟩
 have sm:Same (gh ex bs h H) (gh ex bs (h.set k none) H):=λx u e=>by
  obtain⟨h1,h2,h3⟩:=jbe.mp e
  exact jbe.mpr ⟨h1,λl=>h2 (lvs x l).1,h3⟩
 obtain⟨dx,vs,h1,h2⟩:=hr.cell k a _ hk h0
 refine⟨⟨λ_ _ e=>e,⟨by simp[hr.len],hr.inj,hr.sep,hr.dom,hr.domx,λj x c' e1 e2=> ?_⟩,sm,λ_ _=>rfl⟩,?_⟩
 ·by_cases hj:k=j
  ·subst hj;rw[List.getElem?_set_self (List.getElem?_eq_some_iff.mp h0).1] at e2;cases e2
  ·rw[List.getElem?_set_ne hj] at e2
   exact(hr.cell j x c' e1 e2).mono (λ_ _ e=>e) sm rfl
 ·simp only[RV]
  exact⟨a,dx,vs,rfl,jbe.mpr ⟨λm=>hr.sep a m ab,λl=>(lvs a l).2 rfl,h1⟩,h2.mono (λ_ _ e=>e) sm⟩
theorem Ev.born{x dx:Addr}{c:String}(hr:HR C ex bs h H)(hx:H x=none)(hd:H dx=none)(ne:dx≠x):
  Ev C ex bs h H (bs++[x]) (h++[some (.ins c [])]) (upd (upd H dx (.own x)) x (.ins (C.cm c) dx [])):=by
 obtain⟨e1,_⟩:=Ev.alloc (o:= .own x) hr hd
 exact e1.trans (Ev.cell e1.hr (by rw[jan (Ne.symm ne)];exact hx) ⟨dx,[],jb6,by simp only[RVf]⟩)
theorem jgw{a:Addr}{c:String}{z:Z.MF}{tl:TA}{ml:Z.ML}(ea:C.cm c=a)(hl:SA C E tl ml):SE C E (jp0 a (spZ C z) [] E tl) (Z.jfb c z ml):=by
 intro ex bs h ρ σ H Q hr re p
 refine hl ex bs h ρ σ H _ hr re (p.bind λds xs h1 bs1 H1 e1 rx p1=> ?_)
 intro x dx hx hd ne
 rw[<-ea]
 have e2:=Ev.born (c:=c) e1.hr hx hd ne
 have kx:(bs1++[x])[h1.length]?=some x:=by rw[<-e1.hr.len];simp
 refine⟨ex,bs1++[x],h1++[some (.ins c [])],.ref h1.length::ds,e2.hr,?_,?_⟩
 ·simp only[RVs,RV]
  exact⟨⟨x,rfl,kx⟩,by rw[List.append_nil];exact rx.ev e2⟩
 ·refine(p1.from e2).bind (R1:=RV C) λd v h2 bs2 H2 e3 rv p3=> ?_
  cases d with
  | non=>
   simp only[RV] at rv
   refine⟨rv,?_⟩
   dsimp only at p3
   split at p3
   ·rename_i c' fs hc
    obtain⟨e4,r4⟩:=Ev.freezeI e3.hr (e3.pre _ _ kx) hc
    exact p3 (.ref x) bs2 H2 e4 r4
   ·exact p3.elim
  | _=>exact p3.elim
theorem jqt{a:Addr}{c:String}{z:Z.MF}{tl:TA}{ml:Z.ML}(ea:C.cm c=a)(hl:SA C E tl ml):SE C E (jp0 a (spZ C z) [] E tl) (Z.jo4 c z ml):=by
 intro ex bs h ρ σ H Q hr re p
 refine hl ex bs h ρ σ H _ hr re (p.bind λds xs h1 bs1 H1 e1 rx p1=> ?_)
 intro x dx hx hd ne
 rw[<-ea]
 have e2:=Ev.born (c:=c) e1.hr hx hd ne
 have kx:(bs1++[x])[h1.length]?=some x:=by rw[<-e1.hr.len];simp
 refine⟨ex,bs1++[x],h1++[some (.ins c [])],.ref h1.length::ds,e2.hr,?_,?_⟩
 ·simp only[RVs,RV]
  exact⟨⟨x,rfl,kx⟩,by rw[List.append_nil];exact rx.ev e2⟩
 ·refine(p1.from e2).bind (R1:=RV C) λd v h2 bs2 H2 e3 rv p3=> ?_
  cases d with
  | non=>
   simp only[RV] at rv
   exact⟨rv,Post.now e3.hr p3 (by simp only[RV];exact⟨x,rfl,e3.pre _ _ kx⟩)⟩
  | _=>exact p3.elim
theorem jf2{P:Program}{w:World}{K:W.Frag}{mg:Str->Option Value}{base:Heap}{CX:CXT}{k:Nat}{f:Addr}{fd:FuncData}{ps:List Str}:FnOk P w K mg base CX k f fd ps (spZ C (λ_ _=> .stuck)):=
 ⟨λvs H Q E ⟨_,_,_,_,_,_,p⟩=>p.elim,λA outer s H args us vs Q E _ _ _ _ ⟨_,_,_,_,_,_,p⟩=>p.elim⟩
theorem juz(ds:List Z.D)(i:Nat):(Z.jhq ds)[i]?=(ds[i]?).map λd=>Z.D.tup [.int i,d]:=by
 unfold Z.jhq
 rw[List.getElem?_mapIdx]
theorem ItOk.enum{a:Addr}{vs:List V}{ds:List Z.D}{G:Hp}(hq:SqL C.K G a vs)(r:RVs C bs G vs ds):ItOk C bs G (Ite C.K a) (none,Z.jhq ds):=by
 intro ex2 bs2 h2 H2 hr pre sm _ i
 have hq2:SqL C.K H2 a vs:=(sm.trans jbq).sql hq
 refine⟨λd e=> ?_,λhle=>⟨vs,hq2,by rw[r.len];simpa [Z.jhq] using hle⟩⟩
 rw[juz] at e
 cases e2:ds[i]? with
 | none=>rw[e2] at e;cases e
 | some d0=>
  rw[e2] at e
  simp only[Option.map_some,Option.some.injEq] at e
  subst e
  obtain⟨v,hv,rv⟩:=r.get e2
  refine⟨⟨vs,v,hq2,hv⟩,λx H3 y=> ?_⟩
  obtain⟨p,x',hp,hx',rfl,rfl⟩:=y
  have:=hx' vs hq2
  rw[hv] at this;cases this
  obtain⟨e3,g⟩:=Ev.alloc (o:= .tup [.int i,v]) hr hp
  refine⟨e3,?_⟩
  simp only[RV,RVs]
  exact⟨p,_,rfl,g,by simp only[RVs,RV];exact⟨trivial,(rv.mono pre sm).ev e3,trivial⟩⟩
theorem RVs.only{G:Hp}{xs:List V}{d:Z.D}(r:RVs C bs G xs [d]):∃x,xs=[x] /\ RV C bs G x d:=by
 cases xs with
 | nil=>simp only[RVs] at r
 | cons x xs=>
  simp only[RVs] at r
  cases xs with
  | nil=>exact⟨x,rfl,r.1⟩
  | cons y ys=>exact absurd r.2 (by simp only[RVs];exact id)
theorem jy1{t:TA}{m:Z.ML}(ht:SA C E t m):SI C E (juh C.K t) (Z.lEnum m):=by
 intro ex bs h ρ σ H Q hr re p
 refine ht ex bs h ρ σ H _ hr re (p.bind λds xs h1 bs1 H1 e1 rx p1=> ?_)
 split at p1
 ·obtain⟨x,rfl,ry⟩:=rx.only
  simp only[RV] at ry
  obtain⟨a,vs,rfl,ga,rs⟩:=ry
  exact⟨a,vs,rfl,SqL.of (jbq _ _ ga),Post.now e1.hr p1 (.enum (SqL.of ga) rs)⟩
 ·rename_i ns
  obtain⟨x,rfl,ry⟩:=rx.only
  simp only[RV] at ry
  obtain⟨a,rfl,ga⟩:=ry
  refine⟨a,_,rfl,jbq.sql ga,Post.now e1.hr p1 (.enum ga ?_)⟩
  clear ga p1 p rx
  induction ns with
  | nil=>simp only[List.map_nil,RVs]
  | cons n ns ih=>simp only[List.map_cons,RVs,RV];exact⟨trivial,ih⟩
 ·exact p1.elim
end
section
variable {C : Ct} {ex bs bs1 bs2 : List Addr} {h h1 h2 : Z.MH} {H H1 H2 : Hp} {E : XK}
theorem jo8{G:Hp}:∀(ns:List Int),RVs C bs G (ns.map V.int) (ns.map Z.D.int)
 | []=>by simp only[List.map_nil,RVs]
 | n::r=>by simp only[List.map_cons,RVs];exact⟨by simp only[RV],jo8 r⟩
theorem srt_of{ns ms:List Int}(h:jnx ns ms):ms=Z.srt ns:=by
 have h1:(Z.srt ns).Perm ns:=List.mergeSort_perm ns _
 have h2:(Z.srt ns).Pairwise (·<=·):=by
  have:=List.pairwise_mergeSort (le:=λ(a b:Int)=>decide (a<=b)) (λa b c x y=>decide_eq_true (Int.le_trans (of_decide_eq_true x) (of_decide_eq_true y))) (λa b=>by simp;omega) ns
  exact this.imp λx=>of_decide_eq_true x
 exact List.Perm.eq_of_pairwise (le:=(·<=·)) (λa b _ _ x y=>Int.le_antisymm x y) h.2 h2 (h.1.trans h1.symm)
theorem s_bits{to:TE}{mo:Z.ME}(ho:SE C E to mo):SE C E (tBM0 C.K "int" rBits to) (Z.mBits mo):=by
 intro ex bs h ρ σ H Q hr re p
 refine ho ex bs h ρ σ H _ hr re (p.bind λd x h1 bs1 H1 e1 rx p1=> ?_)
 cases d with
 | int i=>
  simp only[RV] at rx;subst rx
  exact⟨rfl,i,rfl,rfl,Post.now e1.hr p1 (by simp only[RV])⟩
 | _=>exact p1.elim
end
end L2
namespace L2
open PySem PySem.Spec PyProof.Rows
structure FnM (K:W.Frag) (x q:Str) (st:Stmt) (f:Addr) (fd:FuncData) (ps:List Str):Prop where
 F:Fun K x q st f fd
 B:jfc K fd ps []
structure FnT (K:W.Frag) (mg:Str->Option Value) (x q:Str) (st:Stmt) (f:Addr) (fd:FuncData) (ps:List Str):Prop where
 F:Fun K x q st f fd
 B:jfc K fd ps []
 m:mg x=some (.ref f)
structure ClsT (K:W.Frag) (mg:Str->Option Value) (x:Str) (c:Addr):Prop where
 cl:Cls K c
 mc:mg x=some (.ref c)
 ms:W.makesIn K c=true
 kc:W.keepIn K (.ref c)=true
section
variable {K : W.Frag} {h : Heap} {mg : Str -> Option Value} {x q : Str} {st : Stmt} {f c : Addr} {oc : Value} {od an : Option Addr} {osl : Array (Option Value)} {kV doc pm cdv ct : Value} {ps : List Str}
theorem lenN{P:List Value->Prop}(h:P []):∀us:List Value,us.length=([]:List Str).length->P us
 | [],_=>h
theorem lenC{P:List Value->Prop}{x:Str}{ps:List Str}(h:∀a,∀us:List Value,us.length=ps.length->P (a::us)):∀us:List Value,us.length=(x::ps).length->P us
 | a::us,e=>h a us (Nat.succ.inj e)
theorem fnm(l:K.lookup f=some ⟨oc,od,.func (W.fnOf x q (je4 st) (jdc st) (jaa st) .none kV doc pm an cdv ct),osl⟩)
  (c:W.codeIn K cdv q=true) (k:W.keepIn K (.ref f)=true)
  (b:∀(kV doc pm:Value) (an:Option Addr) (cdv ct:Value) (us:List Value),us.length=ps.length->bindArgs (W.fnOf x q (je4 st) (jdc st) (jaa st) .none kV doc pm an cdv ct) ⟨us,[]⟩=pure (ps.zip us):=by intro _ _ _ _ _ _;repeat (first | exact lenN rfl | refine lenC λ_=> ?_)):
  FnM K x q st f (W.fnOf x q (je4 st) (jdc st) (jaa st) .none kV doc pm an cdv ct) ps:=⟨jx4 l c k,(jx4 l c k).binds b⟩
theorem fnt(X:K.In h)(G:h.Ns mainGlobals mg)(a:W.nsIn K mainGlobals x=some (some (.ref f)))(M:FnM K x q st f (W.fnOf x q (je4 st) (jdc st) (jaa st) .none kV doc pm an cdv ct) ps):
  FnT K mg x q st f (W.fnOf x q (je4 st) (jdc st) (jaa st) .none kV doc pm an cdv ct) ps:=⟨M.F,M.B,W.mg_of X G a⟩
theorem clm(X:K.In h)(G:h.Ns mainGlobals mg)(a:W.nsIn K mainGlobals x=some (some (.ref c)))(pg:W.plainGet K c Str.empty=true)(hd:W.hasDictIn K c=true)(po:W.plainOver K c=true)
  (sa:W.findIn K (.ref c) "__setattr__"=some (some (.builtin "object.__setattr__"))) (mk:W.makesIn K c=true) (kc:W.keepIn K (.ref c)=true):ClsT K mg x c:=⟨⟨pg,hd,po,sa⟩,W.mg_of X G a,mk,kc⟩
theorem naOf{a:Str}(h:W.findIn K (.ref c) a=some none):jbj K c a:=h
theorem ClsT.k(C:ClsT K mg x c):GV mg x (.ref c):=⟨_,C.mc,rfl⟩
theorem ClsT.mkk(C:ClsT K mg x c)(M:Meth K c "__init__" f):Mk K c f:=⟨C.ms,M.at_,M.fn,C.kc⟩
end
theorem gOf{P:Program}{w:World}{K:W.Frag}{mg:Str->Option Value}{base:Heap}{CX:CXT}{k:Nat}{x q:Str}{st:Stmt}{f:Addr}{fd:FuncData}{ps:List Str}{sp:Sp}(H:FnT K mg x q st f fd ps)(o:FnOk P w K mg base CX k f fd ps sp):FnG P w K mg base CX k x sp:=⟨f,fd,ps,o,H.m,H.F.kp,H.B⟩
theorem mOf{P:Program}{w:World}{K:W.Frag}{mg:Str->Option Value}{base:Heap}{CX:CXT}{k:Nat}{x y q:Str}{st:Stmt}{c f:Addr}{fd:FuncData}{ps:List Str}{sp:Sp}(C:ClsT K mg x c)(M:Meth K c "__init__" f)(H:FnM K y q st f fd ps)(o:FnOk P w K mg base CX k f fd ps sp):jxl P w K mg base CX k x c sp:=⟨f,fd,ps,C.mkk M,o,C.mc,H.B⟩
theorem scof{N P:List Str}{sc:Scope}(a:sc.kind= .function:=by rfl)(b:sc.isCoroutine=false:=by rfl)(c:sc.isGenerator=false:=by rfl)(d:N.Nodup:=by decide+kernel)(e:N.take P.length=P:=by rfl)
  (f:∀x∈P,sc.names.lookup x=some .local \/ sc.names.lookup x=some .cell:=by decide+kernel) (g:∀y∈sc.names,y.2≠ .free:=by decide+kernel):FnScope N P sc:=⟨a,b,c,d,e,f,g⟩
theorem okZ2{C:Ct}{P:Program}{w:World}{K:W.Frag}{mg:Str->Option Value}{base:Heap}{x qual:Str}{st:Stmt}{f:Addr}{fd:FuncData}{N ps:List Str}{k np nn:Nat}{b:Z.MS}{z:Z.MF}(F:Fun K x qual st f fd)(S:FnScope N ps (jaa st))
  (hb:∀(cdv:Value) (A:Around) (outer:List Env) (s:Shared) (H:Hp) (E:XK),Room k (A.deeper (envOfC qual (jaa st) s.heap.objs.size f cdv))->
   ∃t,PSs (cxOf (CXE P w) P w K mg base N qual (jaa st) f cdv A outer s H E) (jdc st) t /\ SS C E t b)
  (hz:z=Z.mFun np nn b:=by rfl) (hp:ps.length=np:=by rfl) (hn:N.length=nn:=by rfl) (hle:np<=nn:=by decide):FnOk P w K mg base (CXE P w) (k+1) f fd ps (spZ C z):=
 okZ F S hz hp hn hle hb
theorem hm{j k:Nat}{A:Around}(r:Room k A)(h:j<=k:=by decide):Room j A:=r.mono h
theorem ixq(P:Program)(w:World)(K:W.Frag){X:Cx}{a b:Expr}{ta tb:TE}{pos:Pos}(hu:X.A.units+64<cLine)(ha:PE X a ta)(hb:PE X b tb)(hs:jpz b:=by exact λ_ _=>rfl)(p:X.prog=P:=by rfl)(w':X.w=w:=by rfl)(k:X.K=K:=by rfl):PE X (.Subscript a b pos) (tOp (uIx P w K) ta tb):=pe_ix (ix_K p w' k hu) ha hb hs
theorem mdq(P:Program)(w:World)(K:W.Frag)(mg:Str->Option Value)(base:Heap)(k:Nat){X:Cx}{m:Str}{E:XK}{e:Expr}{ta:TE}{t:TA}(h:PE X e (jgt X.prog X.w X.K X.mg X.base (CXE P w) k m E ta t))(h1:X.prog=P:=by rfl)(h2:X.w=w:=by rfl)(h3:X.K=K:=by rfl)(h4:X.mg=mg:=by rfl)(h5:X.base=base:=by rfl):PE X e (jgt P w K mg base (CXE P w) k m E ta t):=pe_mdK h1 h2 h3 h4 h5 h
section
variable {C : Ct} {ex bs bs1 bs2 : List Addr} {h h1 h2 : Z.MH} {H H1 H2 : Hp} {E : XK}
theorem jty{mg:Str->Option Value}{base:Heap}{k:Nat}{f:Str}{tab:List (String×Z.MF)}{to:TE}{ta:TA}{m:Z.ME}{l:Z.ML}(ok:jco C mg base k f tab)(ho:∀F,SE C (FE F) to m)(hl:SA C E0 ta l):
  SXE C (jol C.P C.w C.K mg base k f to ta) (Z.jao tab f m (Z.lNox l)):=λF=>jb8 ok (ho F) (s_noxA hl)
def NoD(G G':Hp):Prop:=∀x u,G x=some u->(∃o kw,u= .frz o (.dK kw) /\ o.cls= .type "dict") \/ G' x=some u
def NoDa(a:Addr)(G G':Hp):Prop:=NoD G G' /\ ∀x u,x≠a->G x=some u->G' x=some u
theorem NoD.sql{K:W.Frag}{G G':Hp}{a:Addr}{xs:List V}(e:NoD G G')(h:SqL K G a xs):SqL K G' a xs:=by
 rcases h with(h | ⟨o,h⟩) | h
 ·rcases e _ _ h with⟨_,_,z,_⟩ | z
  ·cases z
  ·exact .inl (.inl z)
 ·rcases e _ _ h with⟨_,_,z,_⟩ | z
  ·cases z
  ·exact .inl (.inr ⟨o,z⟩)
 ·exact .inr h
mutual
theorem RV.noD{G G':Hp}(hs:NoD G G'):∀{d:Z.D} {v:V},RV C bs G v d->RV C bs G' v d
 | .non,v,h=>by simp only[RV] at h ⊢;exact h
 | .bl b,v,h=>by simp only[RV] at h ⊢;exact h
 | .int i,v,h=>by simp only[RV] at h ⊢;exact h
 | .str x,v,h=>by simp only[RV] at h ⊢;exact h
 | .tup ds,v,h=>by
  simp only[RV] at h ⊢
  obtain⟨a,vs,h1,h2,h3⟩:=h
  rcases hs _ _ h2 with⟨_,_,z,_⟩ | z
  ·cases z
  ·exact⟨a,vs,h1,z,RVs.noD hs h3⟩
 | .lst ds,v,h=>by
  simp only[RV] at h ⊢
  obtain⟨a,vs,h1,h2,h3⟩:=h
  rcases hs _ _ h2 with⟨_,_,z,_⟩ | z
  ·cases z
  ·exact⟨a,vs,h1,z,RVs.noD hs h3⟩
 | .arg ns,v,h=>by
  simp only[RV] at h ⊢
  obtain⟨a,h1,h2⟩:=h
  exact⟨a,h1,hs.sql h2⟩
 | .ref k,v,h=>by simp only[RV] at h ⊢;exact h
 | .ty n,v,h=>by simp only[RV] at h ⊢;exact h
 | .cls n,v,h=>by simp only[RV] at h ⊢;exact h
 | .exc c,v,h=>by
  simp only[RV] at h ⊢
  obtain⟨a,oe,u,h1,h2,h3⟩:=h
  rcases hs _ _ h2 with⟨_,_,z,zc⟩ | z
  ·cases z;rw[h3] at zc;cases zc
  ·exact⟨a,oe,u,h1,z,h3⟩
 | .obj c fs,v,h=>by
  simp only[RV] at h ⊢
  obtain⟨a,dx,fvs,h1,h2,h3⟩:=h
  rcases hs _ _ h2 with⟨_,_,z,_⟩ | z
  ·cases z
  ·exact⟨a,dx,fvs,h1,z,RVf.noD hs h3⟩
 | .dic kvs,v,h=>by simp only[RV] at h ⊢;exact h
theorem RVs.noD{G G':Hp}(hs:NoD G G'):∀{ds:List Z.D} {vs:List V},RVs C bs G vs ds->RVs C bs G' vs ds
 | [],[],_=>by simp only[RVs]
 | d::ds,v::vs,h=>by
  simp only[RVs] at h ⊢
  exact⟨RV.noD hs h.1,RVs.noD hs h.2⟩
 | [],_::_,h=>by simp only[RVs] at h
 | _::_,[],h=>by simp only[RVs] at h
theorem RVf.noD{G G':Hp}(hs:NoD G G'):∀{ds:List (Str×Z.D)} {vs:List (Str×V)},RVf C bs G vs ds->RVf C bs G' vs ds
  | [],[],_=>by simp only[RVf]
  | (y,d)::ds,(x,v)::vs,h=>by
    simp only[RVf] at h ⊢
    exact⟨h.1,RV.noD hs h.2.1,RVf.noD hs h.2.2⟩
  | [],_::_,h=>by simp only[RVf] at h
  | _::_,[],h=>by simp only[RVf] at h
theorem RVk.noD{G G':Hp}(hs:NoD G G'):∀{ds:List (Sum Int Str×Z.D)} {vs:List (Key×V)},RVk C bs G vs ds->RVk C bs G' vs ds
  | [],[],_=>by simp only[RVk]
  | (y,d)::ds,(x,v)::vs,h=>by
    simp only[RVk] at h ⊢
    exact⟨h.1,RV.noD hs h.2.1,RVk.noD hs h.2.2⟩
  | [],_::_,h=>by simp only[RVk] at h
  | _::_,[],h=>by simp only[RVk] at h
end
theorem RVk.get{G:Hp}:∀{ds:List (Sum Int Str×Z.D)} {vs:List (Key×V)},RVk C bs G vs ds->ds.length=vs.length /\ ∀(i:Nat) (d:Z.D),(ds.map (·.2))[i]?=some d->∃k v,vs[i]?=some (k,v) /\ RV C bs G v d
  | [],[],_=>⟨rfl,λi d e=>by simp at e⟩
  | (y,d)::ds,(x,v)::vs,h=>by
    simp only[RVk] at h
    obtain⟨h1,h2,h3⟩:=h
    obtain⟨i1,i2⟩:=RVk.get h3
    refine⟨by simp[i1],λi d' e=> ?_⟩
    cases i with
    | zero=>simp at e;subst e;exact⟨x,v,rfl,h2⟩
    | succ i=>exact i2 i d' (by simpa using e)
  | [],_::_,h=>by simp only[RVk] at h
  | _::_,[],h=>by simp only[RVk] at h
theorem ItOk.vals{G:Hp}{a:Addr}{o:Obj}{kws:List (Key×V)}{kvs:List (Sum Int Str×Z.D)}(hg:G a=some (.frz o (.dK kws)))(r:RVk C bs G kws kvs):ItOk C bs G (Itfz a o kws) (none,kvs.map (·.2)):=by
 intro ex2 bs2 h2 H2 hr pre sm _ i
 have ha:H2 a=some (.frz o (.dK kws)):=jbq _ _ (sm _ _ hg)
 obtain⟨hl,hget⟩:=r.get
 refine⟨λd e=> ?_,λhle=>⟨ha,by simp at hle;omega⟩⟩
 obtain⟨k,v,hv,rv⟩:=hget i d e
 refine⟨⟨ha,(List.getElem?_eq_some_iff.mp hv).1⟩,λx H3 y=> ?_⟩
 obtain⟨rfl,y⟩:=y
 rw[hv] at y
 simp at y
 subst y
 exact⟨Ev.refl hr,rv.mono pre sm⟩
theorem jed.noD{G G':Hp}{a b:Addr}{c:Z.Cell}(hn:NoDa b G G')(na:a≠b)(e:H1 a=H a)(q:jed C bs G H a c):jed C bs G' H1 a c:=by
 have hs:=hn.1
 cases c with
 | lst ds=>obtain⟨vs,h1,h2⟩:=q;exact⟨vs,by rw[e];exact h1,h2.noD hs⟩
 | dct kvs=>obtain⟨vs,h1,h2⟩:=q;exact⟨vs,by rw[e];exact h1,h2.noD hs⟩
 | ins c fs=>obtain⟨dx,vs,h1,h2⟩:=q;exact⟨dx,vs,by rw[e];exact h1,h2.noD hs⟩
 | fdc kvs=>obtain⟨o,vs,h1,hc,h2⟩:=q;exact⟨o,vs,hn.2 _ _ na h1,hc,h2.noD hs⟩
theorem Ev.froze{k:Nat}{a:Addr}{o:Obj}{kvs:List (Sum Int Str×Z.D)}{kws:List (Key×V)}(hr:HR C ex bs h H)(hk:bs[k]?=some a)(h0:h[k]?=some (some (.dct kvs)))(ha:H a=some (.dK kws)):
  Ev C ex bs h H bs (h.set k none) (upd H a (.frz o (.dK kws))) /\ gh ex bs (h.set k none) (upd H a (.frz o (.dK kws))) a=some (.frz o (.dK kws)):=by
 have ab:a∈bs:=List.mem_of_getElem? hk
 have lk:=(List.getElem?_eq_some_iff.mp h0).1
 have lvs:∀x,lv bs (h.set k none) x->lv bs h x /\ x≠a:=λx ⟨j,c',e1,e2,l2⟩=>by
  by_cases hj:k=j
  ·subst hj;rw[List.getElem?_set_self lk] at e2;cases e2
  ·rw[List.getElem?_set_ne hj] at e2
   exact⟨⟨j,c',e1,e2,l2⟩,λz=>hj (hr.inj k j a hk (by rw[<-z];exact e1))⟩
 have la:lv bs h a:=⟨k,_,hk,h0,rfl⟩
 have sm:Same (gh ex bs h H) (gh ex bs (h.set k none) (upd H a (.frz o (.dK kws)))):=λx u e=>by
  obtain⟨h1,h2,h3⟩:=jbe.mp e
  have:x≠a:=λz=>h2 (z▸la)
  exact jbe.mpr ⟨h1,λl=>h2 (lvs x l).1,by rw[jan this];exact h3⟩
 refine⟨⟨λ_ _ e=>e,⟨by simp[hr.len],hr.inj,hr.sep,λx m=> ?_,λx m=> ?_,λj x c' e1 e2=> ?_⟩,sm,λx m=> ?_⟩,jbe.mpr ⟨λm=>hr.sep a m ab,λl=>(lvs a l).2 rfl,jb6⟩⟩
 ·by_cases q:x=a
  ·subst q;rw[jb6];simp
  ·rw[jan q];exact hr.dom x m
 ·have:x≠a:=λz=>hr.sep x m (z▸ab)
  rw[jan this];exact hr.domx x m
 ·by_cases hj:k=j
  ·subst hj;rw[List.getElem?_set_self lk] at e2;cases e2
  ·rw[List.getElem?_set_ne hj] at e2
   have:x≠a:=λz=>hj (hr.inj k j a hk (by rw[<-z];exact e1))
   exact(hr.cell j x c' e1 e2).mono (λ_ _ e=>e) sm (jan this)
 ·exact jan λz=>hr.sep x m (z▸ab)
theorem Ev.thawed{k:Nat}{a:Addr}{o:Obj}{kvs:List (Sum Int Str×Z.D)}{kws:List (Key×V)}(hr:HR C ex bs h H)(hk:bs[k]?=some a)(h0:h[k]?=some (some (.dct kvs)))(rk:RVk C bs (gh ex bs h H) kws kvs)(hc:o.cls= .type "dict")
  (ev:Ev C ex bs h H bs1 h1 H1) (lk:k<h1.length) (ha:H1 a=some (.frz o (.dK kws))):NoD (gh ex bs1 h1 H1) (gh ex bs1 (h1.set k (some (.dct kvs))) (upd H1 a (.dK kws))) /\ Ev C ex bs h H bs1 (h1.set k (some (.dct kvs))) (upd H1 a (.dK kws)):=by
 have hk1:=ev.pre k a hk
 have ab:a∈bs1:=List.mem_of_getElem? hk1
 have lvs:∀x,lv bs1 (h1.set k (some (.dct kvs))) x->lv bs1 h1 x \/ x=a:=λx ⟨j,c',e1,e2,l2⟩=>by
  by_cases hj:k=j
  ·subst hj;rw[hk1] at e1;cases e1;exact .inr rfl
  ·rw[List.getElem?_set_ne hj] at e2
   exact .inl ⟨j,c',e1,e2,l2⟩
 have nd:NoD (gh ex bs1 h1 H1) (gh ex bs1 (h1.set k (some (.dct kvs))) (upd H1 a (.dK kws))):=λx u e=>by
  obtain⟨q1,q2,q3⟩:=jbe.mp e
  by_cases q:x=a
  ·subst q;rw[ha] at q3;cases q3;exact .inl ⟨o,kws,rfl,hc⟩
  ·exact .inr (jbe.mpr ⟨q1,λl=>(lvs x l).elim q2 q,by rw[jan q];exact q3⟩)
 have nda:NoDa a (gh ex bs1 h1 H1) (gh ex bs1 (h1.set k (some (.dct kvs))) (upd H1 a (.dK kws))):=⟨nd,λx u q e=>by
  obtain⟨q1,q2,q3⟩:=jbe.mp e
  exact jbe.mpr ⟨q1,λl=>(lvs x l).elim q2 q,by rw[jan q];exact q3⟩⟩
 have la:lv bs h a:=⟨k,_,hk,h0,rfl⟩
 refine⟨nd,ev.pre,⟨by simp[ev.hr.len],ev.hr.inj,ev.hr.sep,λx m=> ?_,λx m=> ?_,λj x c' e1 e2=> ?_⟩,λx u e=> ?_,λx m=> ?_⟩
 ·by_cases q:x=a
  ·subst q;rw[jb6];simp
  ·rw[jan q];exact ev.hr.dom x m
 ·have:x≠a:=λz=>ev.hr.sep x m (z▸ab)
  rw[jan this];exact ev.hr.domx x m
 ·by_cases hj:k=j
  ·subst hj
   rw[List.getElem?_set_self lk] at e2
   cases e2
   rw[hk1] at e1;cases e1
   exact⟨kws,jb6,(rk.mono ev.pre ev.same).noD nd⟩
  ·rw[List.getElem?_set_ne hj] at e2
   have:x≠a:=λz=>hj (ev.hr.inj k j a hk1 (by rw[<-z];exact e1))
   exact(ev.hr.cell j x c' e1 e2).noD nda this (jan this)
 ·rcases nd x u (ev.same x u e) with⟨o',kw,rfl,_⟩ | z
  ·obtain⟨q1,q2,q3⟩:=jbe.mp (ev.same x _ e)
   obtain⟨p1,p2,p3⟩:=jbe.mp e
   have:x≠a:=λz=>p2 (z▸la)
   exact jbe.mpr ⟨q1,λl=>(lvs x l).elim q2 this,by rw[jan this];exact q3⟩
  ·exact z
 ·have:x≠a:=λz=>ev.hr.sep x m (z▸ab)
  rw[jan this];exact ev.exs x m
theorem jxx{to:TE}{g:TG}{tb:TS}{mo:Z.ME}{mg:Z.MG}{mb:Z.MS}(ho:SE C E to mo)(hg:SG C E g mg)(hb:SS C E tb mb):SS C E (tForV to g tb) (Z.sForV mo mg mb):=by
 intro ex bs h ρ σ H D hr re p N
 refine ho ex bs h ρ σ H _ hr re (p.bind λd x h1 bs1 H1 e1 rx p1=> ?_)
 cases d with
 | ref k=>
  simp only[RV] at rx
  obtain⟨a,rfl,hk⟩:=rx
  dsimp only at p1
  split at p1
  ·rename_i kvs h0
   obtain⟨kws,ha,rk⟩:=e1.hr.cell k a _ hk h0
   refine⟨a,kws,rfl,ha,λo oc na=> ?_⟩
   obtain⟨e2,ga⟩:=Ev.froze (o:=o) e1.hr hk h0 ha
   refine jrw (gd:=none) (items:=kvs.map (·.2)) hg hb e2.hr ((re.ev e1).ev e2) (.vals ga (rk.mono e2.pre e2.same)) ?_
   rw[Z.jd4]
   have hfz:∀{bs':List Addr} {h':Z.MH} {H':Hp},Ev C ex bs1 (h1.set k none) (upd H1 a (.frz o (.dK kws))) bs' h' H'->H' a=some (.frz o (.dK kws)):=λev=>jbq _ _ (ev.same _ _ ga)
   cases er:Z.jdf mg mb (kvs.map (·.2)) ρ (h1.set k none) with
   | nx ρ' h'=>
    rw[er] at p1
    dsimp only[Z.jxp] at p1
    split at p1
    ·rename_i hn
     intro σ' bs' H' ev re'
     obtain⟨nd,e3⟩:=Ev.thawed e1.hr hk h0 rk oc (e2.trans ev) (List.getElem?_eq_some_iff.mp hn).1 (hfz ev)
     exact⟨a,o,kws,na,hfz ev,p1 σ' bs' _ e3 ⟨re'.1,λi d q=>by obtain⟨v,q1,q2⟩:=re'.2 i d q;exact⟨v,q1,q2.noD nd⟩⟩⟩
    ·exact p1.elim
   | rt d h'=>
    rw[er] at p1
    dsimp only[Z.jxp] at p1
    split at p1
    ·rename_i hn
     intro v bs' H' ev rv
     obtain⟨nd,e3⟩:=Ev.thawed e1.hr hk h0 rk oc (e2.trans ev) (List.getElem?_eq_some_iff.mp hn).1 (hfz ev)
     exact⟨a,o,kws,na,hfz ev,p1 v bs' _ e3 (rv.noD nd)⟩
    ·exact p1.elim
   | exc c h'=>
    rw[er] at p1
    exact λbs' H' ev=>p1 bs' H' (e2.trans ev)
   | bk ρ' h'=>rw[er] at p1;exact p1.elim
   | ct ρ' h'=>rw[er] at p1;exact p1.elim
   | stuck=>rw[er] at p1;exact p1.elim
  ·exact p1.elim
 | _=>exact p1.elim
end
section
variable {C : Ct} {ex bs bs1 bs2 : List Addr} {h h1 h2 : Z.MH} {H H1 H2 : Hp} {E : XK}
theorem fldc{f:Str}{c:String}{a:Addr}{tab:List String}(hc:C.cm c=a)(cl:Cls C.K a)(na:jbj C.K a f)(r:jeh C f tab):jeh C f (c::tab):=by subst hc;exact jub cl na r
theorem subc{W a:Addr}{c:String}{b:Bool}{tab:List (String×Bool)}(hc:C.cm c=a)(q:PySem.W.mroIn C.K a (.ref W)=some b)(r:jh6 C W tab):jh6 C W ((c,b)::tab):=by subst hc;exact jvd q r
theorem mtc{mg:Str->Option Value}{base:Heap}{k j:Nat}{m:Str}{c:String}{a:Addr}{z:Z.MF}{tab:List (String×Z.MF)}{f:Addr}{fd:FuncData}{ps:List Str}(hc:C.cm c=a)(cl:Cls C.K a)(b:Meth C.K a m f)(F:FnOk C.P C.w C.K mg base (CXE C.P C.w) j f fd ps (spZ C z))(hj:j<=k)(B:jfc C.K fd ps [])(r:jco C mg base k m tab):jco C mg base k m ((c,z)::tab):=by subst hc;exact jyq cl b F hj B r
end
section
variable {C : Ct} {ex bs bs1 bs2 : List Addr} {h h1 h2 : Z.MH} {H H1 H2 : Hp} {E : XK}
theorem jnt{tl:TA}{ml:Z.ML}(hl:SA C E tl ml):SN C E (tCB (jmr C.K) tl) (Z.jj7 ml):=by
 intro ex bs h ρ σ H Q hr re p
 refine hl ex bs h ρ σ H _ hr re (jd2.bind p λds xs h1 bs1 H1 e1 rx p1=> ?_)
 split at p1
 ·obtain⟨v,rfl,r⟩:=jfx rx
  rename_i d
  cases e':Z.asLi h1 d with
  | none=>rw[e'] at p1;exact p1.elim
  | some ns=>
   rw[e'] at p1
   obtain⟨q,p1⟩:=jd2.chk (show jd2 C ex E bs1 h1 H1 (Z.chk (ns.length<64) _) Q from p1)
   obtain⟨a,rfl,hq⟩:=jxj e1.hr r e'
   refine⟨a,ns,rfl,hq,q,λl ms hs hl=> ?_⟩
   rw[srt_of hs]
   exact jd2.now e1.hr p1 hl (jo8 _)
 ·exact p1.elim
end
end L2
namespace Z
open PySem
theorem jc3{α:Type}{g:MG}{t:MT}{m:ME}{ρ0:Ro}{h:MH}(e:α->D)(r:α->Ro)(f:α->D):∀(as:List α),(∀a∈as,g (e a) ρ0 h= .nx (r a) h /\ t (r a) h= .ok true h /\ m (r a) h= .ok (f a) h)->compLoop g t m ρ0 (as.map e) h= .ok (as.map f) h
 | [],_=>by unfold compLoop;rfl
 | a::as,q=>by
  obtain⟨h1,h2,h3⟩:=q a (List.mem_cons_self ..)
  rw[List.map_cons]
  unfold compLoop
  simp only[h1,h2,h3,jc3 e r f as λb hb=>q b (List.mem_cons_of_mem _ hb),List.map_cons]
@[simp] theorem jr9(ns:List Int):jld (ns.map D.int)=some ns:=by
 induction ns with
 | nil=>rfl
 | cons n ns ih=>simp[ih]
@[simp] theorem jr7(ns:List Str):jsx (ns.map D.str)=some ns:=by
 induction ns with
 | nil=>rfl
 | cons n ns ih=>simp[ih]
@[simp] theorem boolsD_map(ns:List Bool):jjy (ns.map D.bl)=some ns:=by
 induction ns with
 | nil=>rfl
 | cons n ns ih=>simp[ih]
@[simp] theorem rng_length(lo:Int)(n:Nat):(rng lo n).length=n:=by simp[rng]
@[simp] theorem sIx_one(n:Nat):sIx (n+1) 0 (some 1)=1:=by simp[sIx]
@[simp] theorem cut_one{α:Type}(x:α)(xs:List α):cut (x::xs) (some 1) none=xs:=by
 unfold cut
 rw[show sIx (x::xs).length 0 (some 1)=1 by simp[sIx]]
 simp[sIx]
@[simp] theorem atI_zero{α:Type}(a:α)(l:List α):atI (a::l) 0=some a:=by simp[atI,ixN]
@[simp] theorem atI_one{α:Type}(a b:α)(l:List α):atI (a::b::l) 1=some b:=by
 unfold atI ixN
 rw[if_pos (by decide),if_pos (by simp only[List.length_cons];omega)];rfl
@[simp] theorem atI_two{α:Type}(a b c:α)(l:List α):atI (a::b::c::l) 2=some c:=by
 unfold atI ixN
 rw[if_pos (by decide),if_pos (by simp only[List.length_cons];omega)];rfl
theorem jws{c:Nat}:∀{a b x y:List Nat},c∉a->c∉b->a++c::x=b++c::y->a=b /\ x=y
 | [],[],x,y,_,_,e=>⟨rfl,(List.cons.inj e).2⟩
 | [],k::b,x,y,_,hb,e=>by
  have:=(List.cons.inj e).1
  exact absurd (by rw[this];exact List.mem_cons_self ..) hb
 | k::a,[],x,y,ha,_,e=>by
  have:=(List.cons.inj e).1
  exact absurd (by rw[<-this];exact List.mem_cons_self ..) ha
 | k::a,j::b,x,y,ha,hb,e=>by
  obtain⟨e1,e2⟩:=List.cons.inj e
  obtain⟨h1,h2⟩:=jws (λm=>ha (List.mem_cons_of_mem _ m)) (λm=>hb (List.mem_cons_of_mem _ m)) e2
  exact⟨by rw[e1,h1],h2⟩
theorem jwl{c:Nat}{a b x:List Nat}(ha:c∉a)(e:a=b++c::x):False:=ha (by rw[e];simp)
theorem jr1{a b:Str}(h:a.cps.toList=b.cps.toList):a=b:=by
 obtain⟨⟨x⟩⟩:=a
 obtain⟨⟨y⟩⟩:=b
 simp at h;rw[h]
theorem jeo{c:Nat}{p q:Str}{r:List Str}:(Str.join ⟨#[c]⟩ (p::q::r)).cps.toList=p.cps.toList++c::(Str.join ⟨#[c]⟩ (q::r)).cps.toList:=by
 show(p++⟨#[c]⟩++Str.join ⟨#[c]⟩ (q::r)).cps.toList=_
 simp only[Str.cps_append,Array.toList_append]
 simp
theorem jnn{c:Nat}:∀{ps qs:List Str},ps≠[]->qs≠[]->(∀p∈ps,c∉p.cps.toList)->(∀q∈qs,c∉q.cps.toList)->Str.join ⟨#[c]⟩ ps=Str.join ⟨#[c]⟩ qs->ps=qs
 | [],_,h,_,_,_,_=>absurd rfl h
 | _,[],_,h,_,_,_=>absurd rfl h
 | [p],[q],_,_,_,_,e=>by rw[show p=q from e]
 | [p],q::q'::r,_,_,hp,_,e=>by
  have:=congrArg (λz:Str=>z.cps.toList) e
  rw[jeo] at this
  exact(jwl (hp p (List.mem_cons_self ..)) this).elim
 | p::p'::r,[q],_,_,_,hq,e=>by
  have:=congrArg (λz:Str=>z.cps.toList) e
  rw[jeo] at this
  exact(jwl (hq q (List.mem_cons_self ..)) this.symm).elim
 | p::p'::r,q::q'::r',_,_,hp,hq,e=>by
  have:=congrArg (λz:Str=>z.cps.toList) e
  rw[jeo,jeo] at this
  obtain⟨h1,h2⟩:=jws (hp p (List.mem_cons_self ..)) (hq q (List.mem_cons_self ..)) this
  have:=jnn (ps:=p'::r) (qs:=q'::r') (λz=>nomatch z) (λz=>nomatch z) (λa ha=>hp a (List.mem_cons_of_mem _ ha)) (λa ha=>hq a (List.mem_cons_of_mem _ ha)) (jr1 h2)
  rw[this,jr1 h1]
theorem jg0(x y:Str):Txt.split x y≠[]:=by
 unfold Txt.split
 split
 ·exact λz=>nomatch z
 ·split
  ·exact λz=>nomatch z
  ·rw[StrLaws.partsBetween_eq]
   obtain⟨p,r,e⟩:=StrLaws.partsFrom_ne x y.length 0 (Builtin.Str.occurrences x y 0 x.length (x.length+1))
   rw[e];exact λz=>nomatch z
theorem jpe{c:Nat}{ps:List Str}(h0:ps≠[])(h:∀p∈ps,c∉p.cps.toList):Txt.split (Str.join ⟨#[c]⟩ ps) ⟨#[c]⟩=ps:=
 jnn (jg0 _ _) h0 (StrLaws.split_free _ c) h (StrLaws.join_split _ _)
theorem jof(s:Str)(ps:List Str):Txt.join s ps=Str.join s ps:=StrLaws.glued_eq_join s ps
theorem jhj{c:Nat}:∀(ps:List Str),ps≠[]->(Str.join ⟨#[c]⟩ ps).length+1=(ps.map (·.length)).sum+ps.length
 | [],h=>absurd rfl h
 | [p],_=>by simp[Str.join]
 | p::q::r,_=>by
  have ih:=jhj (c:=c) (q::r) (λz=>nomatch z)
  have e:(Str.join ⟨#[c]⟩ (p::q::r)).length=p.length+1+(Str.join ⟨#[c]⟩ (q::r)).length:=by
   show(p++⟨#[c]⟩++Str.join ⟨#[c]⟩ (q::r)).length=_
   rw[Str.length_append,Str.length_append];rfl
  rw[e]
  simp only[List.map_cons,List.sum_cons,List.length_cons] at ih ⊢
  omega
theorem jtb(x:Str)(c:Nat):(Txt.split x ⟨#[c]⟩).length<=x.length+1:=by
 have h:=jhj (c:=c) (Txt.split x ⟨#[c]⟩) (jg0 _ _)
 rw[StrLaws.join_split] at h
 omega
mutual
theorem js0:∀{d:D} {p:PyData},d.py=some p->d.eq d=true
 | .non,_,_=>by simp[D.eq]
 | .bl b,_,_=>by simp[D.eq]
 | .int i,_,_=>by simp[D.eq]
 | .str x,_,_=>by simp[D.eq]
 | .tup ds,_,e=>by
  simp only[D.py,Option.map_eq_some_iff] at e
  obtain⟨ps,h,_⟩:=e
  simp only[D.eq];exact jj6 h
 | .lst ds,_,e=>by
  simp only[D.py,Option.map_eq_some_iff] at e
  obtain⟨ps,h,_⟩:=e
  simp only[D.eq];exact jj6 h
 | .arg _,_,e=>by simp only[D.py] at e;cases e
 | .ref _,_,e=>by simp only[D.py] at e;cases e
 | .ty _,_,e=>by simp only[D.py] at e;cases e
 | .cls _,_,e=>by simp only[D.py] at e;cases e
 | .exc _,_,e=>by simp only[D.py] at e;cases e
 | .obj _ _,_,e=>by simp only[D.py] at e;cases e
 | .dic _,_,e=>by simp only[D.py] at e;cases e
theorem jj6:∀{ds:List D} {ps:List PyData},D.pys ds=some ps->D.eqs ds ds=true
 | [],_,_=>by simp[D.eqs]
 | d::ds,ps,e=>by
  simp only[D.pys] at e
  split at e
  ·rename_i p qs e1 e2
   simp only[D.eqs,Bool.and_eq_true]
   exact⟨js0 e1,jj6 e2⟩
  ·cases e
end
theorem dat_eq{d:D}(h:d.dat=true):d.eq d=true:=by
 unfold D.dat at h
 rw[Bool.and_eq_true,Option.isSome_iff_exists] at h
 obtain⟨⟨p,hp⟩,_⟩:=h
 exact js0 hp
theorem jsp{ds:List D}{n:Nat}(h:∀d∈ds,d.py.isSome=true /\ d.deep<=n):(D.pys ds).isSome=true /\ D.deeps ds<=n:=by
 induction ds with
 | nil=>exact⟨by simp[D.pys],by simp[D.deeps]⟩
 | cons d ds ih=>
  obtain⟨h1,h2⟩:=h d (List.mem_cons_self ..)
  obtain⟨h3,h4⟩:=ih λe he=>h e (List.mem_cons_of_mem _ he)
  rw[Option.isSome_iff_exists] at h1 h3
  obtain⟨p,hp⟩:=h1
  obtain⟨ps,hps⟩:=h3
  exact⟨by simp[D.pys,hp,hps],by simp only[D.deeps];omega⟩
theorem jt0{ds:List D}{n:Nat}(h:∀d∈ds,d.py.isSome=true /\ d.deep<=n):(D.lst ds).py.isSome=true /\ (D.lst ds).deep<=n+1:=by
 obtain⟨h1,h2⟩:=jsp h
 exact⟨by simp only[D.py];simpa using h1,by simp only[D.deep];omega⟩
theorem jxb{d:D}{n:Nat}(h:d.py.isSome=true /\ d.deep<=n)(hn:n<=64):d.dat=true:=by
 unfold D.dat
 rw[h.1,Bool.true_and,decide_eq_true_eq];omega
mutual
theorem res_id(h:MH):∀(n:Nat) {d:D},D.bnd 0 d=true->res n h d=d
 | 0,d,_=>by unfold res;rfl
 | n+1,.ref k,e=>by simp[D.bnd] at e
 | n+1,.tup xs,e=>by
  simp only[D.bnd] at e
  unfold res;rw[jm6 h n e]
 | n+1,.lst xs,e=>by
  simp only[D.bnd] at e
  unfold res;rw[jm6 h n e]
 | n+1,.non,_=>by unfold res;rfl
 | n+1,.bl _,_=>by unfold res;rfl
 | n+1,.int _,_=>by unfold res;rfl
 | n+1,.str _,_=>by unfold res;rfl
 | n+1,.arg _,_=>by unfold res;rfl
 | n+1,.ty _,_=>by unfold res;rfl
 | n+1,.cls _,_=>by unfold res;rfl
 | n+1,.exc _,_=>by unfold res;rfl
 | n+1,.obj _ _,_=>by unfold res;rfl
 | n+1,.dic _,_=>by unfold res;rfl
theorem jm6(h:MH):∀(n:Nat) {ds:List D},D.bnds 0 ds=true->ds.map (res n h)=ds
 | n,[],_=>rfl
 | n,d::ds,e=>by
  simp only[D.bnds,Bool.and_eq_true] at e
  rw[List.map_cons,res_id h n e.1,jm6 h n e.2]
end
end Z
namespace Clo
def sub(a b:Nat):Prop:=∀i,a.testBit i=true->b.testBit i=true
theorem sub.refl(a:Nat):sub a a:=λ_ h=>h
theorem sub.trans{a b c:Nat}(h:sub a b)(g:sub b c):sub a c:=λi q=>g i (h i q)
theorem sub.antisymm{a b:Nat}(h:sub a b)(g:sub b a):a=b:=Nat.eq_of_testBit_eq λi=>by
 cases x:a.testBit i with
 | true=>rw[h i x]
 | false=>cases y:b.testBit i with
  | true=>rw[g i y] at x;cases x
  | false=>rfl
theorem jja(a b:Nat):sub a (a|||b):=λi h=>by rw[Nat.testBit_or,h];rfl
theorem jjl(a b:Nat):sub b (a|||b):=λi h=>by rw[Nat.testBit_or,h,Bool.or_true]
theorem jw7{a b c:Nat}(h:sub a c)(g:sub b c):sub (a|||b) c:=λi q=>by
 rw[Nat.testBit_or,Bool.or_eq_true] at q
 rcases q with q | q
 ·exact h i q
 ·exact g i q
theorem sub.or_eq{a b:Nat}(h:sub a b):a|||b=b:=sub.antisymm (jw7 h (sub.refl _)) (jjl _ _)
theorem sub.le{a b:Nat}(h:sub a b):a<=b:=by rw[<-h.or_eq];exact Nat.left_le_or
theorem and_ne{a b:Nat}:a&&&b≠0↔∃i,a.testBit i=true /\ b.testBit i=true:=by
 constructor
 ·intro h
  obtain⟨i,hi⟩:=Nat.exists_testBit_of_ne_zero h
  rw[Nat.testBit_and,Bool.and_eq_true] at hi
  exact⟨i,hi⟩
 ·rintro⟨i,h1,h2⟩ e
  have:(a&&&b).testBit i=true:=by rw[Nat.testBit_and,h1,h2];rfl
  rw[e] at this;simp at this
theorem sub.and_ne{a b c:Nat}(h:sub b c)(g:a&&&b≠0):a&&&c≠0:=by
 obtain⟨i,h1,h2⟩:=Clo.and_ne.mp g
 exact Clo.and_ne.mpr ⟨i,h1,h i h2⟩
def jee(ps:List Nat)(t:Nat):Prop:=∀p∈ps,p&&&t≠0->sub p t
structure Is (ps:List Nat) (s r:Nat):Prop where
 ge:sub s r
 cl:jee ps r
 le:∀t,sub s t->jee ps t->sub r t
theorem Is.uniq{ps:List Nat}{s r q:Nat}(a:Is ps s r)(b:Is ps s q):r=q:=sub.antisymm (a.le q b.ge b.cl) (b.le r a.ge a.cl)
theorem jg6{ps qs:List Nat}(h:∀p∈ps,p≠0->p∈qs){t:Nat}(c:jee qs t):jee ps t:=λp m n=>by
 refine c p (h p m λz=> ?_) n
 rw[z] at n;simp at n
theorem Is.congr{ps qs:List Nat}{s r:Nat}(h:∀p∈ps,p≠0->p∈qs)(g:∀p∈qs,p≠0->p∈ps)(a:Is ps s r):Is qs s r:=⟨a.ge,jg6 g a.cl,λt h1 h2=>a.le t h1 (jg6 h h2)⟩
def all(ps:List Nat)(s:Nat):Nat:=ps.foldl (·|||·) s
theorem jsi:∀(ps:List Nat) (s:Nat),sub s (all ps s)
 | [],s=>sub.refl _
 | p::ps,s=>(jja s p).trans (jsi ps (s|||p))
theorem jtf:∀(ps:List Nat) (s p:Nat),p∈ps->sub p (all ps s)
 | q::ps,s,p,m=>by
  rcases List.mem_cons.mp m with rfl | m
  ·exact(jjl s p).trans (jsi ps (s|||p))
  ·exact jtf ps (s|||q) p m
theorem joz(ps:List Nat)(s:Nat):jee ps (all ps s):=λp m _=>jtf ps s p m
structure Step (ps:List Nat) (F:Nat->Nat):Prop where
 up:∀r,sub r (F r)
 lo:∀r t,jee ps t->sub r t->sub (F r) t
 fx:∀r,F r=r->jee ps r
structure Mid (ps:List Nat) (s r:Nat):Prop where
 ge:sub s r
 le:∀t,sub s t->jee ps t->sub r t
theorem Mid.start(ps:List Nat)(s:Nat):Mid ps s s:=⟨sub.refl _,λ_ h _=>h⟩
theorem Mid.step{ps:List Nat}{s r:Nat}{F:Nat->Nat}(f:Step ps F)(m:Mid ps s r):Mid ps s (F r):=⟨m.ge.trans (f.up r),λt h c=>f.lo r t c (m.le t h c)⟩
theorem Mid.fin{ps:List Nat}{s r:Nat}{F:Nat->Nat}(f:Step ps F)(m:Mid ps s r)(e:F r=r):Is ps s r:=⟨m.ge,f.fx r e,m.le⟩
theorem Mid.bnd{ps:List Nat}{s r:Nat}(m:Mid ps s r):r<=all ps s:=(m.le _ (jsi ps s) (joz ps s)).le
theorem Step.lt{ps:List Nat}{F:Nat->Nat}(f:Step ps F){r:Nat}(h:F r≠r):r<F r:=Nat.lt_of_le_of_ne (f.up r).le (Ne.symm h)
theorem walk{ps:List Nat}{s:Nat}{F:Nat->Nat}(f:Step ps F){P:Nat->Prop}(h1:∀r,Mid ps s r->F r=r->P r)(h2:∀r,Mid ps s r->F r≠r->P (F r)->P r):∀(n r:Nat),Mid ps s r->all ps s - r<n->P r
 | 0,r,_,h=>absurd h (Nat.not_lt_zero _)
 | n+1,r,m,h=>by
  by_cases e:F r=r
  ·exact h1 r m e
  ·have:=f.lt e
   have:=(m.step f).bnd
   exact h2 r m e (walk f h1 h2 n (F r) (m.step f) (by omega))
def pass(ps:List Nat)(r:Nat):Nat:=ps.foldl (λr p=>if p&&&r≠0 then r|||p else r) r
theorem jlm:∀(ps:List Nat) (r:Nat),sub r (pass ps r)
 | [],r=>sub.refl _
 | p::ps,r=>by
  show sub r (pass ps (if p&&&r≠0 then r|||p else r))
  refine sub.trans ?_ (jlm ps _)
  split
  ·exact jja _ _
  ·exact sub.refl _
theorem jsj:∀(ps:List Nat) (r t:Nat),jee ps t->sub r t->sub (pass ps r) t
 | [],r,t,_,h=>h
 | p::ps,r,t,c,h=>by
  show sub (pass ps (if p&&&r≠0 then r|||p else r)) t
  refine jsj ps _ t (λq m=>c q (List.mem_cons_of_mem _ m)) ?_
  split
  ·rename_i n
   exact jw7 h (c p List.mem_cons_self (h.and_ne n))
  ·exact h
theorem js6:∀(ps:List Nat) (r:Nat),pass ps r=r->jee ps r
 | [],r,_=>λp m=>by cases m
 | p::ps,r,e=>by
  have e':pass ps (if p&&&r≠0 then r|||p else r)=r:=e
  have u:=jlm ps (if p&&&r≠0 then r|||p else r)
  rw[e'] at u
  have k:(if p&&&r≠0 then r|||p else r)=r:=by
   by_cases n:p&&&r≠0
   ·rw[if_pos n] at u ⊢;exact sub.antisymm u (jja _ _)
   ·rw[if_neg n]
  rw[k] at e'
  intro q m n
  rcases List.mem_cons.mp m with rfl | m
  ·rw[if_pos n] at u;exact(jjl _ _).trans u
  ·exact js6 ps r e' q m n
theorem jeq(ps:List Nat):Step ps (pass ps):=⟨jlm ps,jsj ps,js6 ps⟩
def nearG(s:Nat)(ps:List Nat)(f:Nat):Nat:=ps.foldl (λf p=>if s&&&p≠0 then f|||p else f) f
def near(ps:List Nat)(s:Nat):Nat:=nearG s ps s
theorem ex(ps:List Nat)(s:Nat):∃r,Is ps s r:=walk (P:=λr=>Mid ps s r->∃r,Is ps s r) (jeq ps) (λr _ e m=>⟨r,m.fin (jeq ps) e⟩) (λr m _ h _=>h (m.step (jeq ps))) _ s (Mid.start ps s) (Nat.lt_succ_self _) (Mid.start ps s)
def clo(ps:List Nat)(s:Nat):Nat:=(ex ps s).choose
theorem is(ps:List Nat)(s:Nat):Is ps s (clo ps s):=(ex ps s).choose_spec
theorem Is.eq{ps:List Nat}{s r:Nat}(h:Is ps s r):r=clo ps s:=h.uniq (is ps s)
theorem jrf{ps qs:List Nat}{s:Nat}(h:∀p∈ps,p≠0->p∈qs)(g:∀p∈qs,p≠0->p∈ps):clo ps s=clo qs s:=((is ps s).congr h g).eq
theorem jv7(ps:List Nat):clo ps 0=0:=(Is.eq ⟨sub.refl _,λp _ n=>by simp at n,λt h _=>h⟩).symm
theorem jtw{ps:List Nat}{s b:Nat}(h:clo ps s&&&b≠0):clo ps b&&&s≠0:=by
 intro e
 have hc:jee ps (clo ps s^^^(clo ps s&&&clo ps b)):=λp m n=>by
  obtain⟨i,h1,h2⟩:=and_ne.mp n
  rw[Nat.testBit_xor,Nat.testBit_and] at h2
  have hi:(clo ps s).testBit i=true /\ (clo ps b).testBit i=false:=by
   cases x:(clo ps s).testBit i<;>cases y:(clo ps b).testBit i<;>rw[x,y] at h2<;>simp_all
  have h3:=(is ps s).cl p m (and_ne.mpr ⟨i,h1,hi.1⟩)
  intro j hj
  rw[Nat.testBit_xor,Nat.testBit_and,h3 j hj]
  cases y:(clo ps b).testBit j with
  | false=>rfl
  | true=>
   have:=(is ps b).cl p m (and_ne.mpr ⟨j,hj,y⟩) i h1
   rw[hi.2] at this;cases this
 have hs:sub s (clo ps s^^^(clo ps s&&&clo ps b)):=λi hi=>by
  rw[Nat.testBit_xor,Nat.testBit_and,(is ps s).ge i hi]
  cases y:(clo ps b).testBit i with
  | false=>rfl
  | true=>exact absurd e (and_ne.mpr ⟨i,y,hi⟩)
 have hl:=(is ps s).le _ hs hc
 obtain⟨i,h1,h2⟩:=and_ne.mp h
 have:=hl i h1
 rw[Nat.testBit_xor,Nat.testBit_and,h1,(is ps b).ge i h2] at this
 cases this
end Clo
namespace Z
open PySem
theorem band(a b:Nat):Builtin.bitAnd (a:Int) b=((a&&&b:Nat):Int):=by simp[Builtin.bitAnd]
theorem bor(a b:Nat):Builtin.bitOr (a:Int) b=((a|||b:Nat):Int):=by
 rw[PyProof.Rows.bitOr_and,band]
 have:=PyProof.Rows.nat_or_add_and a b
 omega
theorem jxu(a b:Nat):Builtin.bitAnd (a:Int) (Builtin.bitNot b)=((a - (a&&&b):Nat):Int):=by
 rw[PyProof.Rows.bitAnd_not,band]
 have:a&&&b<=a:=Nat.and_le_left
 omega
theorem jhr(a b:Nat):a - (a&&&b)=a^^^(a&&&b):=by
 have h:(a^^^(a&&&b))+(a&&&b)=a:=by
  have h1:=PyProof.Rows.nat_or_add_and (a^^^(a&&&b)) (a&&&b)
  have h2:(a^^^(a&&&b))&&&(a&&&b)=0:=Nat.eq_of_testBit_eq λi=>by
   simp only[Nat.testBit_and,Nat.testBit_xor,Nat.zero_testBit]
   cases a.testBit i<;>cases b.testBit i<;>rfl
  have h3:(a^^^(a&&&b))|||(a&&&b)=a:=Nat.eq_of_testBit_eq λi=>by
   simp only[Nat.testBit_or,Nat.testBit_and,Nat.testBit_xor]
   cases a.testBit i<;>cases b.testBit i<;>rfl
  omega
 omega
theorem jsz(a b i:Nat):(a - (a&&&b)).testBit i=(a.testBit i&& !b.testBit i):=by
 rw[jhr,Nat.testBit_xor,Nat.testBit_and]
 cases a.testBit i<;>cases b.testBit i<;>rfl
theorem bxor(a b:Nat):Builtin.bitXor (a:Int) b=((a^^^b:Nat):Int):=by
 unfold Builtin.bitXor
 rw[bor,band]
 have h:(a^^^b)=(a|||b) - (a&&&b):=by
  have e:a&&&b=(a|||b)&&&(a&&&b):=Nat.eq_of_testBit_eq λi=>by
   simp only[Nat.testBit_or,Nat.testBit_and]
   cases a.testBit i<;>cases b.testBit i<;>rfl
  rw[e,jhr]
  refine Nat.eq_of_testBit_eq λi=> ?_
  simp only[Nat.testBit_or,Nat.testBit_and,Nat.testBit_xor]
  cases a.testBit i<;>cases b.testBit i<;>rfl
 have:a&&&b<=a|||b:=Nat.le_trans Nat.and_le_left Nat.left_le_or
 omega
theorem bitk(a k:Nat):Builtin.bitAnd ((a:Int) / 2^((k:Int)).toNat) 1=if a.testBit k then 1 else 0:=by
 have e:((a:Int) / 2^((k:Int)).toNat)=((a / 2^k:Nat):Int):=by simp
 rw[e,show(1:Int)=((1:Nat):Int) from rfl,band,Nat.and_one_is_mod,Nat.testBit_eq_decide_div_mod_eq]
 by_cases q:a / 2^k % 2=1
 ·simp[q]
 ·have:a / 2^k % 2=0:=by omega
  simp[this]
theorem ne0(a:Nat):((a:Int)!=0)=decide (a≠0):=by
 cases a with
 | zero=>rfl
 | succ n=>simp;omega
theorem okp{b:Nat}(h:b<=100):jor 1 (b:Int):=⟨by omega,by omega,by decide⟩
theorem jbd(a i:Nat):(2^a).testBit i=decide (a=i):=by rw[Nat.testBit_two_pow]
theorem jqu(x a:Nat):(x&&&2^a≠0)↔x.testBit a=true:=by
 rw[Clo.and_ne]
 constructor
 ·rintro⟨i,h1,h2⟩
  rw[jbd] at h2
  have:a=i:=by simpa using h2
  subst this;exact h1
 ·intro h
  exact⟨a,h,by rw[jbd];simp⟩
end Z
namespace My
open Z
def jc5:Z.D:= .dic [(.inr "bars",(.int 1)),(.inr "feed",(.int 1)),(.inr "earth",(.int 1)),(.inr "breaker",(.int 2)),(.inr "splitter",(.int 2))]
def w_Y7:List (String×Bool):=[("Held",false),("Loaded",true),("Locked",false),("NoBar",false),("NoLock",false),("NoMeasure",false),("NoPermit",false),("NoRow",false),("NoSwitch",false),("NotDead",false),("NotEarthed",false),("NotLocked",false),("NotOpen",false),("Same",false),("Shorted",false)]
def w_Y9:List (String×Bool):=[("Held",false),("Loaded",false),("Locked",true),("NoBar",false),("NoLock",false),("NoMeasure",false),("NoPermit",false),("NoRow",false),("NoSwitch",false),("NotDead",false),("NotEarthed",false),("NotLocked",false),("NotOpen",false),("Same",false),("Shorted",false)]
def w_Y6:List (String×Bool):=[("Held",false),("Loaded",false),("Locked",false),("NoBar",false),("NoLock",true),("NoMeasure",false),("NoPermit",false),("NoRow",false),("NoSwitch",false),("NotDead",false),("NotEarthed",false),("NotLocked",false),("NotOpen",false),("Same",false),("Shorted",false)]
def w_Xg:List (String×Bool):=[("Held",false),("Loaded",false),("Locked",false),("NoBar",false),("NoLock",false),("NoMeasure",false),("NoPermit",false),("NoRow",false),("NoSwitch",false),("NotDead",false),("NotEarthed",false),("NotLocked",true),("NotOpen",false),("Same",false),("Shorted",false)]
def w_Y1:List (String×Bool):=[("Held",false),("Loaded",false),("Locked",false),("NoBar",false),("NoLock",false),("NoMeasure",false),("NoPermit",false),("NoRow",false),("NoSwitch",false),("NotDead",false),("NotEarthed",false),("NotLocked",false),("NotOpen",true),("Same",false),("Shorted",false)]
def w_Y0:List (String×Bool):=[("Held",false),("Loaded",false),("Locked",false),("NoBar",false),("NoLock",false),("NoMeasure",false),("NoPermit",false),("NoRow",false),("NoSwitch",false),("NotDead",false),("NotEarthed",false),("NotLocked",false),("NotOpen",false),("Same",false),("Shorted",true)]
def jgu:List String:=["Feed","Earth"]
def jgy:List String:=["Breaker","Splitter"]
def jdq:List String:=["Breaker","Splitter"]
def jbf:List String:=["Net"]
def jbg:List String:=["Bundle","Board","Desk"]
def jlf:List String:=["Bundle","Board"]
def fd_common:List String:=["Bundle"]
def fd_place:List String:=["Bundle"]
def fd_power:List String:=["Bundle"]
def fd_pairs:List String:=["Bundle"]
def fd_goals:List String:=["Bundle"]
def jey:List String:=["Board"]
def jc0:List String:=["Board"]
def jhh:List String:=["Board"]
def jdu:List String:=["Board"]
def jbb:List String:=["Desk"]
def jcs:Z.MS:=(sSeq (sIf (tAnd (tB (mBin dEq (mBin dIx (mVar 6) (mC (.int 1))) (mBin dIx (mVar 3) (mVar 5)))) (tB (mBin (dIn true) (mBin dIx (mVar 6) (mC (.int 2))) (mVar 3))))
      (jhv (mVar 3) (mBin dIx (mVar 6) (mC (.int 2))))
      jas)
      (sIf (tAnd (tB (mBin dEq (mBin dIx (mVar 6) (mC (.int 2))) (mBin dIx (mVar 3) (mVar 5)))) (tB (mBin (dIn true) (mBin dIx (mVar 6) (mC (.int 1))) (mVar 3))))
      (jhv (mVar 3) (mBin dIx (mVar 6) (mC (.int 1))))
      jas))
def jdh:Z.MS:=(sSeq (sFor (lIt (mVar 4)) (jac 6)
      jcs)
      (sAsg (mBin dAdd (mVar 5) (mC (.int 1))) (jac 5)))
def b_X1:Z.MS:=(sSeq (sAsg (js1 (jyb (ja2 (mVar 2) mNil))) (jac 3))
      (sSeq (sAsg (jb5 (jd3 1 [0] (lIt (mVar 1)) (jac 0) (tB (mBin dEq (mFn fLen (ja2 (mBin dIx (mVar 1) (mVar 0)) mNil)) (mC (.int 3)))) (mBin dIx (mVar 1) (mVar 0)))) (jac 4))
      (sSeq (sAsg (mC (.int 0)) (jac 5))
      (sSeq (jcr (tB (mBin dLt (mVar 5) (mFn fLen (ja2 (mVar 3) mNil))))
      jdh)
      (jfp 3 (sRet (jb5 (jj7 (ja2 (mVar 3) mNil)))))))))
def z_X1:Z.MF:=mFun 3 7 b_X1
def jc6:Z.MS:=(sIf (tAnd (tB (mBin dEq (mBin dIx (mBin dIx (mVar 0) (mVar 4)) (mC (.int 0))) (mVar 2))) (tB (mBin (dIn true) (mBin dIx (mBin dIx (mVar 0) (mVar 4)) (mC (.int 1))) (mVar 3))))
      (jhv (mVar 3) (mBin dIx (mBin dIx (mVar 0) (mVar 4)) (mC (.int 1))))
      jas)
def b_X5:Z.MS:=(sSeq (sAsg (js1 (jc8 mNil)) (jac 3))
      (sSeq (sFor (lIt (mVar 1)) (jac 4)
      jc6)
      (jfp 3 (sRet (jar z_X1 (ja2 (mVar 0) (ja2 (mVar 1) (ja2 (mVar 3) mNil))))))))
def z_X5:Z.MF:=mFun 3 5 b_X5
def b_Xq:Z.MS:=(sSeq (sIf (tB (mBin dEq (mVar 0) (jb5 (jc8 mNil))))
      (sRet (mC (.str "none")))
      jas)
      (sRet (mSm jpj (mC (.str " ")) (ja2 (jb5 (jd3 1 [] (lIt (mVar 0)) (jac 0) tYes (mFn fStr (ja2 (mVar 0) mNil)))) mNil))))
def z_Xq:Z.MF:=mFun 1 1 b_Xq
def b_Q1:Z.MS:=(sSeq (sIf (tNot (tTru (mVar 0)))
      (sRet (mC (.str "none")))
      jas)
      (sRet (mSm jpj (mC (.str " ")) (ja2 (jb5 (jd3 1 [] (lIt (mVar 0)) (jac 0) tYes (mFn fStr (ja2 (mVar 0) mNil)))) mNil))))
def z_Q1:Z.MF:=mFun 1 1 b_Q1
def b_Xp:Z.MS:=(sSeq (sIf (tNot (tB (jnh dLe dLe (mC (.int 1)) (mFn fLen (ja2 (mVar 0) mNil)) (mC (.int 9)))))
      (sRet (mC (.bl false)))
      jas)
      (sSeq (sIf (tAnd (tB (mBin dEq (mBin dIx (mVar 0) (mC (.int 0))) (mC (.str "0")))) (tB (mBin dGt (mFn fLen (ja2 (mVar 0) mNil)) (mC (.int 1)))))
      (sRet (mC (.bl false)))
      jas)
      (sRet (mFn fAll (ja2 (jb5 (jd3 1 [] (lIt (mVar 0)) (jac 0) tYes (mBin (dIn false) (mVar 0) (mC (.str "0123456789"))))) mNil)))))
def z_Xp:Z.MF:=mFun 1 1 b_Xp
def b_Qs:Z.MS:=(sSeq (sIf (tNot (tTru (mFn fAll (ja2 (jb5 (jd3 1 [] (lIt (mVar 0)) (jac 0) tYes (jar z_Xp (ja2 (mVar 0) mNil)))) mNil))))
      (jcb "NoRow" (mC (.str "a word of the row is no number")))
      jas)
      (sRet (jb5 (jd3 1 [] (lIt (mVar 0)) (jac 0) tYes (mFn fInt (ja2 (mVar 0) mNil))))))
def z_Qs:Z.MF:=mFun 1 1 b_Qs
def b_Xb:Z.MS:=(sSeq (sIf (tB (mBin dNe (mFn fLen (ja2 (mVar 0) mNil)) (mC (.int 1))))
      (jcb "NoRow" (mC (.str "one number is due")))
      jas)
      (sRet (mBin dIx (jar z_Qs (ja2 (mVar 0) mNil)) (mC (.int 0)))))
def z_Xb:Z.MF:=mFun 1 1 b_Xb
def z_X6:Z.MF:=λ_ _=> .stuck
def b_Ya:Z.MS:=(sSeq (sAsg (jb5 (jir (mVar 0) (ja2 (mC (.str " ")) mNil))) (jac 1))
      (sSeq (sAsg (mBin dIx (mVar 1) (mC (.int 0))) (jac 2))
      (sSeq (sIf (tOr (tB (mBin (dIn true) (mVar 2) (mC jc5))) (tB (mBin dNe (mFn fLen (ja2 (mVar 1) mNil)) (mBin dAdd (mC (.int 1)) (mBin dIx (mC jc5) (mVar 2))))))
      (jcb "NoRow" (mC (.str "no such row")))
      jas)
      (sRet (mFn jsm (ja2 (mBin dAdd (jb5 (jc8 (ja2 (mVar 2) mNil))) (jar z_Qs (ja2 (mSl (mVar 1) (oSo (mC (.int 1))) oNo) mNil))) mNil))))))
def z_Ya:Z.MF:=mFun 1 3 b_Ya
def b_Xr:Z.MS:=(sSeq (sAsg (jar z_Ya (ja2 (mVar 0) mNil)) (jac 1))
      (sSeq (sIf (tB (mBin dNe (mBin dIx (mVar 1) (mC (.int 0))) (mC (.str "bars"))))
      (jcb "NoRow" (mC (.str "the row of the count is due")))
      jas)
      (sSeq (sIf (tNot (tB (jnh dLe dLe (mC (.int 1)) (mBin dIx (mVar 1) (mC (.int 1))) (mC (.int 10)))))
      (jcb "NoMeasure" (mC (.str "the count of the bars is out of its bounds")))
      jas)
      (sRet (mBin dIx (mVar 1) (mC (.int 1)))))))
def z_Xr:Z.MF:=mFun 1 2 b_Xr
def z_Ql:Z.MF:=λ_ _=> .stuck
def b_Xh:Z.MS:=(sSeq (sAsg (jar z_Ya (ja2 (mVar 0) mNil)) (jac 3))
      (sSeq (sIf (tB (mBin dEq (mBin dIx (mVar 3) (mC (.int 0))) (mC (.str "bars"))))
      (jcb "NoRow" (mC (.str "the row of a switch is due")))
      jas)
      (sSeq (sIf (tB (mBin dGe (mVar 2) (mC (.int 12))))
      (jcb "NoRow" (mC (.str "one switch too many")))
      jas)
      (sSeq (sIf (tB (mBin dGe (mFn fMax (ja2 (mSl (mVar 3) (oSo (mC (.int 1))) oNo) mNil)) (mVar 1)))
      (jcb "NoBar" (mC (.str "there is no such bar")))
      jas)
      (sSeq (sIf (tAnd (tB (mBin dEq (mFn fLen (ja2 (mVar 3) mNil)) (mC (.int 3)))) (tB (mBin dEq (mBin dIx (mVar 3) (mC (.int 1))) (mBin dIx (mVar 3) (mC (.int 2))))))
      (jcb "Same" (mC (.str "a switch leads from a bar to itself")))
      jas)
      (sRet (mVar 3)))))))
def z_Xh:Z.MF:=mFun 3 4 b_Xh
def b_Q2:Z.MS:=(sSeq (jdo jgy "one" (mVar 0) (mVar 1))
      (jdo jdq "other" (mVar 0) (mVar 2)))
def z_Q2:Z.MF:=mFun 3 3 b_Q2
def b_Qa:Z.MS:=(jdo jgu "bar" (mVar 0) (mVar 1))
def z_Qa:Z.MF:=mFun 2 2 b_Qa
def b_Qc:Z.MS:=(jdo jgu "bar" (mVar 0) (mVar 1))
def z_Qc:Z.MF:=mFun 2 2 b_Qc
def b_Q0:Z.MS:=(sSeq (jdo jgy "one" (mVar 0) (mVar 1))
      (jdo jdq "other" (mVar 0) (mVar 2)))
def z_Q0:Z.MF:=mFun 3 3 b_Q0
def b_Xm:Z.MS:=(sSeq (sAsg (mBin dIx (mVar 0) (mC (.int 0))) (jac 1))
      (sSeq (sIf (tB (mBin dEq (mVar 1) (mC (.str "feed"))))
      (sRet (jfb "Feed" z_Qc (ja2 (mBin dIx (mVar 0) (mC (.int 1))) mNil)))
      jas)
      (sSeq (sIf (tB (mBin dEq (mVar 1) (mC (.str "earth"))))
      (sRet (jfb "Earth" z_Qa (ja2 (mBin dIx (mVar 0) (mC (.int 1))) mNil)))
      jas)
      (sSeq (sIf (tB (mBin dEq (mVar 1) (mC (.str "breaker"))))
      (sRet (jfb "Breaker" z_Q2 (ja2 (mBin dIx (mVar 0) (mC (.int 1))) (ja2 (mBin dIx (mVar 0) (mC (.int 2))) mNil))))
      jas)
      (sRet (jfb "Splitter" z_Q0 (ja2 (mBin dIx (mVar 0) (mC (.int 1))) (ja2 (mBin dIx (mVar 0) (mC (.int 2))) mNil))))))))
def z_Xm:Z.MF:=mFun 1 2 b_Xm
def b_Qw:Z.MS:=(jdo jbf "switches" (mVar 0) (jb5 (jd3 1 [] (lIt (mBin dIx (mVar 1) (mC (.int 1)))) (jac 0) tYes (jar z_Xm (ja2 (mVar 0) mNil)))))
def z_Qw:Z.MF:=mFun 2 2 b_Qw
def b_Q8:Z.MS:=(sSeq (jdo jbg "yard" (mVar 0) (mTup (ja2 (mBin dIx (mVar 1) (mC (.int 0))) (ja2 (jb5 (jyb (ja2 (mBin dIx (mVar 1) (mC (.int 1))) mNil))) mNil))))
      (sSeq (jdo jlf "net" (mVar 0) (jfb "Net" z_Qw (ja2 (mFld jbg "yard" (mVar 0)) mNil)))
      (sSeq (jdo jey "shut" (mVar 0) (mC (.int 0)))
      (sSeq (jdo jc0 "locks" (mVar 0) (mC (.int 0)))
      (sSeq (jdo jhh "given" (mVar 0) mDnew)
      (jdo jdu "last_number" (mVar 0) (mC (.int 0))))))))
def z_Q8:Z.MF:=mFun 2 2 b_Q8
def b_X4:Z.MS:=(sSeq (jdo jbg "yard" (mVar 0) (mVar 1))
      (sSeq (jdo jbb "board" (mVar 0) (jo4 "Board" z_Q8 (ja2 (mVar 1) mNil)))
      (sRet (mC (.str "ok")))))
def z_X4:Z.MF:=mFun 2 2 b_X4
def jg2:List (String×Z.MF):=[("Desk",z_X4)]
def b_Q5:Z.MS:=(sSeq (sAsg (mBin dIx (mFld jbg "yard" (mVar 0)) (mC (.int 0))) (jac 2))
      (sSeq (sAsg (mBin dIx (mFld jbg "yard" (mVar 0)) (mC (.int 1))) (jac 3))
      (sRet (jao jg2 "begin" (mVar 0) (ja2 (mTup (ja2 (mVar 2) (ja2 (mBin dAdd (mVar 3) (jb5 (jc8 (ja2 (jar z_Xh (ja2 (mVar 1) (ja2 (mVar 2) (ja2 (mFn fLen (ja2 (mVar 3) mNil)) mNil)))) mNil)))) mNil))) mNil)))))
def z_Q5:Z.MF:=mFun 2 4 b_Q5
def jxm:Z.MS:=(sRet (mBin dEq (mBin dAnd (mBin dShr (mVar 0) (mVar 1)) (mC (.int 1))) (mC (.int 1))))
def jfq:Z.MF:=mFun 2 2 jxm
def z_Q6:Z.MF:=λ_ _=> .stuck
def b_Qm:Z.MS:=(sIf (tNot (tB (jnh dLe dLt (mC (.int 0)) (mVar 1) (mFn fLen (ja2 (mBin dIx (mVar 0) (mC (.int 1))) mNil)))))
      (jcb "NoSwitch" (mC (.str "there is no such switch")))
      jas)
def z_Qm:Z.MF:=mFun 2 2 b_Qm
def b_Qv:Z.MS:=(sRet (mC (.int 0)))
def z_Qv:Z.MF:=mFun 1 1 b_Qv
def b_X9:Z.MS:=(sRet (mBin dShl (mC (.int 1)) (mFld jgu "bar" (mVar 0))))
def z_X9:Z.MF:=mFun 1 1 b_X9
def b_Qj:Z.MS:=(sRet (mC (.bl false)))
def z_Qj:Z.MF:=mFun 1 1 b_Qj
def b_Q4:Z.MS:=(sRet (mC (.bl true)))
def z_Q4:Z.MF:=mFun 1 1 b_Q4
def jd5:List (String×Z.MF):=[("Switch",z_Qv),("Feed",z_X9),("Earth",z_Qv),("Breaker",z_Qv),("Splitter",z_Qv)]
def jcl:List (String×Z.MF):=[("Switch",z_Qj),("Feed",z_Qj),("Earth",z_Qj),("Breaker",z_Qj),("Splitter",z_Q4)]
def b_Xw:Z.MS:=(sRet (mOr (mBin dNe (jao jd5 "feeds" (mVar 0) mNil) (mC (.int 0))) (jao jcl "gentle" (mVar 0) mNil)))
def z_Xw:Z.MF:=mFun 1 1 b_Xw
def b_X3:Z.MS:=(sSeq (jkp (jar z_Qm (ja2 (mFld jbg "yard" (mVar 0)) (ja2 (mVar 1) mNil))))
      (sSeq (sIf (tNot (tTru (jar z_Xw (ja2 (mBin dIx (mFld jbf "switches" (mFld jlf "net" (mVar 0))) (mVar 1)) mNil))))
      (jcb "NoLock" (mC (.str "no lock can be put to a switch of this kind")))
      jas)
      (sSeq (sIf (tTru (jar jfq (ja2 (mFld jey "shut" (mVar 0)) (ja2 (mVar 1) mNil))))
      (jcb "NotOpen" (mC (.str "the switch is shut")))
      jas)
      (sSeq (sIf (tTru (jar jfq (ja2 (mFld jc0 "locks" (mVar 0)) (ja2 (mVar 1) mNil))))
      (jcb "Locked" (mC (.str "the switch is locked already")))
      jas)
      (sSeq (jdo jc0 "locks" (mVar 0) (mBin dOr (mFld jc0 "locks" (mVar 0)) (mBin dShl (mC (.int 1)) (mVar 1))))
      (sRet (mFld jc0 "locks" (mVar 0))))))))
def z_X3:Z.MF:=mFun 2 2 b_X3
def b_Y8:Z.MS:=(sRet (mBin dAnd (mVar 0) (mUn dNeg (mVar 0))))
def z_Y8:Z.MF:=mFun 1 1 b_Y8
def b_Qr:Z.MS:=(sRet (mC (.int 0)))
def z_Qr:Z.MF:=mFun 1 1 b_Qr
def b_Qh:Z.MS:=(sRet (mBin dOr (mBin dShl (mC (.int 1)) (mFld jgy "one" (mVar 0))) (mBin dShl (mC (.int 1)) (mFld jdq "other" (mVar 0)))))
def z_Qh:Z.MF:=mFun 1 1 b_Qh
def b_Q9:Z.MS:=(sRet (mBin dOr (mBin dShl (mC (.int 1)) (mFld jgy "one" (mVar 0))) (mBin dShl (mC (.int 1)) (mFld jdq "other" (mVar 0)))))
def z_Q9:Z.MF:=mFun 1 1 b_Q9
def b_Qi:Z.MS:=(sRet (jb5 (jd3 2 [1] (lEnum (ja2 (mFld jbf "switches" (mVar 0)) mNil)) (gTup [0,1]) (tTru (jar jfq (ja2 (mVar 2) (ja2 (mVar 0) mNil)))) (mVar 1))))
def z_Qi:Z.MF:=mFun 2 2 b_Qi
def jci:List (String×Z.MF):=[("Switch",z_Qr),("Feed",z_Qr),("Earth",z_Qr),("Breaker",z_Qh),("Splitter",z_Q9)]
def jbo:List (String×Z.MF):=[("Net",z_Qi)]
def b_Q7:Z.MS:=(sSeq (sAsg (jb5 (jd3 1 [] (lIt (jao jbo "shut_ones" (mVar 0) (ja2 (mVar 1) mNil))) (jac 0) tYes (jao jci "joins" (mVar 0) mNil))) (jac 3))
      (sSeq (sAsg (mVar 2) (jac 4))
      (sSeq (sAsg (mC .non) (jac 5))
      (sSeq (jcr (tB (mBin dNe (mVar 4) (mVar 5)))
      (sSeq (sAsg (mVar 4) (jac 5))
      (sFor (lIt (mVar 3)) (jac 6)
      (sIf (tTru (mBin dAnd (mVar 6) (mVar 4)))
      (sAsg (mBin dOr (mVar 4) (mVar 6)) (jac 4))
      jas))))
      (sRet (mVar 4))))))
def z_Q7:Z.MF:=mFun 3 7 b_Q7
def jbp:List (String×Z.MF):=[("Net",z_Q7)]
def b_Qe:Z.MS:=(sSeq (sAsg (mC (.int 0)) (jac 2))
      (sSeq (sFor (lIt (jao jbo "shut_ones" (mVar 0) (ja2 (mVar 1) mNil))) (jac 3)
      (sAsg (mBin dOr (mVar 2) (jao jd5 "feeds" (mVar 3) mNil)) (jac 2)))
      (sRet (jao jbp "joined_bars" (mVar 0) (ja2 (mVar 1) (ja2 (mVar 2) mNil))))))
def z_Qe:Z.MF:=mFun 2 4 b_Qe
def jce:List (String×Z.MF):=[("Net",z_Qe)]
def b_Yd:Z.MS:=(sSeq (sAsg (mBin dIx (mFld jbf "switches" (mVar 0)) (mVar 2)) (jac 3))
      (sSeq (sIf (tNot (tTru (jao jcl "gentle" (mVar 3) mNil)))
      (sRet (mC (.bl false)))
      jas)
      (sSeq (sAsg (mBin dAnd (mVar 1) (mUn dInv (mBin dShl (mC (.int 1)) (mVar 2)))) (jac 4))
      (sSeq (sAsg (jao jci "joins" (mVar 3) mNil) (jac 5))
      (sSeq (sIf (tNot (tTru (mBin dAnd (mVar 5) (jao jce "live_bars" (mVar 0) (ja2 (mVar 4) mNil)))))
      (sRet (mC (.bl false)))
      jas)
      (sRet (mBin dNe (mBin dAnd (mVar 5) (mUn dInv (jao jbp "joined_bars" (mVar 0) (ja2 (mVar 4) (ja2 (jar z_Y8 (ja2 (mVar 5) mNil)) mNil))))) (mC (.int 0)))))))))
def z_Yd:Z.MF:=mFun 3 6 b_Yd
def b_Xa:Z.MS:=(sRet (mBin dXor (mVar 0) (mBin dShl (mC (.int 1)) (mVar 1))))
def z_Xa:Z.MF:=mFun 2 2 b_Xa
def b_Qg:Z.MS:=(sRet (mC (.int 0)))
def z_Qg:Z.MF:=mFun 1 1 b_Qg
def b_Qx:Z.MS:=(sRet (mBin dShl (mC (.int 1)) (mFld jgu "bar" (mVar 0))))
def z_Qx:Z.MF:=mFun 1 1 b_Qx
def jd8:List (String×Z.MF):=[("Switch",z_Qg),("Feed",z_Qg),("Earth",z_Qx),("Breaker",z_Qg),("Splitter",z_Qg)]
def b_Qt:Z.MS:=(sSeq (sAsg (mC (.int 0)) (jac 2))
      (sSeq (sFor (lIt (jao jbo "shut_ones" (mVar 0) (ja2 (mVar 1) mNil))) (jac 3)
      (sAsg (mBin dOr (mVar 2) (jao jd8 "earths" (mVar 3) mNil)) (jac 2)))
      (sRet (mVar 2))))
def z_Qt:Z.MF:=mFun 2 4 b_Qt
def jdn:List (String×Z.MF):=[("Net",z_Qt)]
def b_Q3:Z.MS:=(sRet (jao jbp "joined_bars" (mVar 0) (ja2 (mVar 1) (ja2 (jao jdn "led_bars" (mVar 0) (ja2 (mVar 1) mNil)) mNil))))
def z_Q3:Z.MF:=mFun 2 2 b_Q3
def jcf:List (String×Z.MF):=[("Net",z_Q3)]
def b_Qz:Z.MS:=(sRet (mBin dEq (mBin dAnd (jao jce "live_bars" (mVar 0) (ja2 (mVar 1) mNil)) (jao jcf "earthed_bars" (mVar 0) (ja2 (mVar 1) mNil))) (mC (.int 0))))
def z_Qz:Z.MF:=mFun 2 2 b_Qz
def jgg:List (String×Z.MF):=[("Net",z_Qz)]
def b_Y4:Z.MS:=(sRet (js3 (jao jgg "is_safe" (mVar 0) (ja2 (jar z_Xa (ja2 (mVar 1) (ja2 (mVar 2) mNil))) mNil))))
def z_Y4:Z.MF:=mFun 3 3 b_Y4
def b_Y2:Z.MS:=(sSeq (jkp (jar z_Qm (ja2 (mVar 0) (ja2 (mVar 2) mNil))))
      (sSeq (sAsg (jfb "Net" z_Qw (ja2 (mVar 0) mNil)) (jac 3))
      (sSeq (sIf (tTru (jar z_Yd (ja2 (mVar 3) (ja2 (mVar 1) (ja2 (mVar 2) mNil)))))
      (jcb "Loaded" (mC (.str "a splitter would part or join a load")))
      jas)
      (sSeq (sIf (tTru (jar z_Y4 (ja2 (mVar 3) (ja2 (mVar 1) (ja2 (mVar 2) mNil)))))
      (jcb "Shorted" (mC (.str "a bar would be live and earthed")))
      jas)
      (sRet (jar z_Xa (ja2 (mVar 1) (ja2 (mVar 2) mNil))))))))
def z_Y2:Z.MF:=mFun 3 4 b_Y2
def b_Xf:Z.MS:=(sSeq (sAsg (mC (.int 0)) (jac 1))
      (sSeq (sForV (mFld jhh "given" (mVar 0)) (jac 2)
      (sAsg (mBin dOr (mVar 1) (mBin dIx (mVar 2) (mC (.int 1)))) (jac 1)))
      (sRet (mVar 1))))
def z_Xf:Z.MF:=mFun 1 3 b_Xf
def ji6:List (String×Z.MF):=[("Board",z_Xf)]
def b_Xc:Z.MS:=(sSeq (jkp (jar z_Qm (ja2 (mFld jbg "yard" (mVar 0)) (ja2 (mVar 1) mNil))))
      (sSeq (sIf (tTru (jar jfq (ja2 (mFld jc0 "locks" (mVar 0)) (ja2 (mVar 1) mNil))))
      (jcb "Locked" (mC (.str "the switch is locked")))
      jas)
      (sSeq (sIf (tTru (jar jfq (ja2 (jao ji6 "held" (mVar 0) mNil) (ja2 (mVar 1) mNil))))
      (jcb "Held" (mC (.str "a permit holds the switch")))
      jas)
      (sSeq (jdo jey "shut" (mVar 0) (jar z_Y2 (ja2 (mFld jbg "yard" (mVar 0)) (ja2 (mFld jey "shut" (mVar 0)) (ja2 (mVar 1) mNil)))))
      (sRet (mFld jey "shut" (mVar 0)))))))
def z_Xc:Z.MF:=mFun 2 2 b_Xc
def b_Qo:Z.MS:=(sSeq (jkp (jar z_Qm (ja2 (mFld jbg "yard" (mVar 0)) (ja2 (mVar 1) mNil))))
      (sSeq (sIf (tNot (tTru (jar jfq (ja2 (mFld jc0 "locks" (mVar 0)) (ja2 (mVar 1) mNil)))))
      (jcb "NotLocked" (mC (.str "the switch isn't locked")))
      jas)
      (sSeq (sIf (tTru (jar jfq (ja2 (jao ji6 "held" (mVar 0) mNil) (ja2 (mVar 1) mNil))))
      (jcb "Held" (mC (.str "a permit holds the switch")))
      jas)
      (sSeq (jdo jc0 "locks" (mVar 0) (mBin dAnd (mFld jc0 "locks" (mVar 0)) (mUn dInv (mBin dShl (mC (.int 1)) (mVar 1)))))
      (sRet (mFld jc0 "locks" (mVar 0)))))))
def z_Qo:Z.MF:=mFun 2 2 b_Qo
def jgn:List (String×Z.MF):=[("Board",z_Q6)]
def jmy:List (String×Z.MF):=[("Board",z_X3)]
def jlx:List (String×Z.MF):=[("Board",z_Xc)]
def jht:List (String×Z.MF):=[("Board",z_Qo)]
def b_Xl:Z.MS:=(sSeq (sIf (tB (mBin dEq (mVar 1) (mC (.str "turn"))))
      (sRet (mIf (tTru (jar jfq (ja2 (jao jlx "turn" (mFld jbb "board" (mVar 0)) (ja2 (mVar 2) mNil)) (ja2 (mVar 2) mNil)))) (mC (.str "shut")) (mC (.str "open"))))
      jas)
      (sSeq (sIf (tB (mBin dEq (mVar 1) (mC (.str "lock"))))
      (jkp (jao jmy "lock" (mFld jbb "board" (mVar 0)) (ja2 (mVar 2) mNil)))
      jas)
      (sSeq (sIf (tB (mBin dEq (mVar 1) (mC (.str "unlock"))))
      (jkp (jao jht "unlock" (mFld jbb "board" (mVar 0)) (ja2 (mVar 2) mNil)))
      jas)
      (sSeq (sIf (tB (mBin dEq (mVar 1) (mC (.str "back"))))
      (jkp (jao jgn "give_back" (mFld jbb "board" (mVar 0)) (ja2 (mVar 2) mNil)))
      jas)
      (sRet (mC (.str "ok")))))))
def z_Xl:Z.MF:=mFun 3 3 b_Xl
def z_Qp:Z.MF:=λ_ _=> .stuck
def z_Xe:Z.MF:=λ_ _=> .stuck
def z_Yc:Z.MF:=λ_ _=> .stuck
def b_X7:Z.MS:=(sRet (jb5 (jd3 1 [0] (ji0 (ja2 (mBits (mVar 0)) mNil)) (jac 0) (tTru (jar jfq (ja2 (mVar 1) (ja2 (mVar 0) mNil)))) (mVar 0))))
def z_X7:Z.MF:=mFun 1 1 b_X7
def b_Yl:Z.MS:=(sRet (jao jce "live_bars" (jfb "Net" z_Qw (ja2 (mVar 0) mNil)) (ja2 (mVar 1) mNil)))
def z_Yl:Z.MF:=mFun 2 2 b_Yl
def b_Xz:Z.MS:=(sRet (jao jcf "earthed_bars" (jfb "Net" z_Qw (ja2 (mVar 0) mNil)) (ja2 (mVar 1) mNil)))
def z_Xz:Z.MF:=mFun 2 2 b_Xz
def b_Qn:Z.MS:=(sRet (mFld jc0 "locks" (mVar 0)))
def z_Qn:Z.MF:=mFun 1 1 b_Qn
def b_Qb:Z.MS:=(sRet (mFld jey "shut" (mVar 0)))
def z_Qb:Z.MF:=mFun 1 1 b_Qb
def ji9:List (String×Z.MF):=[("Board",z_Qn)]
def jcn:List (String×Z.MF):=[("Board",z_Qb)]
def b_Xn:Z.MS:=(sSeq (sIf (tB (mBin dEq (mVar 1) (mC (.str "live"))))
      (sRet (jar z_Q1 (ja2 (jar z_X7 (ja2 (jar z_Yl (ja2 (mFld jbg "yard" (mVar 0)) (ja2 (jao jcn "standing" (mFld jbb "board" (mVar 0)) mNil) mNil))) mNil)) mNil)))
      jas)
      (sSeq (sIf (tB (mBin dEq (mVar 1) (mC (.str "earthed"))))
      (sRet (jar z_Q1 (ja2 (jar z_X7 (ja2 (jar z_Xz (ja2 (mFld jbg "yard" (mVar 0)) (ja2 (jao jcn "standing" (mFld jbb "board" (mVar 0)) mNil) mNil))) mNil)) mNil)))
      jas)
      (sSeq (sIf (tB (mBin dEq (mVar 1) (mC (.str "locked"))))
      (sRet (jar z_Q1 (ja2 (jar z_X7 (ja2 (jao ji9 "locked" (mFld jbb "board" (mVar 0)) mNil) mNil)) mNil)))
      jas)
      (sSeq (sIf (tB (mBin dEq (mVar 1) (mC (.str "shut"))))
      (sRet (jar z_Q1 (ja2 (jar z_X7 (ja2 (jao jcn "standing" (mFld jbb "board" (mVar 0)) mNil) mNil)) mNil)))
      jas)
      (sSeq (sIf (tB (mBin dEq (mVar 1) (mC (.str "show"))))
      (sRet (jar z_Yc (ja2 (mFld jbg "yard" (mVar 0)) mNil)))
      jas)
      (jcb "NoRow" (mC (.str "no such row"))))))))
def z_Xn:Z.MF:=mFun 2 2 b_Xn
def je8:List (String×Z.MF):=[("Desk",z_Q5)]
def jmh:List (String×Z.MF):=[("Desk",z_Xl)]
def jkb:List (String×Z.MF):=[("Board",z_Qp)]
def jny:List (String×Z.MF):=[("Desk",z_Xe)]
def jlp:List (String×Z.MF):=[("Desk",z_Xn)]
def b_Xt:Z.MS:=(sSeq (sAsg (jb5 (jir (mVar 1) (ja2 (mC (.str " ")) mNil))) (jac 2))
      (sSeq (sAsg (mBin dIx (mVar 2) (mC (.int 0))) (jac 3))
      (sSeq (sIf (tB (mBin dEq (mVar 3) (mC (.str "bars"))))
      (sRet (jao jg2 "begin" (mVar 0) (ja2 (mTup (ja2 (jar z_Xr (ja2 (mVar 1) mNil)) (ja2 (jb5 (jc8 mNil)) mNil))) mNil)))
      jas)
      (sSeq (sIf (tB (mBin dIs (mFld jbg "yard" (mVar 0)) (mC .non)))
      (jcb "NoRow" (mC (.str "there is no yard yet")))
      jas)
      (sSeq (sIf (tB (mBin (dIn false) (mVar 3) (mTup (ja2 (mC (.str "feed")) (ja2 (mC (.str "earth")) (ja2 (mC (.str "breaker")) (ja2 (mC (.str "splitter")) mNil)))))))
      (sRet (jao je8 "add_switch" (mVar 0) (ja2 (mVar 1) mNil)))
      jas)
      (sSeq (sIf (tB (mBin (dIn false) (mVar 3) (mTup (ja2 (mC (.str "turn")) (ja2 (mC (.str "lock")) (ja2 (mC (.str "unlock")) (ja2 (mC (.str "back")) mNil)))))))
      (sRet (jao jmh "done" (mVar 0) (ja2 (mVar 3) (ja2 (jar z_Xb (ja2 (mSl (mVar 2) (oSo (mC (.int 1))) oNo) mNil)) mNil))))
      jas)
      (sSeq (sIf (tB (mBin dEq (mVar 3) (mC (.str "permit"))))
      (sSeq (sAsg (jao jkb "permit" (mFld jbb "board" (mVar 0)) (ja2 (jar z_X6 (ja2 (mSl (mVar 2) (oSo (mC (.int 1))) oNo) (ja2 (mBin dIx (mFld jbg "yard" (mVar 0)) (mC (.int 0))) mNil))) mNil)) (jac 4))
      (sRet (mJs (jzk (mC (.str "permit ")) (jzk (mFmt (mVar 4)) jNil)))))
      jas)
      (sSeq (sIf (tB (mBin dEq (mVar 3) (mC (.str "locks"))))
      (sRet (jar z_Q1 (ja2 (mBin dIx (jar z_Ql (ja2 (mFld jbg "yard" (mVar 0)) (ja2 (jar z_X6 (ja2 (mSl (mVar 2) (oSo (mC (.int 1))) oNo) (ja2 (mBin dIx (mFld jbg "yard" (mVar 0)) (mC (.int 0))) mNil))) mNil))) (mC (.int 0))) mNil)))
      jas)
      (sSeq (sIf (tB (mBin dEq (mVar 3) (mC (.str "reach"))))
      (sRet (jao jny "reach" (mVar 0) (ja2 (mSl (mVar 2) (oSo (mC (.int 1))) oNo) mNil)))
      jas)
      (sSeq (sIf (tB (mBin dNe (mFn fLen (ja2 (mVar 2) mNil)) (mC (.int 1))))
      (jcb "NoRow" (mC (.str "no such row")))
      jas)
      (sRet (jao jlp "tell" (mVar 0) (ja2 (mVar 3) mNil)))))))))))))
def z_Xt:Z.MF:=mFun 2 5 b_Xt
def jgp:List (String×Z.MF):=[("Desk",z_Xt)]
def jdg:Z.MS:=(sSeq (sAsg (mBin dIx (mVar 7) (mBin dMod (mBin dAdd (mBin dMul (mVar 8) (mBin dIx (jb5 (jc8 (ja2 (mC (.int 1)) (ja2 (mC (.int 3)) mNil)))) (mBin dMod (mVar 4) (mC (.int 2))))) (mBin dDiv (mVar 4) (mC (.int 2)))) (mC (.int 4)))) (gTup [9,10]))
      (sSeq (sAsg (jao jgp "say" (mVar 0) (ja2 (mVar 9) mNil)) (jac 11))
      (sIf (tOr (tNot (tTru (mFn fIsi (ja2 (mVar 11) (ja2 (mC (.ty "str")) mNil))))) (tB (mBin dNe (mVar 11) (jar z_Xq (ja2 (mVar 10) mNil)))))
      (sRet (mC (.bl false)))
      jas)))
def b_Xo:Z.MS:=(sSeq (sAsg (jar z_X5 (ja2 (mVar 1) (ja2 (mVar 2) (ja2 (mC (.str "feed")) mNil)))) (jac 5))
      (sSeq (sAsg (jar z_X5 (ja2 (mVar 1) (ja2 (mVar 2) (ja2 (mC (.str "earth")) mNil)))) (jac 6))
      (sSeq (sAsg (jb5 (jc8 (ja2 (mTup (ja2 (mC (.str "shut")) (ja2 (mVar 2) mNil))) (ja2 (mTup (ja2 (mC (.str "locked")) (ja2 (mVar 3) mNil))) (ja2 (mTup (ja2 (mC (.str "live")) (ja2 (mVar 5) mNil))) (ja2 (mTup (ja2 (mC (.str "earthed")) (ja2 (mVar 6) mNil))) mNil)))))) (jac 7))
      (sSeq (sFor (ji0 (ja2 (mC (.int 4)) mNil)) (jac 8)
      jdg)
      (sRet (mBin dEq (jb5 (jd3 1 [6] (lIt (mVar 5)) (jac 0) (tB (mBin (dIn false) (mVar 0) (mVar 1))) (mVar 0))) (jb5 (jc8 mNil))))))))
def z_Xo:Z.MF:=mFun 5 12 b_Xo
def b_X0:Z.MS:=(sSeq (sAsg (mBin dMod (mBin dDiv (mVar 0) (mC (.int 4))) (mVar 1)) (jac 2))
      (sSeq (sIf (tOr (tB (mBin dEq (mBin dMod (mVar 0) (mC (.int 4))) (mC (.int 0)))) (tAnd (tB (mBin dEq (mVar 1) (mC (.int 1)))) (tB (mBin dEq (mBin dMod (mVar 0) (mC (.int 2))) (mC (.int 0))))))
      (sRet (jb5 (jc8 (ja2 (mC (.str "feed")) (ja2 (mVar 2) mNil)))))
      jas)
      (sSeq (sIf (tOr (tB (mBin dEq (mBin dMod (mVar 0) (mC (.int 4))) (mC (.int 1)))) (tB (mBin dEq (mVar 1) (mC (.int 1)))))
      (sRet (jb5 (jc8 (ja2 (mC (.str "earth")) (ja2 (mVar 2) mNil)))))
      jas)
      (sSeq (sAsg (mBin dMod (mBin dAdd (mBin dAdd (mVar 2) (mC (.int 1))) (mBin dMod (mBin dDiv (mBin dDiv (mVar 0) (mC (.int 4))) (mVar 1)) (mBin dSub (mVar 1) (mC (.int 1))))) (mVar 1)) (jac 3))
      (sRet (jb5 (jc8 (ja2 (mBin dIx (jb5 (jc8 (ja2 (mC (.str "breaker")) (ja2 (mC (.str "splitter")) mNil)))) (mBin dMod (mVar 0) (mC (.int 2)))) (ja2 (mVar 2) (ja2 (mVar 3) mNil))))))))))
def z_X0:Z.MF:=mFun 2 4 b_X0
def jd6:Z.MS:=(sIf (tB (mBin dNe (jao jgp "say" (mVar 0) (ja2 (mSm jpj (mC (.str " ")) (ja2 (mBin dAdd (jb5 (jc8 (ja2 (mBin dIx (mVar 3) (mC (.int 0))) mNil))) (jb5 (jd3 1 [] (lIt (mSl (mVar 3) (oSo (mC (.int 1))) oNo)) (jac 0) tYes (mFn fStr (ja2 (mVar 0) mNil))))) mNil)) mNil)) (mC (.str "ok"))))
      (sRet (mC (.bl false)))
      jas)
def b_X8:Z.MS:=(sSeq (sIf (tB (mBin dNe (jao jgp "say" (mVar 0) (ja2 (mBin dAdd (mC (.str "bars ")) (mFn fStr (ja2 (mVar 1) mNil))) mNil)) (mC (.str "ok"))))
      (sRet (mC (.bl false)))
      jas)
      (sSeq (sFor (lIt (mVar 2)) (jac 3)
      jd6)
      (sRet (mC (.bl true)))))
def z_X8:Z.MF:=mFun 3 4 b_X8
def b_X2:Z.MS:=(sSeq (sIf (tB (mBin dNe (mBin dIx (mBin dIx (mVar 0) (mVar 2)) (mC (.int 0))) (mC (.str "splitter"))))
      (sRet (mC (.bl false)))
      jas)
      (sSeq (sAsg (jb5 (jd3 1 [2] (lIt (mVar 1)) (jac 0) (tB (mBin dNe (mVar 0) (mVar 1))) (mVar 0))) (jac 3))
      (sSeq (sAsg (mBin dIx (mBin dIx (mVar 0) (mVar 2)) (mC (.int 1))) (jac 4))
      (sSeq (sAsg (mBin dIx (mBin dIx (mVar 0) (mVar 2)) (mC (.int 2))) (jac 5))
      (sSeq (sIf (tB (mBin (dIn false) (mVar 5) (jar z_X1 (ja2 (mVar 0) (ja2 (mVar 3) (ja2 (jb5 (jc8 (ja2 (mVar 4) mNil))) mNil))))))
      (sRet (mC (.bl false)))
      jas)
      (sSeq (sAsg (jar z_X5 (ja2 (mVar 0) (ja2 (mVar 3) (ja2 (mC (.str "feed")) mNil)))) (jac 6))
      (sRet (mOr (mBin (dIn false) (mVar 4) (mVar 6)) (mBin (dIn false) (mVar 5) (mVar 6))))))))))
def z_X2:Z.MF:=mFun 3 7 b_X2
def b_Qu:Z.MS:=(sSeq (sAsg (jar z_X5 (ja2 (mVar 0) (ja2 (mVar 1) (ja2 (mC (.str "earth")) mNil)))) (jac 2))
      (sRet (mBin dNe (jb5 (jd3 1 [2] (lIt (jar z_X5 (ja2 (mVar 0) (ja2 (mVar 1) (ja2 (mC (.str "feed")) mNil))))) (jac 0) (tB (mBin (dIn false) (mVar 0) (mVar 1))) (mVar 0))) (jb5 (jc8 mNil)))))
def z_Qu:Z.MF:=mFun 2 3 b_Qu
def b_Qy:Z.MS:=(sSeq (sIf (tB (mBin (dIn false) (mVar 1) (mVar 0)))
      (sRet (jb5 (jd3 1 [1] (lIt (mVar 0)) (jac 0) (tB (mBin dNe (mVar 0) (mVar 1))) (mVar 0))))
      jas)
      (sRet (jb5 (jj7 (ja2 (mBin dAdd (mVar 0) (jb5 (jc8 (ja2 (mVar 1) mNil)))) mNil)))))
def z_Qy:Z.MF:=mFun 2 2 b_Qy
def b_Qk:Z.MS:=(sSeq (sIf (tB (mBin (dIn false) (mVar 3) (mVar 2)))
      (sRet (mC (.int 0)))
      jas)
      (sSeq (sIf (tTru (jar z_X2 (ja2 (mVar 0) (ja2 (mVar 1) (ja2 (mVar 3) mNil)))))
      (sRet (mC (.int 1)))
      jas)
      (sSeq (sIf (tTru (jar z_Qu (ja2 (mVar 0) (ja2 (jar z_Qy (ja2 (mVar 1) (ja2 (mVar 3) mNil))) mNil))))
      (sRet (mC (.int 2)))
      jas)
      (sRet (mC (.int 6))))))
def z_Qk:Z.MF:=mFun 4 4 b_Qk
def b_Xj:Z.MS:=(sSeq (sAsg (js1 (jc8 (ja2 (mC (.bl false)) (ja2 (mC (.bl false)) (ja2 (mC (.bl false)) (ja2 (mC (.bl false)) (ja2 (mC (.bl false)) (ja2 (mC (.bl false)) mNil)))))))) (jac 2))
      (sSeq (sAsg (mC (.str "")) (jac 3))
      (sSeq (sTry (sAsg (jao jgp "say" (mVar 0) (lNox (ja2 (mVar 1) mNil))) (jac 3)) (jk9 w_Y9
      (sAsg (mC (.bl true)) (gSub (mVar 2) (mC (.int 0))))
      (jk9 w_Y7
      (sAsg (mC (.bl true)) (gSub (mVar 2) (mC (.int 1))))
      (jk9 w_Y0
      (sAsg (mC (.bl true)) (gSub (mVar 2) (mC (.int 2))))
      (jk9 w_Y6
      (sAsg (mC (.bl true)) (gSub (mVar 2) (mC (.int 3))))
      (jk9 w_Xg
      (sAsg (mC (.bl true)) (gSub (mVar 2) (mC (.int 4))))
      (jk9 w_Y1
      (sAsg (mC (.bl true)) (gSub (mVar 2) (mC (.int 5))))
      cNil)))))))
      (jfp 2 (sRet (mTup (ja2 (mVar 2) (ja2 (mVar 3) mNil))))))))
def z_Xj:Z.MF:=mFun 2 4 b_Xj
def b_Qq:Z.MS:=(sSeq (sIf (tB (mBin dLt (mVar 1) (mFn fLen (ja2 (mVar 0) mNil))))
      (sRet (mBin dIx (mVar 0) (mVar 1)))
      jas)
      (sRet (mC (.int 0))))
def z_Qq:Z.MF:=mFun 2 2 b_Qq
def b_Qd:Z.MS:=(sSeq (sIf (tNot (tTru (mVar 4)))
      (sRet (mBin dIx (jb5 (jc8 (ja2 (mC (.int 4)) (ja2 (mC (.int 6)) mNil)))) (mFn fInt (ja2 (mBin (dIn false) (mVar 3) (mVar 2)) mNil))))
      jas)
      (sSeq (sIf (tB (mBin (dIn false) (mBin dIx (mBin dIx (mVar 0) (mVar 3)) (mC (.int 0))) (jb5 (jc8 (ja2 (mC (.str "breaker")) (ja2 (mC (.str "earth")) mNil))))))
      (sRet (mC (.int 3)))
      jas)
      (sSeq (sIf (tB (mBin (dIn false) (mVar 3) (mVar 1)))
      (sRet (mC (.int 5)))
      jas)
      (sRet (mBin dIx (jb5 (jc8 (ja2 (mC (.int 6)) (ja2 (mC (.int 0)) mNil)))) (mFn fInt (ja2 (mBin (dIn false) (mVar 3) (mVar 2)) mNil)))))))
def z_Qd:Z.MF:=mFun 5 5 b_Qd
def b_Qf:Z.MS:=(sSeq (jdo jbg "yard" (mVar 0) (mC .non))
      (jdo jbb "board" (mVar 0) (mC .non)))
def z_Qf:Z.MF:=mFun 1 1 b_Qf
def jgb:Z.MS:=(sSeq (sIf (tB (mBin dEq (mVar 2) (mC (.int 0))))
      jug
      jas)
      (sSeq (sAsg (mBin dMod (mBin dDiv (mVar 7) (mC (.int 3))) (mVar 2)) (jac 8))
      (sSeq (sAsg (mBin (dIn true) (mVar 8) (mVar 6)) (jac 9))
      (sSeq (sIf (tB (mBin dEq (mBin dMod (mBin dDiv (mBin dDiv (mVar 7) (mC (.int 3))) (mVar 2)) (mC (.int 4))) (mC (.int 0))))
      (sAsg (js3 (mVar 9)) (jac 9))
      jas)
      (sSeq (sAsg (mBin dIx (jb5 (jc8 (ja2 (mC (.str "turn")) (ja2 (mC (.str "turn")) (ja2 (mBin dIx (jb5 (jc8 (ja2 (mC (.str "unlock")) (ja2 (mC (.str "lock")) mNil)))) (mFn fInt (ja2 (mVar 9) mNil))) mNil))))) (mBin dMod (mVar 7) (mC (.int 3)))) (jac 10))
      (sSeq (sAsg (jar z_Qk (ja2 (mVar 3) (ja2 (mVar 5) (ja2 (mVar 6) (ja2 (mVar 8) mNil))))) (jac 11))
      (sSeq (sIf (tB (mBin dNe (mVar 10) (mC (.str "turn"))))
      (sAsg (jar z_Qd (ja2 (mVar 3) (ja2 (mVar 5) (ja2 (mVar 6) (ja2 (mVar 8) (ja2 (mVar 9) mNil)))))) (jac 11))
      jas)
      (sSeq (sAsg (jar z_Xj (ja2 (mVar 4) (ja2 (mBin dAdd (mBin dAdd (mVar 10) (mC (.str " "))) (mFn fStr (ja2 (mVar 8) mNil))) mNil))) (gTup [12,13]))
      (sSeq (sIf (tB (mBin dNe (mVar 12) (jb5 (jd3 1 [11] (ji0 (ja2 (mC (.int 6)) mNil)) (jac 0) tYes (mBin dEq (mVar 1) (mVar 0))))))
      (sRet (mC (.bl false)))
      jas)
      (sSeq (sIf (tAnd (tB (mBin dEq (mVar 11) (mC (.int 6)))) (tB (mBin dEq (mVar 10) (mC (.str "turn")))))
      (sSeq (sAsg (jar z_Qy (ja2 (mVar 5) (ja2 (mVar 8) mNil))) (jac 5))
      (sIf (tB (mBin dNe (mVar 13) (mBin dIx (jb5 (jc8 (ja2 (mC (.str "open")) (ja2 (mC (.str "shut")) mNil)))) (mFn fInt (ja2 (mBin (dIn false) (mVar 8) (mVar 5)) mNil)))))
      (sRet (mC (.bl false)))
      jas))
      jas)
      (sSeq (sIf (tAnd (tB (mBin dEq (mVar 11) (mC (.int 6)))) (tB (mBin dNe (mVar 10) (mC (.str "turn")))))
      (sSeq (sAsg (jar z_Qy (ja2 (mVar 6) (ja2 (mVar 8) mNil))) (jac 6))
      (sIf (tB (mBin dNe (mVar 13) (mC (.str "ok"))))
      (sRet (mC (.bl false)))
      jas))
      jas)
      (sIf (tNot (tTru (jar z_Xo (ja2 (mVar 4) (ja2 (mVar 3) (ja2 (mVar 5) (ja2 (mVar 6) (ja2 (mBin dDiv (mVar 7) (mC (.int 36))) mNil))))))))
      (sRet (mC (.bl false)))
      jas))))))))))))
def js7:Z.MS:=(sSeq (sAsg (mBin dAdd (mC (.int 1)) (mBin dMod (jar z_Qq (ja2 (mVar 0) (ja2 (mC (.int 0)) mNil))) (mC (.int 10)))) (jac 1))
      (sSeq (sAsg (mBin dMod (mBin dDiv (jar z_Qq (ja2 (mVar 0) (ja2 (mC (.int 0)) mNil))) (mC (.int 10))) (mBin dIx (jb5 (jc8 (ja2 (mC (.int 9)) (ja2 (mC (.int 9)) (ja2 (mC (.int 13)) mNil))))) (mBin dMod (mBin dDiv (jar z_Qq (ja2 (mVar 0) (ja2 (mC (.int 0)) mNil))) (mC (.int 130))) (mC (.int 3))))) (jac 2))
      (sSeq (sAsg (jb5 (jd3 1 [1,0] (ji0 (ja2 (mVar 2) mNil)) (jac 0) tYes (jar z_X0 (ja2 (mBin dDiv (jar z_Qq (ja2 (mVar 2) (ja2 (mBin dAdd (mC (.int 1)) (mVar 0)) mNil))) (mC (.int 7))) (ja2 (mVar 1) mNil))))) (jac 3))
      (sSeq (sAsg (jo4 "Desk" z_Qf mNil) (jac 4))
      (sSeq (sIf (tNot (tTru (jar z_X8 (ja2 (mVar 4) (ja2 (mVar 1) (ja2 (mVar 3) mNil))))))
      (sRet (mC (.bl false)))
      jas)
      (sSeq (sAsg (jb5 (jc8 mNil)) (jac 5))
      (sSeq (sAsg (jb5 (jc8 mNil)) (jac 6))
      (sSeq (sFor (lIt (mSl (mVar 0) oNo (oSo (mC (.int 63))))) (jac 7)
      jgb)
      (sRet (jar z_Xo (ja2 (mVar 4) (ja2 (mVar 3) (ja2 (mVar 5) (ja2 (mVar 6) (ja2 (mC (.int 0)) mNil)))))))))))))))
def jy6:Z.MF:=mFun 1 14 js7
end My
namespace My
open Z PySem
def sd(s:Str×List Int):D:= .tup (.str s.1::s.2.map .int)
def SwOk(c:Int)(s:Str×List Int):Prop:=
 (∃b,0<=b /\ b<c /\ (s=(("feed":Str),[b]) \/ s=(("earth":Str),[b]))) \/ ∃a b,0<=a /\ a<c /\ 0<=b /\ b<c /\ a≠b /\ (s=(("breaker":Str),[a,b]) \/ s=(("splitter":Str),[a,b]))
abbrev W(n:Int):Str:=numS n
theorem w_fin:∀n:Fin 13,(W n.val).cps.toList.length<=2 /\ 1<=(W n.val).cps.toList.length /\ (32∉(W n.val).cps.toList) /\ (10∉(W n.val).cps.toList):=by decide+kernel
theorem w_of{n:Int}(h0:0<=n)(h1:n<=12):(W n).length<=2 /\ 1<=(W n).length /\ (32∉(W n).cps.toList) /\ (10∉(W n).cps.toList):=by
 obtain⟨m,rfl⟩:∃m:Nat,n=m:=⟨n.toNat,by omega⟩
 have:=w_fin ⟨m,by omega⟩
 simpa [Str.length] using this
def rowT(s:Str×List Int):Str:=Str.join ⟨#[32]⟩ (s.1::s.2.map W)
theorem SwOk.bars{c:Int}{s:Str×List Int}(ok:SwOk c s):(∀b∈s.2,0<=b /\ b<c) /\ s.2.length<=2 /\ s.2≠[] /\ s.1.length<=8 /\ (32∉s.1.cps.toList) /\ (10∉s.1.cps.toList):=by
 have hs:∀k:Str,(k="feed" \/ k="earth" \/ k="breaker" \/ k="splitter")->k.length<=8 /\ (32∉k.cps.toList) /\ (10∉k.cps.toList):=by
  rintro k (rfl | rfl | rfl | rfl)<;>decide+kernel
 rcases ok with⟨b,h0,h1,rfl | rfl⟩ | ⟨a,b,h0,h1,h2,h3,_,rfl | rfl⟩
 ·exact⟨by simp;omega,by simp,by simp,hs _ (by simp)⟩
 ·exact⟨by simp;omega,by simp,by simp,hs _ (by simp)⟩
 ·exact⟨by simp;omega,by simp,by simp,hs _ (by simp)⟩
 ·exact⟨by simp;omega,by simp,by simp,hs _ (by simp)⟩
theorem jww{l:List Nat}{m:Nat}(h:∀x∈l,x<=m):l.sum<=l.length*m:=by
 induction l with
 | nil=>simp
 | cons a l ih=>
  have h1:=h a (List.mem_cons_self ..)
  have h2:=ih λx hx=>h x (List.mem_cons_of_mem _ hx)
  simp only[List.sum_cons,List.length_cons,Nat.succ_mul]
  omega
theorem e32:Str.ofString " "=⟨#[32]⟩:=by decide+kernel
def jdd(c:Int):Str:=rowT (("bars":Str),[c])
theorem jg3{k:Str}{bs:List Int}(hk:k.length<=8)(k32:32∉k.cps.toList)(k10:10∉k.cps.toList)(hb:∀b∈bs,0<=b /\ b<=12)(hl:bs.length<=2):
  (rowT (k,bs)).length<=20 /\ (10∉(rowT (k,bs)).cps.toList) /\ Txt.split (rowT (k,bs)) ⟨#[32]⟩=k::bs.map W:=by
 have hw:∀p∈k::bs.map W,32∉p.cps.toList /\ 10∉p.cps.toList /\ p.length<=8:=by
  intro p hp
  rcases List.mem_cons.mp hp with rfl | hp
  ·exact⟨k32,k10,hk⟩
  ·obtain⟨b,hb',rfl⟩:=List.mem_map.mp hp
   have:=w_of (hb b hb').1 (hb b hb').2
   exact⟨this.2.2.1,this.2.2.2,by omega⟩
 refine⟨?_,?_,jpe (λz=>nomatch z) λp hp=>(hw p hp).1⟩
 ·have:=jhj (c:=32) (k::bs.map W) (λz=>nomatch z)
  show(Str.join ⟨#[32]⟩ (k::bs.map W)).length<=20
  have h2:((k::bs.map W).map (·.length)).sum<=8+2*2:=by
   have:=jww (l:=(bs.map W).map (·.length)) (m:=2) (by
    intro x hx
    simp only[List.mem_map] at hx
    obtain⟨y,⟨b,hb',rfl⟩,rfl⟩:=hx
    exact(w_of (hb b hb').1 (hb b hb').2).1)
   simp only[List.length_map] at this
   simp only[List.map_cons,List.sum_cons]
   omega
  simp only[List.length_cons,List.length_map] at this
  omega
 ·unfold rowT
  have gen:∀ps:List Str,(∀p∈ps,10∉p.cps.toList)->10∉(Str.join ⟨#[32]⟩ ps).cps.toList:=by
   intro ps
   induction ps with
   | nil=>intro _;simp[Str.join,Str.empty]
   | cons p ps ih=>
    intro hp
    cases ps with
    | nil=>exact hp p (List.mem_cons_self ..)
    | cons q r=>
     rw[jeo]
     intro hm
     rcases List.mem_append.mp hm with hm | hm
     ·exact hp p (List.mem_cons_self ..) hm
     ·rcases List.mem_cons.mp hm with hm | hm
      ·exact absurd hm (by decide)
      ·exact ih (λa ha=>hp a (List.mem_cons_of_mem _ ha)) hm
  exact gen _ λp hp=>(hw p hp).2.1
theorem jgi:(Str.ofString "bars").length<=8 /\ 32∉(Str.ofString "bars").cps.toList /\ 10∉(Str.ofString "bars").cps.toList:=by decide+kernel
def jkj(c:Nat):Bool:=decide (48<=c /\ c<=57)
def jfi(w:Str):Bool:=decide (1<=w.length)&&decide (w.length<=9)&& !(decide (w.cps.toList[0]?=some 48)&&decide (1<w.length))&&w.cps.toList.all jkj
theorem figs(c:Nat):(!(Builtin.Str.occurrences (Str.ofString "0123456789") ⟨#[c]⟩ 0 (Str.ofString "0123456789").length 1).isEmpty)=jkj c:=by
 rw[StrLaws.found_one]
 have e:(Str.ofString "0123456789").cps.toList=[48,49,50,51,52,53,54,55,56,57]:=by decide+kernel
 rw[e]
 unfold jkj
 by_cases h:48<=c /\ c<=57
 ·rw[decide_eq_true h,decide_eq_true]
  simp;omega
 ·rw[decide_eq_false h,decide_eq_false]
  simp;omega
theorem jti(c:Nat):decide ((⟨#[c]⟩:Str)=Str.ofString "0")=decide (c=48):=by
 have e:Str.ofString "0"=⟨#[48]⟩:=by decide+kernel
 rw[e];simp
theorem jse(w:Str)(h:MH)(hw:w.length<16777216):z_Xp [.str w] h= .ok (.bl (jfi w)) h:=by
 have hl:w.cps.toList.length=w.length:=by simp[Str.length]
 have hle:w.length<=16777216:=by omega
 have hsz:w.cps.size<16777216:=hw
 have comp:compLoop (jac 0) tYes (mBin (dIn false) (mVar 0) (mC (.str "0123456789"))) [none] (w.cps.toList.map λc=>D.str ⟨#[c]⟩) h= .ok ((w.cps.toList.map jkj).map D.bl) h:=by
  have:=jc3 (g:=jac 0) (t:=tYes) (h:=h) (m:=mBin (dIn false) (mVar 0) (mC (.str "0123456789"))) (ρ0:=[none]) (λc:Nat=>D.str ⟨#[c]⟩) (λc=>[some (D.str ⟨#[c]⟩)]) (λc=>D.bl (jkj c)) w.cps.toList (λc hm=>by
   refine⟨by simp,by simp,?_⟩
   simp only[mBin,mVar,mC,dIn,jde,List.getElem?_cons_zero]
   have:=figs c
   simp only[Bool.false_eq_true,if_false]
   rw[this])
  rw[this,List.map_map];rfl
 have hlt:(w.cps.toList.map λc=>D.str ⟨#[c]⟩).length<16777216:=by rw[List.length_map,hl];exact hw
 have e9:((w.length:Int)<=9)↔w.length<=9:=by omega
 have eall:(w.cps.toList.map jkj).all id=w.cps.toList.all jkj:=by simp[List.all_map]
 simp only[z_Xp,b_Xp]
 unfold jfi
 by_cases h1:1<=w.length
 ·by_cases h2:w.length<=9
  ·obtain⟨c,r,ec⟩:∃c r,w.cps.toList=c::r:=by
    cases e:w.cps.toList with
    | nil=>rw[e] at hl;simp at hl;omega
    | cons c r=>exact⟨c,r,rfl⟩
   have i0:atI w.cps.toList 0=some c:=by rw[ec];simp
   have g0:w.cps.toList[0]?=some c:=by rw[ec];rfl
   have h1':(1:Int)<=(w.length:Int):=by omega
   have h2':(w.length:Int)<=9:=by omega
   by_cases h3:c=48
   ·by_cases h4:1<w.length
    ·have h4':(1:Int)<(w.length:Int):=by omega
     simp[-List.map_map, -Array.toList_map,chk,hle,h1,h2,h1',h2',i0,jti,h3,h4,h4',g0]
    ·have h4':¬(1:Int)<(w.length:Int):=by omega
     simp[-List.map_map, -Array.toList_map,chk,hle,h1,h2,h1',h2',i0,jti,h3,h4,h4',g0,comp,hsz]
   ·simp[-List.map_map, -Array.toList_map,chk,hle,h1,h2,h1',h2',i0,jti,h3,g0,comp,hsz]
  ·have h2':¬(w.length:Int)<=9:=by omega
   have h1':(1:Int)<=(w.length:Int):=by omega
   simp[chk,hle,h1,h2,h1',h2']
 ·have h1':¬(1:Int)<=(w.length:Int):=by omega
  simp[chk,hle,h1,h1']
def cntK(k:Str):Option Int:=if k="bars" then some 1 else if k="feed" then some 1 else if k="earth" then some 1 else if k="breaker" then some 2 else if k="splitter" then some 2 else none
theorem val_nb(k:Str):∃kvs,jc5= .dic kvs /\ valK kvs (.inr k)=(cntK k).map D.int:=by
 refine⟨_,rfl,?_⟩
 unfold valK cntK
 simp only[List.find?_cons,List.find?_nil]
 by_cases h1:k="bars"
 ·subst h1;simp
 by_cases h2:k="feed"
 ·subst h2;rfl
 by_cases h3:k="earth"
 ·subst h3;rfl
 by_cases h4:k="breaker"
 ·subst h4;rfl
 by_cases h5:k="splitter"
 ·subst h5;rfl
 have e:∀x:Str,k≠x->¬(x=k):=λx hx z=>hx z.symm
 simp[e _ h1,e _ h2,e _ h3,e _ h4,e _ h5,h1,h2,h3,h4,h5]
def numV(w:Str):Int:=(intText? w).getD 0
theorem num_of{w:Str}(h:jfi w=true):intText? w=some (numV w) /\ w.length<=640:=by
 unfold jfi at h
 simp only[Bool.and_eq_true,decide_eq_true_eq] at h
 obtain⟨⟨⟨h1,h2⟩,_⟩,h4⟩:=h
 have hd:PySem.NumText.AllDigits w.cps.toList:=by
  intro c hc
  have:=List.all_eq_true.mp h4 c hc
  unfold jkj at this
  exact of_decide_eq_true this
 have hne:w.cps.toList≠[]:=by
  intro e
  have:w.cps.toList.length=w.length:=by simp[Str.length]
  rw[e] at this;simp at this;omega
 have:=intText_digits hd hne (by omega)
 unfold numV
 rw[this]
 exact⟨rfl,by omega⟩
def jiy(ws:List Str):Option (Str×List Int):=match ws with
 | []=>none
 | k::r=>match cntK k with
  | none=>none
  | some n=>if(r.length:Int)=n then(if r.all jfi=true then some (k,r.map numV) else none) else none
theorem jym{l:List Nat}{x:Nat}(h:x∈l):x<=l.sum:=by
 induction l with
 | nil=>cases h
 | cons a l ih=>
  rcases List.mem_cons.mp h with rfl | h
  ·simp
  ·have:=ih h;simp;omega
theorem jn3{x:Str}{c:Nat}{p:Str}(h:p∈Txt.split x ⟨#[c]⟩):p.length<=x.length:=by
 have e:=jhj (c:=c) (Txt.split x ⟨#[c]⟩) (jg0 _ _)
 rw[StrLaws.join_split] at e
 have h1:p.length<=((Txt.split x ⟨#[c]⟩).map (·.length)).sum:=jym (List.mem_map.mpr ⟨p,h,rfl⟩)
 have h2:(Txt.split x ⟨#[c]⟩).length≠0:=λz=>jg0 x ⟨#[c]⟩ (List.eq_nil_of_length_eq_zero z)
 omega
theorem jgq(r:List Str)(h:MH)(hs:∀w∈r,w.length<16777216)(hl:r.length<16777216):z_Qs [.lst (r.map D.str)] h=if r.all jfi=true then .ok (.lst ((r.map numV).map D.int)) h else .exc "NoRow" h:=by
 have comp:compLoop (jac 0) tYes (jar z_Xp (ja2 (mVar 0) mNil)) [none] (r.map D.str) h= .ok ((r.map jfi).map D.bl) h:=by
  have:=jc3 (g:=jac 0) (t:=tYes) (h:=h) (m:=jar z_Xp (ja2 (mVar 0) mNil)) (ρ0:=[none]) (λw:Str=>D.str w) (λw=>[some (D.str w)]) (λw=>D.bl (jfi w)) r (λw hm=>by
   refine⟨by simp,by simp,?_⟩
   simp
   exact jse w h (hs w hm))
  rw[this,List.map_map];rfl
 have compI:r.all jfi=true->compLoop (jac 0) tYes (mFn fInt (ja2 (mVar 0) mNil)) [none] (r.map D.str) h= .ok ((r.map numV).map D.int) h:=λhall=>by
  have:=jc3 (g:=jac 0) (t:=tYes) (h:=h) (m:=mFn fInt (ja2 (mVar 0) mNil)) (ρ0:=[none]) (λw:Str=>D.str w) (λw=>[some (D.str w)]) (λw=>D.int (numV w)) r (λw hm=>by
   refine⟨by simp,by simp,?_⟩
   obtain⟨q1,q2⟩:=num_of (List.all_eq_true.mp hall w hm)
   simp[chk,q1,q2])
  rw[this,List.map_map];rfl
 have eall:(r.map jfi).all id=r.all jfi:=by simp[List.all_map]
 by_cases hall:r.all jfi=true
 ·simp[-List.map_map, -List.all_eq_true,z_Qs,b_Qs,chk,hall,comp,compI hall,hl,eall]
 ·simp[-List.map_map, -List.all_eq_true,z_Qs,b_Qs,chk,hall,comp,hl,eall]
theorem parted(row:Str)(h:MH)(hr:row.length+1<16777216):z_Ya [.str row] h=match jiy (Txt.split row ⟨#[32]⟩) with
  | some s=> .ok (sd s) h
  | none=> .exc "NoRow" h:=by
 have hsl:=jtb row 32
 have hsh:=λp (hp:p∈Txt.split row ⟨#[32]⟩)=>jn3 hp
 have hne:=jg0 row ⟨#[32]⟩
 generalize ew:Txt.split row ⟨#[32]⟩=ws at*
 have l32:¬((⟨#[32]⟩:Str).length=0):=by decide
 have hr0:row.length<=16777216:=by omega
 have hw0:ws.length<=16777216:=by omega
 have es:jir (mVar 0) (ja2 (mC (.str " ")) mNil) [some (.str row),none,none] h= .ok (ws.map D.str) h:=by
  simp[e32,chk,l32,hr0,ew,hw0]
 cases ws with
 | nil=>exact absurd rfl hne
 | cons k r=>
  obtain⟨kvs,ek,ev⟩:=val_nb k
  have hrl:r.length<16777216:=by simp at hw0;omega
  have nt:=jgq r h (λw hm=>by have:=hsh w (List.mem_cons_of_mem _ hm);omega) hrl
  have es':jir (mVar 0) (ja2 (mC (.str " ")) mNil) [some (.str row),none,none] h= .ok (D.str k::r.map D.str) h:=es
  unfold jiy
  simp only[z_Ya,b_Ya,mFun,List.length_cons,List.length_nil,if_pos,List.map_cons,List.map_nil,sSeq,sAsg,jb5]
  simp only[List.replicate,List.cons_append,List.nil_append,Nat.reduceAdd,Nat.reduceSub,es',jde,jdr,jac,List.set_cons_succ,List.set_cons_zero]
  cases ec:cntK k with
  | none=>
   rw[ec] at ev
   simp[ek,ev,chk]
  | some n=>
   rw[ec] at ev
   have hcm:n+1=1+n:=Int.add_comm ..
   by_cases hl:(r.length:Int)=n
   ·by_cases hall:r.all jfi=true
    ·rw[if_pos hall] at nt
     simp[-List.map_map, -List.all_eq_true,ek,ev,chk,hl,hcm,hall,nt,hrl,show 1+r.length<=16777216 by omega,sd]
    ·rw[if_neg hall] at nt
     simp[-List.map_map, -List.all_eq_true,ek,ev,chk,hl,hcm,hall,nt,hrl]
   ·have hl':¬((r.length:Int)+1=1+n):=by omega
    simp[-List.map_map,ek,ev,chk,hl,hl']
theorem w_num:∀n:Fin 13,jfi (W n.val)=true:=by decide+kernel
theorem jqy{n:Int}(h0:0<=n)(h1:n<=12):jfi (W n)=true /\ numV (W n)=n:=by
 constructor
 ·obtain⟨m,rfl⟩:∃m:Nat,n=m:=⟨n.toNat,by omega⟩
  exact w_num ⟨m,by omega⟩
 ·unfold numV
  have:=PySem.W.KIN.num_reads (n:=n) h0 (by omega)
  show(intText? (Str.ofString (toString n))).getD 0=n
  rw[this];rfl
theorem jp4{k:Str}{bs:List Int}{m:Int}(hk:cntK k=some m)(hm:(bs.length:Int)=m)(hb:∀b∈bs,0<=b /\ b<=12):jiy (k::bs.map W)=some (k,bs):=by
 unfold jiy
 simp only[hk]
 rw[if_pos (by rw[List.length_map];exact hm),if_pos]
 ·have:(bs.map W).map numV=bs:=by
   rw[List.map_map]
   conv=>rhs;rw[<-List.map_id bs]
   exact List.map_congr_left λb hb'=>(jqy (hb b hb').1 (hb b hb').2).2
  rw[this]
 ·rw[List.all_eq_true]
  intro w hw
  obtain⟨b,hb',rfl⟩:=List.mem_map.mp hw
  exact(jqy (hb b hb').1 (hb b hb').2).1
theorem jkt{k:Str}{bs:List Int}{m:Int}(h:MH)(hk:cntK k=some m)(hm:(bs.length:Int)=m)(hb:∀b∈bs,0<=b /\ b<=12)(kl:k.length<=8)(k32:32∉k.cps.toList)(k10:10∉k.cps.toList)(hl:bs.length<=2):
  z_Ya [.str (rowT (k,bs))] h= .ok (sd (k,bs)) h:=by
 obtain⟨f1,_,f3⟩:=jg3 kl k32 k10 hb hl
 rw[parted _ h (by omega),f3,jp4 hk hm hb]
theorem s_ne:(Str.ofString "feed"≠Str.ofString "bars") /\ (Str.ofString "earth"≠Str.ofString "bars") /\ (Str.ofString "breaker"≠Str.ofString "bars") /\ (Str.ofString "splitter"≠Str.ofString "bars"):=by decide+kernel
theorem jm9(c:Int)(h:MH)(h1:1<=c)(h2:c<=10):z_Xr [.str (jdd c)] h= .ok (.int c) h:=by
 have hp:=jkt (k:="bars") (bs:=[c]) h (m:=1) rfl rfl (by simp;omega) jgi.1 jgi.2.1 jgi.2.2 (by simp)
 have hp':z_Ya [.str (jdd c)] h= .ok (.tup [.str "bars",.int c]) h:=hp
 simp[z_Xr,b_Xr,hp',h1,h2,chk]
theorem SwOk.cnt{c:Int}{s:Str×List Int}(ok:SwOk c s):∃m,cntK s.1=some m /\ (s.2.length:Int)=m:=by
 rcases ok with⟨b,_,_,rfl | rfl⟩ | ⟨a,b,_,_,_,_,_,rfl | rfl⟩
 ·exact⟨1,rfl,rfl⟩
 ·exact⟨1,rfl,rfl⟩
 ·exact⟨2,rfl,rfl⟩
 ·exact⟨2,rfl,rfl⟩
theorem jkm(s:Str×List Int)(c:Int)(n:Nat)(h:MH)(h1:1<=c)(h2:c<=10)(ok:SwOk c s)(hn:n<12):z_Xh [.str (rowT s),.int c,.int n] h= .ok (sd s) h:=by
 obtain⟨a1,a2,a3,a4,a5,a6⟩:=ok.bars
 obtain⟨m,m1,m2⟩:=ok.cnt
 have hp:=jkt (k:=s.1) (bs:=s.2) h m1 m2 (λb hb=>⟨(a1 b hb).1,by have:=(a1 b hb).2;omega⟩) a4 a5 a6 a2
 have hp':z_Ya [.str (rowT s)] h= .ok (sd s) h:=hp
 have hn':¬((12:Int)<=(n:Int)):=by omega
 obtain⟨e1,e2,e3,e4⟩:=s_ne
 rcases ok with⟨b,b0,b1,rfl | rfl⟩ | ⟨a,b,b0,b1,b2,b3,ne,rfl | rfl⟩
 ·simp[z_Xh,b_Xh,hp',sd,chk,e1,hn',maxI,show ¬c<=b by omega]
 ·simp[z_Xh,b_Xh,hp',sd,chk,e2,hn',maxI,show ¬c<=b by omega]
 ·have:¬c<=(if b>a then b else a):=by split<;>omega
  simp[z_Xh,b_Xh,hp',sd,chk,e3,hn',maxI,this,ne]
 ·have:¬c<=(if b>a then b else a):=by split<;>omega
  simp[z_Xh,b_Xh,hp',sd,chk,e4,hn',maxI,this,ne]
inductive Sw where
 | feed (b:Nat) | earth (b:Nat) | breaker (a b:Nat) | splitter (a b:Nat)
def Sw.d:Sw->D
 | .feed b=> .tup [.str "feed",.int b]
 | .earth b=> .tup [.str "earth",.int b]
 | .breaker a b=> .tup [.str "breaker",.int a,.int b]
 | .splitter a b=> .tup [.str "splitter",.int a,.int b]
def Sw.o:Sw->D
 | .feed b=> .obj "Feed" [("bar",.int b)]
 | .earth b=> .obj "Earth" [("bar",.int b)]
 | .breaker a b=> .obj "Breaker" [("one",.int a),("other",.int b)]
 | .splitter a b=> .obj "Splitter" [("one",.int a),("other",.int b)]
def Sw.pair:Sw->Nat
 | .breaker a b=>2^a|||2^b
 | .splitter a b=>2^a|||2^b
 | _=>0
def Sw.fed:Sw->Nat
 | .feed b=>2^b
 | _=>0
def Sw.led:Sw->Nat
 | .earth b=>2^b
 | _=>0
def Sw.ok(n:Nat):Sw->Prop
 | .feed b=>b<n
 | .earth b=>b<n
 | .breaker a b=>a<n /\ b<n /\ a≠b
 | .splitter a b=>a<n /\ b<n /\ a≠b
theorem k_fe:¬(Str.ofString "earth"=Str.ofString "feed"):=by decide+kernel
theorem k_bf:¬(Str.ofString "breaker"=Str.ofString "feed"):=by decide+kernel
theorem k_be:¬(Str.ofString "breaker"=Str.ofString "earth"):=by decide+kernel
theorem k_sf:¬(Str.ofString "splitter"=Str.ofString "feed"):=by decide+kernel
theorem k_se:¬(Str.ofString "splitter"=Str.ofString "earth"):=by decide+kernel
theorem k_sb:¬(Str.ofString "splitter"=Str.ofString "breaker"):=by decide+kernel
theorem k_oo:¬(Str.ofString "one"=Str.ofString "other"):=by decide+kernel
theorem k_oo':(Str.ofString "other"==Str.ofString "one")=false:=by decide+kernel
theorem jr3(s:Sw)(h:MH)(hb:h.all (Cell.bnd h.length)=true):z_Xm [s.d] h= .ok s.o h:=by
 have hb':∀x∈h,Cell.bnd h.length x=true:=by simpa using hb
 cases s<;>simp[z_Xm,b_Xm,Sw.d,Sw.o,z_Qc,b_Qc,z_Qa,b_Qa,z_Q2,b_Q2,z_Q0,b_Q0,k_fe,k_bf,k_be,k_sf,k_se,k_sb,k_oo,jgu,jgy,jdq,putF,D.bnd,D.bndf]<;>rw[if_neg (by omega),if_pos hb']
theorem jd9{α:Type}{g:MG}{t:MT}{m:ME}{ρ0:Ro}{h:MH}(e:α->D)(r:α->Ro)(tt:α->Bool)(f:α->D):∀(as:List α),(∀a∈as,g (e a) ρ0 h= .nx (r a) h /\ t (r a) h= .ok (tt a) h /\ m (r a) h= .ok (f a) h)->compLoop g t m ρ0 (as.map e) h= .ok ((as.filter tt).map f) h
 | [],_=>rfl
 | a::as,q=>by
  obtain⟨h1,h2,h3⟩:=q a (List.mem_cons_self ..)
  have ih:=jd9 e r tt f as λb hb=>q b (List.mem_cons_of_mem _ hb)
  rw[List.map_cons]
  unfold compLoop
  rw[h1]
  cases y:tt a with
  | true=>simp only[h2,y,h3,ih,List.filter_cons,if_true,List.map_cons]
  | false=>simp only[h2,y,ih,List.filter_cons,if_false,Bool.false_eq_true]
def yd(n:Nat)(sws:List Sw):D:= .tup [.int n,.lst (sws.map Sw.d)]
def netO(sws:List Sw):D:= .obj "Net" [("switches",.lst (sws.map Sw.o))]
def Hb(h:MH):Prop:=∀n,h.length<=n->h.all (Cell.bnd n)=true
theorem Hb.nil:Hb []:=λ_ _=>rfl
theorem Hb.snoc{h:MH}{c:Option Cell}(a:Hb h)(b:∀n,h.length<n->Cell.bnd n c=true):Hb (h++[c]):=λn hn=>by
 simp only[List.length_append,List.length_cons,List.length_nil,List.all_append,List.all_cons,List.all_nil,Bool.and_true,Bool.and_eq_true] at hn ⊢
 exact⟨a n (by omega),b n (by omega)⟩
theorem jvf(n:Nat)(sws:List Sw)(h:MH)(hl:sws.length<=12)(hb:Hb h):z_Qw [.ref h.length,yd n sws] (h++[some (.ins "Net" [])])= .ok .non (h++[some (.ins "Net" [("switches",.lst (sws.map Sw.o))])]):=by
 have hb2:Hb (h++[some (.ins "Net" [])]):=hb.snoc λn _=>by simp[Cell.bnd,D.bnds]
 have comp:compLoop (jac 0) tYes (jar z_Xm (ja2 (mVar 0) mNil)) [none] (sws.map Sw.d) (h++[some (.ins "Net" [])])= .ok (sws.map Sw.o) (h++[some (.ins "Net" [])]):=
  jc3 (g:=jac 0) (t:=tYes) (m:=jar z_Xm (ja2 (mVar 0) mNil)) (ρ0:=[none]) Sw.d (λs=>[some s.d]) Sw.o sws (λs _=>by
   refine⟨by simp,by simp,?_⟩
   have:=jr3 s _ (hb2 _ (Nat.le_refl _))
   simp[this])
 simp[-List.map_map,z_Qw,b_Qw,yd,comp,jbf,putF,show sws.length<16777216 by omega]
theorem jhc{m:ME}{ρ:Ro}{h:MH}(n:Nat)(sws:List Sw)(hl:sws.length<=12)(hb:Hb h)(e:m ρ h= .ok (yd n sws) h):jfb "Net" z_Qw (ja2 m mNil) ρ h= .ok (netO sws) (h++[none]):=by
 have:=jvf n sws h hl hb
 simp[e,this,netO]
def jdw(st:Nat)(sws:List Sw):List (Sw×Nat):=sws.zipIdx.filter λp=>st.testBit p.2
theorem ju0(sws:List Sw)(f:Sw->D):jhq (sws.map f)=sws.zipIdx.map λp=> .tup [.int (p.2:Int),f p.1]:=by
 unfold jhq
 rw[List.mapIdx_eq_zipIdx_map,List.zipIdx_map,List.map_map]
 rfl
theorem jg8(st k:Nat)(h:MH):jfq [.int st,.int k] h= .ok (.bl (st.testBit k)) h:=by
 have:=bitk st k
 cases q:st.testBit k<;>simp[q] at this<;>simp[jfq,jxm,this]
theorem jl7(sws:List Sw)(st:Nat)(h:MH)(hl:sws.length<=12):z_Qi [netO sws,.int st] h= .ok (.lst ((jdw st sws).map λp=>p.1.o)) h:=by
 have comp:compLoop (gTup [0,1]) (tTru (jar jfq (ja2 (mVar 2) (ja2 (mVar 0) mNil)))) (mVar 1) [none,none,some (.int st)] (jhq (sws.map Sw.o)) h= .ok ((jdw st sws).map λp=>p.1.o) h:=by
  rw[ju0]
  refine jd9 (λp:Sw×Nat=> .tup [.int (p.2:Int),p.1.o]) (λp=>[some (.int p.2),some p.1.o,some (.int st)]) (λp=>st.testBit p.2) (λp=>p.1.o) sws.zipIdx λp _=> ?_
  have:=jg8 st p.2 h
  refine⟨by simp,?_,by simp⟩
  simp[this]
 have h2:(jhq (sws.map Sw.o)).length=sws.length:=by simp[jhq]
 simp[-List.map_map,z_Qi,b_Qi,netO,comp,jbf,h2,show sws.length<16777216 by omega]
theorem k_j1:(Str.ofString "joins"==Str.ofString "bar")=false:=by decide+kernel
theorem k_j2:(Str.ofString "joins"==Str.ofString "one")=false:=by decide+kernel
theorem k_j3:(Str.ofString "joins"==Str.ofString "other")=false:=by decide+kernel
theorem joins(s:Sw){n:Nat}(hn:n<=10)(ok:s.ok n)(h:MH):jao jci "joins" (mVar 0) mNil [some s.o] h= .ok (.int s.pair) h:=by
 cases s with
 | feed b=>simp[Sw.o,jci,k_j1,z_Qr,b_Qr,Sw.pair,List.lookup]
 | earth b=>simp[Sw.o,jci,k_j1,z_Qr,b_Qr,Sw.pair,List.lookup]
 | breaker a b=>
  obtain⟨h1,h2,_⟩:=ok
  have:=bor (2^a) (2^b)
  simp[Sw.o,jci,k_j2,k_j3,k_oo',z_Qh,b_Qh,Sw.pair,List.lookup,jgy,jdq,okp (show a<=100 by omega),okp (show b<=100 by omega)] at this ⊢
  exact this
 | splitter a b=>
  obtain⟨h1,h2,_⟩:=ok
  have:=bor (2^a) (2^b)
  simp[Sw.o,jci,k_j2,k_j3,k_oo',z_Q9,b_Q9,Sw.pair,List.lookup,jgy,jdq,okp (show a<=100 by omega),okp (show b<=100 by omega)] at this ⊢
  exact this
def jcd(st:Nat)(sws:List Sw):List Nat:=(jdw st sws).map λp=>p.1.pair
def cB:MT:=(tB (mBin dNe (mVar 4) (mVar 5)))
def fB:MS:=(sIf (tTru (mBin dAnd (mVar 6) (mVar 4))) (sAsg (mBin dOr (mVar 4) (mVar 6)) (jac 4)) jas)
theorem jle(a b c d e:Option D)(h:MH):∀(ps:List Nat) (r:Nat) (x:Option D),∃x',jdf (jac 6) fB (ps.map λp:Nat=>D.int p) [a,b,c,d,some (.int r),e,x] h= .nx [a,b,c,d,some (.int (Clo.pass ps r:Nat)),e,x'] h
 | [],r,x=>⟨x,rfl⟩
 | p::ps,r,x=>by
  obtain⟨x',ih⟩:=jle a b c d e h ps (if p&&&r≠0 then r|||p else r) (some (.int p))
  refine⟨x',?_⟩
  rw[List.map_cons]
  unfold jdf
  have e1:=band p r
  have e2:=bor r p
  have e3:=ne0 (p&&&r)
  by_cases q:p&&&r≠0
  ·rw[if_pos q] at ih
   have:Clo.pass (p::ps) r=Clo.pass ps (r|||p):=by show Clo.pass ps (if p&&&r≠0 then r|||p else r)=_;rw[if_pos q]
   rw[this]
   have fb:fB [a,b,c,d,some (.int r),e,some (.int p)] h= .nx [a,b,c,d,some (.int (r|||p:Nat)),e,some (.int p)] h:=by
    simp[fB,e1,e2,e3,q]
   simp[fb]
   exact ih
  ·rw[if_neg q] at ih
   have:Clo.pass (p::ps) r=Clo.pass ps r:=by show Clo.pass ps (if p&&&r≠0 then r|||p else r)=_;rw[if_neg q]
   rw[this]
   have q':p&&&r=0:=by simpa using q
   have fb:fB [a,b,c,d,some (.int r),e,some (.int p)] h= .nx [a,b,c,d,some (.int r),e,some (.int p)] h:=by
    simp[fB,e1,e3,q']
   simp[fb]
   exact ih
def wB:MS:=(sSeq (sAsg (mVar 4) (jac 5)) (sFor (lIt (mVar 3)) (jac 6) fB))
theorem wB_ok(a b c:Option D)(ps:List Nat)(h:MH)(r:Nat)(y x:Option D):∃x',wB [a,b,c,some (.lst (ps.map λp:Nat=>D.int p)),some (.int r),y,x] h= .nx [a,b,c,some (.lst (ps.map λp:Nat=>D.int p)),some (.int (Clo.pass ps r:Nat)),some (.int r),x'] h:=by
 obtain⟨x',e⟩:=jle a b c (some (.lst (ps.map λp:Nat=>D.int p))) (some (.int r)) h ps r x
 exact⟨x',by simp[wB,e]⟩
theorem jtv(a b c:Option D)(ps:List Nat)(s:Nat)(h:MH)(y:Option D)(hy:y=some .non)(x:Option D):∃x',jcr cB wB [a,b,c,some (.lst (ps.map λp:Nat=>D.int p)),some (.int s),y,x] h= .nx [a,b,c,some (.lst (ps.map λp:Nat=>D.int p)),some (.int (Clo.clo ps s:Nat)),some (.int (Clo.clo ps s:Nat)),x'] h:=by
 have W:∀x,∃x',jcr cB wB [a,b,c,some (.lst (ps.map λp:Nat=>D.int p)),some (.int (Clo.pass ps s:Nat)),some (.int s),x] h= .nx [a,b,c,some (.lst (ps.map λp:Nat=>D.int p)),some (.int (Clo.clo ps s:Nat)),some (.int (Clo.clo ps s:Nat)),x'] h:=by
  refine Clo.walk (P:=λr=>∀x,∃x',jcr cB wB [a,b,c,some (.lst (ps.map λp:Nat=>D.int p)),some (.int (Clo.pass ps r:Nat)),some (.int r),x] h= .nx [a,b,c,some (.lst (ps.map λp:Nat=>D.int p)),some (.int (Clo.clo ps s:Nat)),some (.int (Clo.clo ps s:Nat)),x'] h) (Clo.jeq ps) ?_ ?_ _ s (Clo.Mid.start ps s) (Nat.lt_succ_self _)
  ·intro r m e x
   have er:=(m.fin (Clo.jeq ps) e).eq
   refine⟨x,?_⟩
   rw[e,<-er]
   exact jje (by simp[cB])
  ·intro r m ne ih x
   obtain⟨x1,e1⟩:=wB_ok a b c ps h (Clo.pass ps r) (some (.int r)) x
   obtain⟨x2,e2⟩:=ih x1
   exact⟨x2,by rw[jjm (h1:=h) (by simp[cB];omega) e1,e2]⟩
 obtain⟨x1,e1⟩:=wB_ok a b c ps h s y x
 obtain⟨x2,e2⟩:=W x1
 exact⟨x2,by rw[jjm (h1:=h) (by subst hy;simp[cB,D.dat,D.py,D.deep,D.eq]) e1,e2]⟩
def jbr(n:Nat)(sws:List Sw):Prop:=1<=n /\ n<=10 /\ sws.length<=12 /\ ∀s∈sws,s.ok n
theorem jjn{st:Nat}{sws:List Sw}{p:Sw×Nat}(h:p∈jdw st sws):p.1∈sws:=by
 unfold jdw at h
 have:=(List.mem_filter.mp h).1
 exact(List.mem_zipIdx this).2.2▸List.getElem_mem _
theorem k_jb:(Str.ofString "joined_bars"==Str.ofString "switches")=false:=by decide+kernel
theorem k_so:(Str.ofString "shut_ones"==Str.ofString "switches")=false:=by decide+kernel
theorem jvv(st:Nat)(sws:List Sw):(jdw st sws).length<=sws.length:=by
 unfold jdw
 exact Nat.le_trans (List.length_filter_le _ _) (by simp)
theorem jlz(ok:jbr n sws)(st s:Nat)(h:MH):z_Q7 [netO sws,.int st,.int s] h= .ok (.int (Clo.clo (jcd st sws) s:Nat)) h:=by
 obtain⟨h1,h2,h3,h4⟩:=ok
 have e1:=jl7 sws st h h3
 have comp:compLoop (jac 0) tYes (jao jci "joins" (mVar 0) mNil) [none] ((jdw st sws).map λp=>p.1.o) h= .ok ((jcd st sws).map λp:Nat=>D.int p) h:=by
  unfold jcd
  rw[List.map_map]
  exact jc3 (g:=jac 0) (t:=tYes) (m:=jao jci "joins" (mVar 0) mNil) (ρ0:=[none]) (λp:Sw×Nat=>p.1.o) (λp=>[some p.1.o]) (λp=> .int (p.1.pair:Nat)) (jdw st sws) λp hp=>⟨by simp,by simp,joins p.1 h2 (h4 _ (jjn hp)) h⟩
 obtain⟨x',ew⟩:=jtv (some (netO sws)) (some (.int st)) (some (.int s)) (jcd st sws) s h (some .non) rfl none
 have hl:=jvv st sws
 have a1:jao jbo "shut_ones" (mVar 0) (ja2 (mVar 1) mNil) [some (netO sws),some (.int st),some (.int s),none,none,none,none] h= .ok (.lst ((jdw st sws).map λp=>p.1.o)) h:=by
  simp only[netO] at e1
  simp[-List.map_map,netO,jbo,List.lookup,k_so,e1]
 have eb:b_Q7=sSeq (sAsg (jb5 (jd3 1 [] (lIt (jao jbo "shut_ones" (mVar 0) (ja2 (mVar 1) mNil))) (jac 0) tYes (jao jci "joins" (mVar 0) mNil))) (jac 3)) (sSeq (sAsg (mVar 2) (jac 4)) (sSeq (sAsg (mC .non) (jac 5)) (sSeq (jcr cB wB) (sRet (mVar 4))))):=rfl
 simp[-List.map_map, -jao,z_Q7,eb,a1,comp,ew,show(jdw st sws).length<16777216 by omega]
theorem k_f1:(Str.ofString "feeds"==Str.ofString "bar")=false:=by decide+kernel
theorem k_f2:(Str.ofString "feeds"==Str.ofString "one")=false:=by decide+kernel
theorem k_f3:(Str.ofString "feeds"==Str.ofString "other")=false:=by decide+kernel
theorem feeds(s:Sw){n:Nat}(hn:n<=10)(ok:s.ok n){m:ME}{ρ:Ro}{h:MH}(e:m ρ h= .ok s.o h):jao jd5 "feeds" m mNil ρ h= .ok (.int s.fed) h:=by
 cases s with
 | feed b=>
  have:b<n:=ok
  simp[e,Sw.o,jd5,k_f1,z_X9,b_X9,Sw.fed,List.lookup,jgu,okp (show b<=100 by omega)]
 | earth b=>simp[e,Sw.o,jd5,k_f1,z_Qv,b_Qv,Sw.fed,List.lookup]
 | breaker a b=>simp[e,Sw.o,jd5,k_f2,k_f3,z_Qv,b_Qv,Sw.fed,List.lookup]
 | splitter a b=>simp[e,Sw.o,jd5,k_f2,k_f3,z_Qv,b_Qv,Sw.fed,List.lookup]
def jh0(st:Nat)(sws:List Sw):Nat:=Clo.all ((jdw st sws).map λp=>p.1.fed) 0
def jbs(st:Nat)(sws:List Sw):Nat:=Clo.clo (jcd st sws) (jh0 st sws)
theorem jmc{J:ME}(val:Sw->Nat){n:Nat}(a b:Option D)(h:MH)(hJ:∀s:Sw,s.ok n->∀f:Nat,J [a,b,some (.int f),some s.o] h= .ok (.int (val s)) h):∀(ps:List (Sw×Nat)) (f:Nat) (x:Option D),(∀p∈ps,p.1.ok n)->
  ∃x',jdf (jac 3) (sAsg (mBin dOr (mVar 2) J) (jac 2)) (ps.map λp=>p.1.o) [a,b,some (.int f),x] h= .nx [a,b,some (.int (Clo.all (ps.map λp=>val p.1) f:Nat)),x'] h
 | [],f,x,_=>⟨x,rfl⟩
 | p::ps,f,x,hp=>by
  obtain⟨x',ih⟩:=jmc val a b h hJ ps (f|||val p.1) (some p.1.o) λq m=>hp q (List.mem_cons_of_mem _ m)
  refine⟨x',?_⟩
  have e1:=hJ p.1 (hp p (List.mem_cons_self ..)) f
  have e2:=bor f (val p.1)
  rw[List.map_cons,List.map_cons]
  unfold jdf
  simp[-List.map_map,e1,e2]
  exact ih
theorem jt4(sws:List Sw)(st:Nat)(h:MH)(hl:sws.length<=12){m l:ME}{ρ:Ro}(e1:m ρ h= .ok (netO sws) h)(e2:l ρ h= .ok (.int st) h):jao jbo "shut_ones" m (ja2 l mNil) ρ h= .ok (.lst ((jdw st sws).map λp=>p.1.o)) h:=by
 have:=jl7 sws st h hl
 unfold netO at e1 this
 simp[-List.map_map,e1,e2,jbo,List.lookup,k_so,this]
theorem ji3(ok:jbr n sws)(st s:Nat)(h:MH){m l k:ME}{ρ:Ro}(e1:m ρ h= .ok (netO sws) h)(e2:l ρ h= .ok (.int st) h)(e3:k ρ h= .ok (.int s) h):jao jbp "joined_bars" m (ja2 l (ja2 k mNil)) ρ h= .ok (.int (Clo.clo (jcd st sws) s:Nat)) h:=by
 have:=jlz ok st s h
 unfold netO at e1 this
 simp[-List.map_map,e1,e2,e3,jbp,List.lookup,k_jb,this]
theorem jte(ok:jbr n sws)(st:Nat)(h:MH):z_Qe [netO sws,.int st] h= .ok (.int (jbs st sws:Nat)) h:=by
 obtain⟨x',e⟩:=jmc (J:=jao jd5 "feeds" (mVar 3) mNil) Sw.fed (n:=n) (some (netO sws)) (some (.int st)) h (λs hs f=>feeds s ok.2.1 hs (by simp)) (jdw st sws) 0 none λp hp=>ok.2.2.2 _ (jjn hp)
 have e1:=jt4 sws st h ok.2.2.1 (m:=mVar 0) (l:=mVar 1) (ρ:=[some (netO sws),some (.int st),some (.int 0),none]) (by simp) (by simp)
 have e2:=ji3 ok st (jh0 st sws) h (m:=mVar 0) (l:=mVar 1) (k:=mVar 2) (ρ:=[some (netO sws),some (.int st),some (.int (jh0 st sws:Nat)),x']) (by simp) (by simp) (by simp)
 have f0:Clo.all ((jdw st sws).map λp=>p.1.fed) 0=jh0 st sws:=rfl
 rw[f0] at e
 simp at e
 simp[-List.map_map, -jao,z_Qe,b_Qe,e1,e,e2,jbs]
theorem k_lb:(Str.ofString "live_bars"==Str.ofString "switches")=false:=by decide+kernel
theorem jlw(ok:jbr n sws)(st:Nat)(h:MH){m l:ME}{ρ:Ro}{h0:MH}(e1:m ρ h0= .ok (netO sws) h)(e2:l ρ h= .ok (.int st) h):jao jce "live_bars" m (ja2 l mNil) ρ h0= .ok (.int (jbs st sws:Nat)) h:=by
 have:=jte ok st h
 unfold netO at e1 this
 simp[-List.map_map,e1,e2,jce,List.lookup,k_lb,this]
theorem k_e1:(Str.ofString "earths"==Str.ofString "bar")=false:=by decide+kernel
theorem k_e2:(Str.ofString "earths"==Str.ofString "one")=false:=by decide+kernel
theorem k_e3:(Str.ofString "earths"==Str.ofString "other")=false:=by decide+kernel
theorem earths(s:Sw){n:Nat}(hn:n<=10)(ok:s.ok n){m:ME}{ρ:Ro}{h:MH}(e:m ρ h= .ok s.o h):jao jd8 "earths" m mNil ρ h= .ok (.int s.led) h:=by
 cases s with
 | earth b=>
  have:b<n:=ok
  simp[e,Sw.o,jd8,k_e1,z_Qx,b_Qx,Sw.led,List.lookup,jgu,okp (show b<=100 by omega)]
 | feed b=>simp[e,Sw.o,jd8,k_e1,z_Qg,b_Qg,Sw.led,List.lookup]
 | breaker a b=>simp[e,Sw.o,jd8,k_e2,k_e3,z_Qg,b_Qg,Sw.led,List.lookup]
 | splitter a b=>simp[e,Sw.o,jd8,k_e2,k_e3,z_Qg,b_Qg,Sw.led,List.lookup]
def jhk(st:Nat)(sws:List Sw):Nat:=Clo.all ((jdw st sws).map λp=>p.1.led) 0
def jcc(st:Nat)(sws:List Sw):Nat:=Clo.clo (jcd st sws) (jhk st sws)
theorem ju4(ok:jbr n sws)(st:Nat)(h:MH):z_Qt [netO sws,.int st] h= .ok (.int (jhk st sws:Nat)) h:=by
 obtain⟨x',e⟩:=jmc (J:=jao jd8 "earths" (mVar 3) mNil) Sw.led (n:=n) (some (netO sws)) (some (.int st)) h (λs hs f=>earths s ok.2.1 hs (by simp)) (jdw st sws) 0 none λp hp=>ok.2.2.2 _ (jjn hp)
 have e1:=jt4 sws st h ok.2.2.1 (m:=mVar 0) (l:=mVar 1) (ρ:=[some (netO sws),some (.int st),some (.int 0),none]) (by simp) (by simp)
 have f0:Clo.all ((jdw st sws).map λp=>p.1.led) 0=jhk st sws:=rfl
 rw[f0] at e
 simp at e
 simp[-List.map_map, -jao,z_Qt,b_Qt,e1,e]
theorem k_ld:(Str.ofString "led_bars"==Str.ofString "switches")=false:=by decide+kernel
theorem led_at(ok:jbr n sws)(st:Nat)(h:MH){m l:ME}{ρ:Ro}{h0:MH}(e1:m ρ h0= .ok (netO sws) h)(e2:l ρ h= .ok (.int st) h):jao jdn "led_bars" m (ja2 l mNil) ρ h0= .ok (.int (jhk st sws:Nat)) h:=by
 have:=ju4 ok st h
 unfold netO at e1 this
 simp[-List.map_map,e1,e2,jdn,List.lookup,k_ld,this]
theorem jl0(ok:jbr n sws)(st:Nat)(h:MH):z_Q3 [netO sws,.int st] h= .ok (.int (jcc st sws:Nat)) h:=by
 have e1:=led_at ok st h (m:=mVar 0) (l:=mVar 1) (ρ:=[some (netO sws),some (.int st)]) (h0:=h) (by simp) (by simp)
 have e2:=ji3 ok st (jhk st sws) h (m:=mVar 0) (l:=mVar 1) (k:=jao jdn "led_bars" (mVar 0) (ja2 (mVar 1) mNil)) (ρ:=[some (netO sws),some (.int st)]) (by simp) (by simp) e1
 simp[-List.map_map, -jao,z_Q3,b_Q3,e2,jcc]
theorem k_eb:(Str.ofString "earthed_bars"==Str.ofString "switches")=false:=by decide+kernel
theorem jik(ok:jbr n sws)(st:Nat)(h:MH){m l:ME}{ρ:Ro}{h0:MH}(e1:m ρ h0= .ok (netO sws) h)(e2:l ρ h= .ok (.int st) h):jao jcf "earthed_bars" m (ja2 l mNil) ρ h0= .ok (.int (jcc st sws:Nat)) h:=by
 have:=jl0 ok st h
 unfold netO at e1 this
 simp[-List.map_map,e1,e2,jcf,List.lookup,k_eb,this]
def jeg(st:Nat)(sws:List Sw):Bool:=decide (jbs st sws&&&jcc st sws=0)
theorem jz6(ok:jbr n sws)(st:Nat)(h:MH):z_Qz [netO sws,.int st] h= .ok (.bl (jeg st sws)) h:=by
 have e1:=jlw ok st h (h0:=h) (m:=mVar 0) (l:=mVar 1) (ρ:=[some (netO sws),some (.int st)]) (by simp) (by simp)
 have e2:=jik ok st h (h0:=h) (m:=mVar 0) (l:=mVar 1) (ρ:=[some (netO sws),some (.int st)]) (by simp) (by simp)
 have e3:=band (jbs st sws) (jcc st sws)
 have e4:((jbs st sws&&&jcc st sws:Nat):Int)=0↔jbs st sws&&&jcc st sws=0:=by omega
 simp[-jao,z_Qz,b_Qz,e1,e2,e3,jeg]
theorem jhl{α:Type}{xs:List α}{k:Nat}{x:α}(e:xs[k]?=some x):atI xs (k:Int)=some x:=by
 obtain⟨hk,e'⟩:=List.getElem?_eq_some_iff.mp e
 simp[atI,ixN,hk,e']
theorem jk7{g:MG}{b:MS}{h:MH}(I:Ro->Prop):∀(ds:List D) (ρ:Ro),I ρ->(∀d∈ds,∀ρ,I ρ->∃ρ1,g d ρ h= .nx ρ1 h /\ ∃ρ2,b ρ1 h= .nx ρ2 h /\ I ρ2)->∃ρ',I ρ' /\ jdf g b ds ρ h= .nx ρ' h
 | [],ρ,i,_=>⟨ρ,i,rfl⟩
 | d::ds,ρ,i,q=>by
  obtain⟨ρ1,e1,ρ2,e2,i2⟩:=q d (List.mem_cons_self ..) ρ i
  obtain⟨ρ',i',e'⟩:=jk7 I ds ρ2 i2 λd m=>q d (List.mem_cons_of_mem _ m)
  refine⟨ρ',i',?_⟩
  unfold jdf
  simp only[e1,e2,e']
theorem jj5{sws:List Sw}{p:Sw×Nat}(h:p∈sws.zipIdx):sws[p.2]?=some p.1:=by
 have:=List.mem_zipIdx h
 obtain⟨_,h2,h3⟩:=this
 rw[List.getElem?_eq_getElem (by omega),h3]
 simp
theorem jly{sws:List Sw}{p:Sw×Nat}(h:p∈sws.zipIdx):p.1∈sws:=List.mem_of_getElem? (jj5 h)
def Sw.gen:Sw->Bool
 | .splitter _ _=>true
 | _=>false
theorem k_g1:(Str.ofString "gentle"==Str.ofString "bar")=false:=by decide+kernel
theorem k_g2:(Str.ofString "gentle"==Str.ofString "one")=false:=by decide+kernel
theorem k_g3:(Str.ofString "gentle"==Str.ofString "other")=false:=by decide+kernel
theorem jwy(s:Sw){m:ME}{ρ:Ro}{h:MH}(e:m ρ h= .ok s.o h):jao jcl "gentle" m mNil ρ h= .ok (.bl s.gen) h:=by
 cases s with
 | splitter a b=>simp[e,Sw.o,jcl,k_g2,k_g3,z_Q4,b_Q4,Sw.gen,List.lookup]
 | feed b=>simp[e,Sw.o,jcl,k_g1,z_Qj,b_Qj,Sw.gen,List.lookup]
 | earth b=>simp[e,Sw.o,jcl,k_g1,z_Qj,b_Qj,Sw.gen,List.lookup]
 | breaker a b=>simp[e,Sw.o,jcl,k_g2,k_g3,z_Qj,b_Qj,Sw.gen,List.lookup]
theorem joinsG(s:Sw){n:Nat}(hn:n<=10)(ok:s.ok n){m:ME}{ρ:Ro}{h:MH}(e:m ρ h= .ok s.o h):jao jci "joins" m mNil ρ h= .ok (.int s.pair) h:=by
 have:=joins s hn ok h
 unfold jao at this ⊢
 rw[e]
 simpa using this
def low(a b:Nat):Nat:=2^min a b
theorem jyj:∀a b:Fin 10,a≠b->Builtin.bitAnd ((2^a.val|||2^b.val:Nat):Int) (-((2^a.val|||2^b.val:Nat):Int))=((2^min a.val b.val:Nat):Int):=by decide+kernel
theorem jq6{a b n:Nat}(hn:n<=10)(ha:a<n)(hb:b<n)(ab:a≠b)(h:MH):z_Y8 [.int (2^a|||2^b:Nat)] h= .ok (.int (low a b:Nat)) h:=by
 have e:=jyj ⟨a,by omega⟩ ⟨b,by omega⟩ (λz=>ab (by simpa using z))
 simp only at e
 have:z_Y8 [.int (2^a|||2^b:Nat)] h= .ok (.int (Builtin.bitAnd ((2^a|||2^b:Nat):Int) (-((2^a|||2^b:Nat):Int)))) h:=by simp[z_Y8,b_Y8]
 rw[this,e];rfl
def apart(st k:Nat):Nat:=st - (st&&&2^k)
def jep(st k:Nat)(w:Sw)(sws:List Sw):Bool:=match w with
 | .splitter a b=>decide ((2^a|||2^b)&&&jbs (apart st k) sws≠0)&&decide ((2^a|||2^b) - ((2^a|||2^b)&&&Clo.clo (jcd (apart st k) sws) (low a b))≠0)
 | _=>false
theorem jus(ok:jbr n sws)(st k:Nat)(w:Sw)(hw:sws[k]?=some w)(h:MH):z_Yd [netO sws,.int st,.int k] h= .ok (.bl (jep st k w sws)) h:=by
 have wok:w.ok n:=ok.2.2.2 w (List.mem_of_getElem? hw)
 have hk:k<sws.length:=(List.getElem?_eq_some_iff.mp hw).1
 have hl:=ok.2.2.1
 have hx:atI (sws.map Sw.o) (k:Int)=some w.o:=jhl (by rw[List.getElem?_map,hw];rfl)
 have f1:mBin dIx (mFld jbf "switches" (mVar 0)) (mVar 2) [some (netO sws),some (.int st),some (.int k),none,none,none] h= .ok w.o h:=by simp[-List.map_map,netO,jbf,hx]
 have g1:=jwy w (m:=mVar 3) (ρ:=[some (netO sws),some (.int st),some (.int k),some w.o,none,none]) (h:=h) (by simp)
 have eb:b_Yd=(sSeq (sAsg (mBin dIx (mFld jbf "switches" (mVar 0)) (mVar 2)) (jac 3))
   (sSeq (sIf (tNot (tTru (jao jcl "gentle" (mVar 3) mNil)))
   (sRet (mC (.bl false)))
   jas)
   (sSeq (sAsg (mBin dAnd (mVar 1) (mUn dInv (mBin dShl (mC (.int 1)) (mVar 2)))) (jac 4))
   (sSeq (sAsg (jao jci "joins" (mVar 3) mNil) (jac 5))
   (sSeq (sIf (tNot (tTru (mBin dAnd (mVar 5) (jao jce "live_bars" (mVar 0) (ja2 (mVar 4) mNil)))))
   (sRet (mC (.bl false)))
   jas)
   (sRet (mBin dNe (mBin dAnd (mVar 5) (mUn dInv (jao jbp "joined_bars" (mVar 0) (ja2 (mVar 4) (ja2 (jar z_Y8 (ja2 (mVar 5) mNil)) mNil))))) (mC (.int 0))))))))):=rfl
 by_cases q:w.gen=false
 ·have:jep st k w sws=false:=by cases w<;>first | rfl | (simp[Sw.gen] at q)
  rw[this]
  rw[q] at g1
  simp[-List.map_map, -jao, -mFld, -dIx,z_Yd,eb]
  simp[-List.map_map, -jao, -mFld, -dIx] at f1
  simp[-jao, -mFld, -dIx,f1,g1]
 ·cases w with
  | splitter a b=>
   obtain⟨h1,h2,h3⟩:=wok
   let pr:=2^a|||2^b
   have epr:(Sw.splitter a b).pair=pr:=rfl
   have j1:=joinsG (.splitter a b) ok.2.1 ⟨h1,h2,h3⟩ (m:=mVar 3) (ρ:=[some (netO sws),some (.int st),some (.int k),some (Sw.splitter a b).o,some (.int (apart st k:Nat)),none]) (h:=h) (by simp)
   rw[epr] at j1
   have l1:=jlw ok (apart st k) h (h0:=h) (m:=mVar 0) (l:=mVar 4) (ρ:=[some (netO sws),some (.int st),some (.int k),some (Sw.splitter a b).o,some (.int (apart st k:Nat)),some (.int (pr:Nat))]) (by simp) (by simp)
   have lo:=jq6 ok.2.1 h1 h2 h3 h
   have c1:=ji3 ok (apart st k) (low a b) h (m:=mVar 0) (l:=mVar 4) (k:=jar z_Y8 (ja2 (mVar 5) mNil)) (ρ:=[some (netO sws),some (.int st),some (.int k),some (Sw.splitter a b).o,some (.int (apart st k:Nat)),some (.int (pr:Nat))]) (by simp) (by simp) (by simpa using lo)
   have d1:=jxu st (2^k)
   have d2:=band pr (jbs (apart st k) sws)
   have d3:=jxu pr (Clo.clo (jcd (apart st k) sws) (low a b))
   have d4:=ne0 (pr&&&jbs (apart st k) sws)
   have o1:=okp (show k<=100 by omega)
   have el:jep st k (.splitter a b) sws=(decide (pr&&&jbs (apart st k) sws≠0)&&decide (pr - (pr&&&Clo.clo (jcd (apart st k) sws) (low a b))≠0)):=rfl
   rw[el]
   have ap:st - (st&&&2^k)=apart st k:=rfl
   rw[ap] at d1
   simp at d1
   clear_value pr
   have d5:((pr - (pr&&&Clo.clo (jcd (apart st k) sws) (low a b)):Nat):Int)=0↔pr - (pr&&&Clo.clo (jcd (apart st k) sws) (low a b))=0:=by omega
   generalize pr - (pr&&&Clo.clo (jcd (apart st k) sws) (low a b))=u at d3 d5 ⊢
   simp[-List.map_map, -jao, -mFld, -dIx,z_Yd,eb]
   simp[-List.map_map, -jao, -mFld, -dIx] at f1
   rw[show(Sw.splitter a b).gen=true from rfl] at g1
   simp[-jao, -mFld, -dIx,f1,g1,o1,d1,j1,l1,d2,d4]
   by_cases q2:pr&&&jbs (apart st k) sws=0
   ·simp[-jao,q2]
   ·simp[-jao,q2,c1,d3]
  | _=>simp[Sw.gen] at q
theorem jo0(st k:Nat)(hk:k<=100)(h:MH):z_Xa [.int st,.int k] h= .ok (.int (st^^^2^k:Nat)) h:=by
 have:=bxor st (2^k)
 simp at this
 simp[z_Xa,b_Xa,okp hk,this]
theorem k_is':(Str.ofString "is_safe"==Str.ofString "switches")=false:=by decide+kernel
theorem jrn(ok:jbr n sws)(st k:Nat)(hk:k<=100)(h:MH):z_Y4 [netO sws,.int st,.int k] h= .ok (.bl (!jeg (st^^^2^k) sws)) h:=by
 have e1:=jo0 st k hk h
 have e2:=jz6 ok (st^^^2^k) h
 unfold netO at e2
 simp[-List.map_map,z_Y4,b_Y4,e1,netO,jgg,List.lookup,k_is',e2]
def jzf(st k:Nat)(w:Sw)(sws:List Sw)(h:MH):Res D:=
 if jep st k w sws=true then .exc "Loaded" h else if jeg (st^^^2^k) sws=true then .ok (.int (st^^^2^k:Nat)) h else .exc "Shorted" h
theorem jhe{n:Nat}{sws:List Sw}(k:Nat)(hk:k<sws.length)(h:MH):z_Qm [yd n sws,.int k] h= .ok .non h:=by
 simp[-List.map_map,z_Qm,b_Qm,yd,hk]
theorem jrd(ok:jbr n sws)(st k:Nat)(w:Sw)(hw:sws[k]?=some w)(h:MH)(hb:Hb h):z_Y2 [yd n sws,.int st,.int k] h=jzf st k w sws h:=by
 have hk:k<sws.length:=(List.getElem?_eq_some_iff.mp hw).1
 have hl:=ok.2.2.1
 have e0:=jhe (n:=n) k hk h
 have e1:=jhc (m:=mVar 0) (ρ:=[some (yd n sws),some (.int st),some (.int k),none]) (h:=h) n sws ok.2.2.1 hb (by simp)
 have e2:=jus ok st k w hw (h++[none])
 have e3:=jrn ok st k (by omega) (h++[none])
 have e4:=jo0 st k (by omega) (h++[none])
 have hb2:∀x∈h,Cell.bnd h.length x=true:=by simpa using hb h.length (Nat.le_refl _)
 unfold jzf
 unfold yd at e0 e1
 cases q1:jep st k w sws with
 | true=>
  rw[q1] at e2
  simp[-List.map_map, -jfb,z_Y2,b_Y2,yd,e0,e1,e2,hk]
  rw[if_neg (by omega),if_pos hb2]
 | false=>
  rw[q1] at e2
  cases q2:jeg (st^^^2^k) sws with
  | true=>
   rw[q2] at e3
   simp[-List.map_map, -jfb,z_Y2,b_Y2,yd,e0,e1,e2,e3,e4,hk,D.bnd]
   rw[if_neg (by omega),if_pos hb2]
  | false=>
   rw[q2] at e3
   simp[-List.map_map, -jfb,z_Y2,b_Y2,yd,e0,e1,e2,e3,e4,hk]
   rw[if_neg (by omega),if_pos hb2]
theorem jov(ps:List Nat){a b:Nat}(ab:a≠b):((2^a|||2^b) - ((2^a|||2^b)&&&Clo.clo ps (low a b))≠0)↔(Clo.clo ps (2^a)).testBit b=false:=by
 have hsub:∀(x u:Nat),(x - (x&&&u)≠0)↔¬Clo.sub x u:=λx u=>by
  constructor
  ·intro h z
   refine h ?_
   have:x&&&u=x:=Nat.eq_of_testBit_eq λi=>by
    rw[Nat.testBit_and]
    cases q:x.testBit i with
    | false=>rfl
    | true=>rw[z i q];rfl
   omega
  ·intro h z
   refine h λi hi=> ?_
   have t:=jsz x u i
   rw[z,hi] at t
   simp at t
   exact t
 rw[hsub]
 have two:∀u:Nat,Clo.sub (2^a|||2^b) u↔(u.testBit a=true /\ u.testBit b=true):=λu=>by
  constructor
  ·intro z
   exact⟨z a (by rw[Nat.testBit_or,jbd];simp),z b (by rw[Nat.testBit_or,jbd,jbd];simp)⟩
  ·rintro⟨h1,h2⟩ i hi
   rw[Nat.testBit_or,jbd,jbd] at hi
   simp at hi
   rcases hi with rfl | rfl
   ·exact h1
   ·exact h2
 rw[two]
 have self:∀c,(Clo.clo ps (2^c)).testBit c=true:=λc=>(Clo.is ps (2^c)).ge c (by rw[jbd];simp)
 have sym:∀c d,(Clo.clo ps (2^c)).testBit d=true->(Clo.clo ps (2^d)).testBit c=true:=λc d hd=>(jqu _ _).mp (Clo.jtw ((jqu _ _).mpr hd))
 unfold low
 by_cases q:a<=b
 ·rw[Nat.min_eq_left q]
  cases x:(Clo.clo ps (2^a)).testBit b with
  | false=>simp
  | true=>simp[self a]
 ·rw[Nat.min_eq_right (by omega)]
  cases x:(Clo.clo ps (2^a)).testBit b with
  | false=>
   cases y:(Clo.clo ps (2^b)).testBit a with
   | false=>simp
   | true=>rw[sym b a y] at x;cases x
  | true=>simp[self b,sym a b x]
theorem jo6{n:Nat}:∀{ds:List D},(∀d∈ds,D.bnd n d=true)->D.bnds n ds=true
 | [],_=>by simp[D.bnds]
 | d::ds,h=>by
  simp only[D.bnds,Bool.and_eq_true]
  exact⟨h d (List.mem_cons_self ..),jo6 λx m=>h x (List.mem_cons_of_mem _ m)⟩
theorem jvh{α:Type}{h:List α}{c:Nat}{x:α}(hc:h[c]?=some x):h.set c x=h:=List.ext_getElem? λi=>by
 by_cases q:c=i
 ·subst q;rw[List.getElem?_set_self (List.getElem?_eq_some_iff.mp hc).1,hc]
 ·rw[List.getElem?_set_ne q]
theorem joi{np nn:Nat}{b:MS}{ds:List D}{h J:MH}{d:D}(hl:ds.length=np)(e:b (ds.map some++List.replicate (nn - ds.length) none) h= .rt d (h++J))(hb:Hb h)(hd:d.bnd h.length=true):mFun np nn b ds h= .ok d h:=by
 unfold mFun
 rw[if_pos hl,e]
 show fin h.length d (h++J)=_
 unfold fin
 by_cases q:(h++J).length<=h.length
 ·rw[if_pos q]
  have:J=[]:=by
   cases J with
   | nil=>rfl
   | cons _ _=>simp at q;omega
  rw[this,List.append_nil]
 ·rw[if_neg q,if_pos]
  ·rw[List.take_left']
   rfl
  ·rw[hd,Bool.true_and,List.take_left' rfl]
   exact hb _ (Nat.le_refl _)
theorem jt7{st k:Nat}{sws:List Sw}{w:Sw}(hw:sws[k]?=some w)(hb:st.testBit k=true):w.pair∈jcd st sws:=by
 unfold jcd jdw
 refine List.mem_map.mpr ⟨(w,k),List.mem_filter.mpr ⟨?_,hb⟩,rfl⟩
 exact List.mk_mem_zipIdx_iff_getElem?.mpr hw
theorem joj{st p:Nat}{sws:List Sw}(h:p∈jcd st sws):∃k w,sws[k]?=some w /\ st.testBit k=true /\ w.pair=p:=by
 obtain⟨q,hq,rfl⟩:=List.mem_map.mp h
 obtain⟨h1,h2⟩:=List.mem_filter.mp hq
 exact⟨q.2,q.1,jj5 h1,h2,rfl⟩
theorem jz0{n:Nat}{w:Sw}(ok:w.ok n):w.pair<2^n:=by
 cases w with
 | feed b=>exact Nat.two_pow_pos n
 | earth b=>exact Nat.two_pow_pos n
 | breaker a b=>exact Nat.or_lt_two_pow (Nat.pow_lt_pow_right (by decide) ok.1) (Nat.pow_lt_pow_right (by decide) ok.2.1)
 | splitter a b=>exact Nat.or_lt_two_pow (Nat.pow_lt_pow_right (by decide) ok.1) (Nat.pow_lt_pow_right (by decide) ok.2.1)
theorem jko{n:Nat}:∀(ps:List Nat) (s:Nat),(∀p∈ps,p<2^n)->s<2^n->Clo.all ps s<2^n
 | [],s,_,h=>h
 | p::ps,s,hp,h=>jko ps (s|||p) (λq m=>hp q (List.mem_cons_of_mem _ m)) (Nat.or_lt_two_pow h (hp p List.mem_cons_self))
theorem jr6(ok:jbr n sws)(st:Nat){s:Nat}(hs:s<2^n):Clo.clo (jcd st sws) s<2^n:=by
 have i:=Clo.is (jcd st sws) s
 refine Nat.lt_of_le_of_lt (Clo.Mid.bnd (ps:=jcd st sws) (s:=s) ⟨i.ge,i.le⟩) (jko _ _ (λp hp=> ?_) hs)
 obtain⟨k,w,h1,_,rfl⟩:=joj hp
 exact jz0 (ok.2.2.2 w (List.mem_of_getElem? h1))
@[simp] theorem jyv:(Str.ofString "net"==Str.ofString "yard")=false:=by decide+kernel
@[simp] theorem jz4:¬(Str.ofString "yard"=Str.ofString "net"):=by decide+kernel
@[simp] theorem jwz:(Str.ofString "shut"==Str.ofString "yard")=false:=by decide+kernel
@[simp] theorem jx6:¬(Str.ofString "yard"=Str.ofString "shut"):=by decide+kernel
@[simp] theorem jyo:(Str.ofString "shut"==Str.ofString "net")=false:=by decide+kernel
@[simp] theorem jyh:¬(Str.ofString "net"=Str.ofString "shut"):=by decide+kernel
@[simp] theorem jtm:(Str.ofString "locks"==Str.ofString "yard")=false:=by decide+kernel
@[simp] theorem jv5:¬(Str.ofString "yard"=Str.ofString "locks"):=by decide+kernel
@[simp] theorem jxg:(Str.ofString "locks"==Str.ofString "net")=false:=by decide+kernel
@[simp] theorem jwk:¬(Str.ofString "net"=Str.ofString "locks"):=by decide+kernel
@[simp] theorem jv1:(Str.ofString "locks"==Str.ofString "shut")=false:=by decide+kernel
@[simp] theorem jup:¬(Str.ofString "shut"=Str.ofString "locks"):=by decide+kernel
@[simp] theorem juy:(Str.ofString "given"==Str.ofString "yard")=false:=by decide+kernel
@[simp] theorem jtz:¬(Str.ofString "yard"=Str.ofString "given"):=by decide+kernel
@[simp] theorem jw9:(Str.ofString "given"==Str.ofString "net")=false:=by decide+kernel
@[simp] theorem jwp:¬(Str.ofString "net"=Str.ofString "given"):=by decide+kernel
@[simp] theorem jvo:(Str.ofString "given"==Str.ofString "shut")=false:=by decide+kernel
@[simp] theorem jtq:¬(Str.ofString "shut"=Str.ofString "given"):=by decide+kernel
@[simp] theorem jtj:(Str.ofString "given"==Str.ofString "locks")=false:=by decide+kernel
@[simp] theorem jtk:¬(Str.ofString "locks"=Str.ofString "given"):=by decide+kernel
@[simp] theorem jn4:(Str.ofString "last_number"==Str.ofString "yard")=false:=by decide+kernel
@[simp] theorem jn6:¬(Str.ofString "yard"=Str.ofString "last_number"):=by decide+kernel
@[simp] theorem jo2:(Str.ofString "last_number"==Str.ofString "net")=false:=by decide+kernel
@[simp] theorem jnf:¬(Str.ofString "net"=Str.ofString "last_number"):=by decide+kernel
@[simp] theorem jls:(Str.ofString "last_number"==Str.ofString "shut")=false:=by decide+kernel
@[simp] theorem jmf:¬(Str.ofString "shut"=Str.ofString "last_number"):=by decide+kernel
@[simp] theorem jlh:(Str.ofString "last_number"==Str.ofString "locks")=false:=by decide+kernel
@[simp] theorem jlj:¬(Str.ofString "locks"=Str.ofString "last_number"):=by decide+kernel
@[simp] theorem jli:(Str.ofString "last_number"==Str.ofString "given")=false:=by decide+kernel
@[simp] theorem jlk:¬(Str.ofString "given"=Str.ofString "last_number"):=by decide+kernel
structure Bd where
 n:Nat
 sws:List Sw
 st:Nat
 lk:Nat
 gv:List (Nat×Nat×Nat)
 la:Nat
def gvD(gv:List (Nat×Nat×Nat)):List (Sum Int Str×D):=gv.map λg=>(.inl (g.1:Int),.tup [.int (g.2.1:Nat),.int (g.2.2:Nat)])
def Bd.f(b:Bd)(r:Nat):List (Str×D):=[(Str.ofString "yard",yd b.n b.sws),(Str.ofString "net",netO b.sws),(Str.ofString "shut",.int b.st),(Str.ofString "locks",.int b.lk),(Str.ofString "given",.ref r),(Str.ofString "last_number",.int b.la)]
def Bd.cell(b:Bd)(r:Nat):Option Cell:=some (.ins "Board" (b.f r))
theorem jp3(n:Nat)(sws:List Sw)(m:Nat):(yd n sws).bnd m=true:=by
 simp only[yd,D.bnd,D.bnds,Bool.true_and,Bool.and_true]
 exact jo6 λd hd=>by
  obtain⟨s,_,rfl⟩:=List.mem_map.mp hd
  cases s<;>simp[Sw.d,D.bnd,D.bnds]
theorem jwo(sws:List Sw)(m:Nat):(netO sws).bnd m=true:=by
 have:D.bnds m (sws.map Sw.o)=true:=jo6 λd hd=>by
  obtain⟨s,_,rfl⟩:=List.mem_map.mp hd
  cases s<;>simp[Sw.o,D.bnd,D.bnds,D.bndf]
 simp[netO,D.bnd,D.bnds,D.bndf,this]
@[simp] theorem in_yard:"Board"∈jbg:=by decide
@[simp] theorem in_net:"Board"∈jlf:=by decide
@[simp] theorem in_shut:"Board"∈jey:=by decide
@[simp] theorem in_locks:"Board"∈jc0:=by decide
@[simp] theorem in_given:"Board"∈jhh:=by decide
@[simp] theorem in_last:"Board"∈jdu:=by decide
@[simp] theorem bf_yard(b:Bd)(r:Nat):(b.f r).lookup (Str.ofString "yard")=some (yd b.n b.sws):=by simp[Bd.f,List.lookup]
@[simp] theorem bf_net(b:Bd)(r:Nat):(b.f r).lookup (Str.ofString "net")=some (netO b.sws):=by simp[Bd.f,List.lookup]
@[simp] theorem bf_shut(b:Bd)(r:Nat):(b.f r).lookup (Str.ofString "shut")=some (.int b.st):=by simp[Bd.f,List.lookup]
@[simp] theorem bf_locks(b:Bd)(r:Nat):(b.f r).lookup (Str.ofString "locks")=some (.int b.lk):=by simp[Bd.f,List.lookup]
@[simp] theorem bf_given(b:Bd)(r:Nat):(b.f r).lookup (Str.ofString "given")=some (.ref r):=by simp[Bd.f,List.lookup]
@[simp] theorem bf_last(b:Bd)(r:Nat):(b.f r).lookup (Str.ofString "last_number")=some (.int b.la):=by simp[Bd.f,List.lookup]
@[simp] theorem bp_shut(b:Bd)(r s:Nat):putF (Str.ofString "shut") (.int s) (b.f r)=({b with st:=s}).f r:=by simp[Bd.f,putF]
@[simp] theorem bp_locks(b:Bd)(r s:Nat):putF (Str.ofString "locks") (.int s) (b.f r)=({b with lk:=s}).f r:=by simp[Bd.f,putF]
@[simp] theorem bp_last(b:Bd)(r s:Nat):putF (Str.ofString "last_number") (.int s) (b.f r)=({b with la:=s}).f r:=by simp[Bd.f,putF]
@[simp] theorem bf_len(b:Bd)(r:Nat):(b.f r).length=6:=rfl
theorem bf_no(b:Bd)(r:Nat){m:Str}(h:([Str.ofString "yard",Str.ofString "net",Str.ofString "shut",Str.ofString "locks",Str.ofString "given",Str.ofString "last_number"]).contains m=false):(b.f r).lookup m=none:=by
 simp only[List.contains,List.elem_eq_mem,List.mem_cons,List.not_mem_nil,or_false,decide_eq_false_iff_not,not_or] at h
 obtain⟨h1,h2,h3,h4,h5,h6⟩:=h
 simp[Bd.f,List.lookup,beq_eq_false_iff_ne.mpr h1,beq_eq_false_iff_ne.mpr h2,beq_eq_false_iff_ne.mpr h3,beq_eq_false_iff_ne.mpr h4,beq_eq_false_iff_ne.mpr h5,beq_eq_false_iff_ne.mpr h6]
structure At (h:MH) (p r:Nat) (b:Bd):Prop where
 o:h[p]?=some (b.cell r)
 g:h[r]?=some (some (.dct (gvD b.gv)))
 hb:Hb h
 ok:jbr b.n b.sws
theorem bd_cl(b:Bd){r m:Nat}(h:r<m):Cell.bnd m (b.cell r)=true:=by
 have h1:=jp3 b.n b.sws m
 have h2:=jwo b.sws m
 simp[Bd.cell,Bd.f,Cell.bnd,D.bnd,D.bnds,h1,h2,h]
theorem Hb.set{h:MH}{p:Nat}{c:Option Cell}(a:Hb h)(q:∀n,h.length<=n->Cell.bnd n c=true):Hb (h.set p c):=λn hn=>by
 rw[List.length_set] at hn
 have:=a n hn
 rw[List.all_eq_true] at this ⊢
 intro x hx
 rcases List.mem_or_eq_of_mem_set hx with hx | rfl
 ·exact this x hx
 ·exact q n hn
theorem At.ne(A:At h p r b):p≠r:=λe=>by
 have h1:=A.o
 rw[e,A.g] at h1
 simp[Bd.cell] at h1
theorem At.lt(A:At h p r b):r<h.length:=(List.getElem?_eq_some_iff.mp A.g).1
theorem At.lt'(A:At h p r b):p<h.length:=(List.getElem?_eq_some_iff.mp A.o).1
theorem At.put{b b':Bd}(A:At h p r b)(hg:b'.gv=b.gv)(ok:jbr b'.n b'.sws):At (h.set p (b'.cell r)) p r b':=
 ⟨by rw[List.getElem?_set_self A.lt'],by rw[List.getElem?_set_ne A.ne,hg];exact A.g,A.hb.set λn hn=>bd_cl b' (Nat.lt_of_lt_of_le A.lt hn),ok⟩
def jft(gv:List (Nat×Nat×Nat)):Nat:=Clo.all (gv.map λg=>g.2.2) 0
theorem jkk(a:Option D)(h:MH):∀(gv:List (Nat×Nat×Nat)) (f:Nat) (x:Option D),∃x',jdf (jac 2) (sAsg (mBin dOr (mVar 1) (mBin dIx (mVar 2) (mC (.int 1)))) (jac 1)) ((gvD gv).map (·.2)) [a,some (.int f),x] h= .nx [a,some (.int (Clo.all (gv.map λg=>g.2.2) f:Nat)),x'] h
 | [],f,x=>⟨x,rfl⟩
 | g::gv,f,x=>by
  obtain⟨x',ih⟩:=jkk a h gv (f|||g.2.2) (some (.tup [.int (g.2.1:Nat),.int (g.2.2:Nat)]))
  refine⟨x',?_⟩
  have e2:=bor f g.2.2
  simp only[gvD,List.map_cons]
  unfold jdf
  simp only[gvD] at ih
  simp[-List.map_map,e2]
  exact ih
theorem js4(A:At h p r b):z_Xf [.ref p] h= .ok (.int (jft b.gv:Nat)) h:=by
 obtain⟨x',e⟩:=jkk (some (.ref p)) (h.set r none) b.gv 0 none
 have o:h[p]?=some (some (.ins "Board" (b.f r))):=A.o
 have g:=A.g
 have l:∀c:Option Cell,(h.set r c)[r]?=some c:=λc=>List.getElem?_set_self A.lt
 have hs:(h.set r none).set r (some (.dct (gvD b.gv)))=h:=by rw[List.set_set];exact jvh g
 have f0:Clo.all (b.gv.map λg=>g.2.2) 0=jft b.gv:=rfl
 rw[f0] at e
 simp at e
 simp[-List.map_map,z_Xf,b_Xf,o,g,e,l,hs]
theorem je5(A:At h p r b){tab:List (String×MF)}{f:Str}{z:MF}{m:ME}{l:ML}{ρ:Ro}{ds:List D}(et:tab.lookup "Board"=some z)(hf:([Str.ofString "yard",Str.ofString "net",Str.ofString "shut",Str.ofString "locks",Str.ofString "given",Str.ofString "last_number"]).contains f=false)(e:m ρ h= .ok (.ref p) h)(el:l ρ h= .ok ds h):jao tab f m l ρ h=z (.ref p::ds) h:=by
 have o:h[p]?=some (some (.ins "Board" (b.f r))):=A.o
 have ea:asO h (.ref p)=some ("Board",b.f r):=by simp[o]
 have ef:=bf_no b r hf
 simp only[jao,e,jde,ea,jsv,et,chk,ef,if_true,el]
theorem jfr(A:At h p r b):z_Qb [.ref p] h= .ok (.int b.st) h:=by
 have o:h[p]?=some (some (.ins "Board" (b.f r))):=A.o
 simp[z_Qb,b_Qb,o]
def jf0(b:Bd)(k:Nat)(w:Sw):Option String:=
 if b.lk.testBit k=true then some "Locked" else if(jft b.gv).testBit k=true then some "Held" else if jep b.st k w b.sws=true then some "Loaded" else if jeg (b.st^^^2^k) b.sws=true then none else some "Shorted"
theorem jys(A:At h p r b)(k:Nat)(w:Sw)(hw:b.sws[k]?=some w):z_Xc [.ref p,.int k] h=match jf0 b k w with | some c=> .exc c h | none=> .ok (.int (b.st^^^2^k:Nat)) (h.set p (({b with st:=b.st^^^2^k}:Bd).cell r)):=by
 have hk:k<b.sws.length:=(List.getElem?_eq_some_iff.mp hw).1
 have e0:=jhe (n:=b.n) k hk h
 have e1:=jrd A.ok b.st k w hw h A.hb
 have hs:=jg8 b.lk k h
 have hh:=jg8 (jft b.gv) k h
 have o:h[p]?=some (some (.ins "Board" (b.f r))):=A.o
 have l:∀c:Option Cell,(h.set p c)[p]?=some c:=λc=>List.getElem?_set_self A.lt'
 have f4:jao ji6 "held" (mVar 0) mNil [some (.ref p),some (.int k)] h= .ok (.int (jft b.gv:Nat)) h:=by
  rw[je5 A (z:=z_Xf) (ds:=[]) rfl (by decide+kernel) (by simp) (by simp)]
  exact js4 A
 unfold jf0 jzf at*
 by_cases q0:b.lk.testBit k=true
 ·rw[q0] at hs
  simp[z_Xc,b_Xc,o,e0,hs,q0]
 ·have q0:b.lk.testBit k=false:=by simpa using q0
  rw[q0] at hs
  by_cases q1:(jft b.gv).testBit k=true
  ·rw[q1] at hh
   simp[-jao,z_Xc,b_Xc,o,e0,hs,q0,f4,hh,q1]
  ·have q1:(jft b.gv).testBit k=false:=by simpa using q1
   rw[q1] at hh
   cases q2:jep b.st k w b.sws with
   | true=>
    rw[q2] at e1
    simp at e1
    simp[-jao,z_Xc,b_Xc,o,e0,hs,q0,f4,hh,q1,e1]
   | false=>
    rw[q2] at e1
    cases q3:jeg (b.st^^^2^k) b.sws with
    | false=>
     rw[q3] at e1
     simp at e1
     simp[-jao,z_Xc,b_Xc,o,e0,hs,q0,f4,hh,q1,e1]
    | true=>
     rw[q3] at e1
     simp at e1
     generalize b.st^^^2^k=s2 at*
     simp[-jao,z_Xc,b_Xc,o,e0,hs,q0,f4,hh,q1,e1,l,Bd.cell]
theorem jsw(A:At h p r b):z_Qn [.ref p] h= .ok (.int b.lk) h:=by
 have o:h[p]?=some (some (.ins "Board" (b.f r))):=A.o
 simp[z_Qn,b_Qn,o]
def Bd.new(n:Nat)(sws:List Sw):Bd:=⟨n,sws,0,0,[],0⟩
theorem jyk(ok:jbr n sws){m:ME}{ρ:Ro}{h0 h:MH}(hb:Hb h)(e:m ρ h0= .ok (yd n sws) h):jo4 "Board" z_Q8 (ja2 m mNil) ρ h0= .ok (.ref h.length) (h++[(Bd.new n sws).cell (h.length+2),none,some (.dct [])]):=by
 have hb1:Hb (h++[some (Cell.ins "Board" [(Str.ofString "yard",yd n sws)])]):=hb.snoc λk hk=>by
  simp[Cell.bnd,D.bnds,jp3 n sws k]
 have e1:=jhc (m:=mFld jbg "yard" (mVar 0)) (ρ:=[some (.ref h.length),some (yd n sws)]) (h:=h++[some (.ins "Board" [(Str.ofString "yard",yd n sws)])]) n sws ok.2.2.1 hb1 (by simp[List.lookup])
 have ix:∀h:MH,dIx (yd n sws) (.int 1) h= .ok (.lst (sws.map Sw.d)) h:=λh=>by simp[-List.map_map,yd]
 have ix0:∀h:MH,dIx (yd n sws) (.int 0) h= .ok (.int n) h:=λh=>by simp[yd]
 have yy:D.tup [.int n,.lst (sws.map Sw.d)]=yd n sws:=rfl
 have h1:=jp3 n sws (h.length+1)
 have h2:=jwo sws (h.length+1)
 have hbn:(h++[some (Cell.ins "Board" [])]).length=h.length+1:=by simp
 have nb:Cell.bnd (h.length+1) (some (Cell.ins "Board" (((Bd.new n sws).f (h.length+2)))))=false:=by
  simp[Bd.f,Bd.new,Cell.bnd,D.bnds,D.bnd]
 have key:z_Q8 [.ref h.length,yd n sws] (h++[some (Cell.ins "Board" [])])= .ok .non (h++[(Bd.new n sws).cell (h.length+2),none,some (.dct [])]):=by
  have eb:b_Q8 [some (.ref h.length),some (yd n sws)] (h++[some (Cell.ins "Board" [])])= .nx [some (.ref h.length),some (yd n sws)] (h++[(Bd.new n sws).cell (h.length+2),none,some (.dct [])]):=by
   simp[-List.map_map, -dIx, -jfb, -mFld,b_Q8,ix,ix0,yy,e1,putF,Bd.cell,Bd.f,Bd.new]
  unfold z_Q8 mFun
  rw[if_pos (show[D.ref h.length,yd n sws].length=2 from rfl)]
  have e2:b_Q8 ([D.ref h.length,yd n sws].map some++List.replicate (2 - [D.ref h.length,yd n sws].length) none) (h++[some (Cell.ins "Board" [])])= .nx [some (.ref h.length),some (yd n sws)] (h++[(Bd.new n sws).cell (h.length+2),none,some (.dct [])]):=eb
  rw[e2]
  have tk:(h++[(Bd.new n sws).cell (h.length+2),none,some (.dct [])]).take (h++[some (Cell.ins "Board" [])]).length=h++[(Bd.new n sws).cell (h.length+2)]:=by
   rw[hbn,List.take_append,List.take_of_length_le (Nat.le_succ _)]
   simp
  show fin _ _ _=_
  unfold fin
  rw[if_neg (by simp),tk,hbn,List.all_append]
  have:([(Bd.new n sws).cell (h.length+2)].all (Cell.bnd (h.length+1)))=false:=by
   simp only[List.all_cons,List.all_nil,Bool.and_true]
   exact nb
  rw[this]
  simp
 simp[e,key]
theorem at_new(ok:jbr n sws){h:MH}(hb:Hb h):At (h++[(Bd.new n sws).cell (h.length+2),none,some (.dct [])]) h.length (h.length+2) (Bd.new n sws):=
 ⟨by simp,by simp[Bd.new,gvD],λk hk=>by
  simp only[List.length_append,List.length_cons,List.length_nil] at hk
  rw[List.all_append,hb k (by omega)]
  have:=bd_cl (Bd.new n sws) (show h.length+2<k by omega)
  simp only[List.all_cons,List.all_nil,Bool.and_true,this]
  simp[Cell.bnd,D.bnds],ok⟩
def Sw.lockable:Sw->Bool
 | .feed _=>true
 | .splitter _ _=>true
 | _=>false
theorem ju9(s:Sw){n:Nat}(hn:n<=10)(ok:s.ok n)(h:MH):z_Xw [s.o] h= .ok (.bl s.lockable) h:=by
 have e1:=feeds s hn ok (m:=mVar 0) (ρ:=[some s.o]) (h:=h) (by simp)
 have e2:=jwy s (m:=mVar 0) (ρ:=[some s.o]) (h:=h) (by simp)
 have key:∀(i:Int) (g:Bool),jao jd5 "feeds" (mVar 0) mNil [some s.o] h= .ok (.int i) h->jao jcl "gentle" (mVar 0) mNil [some s.o] h= .ok (.bl g) h->z_Xw [s.o] h= .ok (.bl (!decide (i=0)||g)) h:=λi g e1 e2=>by
  by_cases q:i=0
  ·simp[-jao,z_Xw,b_Xw,e1,e2,q]
  ·simp[-jao,z_Xw,b_Xw,e1,e2,q]
 rw[key _ _ e1 e2]
 have pos:∀b:Nat,¬(((2^b:Nat):Int)=0):=λb=>by
  have:=Nat.pow_pos (n:=b) (show 0<2 by decide)
  omega
 cases s with
 | feed b=>simp only[Sw.fed,Sw.gen,Sw.lockable,pos b,decide_false,Bool.not_false,Bool.true_or]
 | earth b=>rfl
 | breaker a b=>rfl
 | splitter a b=>rfl
def jg9(b:Bd)(k:Nat)(w:Sw):Option String:=
 if w.lockable=false then some "NoLock" else if b.st.testBit k=true then some "NotOpen" else if b.lk.testBit k=true then some "Locked" else none
theorem jzh(A:At h p r b)(k:Nat)(w:Sw)(hw:b.sws[k]?=some w):z_X3 [.ref p,.int k] h=match jg9 b k w with | some c=> .exc c h | none=> .ok (.int (b.lk|||2^k:Nat)) (h.set p (({b with lk:=b.lk|||2^k}:Bd).cell r)):=by
 have hk:k<b.sws.length:=(List.getElem?_eq_some_iff.mp hw).1
 have hl:=A.ok.2.2.1
 have e0:=jhe (n:=b.n) k hk h
 have hs:=jg8 b.lk k h
 have hh:=jg8 b.st k h
 have o:h[p]?=some (some (.ins "Board" (b.f r))):=A.o
 have l:∀c:Option Cell,(h.set p c)[p]?=some c:=λc=>List.getElem?_set_self A.lt'
 have ec:=ju9 w A.ok.2.1 (A.ok.2.2.2 w (List.mem_of_getElem? hw)) h
 have hx:atI (b.sws.map Sw.o) (k:Int)=some w.o:=jhl (by rw[List.getElem?_map,hw];rfl)
 have ix:(mBin dIx (mFld jbf "switches" (mFld jlf "net" (mVar 0))) (mVar 1)) [some (.ref p),some (.int k)] h= .ok w.o h:=by
  simp[-List.map_map,o,netO,jbf,hx]
 have o1:=okp (show k<=100 by omega)
 have b1:=bor b.lk (2^k)
 simp at b1
 unfold jg9
 cases q0:w.lockable with
 | false=>
  rw[q0] at ec
  simp[-dIx, -mBin,z_X3,b_X3,o,e0,ix,ec]
 | true=>
  rw[q0] at ec
  cases q1:b.st.testBit k with
  | true=>
   rw[q1] at hh
   simp[-dIx, -mBin,z_X3,b_X3,o,e0,ix,ec,hh]
  | false=>
   rw[q1] at hh
   cases q2:b.lk.testBit k with
   | true=>
    rw[q2] at hs
    simp[-dIx, -mBin,z_X3,b_X3,o,e0,ix,ec,hh,hs]
   | false=>
    rw[q2] at hs
    have lv:(mBin dOr (mFld jc0 "locks" (mVar 0)) (mBin dShl (mC (.int 1)) (mVar 1))) [some (.ref p),some (.int k)] h= .ok (.int (b.lk|||2^k:Nat)) h:=by
     simp[o,o1,b1]
    simp[-dIx, -dOr, -dShl, -mBin,z_X3,b_X3,o,e0,ix,ec,hh,hs,lv,l,Bd.cell]
def jcy(b:Bd)(k:Nat):Option String:=
 if b.lk.testBit k=false then some "NotLocked" else if(jft b.gv).testBit k=true then some "Held" else none
theorem jtg(A:At h p r b)(k:Nat)(hk:k<b.sws.length):z_Qo [.ref p,.int k] h=match jcy b k with | some c=> .exc c h | none=> .ok (.int (apart b.lk k:Nat)) (h.set p (({b with lk:=apart b.lk k}:Bd).cell r)):=by
 have hl:=A.ok.2.2.1
 have e0:=jhe (n:=b.n) k hk h
 have hs:=jg8 b.lk k h
 have hh:=jg8 (jft b.gv) k h
 have o:h[p]?=some (some (.ins "Board" (b.f r))):=A.o
 have l:∀c:Option Cell,(h.set p c)[p]?=some c:=λc=>List.getElem?_set_self A.lt'
 have f4:jao ji6 "held" (mVar 0) mNil [some (.ref p),some (.int k)] h= .ok (.int (jft b.gv:Nat)) h:=by
  rw[je5 A (z:=z_Xf) (ds:=[]) rfl (by decide+kernel) (by simp) (by simp)]
  exact js4 A
 have o1:=okp (show k<=100 by omega)
 have b1:=jxu b.lk (2^k)
 simp at b1
 unfold jcy
 cases q0:b.lk.testBit k with
 | false=>
  rw[q0] at hs
  simp[-jao,z_Qo,b_Qo,o,e0,hs]
 | true=>
  rw[q0] at hs
  cases q1:(jft b.gv).testBit k with
  | true=>
   rw[q1] at hh
   simp[-jao,z_Qo,b_Qo,o,e0,hs,f4,hh]
  | false=>
   rw[q1] at hh
   have lv:(mBin dAnd (mFld jc0 "locks" (mVar 0)) (mUn dInv (mBin dShl (mC (.int 1)) (mVar 1)))) [some (.ref p),some (.int k)] h= .ok (.int (apart b.lk k:Nat)) h:=by
    simp[o,o1,b1,apart]
   simp[-mBin, -dAnd, -dInv, -dShl, -mUn, -jao,z_Qo,b_Qo,o,e0,hs,f4,hh,lv,l,Bd.cell]
theorem jae{a b:MS}{ρ ρ':Ro}{h h':MH}(e:a ρ h= .nx ρ' h'):sSeq a b ρ h=b ρ' h':=by simp only[sSeq,e]
theorem jjg{a b:MS}{ρ:Ro}{d:D}{h h':MH}(e:a ρ h= .rt d h'):sSeq a b ρ h= .rt d h':=by simp only[sSeq,e]
theorem jbz{np nn:Nat}{b:MS}{ds:List D}{h h':MH}{d:D}(hl:ds.length=np)(e:b (ds.map some++List.replicate (nn - ds.length) none) h= .rt d h')(hn:h'.length<=h.length):mFun np nn b ds h= .ok d h':=by
 unfold mFun
 rw[if_pos hl,e]
 show fin h.length d h'=_
 unfold fin
 rw[if_pos hn]
@[simp] theorem jua:(Str.ofString "board"==Str.ofString "yard")=false:=by decide+kernel
@[simp] theorem jv4:¬(Str.ofString "yard"=Str.ofString "board"):=by decide+kernel
def dkF(y b:D):List (Str×D):=[(Str.ofString "yard",y),(Str.ofString "board",b)]
def dkC(y b:D):Option Cell:=some (.ins "Desk" (dkF y b))
@[simp] theorem dk_yard:"Desk"∈jbg:=by decide
@[simp] theorem dk_board:"Desk"∈jbb:=by decide
@[simp] theorem df_yard(y b:D):(dkF y b).lookup (Str.ofString "yard")=some y:=by simp[dkF,List.lookup]
@[simp] theorem df_board(y b:D):(dkF y b).lookup (Str.ofString "board")=some b:=by simp[dkF,List.lookup]
@[simp] theorem dp_yard(y b y':D):putF (Str.ofString "yard") y' (dkF y b)=dkF y' b:=by simp[dkF,putF]
@[simp] theorem dp_board(y b b':D):putF (Str.ofString "board") b' (dkF y b)=dkF y b':=by simp[dkF,putF]
@[simp] theorem df_len(y b:D):(dkF y b).length=2:=rfl
theorem df_no(y b:D){m:Str}(h:([Str.ofString "yard",Str.ofString "board"]).contains m=false):(dkF y b).lookup m=none:=by
 simp only[List.contains_cons,List.contains_nil,Bool.or_false,Bool.or_eq_false_iff] at h
 simp only[dkF,List.lookup,h.1,h.2]
theorem jgf{h:MH}{d:Nat}{y b:D}(o:h[d]?=some (dkC y b)){tab:List (String×MF)}{f:Str}{z:MF}{m:ME}{l:ML}{ρ:Ro}{ds:List D}(et:tab.lookup "Desk"=some z)(hf:([Str.ofString "yard",Str.ofString "board"]).contains f=false)(em:m ρ h= .ok (.ref d) h)(el:l ρ h= .ok ds h):jao tab f m l ρ h=z (.ref d::ds) h:=by
 unfold dkC at o
 simp[em,el,o,et,df_no y b hf]
structure Dk (h:MH) (d p r:Nat) (b:Bd):Prop where
 o:h[d]?=some (dkC (yd b.n b.sws) (.ref p))
 a:At h p r b
theorem jnw(ok:jbr n sws){h:MH}(hb:Hb h){d:Nat}{y b:D}(o:h[d]?=some (dkC y b))(hy:∀m,h.length<=m->b.bnd m=true):z_X4 [.ref d,yd n sws] h= .ok (.str "ok") (((h.set d (dkC (yd n sws) b))++[(Bd.new n sws).cell (h.length+2),none,some (.dct [])]).set d (dkC (yd n sws) (.ref h.length))):=by
 have ld:d<h.length:=(List.getElem?_eq_some_iff.mp o).1
 have hl:(h.set d (dkC (yd n sws) b)).length=h.length:=List.length_set
 have hb1:Hb (h.set d (dkC (yd n sws) b)):=hb.set λm hm=>by
  have h1:=jp3 n sws m
  have h2:=hy m hm
  simp[dkC,dkF,Cell.bnd,h1,h2,D.bnds,D.bndf]
 have mk:=jyk ok (m:=mVar 1) (ρ:=[some (.ref d),some (yd n sws)]) (h0:=h.set d (dkC (yd n sws) b)) hb1 (by simp)
 rw[hl] at mk
 have o1:((h.set d (dkC (yd n sws) b))++[(Bd.new n sws).cell (h.length+2),none,some (.dct [])])[d]?=some (dkC (yd n sws) b):=by
  rw[List.getElem?_append_left (by rw[hl];exact ld),List.getElem?_set_self ld]
 have key:b_X4 [some (.ref d),some (yd n sws)] h= .rt (.str "ok") (((h.set d (dkC (yd n sws) b))++[(Bd.new n sws).cell (h.length+2),none,some (.dct [])]).set d (dkC (yd n sws) (.ref h.length))):=by
  unfold b_X4
  refine(jae (ρ':=[some (.ref d),some (yd n sws)]) (h':=h.set d (dkC (yd n sws) b)) (by
   unfold dkC at o ⊢
   simp[o])).trans ?_
  refine(jae (ρ':=[some (.ref d),some (yd n sws)]) (h':=((h.set d (dkC (yd n sws) b))++[(Bd.new n sws).cell (h.length+2),none,some (.dct [])]).set d (dkC (yd n sws) (.ref h.length))) (by
   generalize ((h.set d (dkC (yd n sws) b))++[(Bd.new n sws).cell (h.length+2),none,some (.dct [])])=H1 at*
   generalize h.set d (dkC (yd n sws) b)=H0 at*
   unfold dkC at o1 ⊢
   unfold jdo
   rw[mk]
   simp[o1])).trans ?_
  simp
 unfold z_X4 mFun
 rw[if_pos (show[D.ref d,yd n sws].length=2 from rfl)]
 have k2:b_X4 ([D.ref d,yd n sws].map some++List.replicate (2 - [D.ref d,yd n sws].length) none) h=_:=key
 rw[k2]
 show fin _ _ _=_
 unfold fin
 have l3:(((h.set d (dkC (yd n sws) b))++[(Bd.new n sws).cell (h.length+2),none,some (Cell.dct [])]).set d (dkC (yd n sws) (.ref h.length))).length=h.length+3:=by simp
 rw[if_neg (by omega),if_neg]
 intro z
 have z2:=(Bool.and_eq_true_iff.mp z).2
 rw[List.all_eq_true] at z2
 have:=z2 (dkC (yd n sws) (.ref h.length)) (by
  refine List.mem_of_getElem? (i:=d) ?_
  rw[List.getElem?_take_of_lt ld,List.getElem?_set_self (by simp;omega)])
 simp[dkC,dkF,Cell.bnd,D.bnd,D.bnds,D.bndf] at this
theorem jn7{H:MH}{d p n:Nat}{x y:D}(o:H[d]?=some (dkC y (.ref p)))(hd:d<n)(hp:n<=p):fin n x H= .ok x H:=by
 unfold fin
 by_cases z:H.length<=n
 ·rw[if_pos z]
 ·rw[if_neg z,if_neg]
  intro q
  have z2:=(Bool.and_eq_true_iff.mp q).2
  rw[List.all_eq_true] at z2
  have:=z2 (dkC y (.ref p)) (by
   refine List.mem_of_getElem? (i:=d) ?_
   rw[List.getElem?_take_of_lt hd];exact o)
  simp[dkC,dkF,Cell.bnd,D.bnd,D.bnds,D.bndf] at this
  omega
def beH(h:MH)(d n:Nat)(sws:List Sw)(b:D):MH:=((h.set d (dkC (yd n sws) b))++[(Bd.new n sws).cell (h.length+2),none,some (.dct [])]).set d (dkC (yd n sws) (.ref h.length))
theorem jvz{h:MH}{d n:Nat}{sws:List Sw}{b:D}(ld:d<h.length):(beH h d n sws b)[d]?=some (dkC (yd n sws) (.ref h.length)):=by
 unfold beH
 rw[List.getElem?_set_self (by simp;omega)]
theorem jx9{h:MH}{d n j:Nat}{sws:List Sw}{b:D}(lj:j<h.length)(ne:j≠d):(beH h d n sws b)[j]?=h[j]?:=by
 unfold beH
 rw[List.getElem?_set_ne (Ne.symm ne),List.getElem?_append_left (by simpa using lj),List.getElem?_set_ne (Ne.symm ne)]
theorem jwn{h:MH}{d n:Nat}{b:D}(ok:jbr n sws)(hb:Hb h)(ld:d<h.length)(hy:∀m,h.length<=m->b.bnd m=true):Dk (beH h d n sws b) d h.length (h.length+2) (Bd.new n sws):=by
 have hb1:Hb (h.set d (dkC (yd n sws) b)):=hb.set λm hm=>by
  have h1:=jp3 n sws m
  have h2:=hy m hm
  simp[dkC,dkF,Cell.bnd,h1,h2,D.bnds,D.bndf]
 have A:=at_new ok hb1
 have hl:(h.set d (dkC (yd n sws) b)).length=h.length:=List.length_set
 rw[hl] at A
 refine⟨jvz ld,?_,?_,?_,ok⟩
 ·unfold beH
  rw[List.getElem?_set_ne (by omega)];exact A.o
 ·unfold beH
  rw[List.getElem?_set_ne (by omega)];exact A.g
 ·unfold beH
  refine A.hb.set λm hm=> ?_
  have h1:=jp3 n sws m
  simp at hm
  simp[dkC,dkF,Cell.bnd,h1,D.bnds,D.bndf,D.bnd]
  omega
theorem jhd{ws:List Str}{row k:Str}(e:Txt.split row ⟨#[32]⟩=k::ws)(lr:row.length<=16777216)(lw:ws.length<=100)(d:Nat)(B:MS)(h:MH):sSeq (sAsg (jb5 (jir (mVar 1) (ja2 (mC (.str " ")) mNil))) (jac 2)) (sSeq (sAsg (mBin dIx (mVar 2) (mC (.int 0))) (jac 3)) B) [some (.ref d),some (.str row),none,none,none] h=B [some (.ref d),some (.str row),some (.lst ((k::ws).map D.str)),some (.str k),none] h:=by
 have l1:(Str.ofString " ").length≠0:=by decide+kernel
 have l2:(Txt.split row ⟨#[32]⟩).length<=16777216:=by rw[e];simp;omega
 refine(jae (ρ':=[some (.ref d),some (.str row),some (.lst ((k::ws).map D.str)),none,none]) (h':=h) (by
  rw[<-e32] at e l2
  have l3:ws.length<=16777215:=by omega
  simp[-List.map_cons,l1,lr,l3,e])).trans ?_
 exact jae (by simp)
theorem jtx{n:Nat}(h1:1<=n)(h2:n<=10){h:MH}(hb:Hb h){d:Nat}{y b:D}(o:h[d]?=some (dkC y b))(hy:∀m,h.length<=m->b.bnd m=true):z_Xt [.ref d,.str (jdd n)] h= .ok (.str "ok") (beH h d n [] b):=by
 have ld:d<h.length:=(List.getElem?_eq_some_iff.mp o).1
 have ok:jbr n []:=⟨h1,h2,by simp,λs m=>(nomatch m)⟩
 obtain⟨f1,_,f3⟩:=jg3 (k:="bars") (bs:=[(n:Int)]) jgi.1 jgi.2.1 jgi.2.2 (by simp;omega) (by simp)
 have hd:=jhd (row:=jdd n) (k:="bars") (ws:=[(n:Int)].map W) f3 (by have:(jdd n).length<=20:=f1;omega) (by simp) d
 have ci:=jm9 n h (by omega) (by omega)
 have bg:z_X4 [.ref d,.tup [.int (n:Int),.lst []]] h= .ok (.str "ok") (beH h d n [] b):=jnw ok hb o hy
 have key:b_Xt [some (.ref d),some (.str (jdd n)),none,none,none] h= .rt (.str "ok") (beH h d n [] b):=by
  unfold b_Xt
  rw[hd]
  refine jjg ?_
  have mm:=jgf o (tab:=jg2) (f:="begin") (z:=z_X4) (m:=mVar 0) (l:=ja2 (mTup (ja2 (jar z_Xr (ja2 (mVar 1) mNil)) (ja2 (jb5 (jc8 mNil)) mNil))) mNil) (ρ:=[some (.ref d),some (.str (jdd n)),some (.lst ((Str.ofString "bars"::[(n:Int)].map W).map D.str)),some (.str (Str.ofString "bars")),none]) (ds:=[.tup [.int (n:Int),.lst []]]) rfl (by decide+kernel) (by simp) (by simp[ci])
  have mm:=mm.trans bg
  generalize beH h d n [] b=H at*
  simp only[sIf,tB,mBin,mVar,mC,List.getElem?_cons_succ,List.getElem?_cons_zero,jde,dEq,decide_true,jdr,if_true,sRet,mm]
 unfold z_Xt mFun
 rw[if_pos (show[D.ref d,D.str (jdd n)].length=2 from rfl)]
 have k2:b_Xt ([D.ref d,D.str (jdd n)].map some++List.replicate (5 - [D.ref d,D.str (jdd n)].length) none) h=_:=key
 rw[k2]
 exact jn7 (jvz ld) ld (Nat.le_refl _)
def Sw.t:Sw->Str×List Int
 | .feed a=>("feed",[(a:Int)]) | .earth a=>("earth",[(a:Int)]) | .breaker a b=>("breaker",[(a:Int),(b:Int)]) | .splitter a b=>("splitter",[(a:Int),(b:Int)])
theorem sd_t(s:Sw):sd s.t=s.d:=by cases s<;>rfl
theorem t_ok{n:Nat}{s:Sw}(ok:s.ok n):SwOk n s.t:=by
 cases s with
 | feed a=>exact .inl ⟨a,by omega,by have:a<n:=ok;omega,.inl rfl⟩
 | earth a=>exact .inl ⟨a,by omega,by have:a<n:=ok;omega,.inr rfl⟩
 | breaker a b=>obtain⟨h1,h2,h3⟩:=ok;exact .inr ⟨a,b,by omega,by omega,by omega,by omega,by omega,.inl rfl⟩
 | splitter a b=>obtain⟨h1,h2,h3⟩:=ok;exact .inr ⟨a,b,by omega,by omega,by omega,by omega,by omega,.inr rfl⟩
def rowS(s:Sw):Str:=rowT s.t
theorem kd_ne:¬(Str.ofString "feed"=Str.ofString "bars") /\ ¬(Str.ofString "earth"=Str.ofString "bars") /\ ¬(Str.ofString "breaker"=Str.ofString "bars") /\ ¬(Str.ofString "splitter"=Str.ofString "bars"):=by decide+kernel
theorem jp1{n:Nat}(hn:n<=10){s:Sw}(ok:s.ok n):(rowS s).length<=20 /\ Txt.split (rowS s) ⟨#[32]⟩=s.t.1::s.t.2.map W /\ s.t.2.length<=2:=by
 obtain⟨b1,b2,b3,b4,b5,b6⟩:=(t_ok ok).bars
 obtain⟨f1,_,f3⟩:=jg3 (k:=s.t.1) (bs:=s.t.2) b4 b5 b6 (λb m=>by have:=b1 b m;omega) b2
 exact⟨f1,f3,b2⟩
theorem jix{h:MH}{d p:Nat}{y:D}(o:h[d]?=some (dkC y (.ref p)))(hy:jkx y=false){k:Str}(hk:¬k=Str.ofString "bars")(x1 x2 x4:Option D)(A B:MS):sSeq (sIf (tB (mBin dEq (mVar 3) (mC (.str "bars")))) A jas) (sSeq (sIf (tB (mBin dIs (mFld jbg "yard" (mVar 0)) (mC .non))) (jcb "NoRow" (mC (.str "there is no yard yet"))) jas) B) [some (.ref d),x1,x2,some (.str k),x4] h=B [some (.ref d),x1,x2,some (.str k),x4] h:=by
 refine(jae (ρ':=[some (.ref d),x1,x2,some (.str k),x4]) (h':=h) (by simp[hk])).trans ?_
 have e1:mFld jbg "yard" (mVar 0) [some (.ref d),x1,x2,some (.str k),x4] h= .ok y h:=by
  unfold dkC at o
  simp[o]
 have e2:dIs y .non h= .ok (.bl false) h:=by
  have:dIs y .non h= .ok (.bl (jkx y)) h:=by cases y<;>rfl
  rw[this,hy]
 refine jae ?_
 simp only[sIf,tB,mBin,e1,mC,jde,e2,jdr,Bool.false_eq_true,if_false,jas]
theorem in4(s:Sw)(h:MH):dIn false (.str s.t.1) (.tup [.str "feed",.str "earth",.str "breaker",.str "splitter"]) h= .ok (.bl true) h:=by
 cases s<;>simp[Sw.t,eqF]
theorem jpi{h:MH}{d p r:Nat}{b:Bd}(D0:Dk h d p r b)(ok:jbr b.n b.sws){s:Sw}(hs:s.ok b.n)(hl:b.sws.length<12):z_Xt [.ref d,.str (rowS s)] h= .ok (.str "ok") (beH h d b.n (b.sws++[s]) (.ref p)):=by
 have ld:d<h.length:=(List.getElem?_eq_some_iff.mp D0.o).1
 have lp:p<h.length:=D0.a.lt'
 have hn:=ok.2.1
 obtain⟨f1,f2,f3⟩:=jp1 hn hs
 have hd:=jhd (row:=rowS s) f2 (by omega) (by simp;omega) d
 have si:=jkm s.t b.n b.sws.length h (by have:=ok.1;omega) (by omega) (t_ok hs) hl
 rw[sd_t] at si
 have ok2:jbr b.n (b.sws++[s]):=⟨ok.1,hn,by simp;omega,λw m=>by
  rcases List.mem_append.mp m with m | m
  ·exact ok.2.2.2 w m
  ·rw[List.mem_singleton.mp m];exact hs⟩
 have bg:z_X4 [.ref d,.tup [.int (b.n:Int),.lst (b.sws.map Sw.d++[s.d])]] h= .ok (.str "ok") (beH h d b.n (b.sws++[s]) (.ref p)):=by
  have this:z_X4 [.ref d,yd b.n (b.sws++[s])] h= .ok (.str "ok") (beH h d b.n (b.sws++[s]) (.ref p)):=jnw ok2 D0.a.hb D0.o (λm hm=>by simp[D.bnd];omega)
  have e:yd b.n (b.sws++[s])= .tup [.int (b.n:Int),.lst (b.sws.map Sw.d++[s.d])]:=by
   unfold yd
   rw[List.map_append];rfl
  rw[e] at this
  exact this
 have kn:¬s.t.1=Str.ofString "bars":=by
  obtain⟨a,b,c,e⟩:=kd_ne
  cases s<;>assumption
 have o:=D0.o
 have i0:∀h,dIx (yd b.n b.sws) (.int 0) h= .ok (.int (b.n:Nat)) h:=λh=>rfl
 have i1:∀h,dIx (yd b.n b.sws) (.int 1) h= .ok (.lst (b.sws.map Sw.d)) h:=λh=>rfl
 have ad:z_Q5 [.ref d,.str (rowS s)] h= .ok (.str "ok") (beH h d b.n (b.sws++[s]) (.ref p)):=by
  have key:b_Q5 [some (.ref d),some (.str (rowS s)),none,none] h= .rt (.str "ok") (beH h d b.n (b.sws++[s]) (.ref p)):=by
   have fy:∀x1 x2 x3,mFld jbg "yard" (mVar 0) [some (.ref d),x1,x2,x3] h= .ok (yd b.n b.sws) h:=λx1 x2 x3=>by
    unfold dkC at o
    simp[o]
   unfold b_Q5
   refine(jae (ρ':=[some (.ref d),some (.str (rowS s)),some (.int (b.n:Nat)),none]) (h':=h) (by simp[-dIx, -mFld,fy,i0])).trans ?_
   refine(jae (ρ':=[some (.ref d),some (.str (rowS s)),some (.int (b.n:Nat)),some (.lst (b.sws.map Sw.d))]) (h':=h) (by simp[-dIx, -mFld, -List.map_map,fy,i1])).trans ?_
   have ll:(b.sws.map Sw.d).length=b.sws.length:=List.length_map ..
   have mm:=jgf o (tab:=jg2) (f:="begin") (z:=z_X4) (m:=mVar 0) (l:=ja2 (mTup (ja2 (mVar 2) (ja2 (mBin dAdd (mVar 3) (jb5 (jc8 (ja2 (jar z_Xh (ja2 (mVar 1) (ja2 (mVar 2) (ja2 (mFn fLen (ja2 (mVar 3) mNil)) mNil)))) mNil)))) mNil))) mNil) (ρ:=[some (.ref d),some (.str (rowS s)),some (.int (b.n:Nat)),some (.lst (b.sws.map Sw.d))]) (ds:=[.tup [.int (b.n:Int),.lst (b.sws.map Sw.d++[s.d])]]) rfl (by decide+kernel) (by simp) (by
    have l2:b.sws.length<=16777215:=by omega
    have si:z_Xh [.str (rowS s),.int (b.n:Int),.int (b.sws.length:Int)] h= .ok s.d h:=si
    generalize b.sws.map Sw.d=T at*
    generalize rowS s=R at*
    generalize s.d=S at*
    simp[ll,si,l2])
   have mm:=mm.trans bg
   generalize beH h d b.n (b.sws++[s]) (.ref p)=H at*
   simp only[sRet,mm,jdr]
  unfold z_Q5 mFun
  rw[if_pos (show[D.ref d,D.str (rowS s)].length=2 from rfl)]
  have k2:b_Q5 ([D.ref d,D.str (rowS s)].map some++List.replicate (4 - [D.ref d,D.str (rowS s)].length) none) h=_:=key
  rw[k2]
  exact jn7 (jvz ld) ld (Nat.le_refl _)
 have key:b_Xt [some (.ref d),some (.str (rowS s)),none,none,none] h= .rt (.str "ok") (beH h d b.n (b.sws++[s]) (.ref p)):=by
  unfold b_Xt
  rw[hd,jix o rfl kn]
  refine jjg ?_
  have mm:=jgf o (tab:=je8) (f:="add_switch") (z:=z_Q5) (m:=mVar 0) (l:=ja2 (mVar 1) mNil) (ρ:=[some (.ref d),some (.str (rowS s)),some (.lst ((s.t.1::s.t.2.map W).map D.str)),some (.str s.t.1),none]) (ds:=[.str (rowS s)]) rfl (by decide+kernel) (by simp) (by simp)
  have mm:=mm.trans ad
  have i4:=in4 s h
  generalize beH h d b.n (b.sws++[s]) (.ref p)=H at*
  generalize s.t.1=K at*
  have t4:mTup (ja2 (mC (.str "feed")) (ja2 (mC (.str "earth")) (ja2 (mC (.str "breaker")) (ja2 (mC (.str "splitter")) mNil)))) [some (.ref d),some (.str (rowS s)),some (.lst ((K::s.t.2.map W).map D.str)),some (.str K),none] h= .ok (.tup [.str "feed",.str "earth",.str "breaker",.str "splitter"]) h:=by simp
  simp only[sIf,tB,mBin,mVar,List.getElem?_cons_succ,List.getElem?_cons_zero,jde,t4,i4,jdr,if_true,sRet,mm]
 unfold z_Xt mFun
 rw[if_pos (show[D.ref d,D.str (rowS s)].length=2 from rfl)]
 have k2:b_Xt ([D.ref d,D.str (rowS s)].map some++List.replicate (5 - [D.ref d,D.str (rowS s)].length) none) h=_:=key
 rw[k2]
 exact jn7 (jvz ld) ld (Nat.le_refl _)
theorem jz1(ok:jbr n sws)(st:Nat)(h:MH)(hb:Hb h):z_Yl [yd n sws,.int st] h= .ok (.int (jbs st sws:Nat)) h:=by
 have e1:=jhc (m:=mVar 0) (ρ:=[some (yd n sws),some (.int st)]) (h:=h) n sws ok.2.2.1 hb (by simp)
 have e3:=jlw ok st (h++[none]) (l:=mVar 1) e1 (by simp)
 have hb2:∀x∈h,Cell.bnd h.length x=true:=by simpa using hb h.length (Nat.le_refl _)
 simp[-jao, -jfb,z_Yl,b_Yl,e3,D.bnd]
 rw[if_neg (by omega),if_pos hb2]
theorem jpc(ok:jbr n sws)(st:Nat)(h:MH)(hb:Hb h):z_Xz [yd n sws,.int st] h= .ok (.int (jcc st sws:Nat)) h:=by
 have e1:=jhc (m:=mVar 0) (ρ:=[some (yd n sws),some (.int st)]) (h:=h) n sws ok.2.2.1 hb (by simp)
 have e3:=jik ok st (h++[none]) (l:=mVar 1) e1 (by simp)
 have hb2:∀x∈h,Cell.bnd h.length x=true:=by simpa using hb h.length (Nat.le_refl _)
 simp[-jao, -jfb,z_Xz,b_Xz,e3,D.bnd]
 rw[if_neg (by omega),if_pos hb2]
structure One (k:Str):Prop where
 sp:Txt.split k ⟨#[32]⟩=[k]
 ln:k.length<=10
 b:¬k=Str.ofString "bars"
 a1:¬Str.ofString "feed"=k
 a2:¬Str.ofString "earth"=k
 a3:¬Str.ofString "breaker"=k
 a4:¬Str.ofString "splitter"=k
 a5:¬Str.ofString "turn"=k
 a6:¬Str.ofString "lock"=k
 a7:¬Str.ofString "unlock"=k
 a8:¬Str.ofString "back"=k
 c1:¬k=Str.ofString "permit"
 c2:¬k=Str.ofString "locks"
 c3:¬k=Str.ofString "reach"
theorem jut:One (Str.ofString "shut"):=⟨by decide+kernel,by decide+kernel,by decide+kernel,by decide+kernel,by decide+kernel,by decide+kernel,by decide+kernel,by decide+kernel,by decide+kernel,by decide+kernel,by decide+kernel,by decide+kernel,by decide+kernel,by decide+kernel⟩
theorem jue:One (Str.ofString "live"):=⟨by decide+kernel,by decide+kernel,by decide+kernel,by decide+kernel,by decide+kernel,by decide+kernel,by decide+kernel,by decide+kernel,by decide+kernel,by decide+kernel,by decide+kernel,by decide+kernel,by decide+kernel,by decide+kernel⟩
theorem jm2:One (Str.ofString "earthed"):=⟨by decide+kernel,by decide+kernel,by decide+kernel,by decide+kernel,by decide+kernel,by decide+kernel,by decide+kernel,by decide+kernel,by decide+kernel,by decide+kernel,by decide+kernel,by decide+kernel,by decide+kernel,by decide+kernel⟩
theorem jpd:One (Str.ofString "locked"):=⟨by decide+kernel,by decide+kernel,by decide+kernel,by decide+kernel,by decide+kernel,by decide+kernel,by decide+kernel,by decide+kernel,by decide+kernel,by decide+kernel,by decide+kernel,by decide+kernel,by decide+kernel,by decide+kernel⟩
theorem jj9{k:Str}(u:One k){h:MH}{d p:Nat}{y:D}(o:h[d]?=some (dkC y (.ref p)))(hy:jkx y=false){x:D}(et:z_Xn [.ref d,.str k] h= .ok x h):z_Xt [.ref d,.str k] h= .ok x h:=by
 have hd:=jhd (row:=k) (ws:=[]) u.sp (by have:=u.ln;omega) (by simp) d
 have mm:=jgf o (tab:=jlp) (f:="tell") (z:=z_Xn) (m:=mVar 0) (l:=ja2 (mVar 3) mNil) (ρ:=[some (.ref d),some (.str k),some (.lst ([k].map D.str)),some (.str k),none]) (ds:=[.str k]) rfl (by decide+kernel) (by simp) (by simp)
 have mm:=mm.trans et
 obtain⟨_,_,b,a1,a2,a3,a4,a5,a6,a7,a8,c1,c2,c3⟩:=u
 have key:b_Xt [some (.ref d),some (.str k),none,none,none] h= .rt x h:=by
  unfold b_Xt
  rw[hd,jix o hy b]
  refine(jae (ρ':=[some (.ref d),some (.str k),some (.lst ([k].map D.str)),some (.str k),none]) (h':=h) (by simp[eqF,a1,a2,a3,a4])).trans ?_
  refine(jae (ρ':=[some (.ref d),some (.str k),some (.lst ([k].map D.str)),some (.str k),none]) (h':=h) (by simp[eqF,a5,a6,a7,a8])).trans ?_
  refine(jae (ρ':=[some (.ref d),some (.str k),some (.lst ([k].map D.str)),some (.str k),none]) (h':=h) (by simp[c1])).trans ?_
  refine(jae (ρ':=[some (.ref d),some (.str k),some (.lst ([k].map D.str)),some (.str k),none]) (h':=h) (by simp[c2])).trans ?_
  refine(jae (ρ':=[some (.ref d),some (.str k),some (.lst ([k].map D.str)),some (.str k),none]) (h':=h) (by simp[c3])).trans ?_
  refine(jae (ρ':=[some (.ref d),some (.str k),some (.lst ([k].map D.str)),some (.str k),none]) (h':=h) (by simp)).trans ?_
  simp only[sRet,mm,jdr]
 exact jbz (np:=2) (nn:=5) (b:=b_Xt) (ds:=[.ref d,.str k]) rfl key (Nat.le_refl _)
def ja6(x:Nat):List Nat:=(List.range (Builtin.Int.intBits (x:Int))).filter λk=>x.testBit k
theorem jc1{x k:Nat}:k∈ja6 x↔x.testBit k=true:=by
 unfold ja6
 rw[List.mem_filter,List.mem_range]
 refine⟨λh=>h.2,λh=>⟨?_,h⟩⟩
 have h0:x≠0:=λz=>by subst z;simp at h
 have h1:2^k<=x:=Nat.ge_two_pow_of_testBit h
 have h2:=(Nat.le_log2 h0).mpr h1
 simp[Builtin.Int.intBits,h0]
 omega
theorem jvs{x m:Nat}(hx:x<2^m):Builtin.Int.intBits (x:Int)<=m:=by
 by_cases h0:x=0
 ·subst h0;simp[Builtin.Int.intBits]
 ·have h2:=(Nat.log2_lt h0).mpr hx
  simp[Builtin.Int.intBits,h0]
  omega
theorem jsu(m:Nat):rng 0 m=(List.range m).map λk:Nat=>D.int k:=by
 unfold rng
 simp
theorem jf6(x:Nat)(hx:x<2^12)(h:MH):z_X7 [.int x] h= .ok (.lst ((ja6 x).map λk:Nat=>D.int k)) h:=by
 have hl:=jvs hx
 have comp:compLoop (jac 0) (tTru (jar jfq (ja2 (mVar 1) (ja2 (mVar 0) mNil)))) (mVar 0) [none,some (.int x)] (rng 0 (Builtin.Int.intBits (x:Int))) h= .ok ((ja6 x).map λk:Nat=>D.int k) h:=by
  rw[jsu]
  exact jd9 (g:=jac 0) (t:=tTru (jar jfq (ja2 (mVar 1) (ja2 (mVar 0) mNil)))) (m:=mVar 0) (ρ0:=[none,some (.int x)]) (h:=h) (λk:Nat=>D.int k) (λk=>[some (.int k),some (.int x)]) (λk=>x.testBit k) (λk:Nat=>D.int k) (List.range (Builtin.Int.intBits (x:Int))) λk _=>by
   have:=jg8 x k h
   refine⟨by simp,?_,by simp⟩
   simp[this]
 simp[-List.map_map,z_X7,b_X7,comp,show Builtin.Int.intBits (x:Int)<4611686018427387904 by omega,show Builtin.Int.intBits (x:Int)<16777216 by omega]
def Sw.l:Sw->D
 | .feed a=> .lst [.str "feed",.int (a:Nat)] | .earth a=> .lst [.str "earth",.int (a:Nat)] | .breaker a b=> .lst [.str "breaker",.int (a:Nat),.int (b:Nat)] | .splitter a b=> .lst [.str "splitter",.int (a:Nat),.int (b:Nat)]
abbrev iL(l:List Nat):List D:=l.map λk:Nat=>D.int k
def Sw.tie:Sw->Bool
 | .breaker _ _=>true | .splitter _ _=>true | _=>false
def Sw.a:Sw->Nat
 | .feed a=>a | .earth a=>a | .breaker a _=>a | .splitter a _=>a
def Sw.b:Sw->Nat
 | .feed a=>a | .earth a=>a | .breaker _ b=>b | .splitter _ b=>b
theorem jnu{s:Sw}(t:s.tie=true):s.pair=2^s.a|||2^s.b:=by
 cases s<;>first | rfl | cases t
theorem jpm{s:Sw}(t:s.tie=false):s.pair=0:=by
 cases s<;>first | rfl | cases t
theorem jso{s:Sw}(t:s.tie=true)(h:MH):dIx s.l (.int 1) h= .ok (.int (s.a:Nat)) h /\ dIx s.l (.int 2) h= .ok (.int (s.b:Nat)) h:=by
 cases s<;>first | (cases t;done) | exact⟨by simp[Sw.l,Sw.a],by simp[Sw.l,Sw.b]⟩
theorem jx1(l:List Nat)(b:Nat):((iL l).any λy=>eqF y (.int (b:Nat)))=decide (b∈l):=by
 induction l with
 | nil=>simp
 | cons a l ih=>
  show(eqF (.int (a:Nat)) (.int (b:Nat))||(iL l).any λy=>eqF y (.int (b:Nat)))=_
  rw[ih]
  by_cases q:b=a
  ·subst q;simp[eqF]
  ·have:¬((a:Int)=(b:Int)):=by omega
   simp[eqF,this,q]
theorem jrm(l:List Nat):(iL l).all flat=true:=by
 rw[List.all_eq_true]
 intro d m
 obtain⟨k,_,rfl⟩:=List.mem_map.mp m
 rfl
theorem jie(l:List Nat)(b:Nat)(neg:Bool)(h:MH):dIn neg (.int (b:Nat)) (.lst (iL l)) h= .ok (.bl (if neg then !decide (b∈l) else decide (b∈l))) h:=by
 have e:=jx1 l b
 have f:=jrm l
 generalize iL l=T at*
 simp[-List.all_eq_true, -List.any_eq_true,f,e,asQ,asL,flat,chk]
theorem jwd{h:MH}{p:Nat}{l:List Nat}(o:h[p]?=some (some (.lst (iL l))))(b:Nat)(neg:Bool):dIn neg (.int (b:Nat)) (.ref p) h= .ok (.bl (if neg then !decide (b∈l) else decide (b∈l))) h:=by
 have e:=jx1 l b
 have f:=jrm l
 generalize iL l=T at*
 simp[-List.all_eq_true, -List.any_eq_true,f,e,asQ,asL,flat,chk,o]
def add1(u v x:Nat)(l:List Nat):List Nat:=if u=x /\ v∉l then l++[v] else l
theorem jj1(u v x:Nat)(l:List Nat):∃g,add1 u v x l=l++g:=by
 unfold add1
 split
 ·exact⟨_,rfl⟩
 ·exact⟨[],by simp⟩
theorem jiz{u v x i:Nat}{l:List Nat}(h:l[i]?=some x):(add1 u v x l)[i]?=some x:=by
 obtain⟨g,e⟩:=jj1 u v x l
 obtain⟨hi,_⟩:=List.getElem?_eq_some_iff.mp h
 rw[e,List.getElem?_append_left hi];exact h
theorem jto(u v x:Nat)(l:List Nat):(add1 u v x l).length<=l.length+1:=by
 unfold add1
 split<;>simp
theorem je7(u v x:Nat)(l:List Nat):(u=x->v∈add1 u v x l) /\ (∀y∈l,y∈add1 u v x l) /\ ∀y∈add1 u v x l,y∈l \/ (u=x /\ y=v):=by
 unfold add1
 by_cases q:u=x /\ v∉l
 ·rw[if_pos q]
  refine⟨λ_=>by simp,λy m=>List.mem_append_left _ m,λy m=> ?_⟩
  rcases List.mem_append.mp m with m | m
  ·exact .inl m
  ·exact .inr ⟨q.1,List.mem_singleton.mp m⟩
 ·rw[if_neg q]
  exact⟨λe=>Classical.byContradiction λz=>q ⟨e,z⟩,λy m=>m,λy m=> .inl m⟩
theorem jsb{u v x:Nat}{l:List Nat}(nd:l.Nodup):(add1 u v x l).Nodup:=by
 unfold add1
 split
 ·rename_i q
  rw[List.nodup_append]
  exact⟨nd,by simp,λa ma b mb e=>q.2 (by rw[List.mem_singleton] at mb;rw[<-mb,<-e];exact ma)⟩
 ·exact nd
def grow(x:Nat)(f:List Nat)(s:Sw):List Nat:=add1 s.b s.a x (add1 s.a s.b x f)
theorem jtl{x i:Nat}{f:List Nat}{s:Sw}(h:f[i]?=some x):(grow x f s)[i]?=some x:=jiz (jiz h)
theorem jvt{x:Nat}{f:List Nat}{s:Sw}:∀y∈f,y∈grow x f s:=λy m=>(je7 _ _ _ _).2.1 y ((je7 _ _ _ _).2.1 y m)
theorem jnm{x:Nat}{f:List Nat}{s:Sw}:(s.a=x->s.b∈grow x f s) /\ (s.b=x->s.a∈grow x f s) /\ ∀y∈grow x f s,y∈f \/ (s.a=x /\ y=s.b) \/ (s.b=x /\ y=s.a):=by
 refine⟨λe=>(je7 _ _ _ _).2.1 _ ((je7 _ _ _ _).1 e),(je7 _ _ _ _).1,λy m=> ?_⟩
 rcases(je7 _ _ _ _).2.2 y m with m | m
 ·rcases(je7 _ _ _ _).2.2 y m with m | m
  ·exact .inl m
  ·exact .inr (.inl m)
 ·exact .inr (.inr m)
theorem jz9{x:Nat}{f:List Nat}{s:Sw}(nd:f.Nodup):(grow x f s).Nodup:=jsb (jsb nd)
theorem jrr{H:MH}{s:Sw}(t:s.tie=true){f:List Nat}{i x:Nat}(hx:f[i]?=some x)(hf:f.length<=100)(x0 x1 x2 x4:Option D):jcs [x0,x1,x2,some (.ref H.length),x4,some (.int (i:Nat)),some s.l] (H++[some (.lst (iL f))])= .nx [x0,x1,x2,some (.ref H.length),x4,some (.int (i:Nat)),some s.l] (H++[some (.lst (iL (grow x f s)))]):=by
 have g:∀c:Option Cell,(H++[c])[H.length]?=some c:=λc=>by simp
 have st:∀c e:Option Cell,(H++[c]).set H.length e=H++[e]:=λc e=>by simp
 have ixr:∀l:List Nat,l[i]?=some x->dIx (.ref H.length) (.int (i:Nat)) (H++[some (.lst (iL l))])= .ok (.int (x:Nat)) (H++[some (.lst (iL l))]):=λl hl=>by
  have a:atI (iL l) (i:Int)=some (.int (x:Nat)):=jhl (by rw[List.getElem?_map,hl];rfl)
  have g1:=g (some (.lst (iL l)))
  generalize iL l=T at*
  simp[a]
 have inr:∀(l:List Nat) (b:Nat),dIn true (.int (b:Nat)) (.ref H.length) (H++[some (.lst (iL l))])= .ok (.bl (!decide (b∈l))) (H++[some (.lst (iL l))]):=λl b=>jwd (g _) b true
 have apd:∀(l:List Nat) (b:Nat),iL l++[.int (b:Nat)]=iL (l++[b]):=λl b=>by simp
 have ti:∀h,dIx s.l (.int 1) h= .ok (.int (s.a:Nat)) h:=λh=>(jso t h).1
 have tj:∀h,dIx s.l (.int 2) h= .ok (.int (s.b:Nat)) h:=λh=>(jso t h).2
 have one:∀(l:List Nat) (u v:Nat) (m1 m2:Int),(∀h,dIx s.l (.int m1) h= .ok (.int (u:Nat)) h)->(∀h,dIx s.l (.int m2) h= .ok (.int (v:Nat)) h)->l[i]?=some x->l.length<=101->
   (sIf (tAnd (tB (mBin dEq (mBin dIx (mVar 6) (mC (.int m1))) (mBin dIx (mVar 3) (mVar 5)))) (tB (mBin (dIn true) (mBin dIx (mVar 6) (mC (.int m2))) (mVar 3)))) (jhv (mVar 3) (mBin dIx (mVar 6) (mC (.int m2)))) jas) [x0,x1,x2,some (.ref H.length),x4,some (.int (i:Nat)),some s.l] (H++[some (.lst (iL l))])= .nx [x0,x1,x2,some (.ref H.length),x4,some (.int (i:Nat)),some s.l] (H++[some (.lst (iL (add1 u v x l)))]):=λl u v m1 m2 e1 e2 hl ll=>by
  have r1:=ixr l hl
  have r2:=inr l v
  have r3:=apd l v
  have ln:(iL l).length<=101:=by rw[List.length_map];exact ll
  have g1:=g (some (.lst (iL l)))
  have st1:=st (some (.lst (iL l)))
  unfold add1
  by_cases q1:u=x
  ·by_cases q2:v∈l
   ·have q3:¬(u=x /\ v∉l):=λz=>z.2 q2
    rw[if_neg q3]
    subst q1
    generalize iL l=T at*
    simp[-dIx, -dIn,e1,e2,r1,r2,q2]
   ·rw[if_pos ⟨q1,q2⟩,<-r3]
    subst q1
    generalize iL l=T at*
    simp[-dIx, -dIn,e1,e2,r1,r2,q2,show T.length<16777216 by omega]
  ·have q3:¬(u=x /\ v∉l):=λz=>q1 z.1
   rw[if_neg q3]
   have q4:¬((u:Int)=(x:Int)):=by omega
   generalize iL l=T at*
   simp[-dIx, -dIn,e1,e2,r1,q4]
 unfold jcs
 refine(jae (one f s.a s.b 1 2 ti tj hx (by omega))).trans ?_
 have l2:=jto s.a s.b x f
 exact one _ s.b s.a 2 1 tj ti (jiz hx) (by omega)
structure Fnd (n:Nat) (ts:List Sw) (s:Nat) (f:List Nat):Prop where
 nd:f.Nodup
 lt:∀y∈f,y<n
 ge:∀y,s.testBit y=true->y∈f
 le:∀t,Clo.sub s t->Clo.jee (ts.map Sw.pair) t->∀y∈f,t.testBit y=true
theorem Fnd.grow{n:Nat}{ts:List Sw}{s:Nat}{f:List Nat}(F:Fnd n ts s f){w:Sw}(m:w∈ts)(t:w.tie=true)(hw:w.a<n /\ w.b<n){x:Nat}(hx:x∈f):Fnd n ts s (grow x f w):=by
 have mem:∀y∈My.grow x f w,y∈f \/ (w.a=x /\ y=w.b) \/ (w.b=x /\ y=w.a):=jnm.2.2
 refine⟨jz9 F.nd,λy m=> ?_,λy q=>jvt _ (F.ge y q),λT h1 h2 y my=> ?_⟩
 ·rcases mem y m with m | ⟨_,rfl⟩ | ⟨_,rfl⟩
  ·exact F.lt y m
  ·exact hw.2
  ·exact hw.1
 ·have hx':=F.le T h1 h2 x hx
  have cl:=h2 w.pair (List.mem_map.mpr ⟨w,m,rfl⟩)
  rw[jnu t] at cl
  rcases mem y my with my | ⟨e1,e2⟩ | ⟨e1,e2⟩
  ·exact F.le T h1 h2 y my
  ·rw[e2]
   refine cl (Clo.and_ne.mpr ⟨x,?_,hx'⟩) w.b ?_
   ·rw[Nat.testBit_or,jbd,e1];simp
   ·rw[Nat.testBit_or,jbd,jbd];simp
  ·rw[e2]
   refine cl (Clo.and_ne.mpr ⟨x,?_,hx'⟩) w.a ?_
   ·rw[Nat.testBit_or,jbd,jbd,e1];simp
   ·rw[Nat.testBit_or,jbd,jbd];simp
theorem jkg:∀(N:Nat) (l:List Nat),l.Nodup->(∀x∈l,x<N)->l.length<=N
 | 0,[],_,_=>Nat.le_refl _
 | 0,x::l,_,h=>absurd (h x (List.mem_cons_self ..)) (Nat.not_lt_zero _)
 | N+1,l,nd,h=>by
  by_cases m:N∈l
  ·have h1:=jkg N (l.erase N) (nd.erase N) λx hx=>by
    have:=nd.mem_erase_iff.mp hx
    have:=h x this.2
    omega
   have h2:=List.length_erase_of_mem m
   omega
  ·have:=jkg N l nd λx hx=>by
    have:=h x hx
    have:x≠N:=λz=>m (z▸hx)
    omega
   omega
theorem Fnd.len{n:Nat}{ts:List Sw}{s:Nat}{f:List Nat}(F:Fnd n ts s f):f.length<=n:=jkg n f F.nd F.lt
def TsOk(n:Nat)(ts:List Sw):Prop:=∀w∈ts,w.tie=true /\ w.a<n /\ w.b<n
theorem jkd{n:Nat}(hn:n<=10){ts:List Sw}(ok:TsOk n ts){s:Nat}{H:MH}{i x:Nat}(x0 x1 x2 x4:Option D):∀(us:List Sw) (f:List Nat) (x6:Option D),(∀w∈us,w∈ts)->Fnd n ts s f->f[i]?=some x->∃(f':List Nat) (x6':Option D),Fnd n ts s f' /\ f'[i]?=some x /\ (∃g,f'=f++g) /\ (∀w∈us,(w.a=x->w.b∈f') /\ (w.b=x->w.a∈f')) /\
  jdf (jac 6) jcs (us.map Sw.l) [x0,x1,x2,some (.ref H.length),x4,some (.int (i:Nat)),x6] (H++[some (.lst (iL f))])= .nx [x0,x1,x2,some (.ref H.length),x4,some (.int (i:Nat)),x6'] (H++[some (.lst (iL f'))])
 | [],f,x6,_,F,hx=>⟨f,x6,F,hx,⟨[],by simp⟩,λw m=>(nomatch m),rfl⟩
 | w::us,f,x6,hs,F,hx=>by
  have mw:=hs w (List.mem_cons_self ..)
  obtain⟨t,ha,hb⟩:=ok w mw
  have hl:=F.len
  have xf:=List.mem_of_getElem? hx
  obtain⟨f',x6',F',hx',⟨g,eg⟩,me,e⟩:=jkd hn ok (s:=s) (H:=H) x0 x1 x2 x4 us (grow x f w) (some w.l) (λv m=>hs v (List.mem_cons_of_mem _ m)) (F.grow mw t ⟨ha,hb⟩ xf) (jtl hx)
  obtain⟨g1,e1⟩:=jj1 w.a w.b x f
  obtain⟨g2,e2⟩:=jj1 w.b w.a x (add1 w.a w.b x f)
  have eg':grow x f w=f++(g1++g2):=by unfold grow;rw[e2,e1,List.append_assoc]
  refine⟨f',x6',F',hx',⟨g1++g2++g,by rw[eg,eg',List.append_assoc]⟩,λv m=> ?_,?_⟩
  ·rcases List.mem_cons.mp m with rfl | m
   ·have gm:=jnm (x:=x) (f:=f) (s:=v)
    rw[eg]
    exact⟨λz=>List.mem_append_left _ (gm.1 z),λz=>List.mem_append_left _ (gm.2.1 z)⟩
   ·exact me v m
  ·rw[List.map_cons]
   have st:=jrr (H:=H) t hx (by omega) x0 x1 x2 x4
   have g0:jac 6 w.l [x0,x1,x2,some (.ref H.length),x4,some (.int (i:Nat)),x6] (H++[some (.lst (iL f))])= .nx [x0,x1,x2,some (.ref H.length),x4,some (.int (i:Nat)),some w.l] (H++[some (.lst (iL f))]):=rfl
   simp only[jdf,g0,st,e]
def Done(ts:List Sw)(f:List Nat)(i:Nat):Prop:=∀j,j<i->∀x,f[j]?=some x->∀w∈ts,(w.a=x->w.b∈f) /\ (w.b=x->w.a∈f)
theorem jpo{n:Nat}(hn:n<=10){ts:List Sw}(ok:TsOk n ts){s:Nat}{H:MH}(x0 x1 x2:Option D):∀(m i:Nat) (f:List Nat) (x6:Option D),n - i<=m->i<=f.length->Fnd n ts s f->Done ts f i->∃(f':List Nat) (i':Nat) (x6':Option D),Fnd n ts s f' /\ Done ts f' f'.length /\
  jcr (tB (mBin dLt (mVar 5) (mFn fLen (ja2 (mVar 3) mNil)))) jdh [x0,x1,x2,some (.ref H.length),some (.lst (ts.map Sw.l)),some (.int (i:Nat)),x6] (H++[some (.lst (iL f))])= .nx [x0,x1,x2,some (.ref H.length),some (.lst (ts.map Sw.l)),some (.int (i':Nat)),x6'] (H++[some (.lst (iL f'))]):=by
 have g:∀c:Option Cell,(H++[c])[H.length]?=some c:=λc=>by simp
 have ec:∀(i:Nat) (f:List Nat) (x6:Option D),tB (mBin dLt (mVar 5) (mFn fLen (ja2 (mVar 3) mNil))) [x0,x1,x2,some (.ref H.length),some (.lst (ts.map Sw.l)),some (.int (i:Nat)),x6] (H++[some (.lst (iL f))])= .ok (decide (i<f.length)) (H++[some (.lst (iL f))]):=λi f x6=>by
  have g1:=g (some (.lst (iL f)))
  have l1:(iL f).length=f.length:=List.length_map _
  generalize iL f=T at*
  have:decide ((i:Int)<(f.length:Int))=decide (i<f.length):=by
   by_cases q:i<f.length
   ·rw[decide_eq_true q,decide_eq_true (by omega)]
   ·rw[decide_eq_false q,decide_eq_false (by omega)]
  simp[g1,l1]
 intro m
 induction m with
 | zero=>
  intro i f x6 h1 h2 F Dn
  have hl:=F.len
  have e:=ec i f x6
  rw[decide_eq_false (by omega)] at e
  exact⟨f,i,x6,F,λj hj=>Dn j (by omega),jje e⟩
 | succ m ih=>
  intro i f x6 h1 h2 F Dn
  have hl:=F.len
  by_cases q:i<f.length
  ·have e:=ec i f x6
   rw[decide_eq_true q] at e
   have hx:f[i]?=some f[i]:=List.getElem?_eq_getElem q
   obtain⟨f',x6',F',hx',⟨g1,eg⟩,me,lp⟩:=jkd hn ok (s:=s) (H:=H) x0 x1 x2 (some (.lst (ts.map Sw.l))) ts f x6 (λw m=>m) F hx
   have ln:f.length<=f'.length:=by rw[eg,List.length_append];omega
   have Dn':Done ts f' (i+1):=λj hj x ex w mw=>by
    by_cases qj:j=i
    ·subst qj
     rw[hx'] at ex
     cases ex
     exact me w mw
    ·have hj2:j<f.length:=by omega
     have ex2:f[j]?=some x:=by
      rw[eg,List.getElem?_append_left hj2] at ex
      exact ex
     have:=Dn j (by omega) x ex2 w mw
     rw[eg]
     exact⟨λz=>List.mem_append_left _ (this.1 z),λz=>List.mem_append_left _ (this.2 z)⟩
   obtain⟨f2,i2,y6,F2,D2,e2⟩:=ih (i+1) f' x6' (by omega) (by omega) F' Dn'
   refine⟨f2,i2,y6,F2,D2,?_⟩
   rw[<-e2]
   refine jjm e ?_
   unfold jdh
   refine(jae (ρ':=[x0,x1,x2,some (.ref H.length),some (.lst (ts.map Sw.l)),some (.int (i:Nat)),x6']) (h':=H++[some (.lst (iL f'))]) ?_).trans ?_
   ·rw[jjc]
    have li:lIt (mVar 4) [x0,x1,x2,some (.ref H.length),some (.lst (ts.map Sw.l)),some (.int (i:Nat)),x6] (H++[some (.lst (iL f))])= .ok (none,ts.map Sw.l) (H++[some (.lst (iL f))]):=by
     generalize ts.map Sw.l=T at*
     simp
    rw[li]
    simp only[jdr,jd4]
    exact lp
   ·have:(i:Int)+1=((i+1:Nat):Int):=by omega
    generalize ts.map Sw.l=T at*
    generalize iL f'=T2 at*
    simp
  ·have e:=ec i f x6
   rw[decide_eq_false q] at e
   exact⟨f,i,x6,F,λj hj=>Dn j (by omega),jje e⟩
theorem jza{n:Nat}{ts:List Sw}(ok:TsOk n ts){s:Nat}{f:List Nat}(F:Fnd n ts s f)(Dn:Done ts f f.length):∀y,y∈f↔(Clo.clo (ts.map Sw.pair) s).testBit y=true:=by
 have ci:=Clo.is (ts.map Sw.pair) s
 refine λy=>⟨λm=>F.le _ ci.ge ci.cl y m,λq=> ?_⟩
 have key:∃S:Nat,∀y,S.testBit y=true↔y∈f:=by
  have:∀l:List Nat,∃S:Nat,∀y,S.testBit y=true↔y∈l:=λl=>by
   induction l with
   | nil=>exact⟨0,by simp⟩
   | cons a l ih=>
    obtain⟨S,hS⟩:=ih
    refine⟨S|||2^a,λy=> ?_⟩
    rw[Nat.testBit_or,jbd,Bool.or_eq_true,hS,decide_eq_true_iff,List.mem_cons]
    constructor
    ·rintro(h | h)
     ·exact .inr h
     ·exact .inl h.symm
    ·rintro(h | h)
     ·exact .inr h.symm
     ·exact .inl h
  exact this f
 obtain⟨S,hS⟩:=key
 have:=ci.le S (λy h=>(hS y).mpr (F.ge y h)) (λp m hm=>by
  obtain⟨w,mw,rfl⟩:=List.mem_map.mp m
  obtain⟨t,_,_⟩:=ok w mw
  rw[jnu t] at hm ⊢
  obtain⟨x,h1,h2⟩:=Clo.and_ne.mp hm
  obtain⟨j,hj,ej⟩:=List.mem_iff_getElem.mp ((hS x).mp h2)
  have dn:=Dn j hj x (by rw[List.getElem?_eq_getElem hj,ej]) w mw
  have xf:=(hS x).mp h2
  rw[Nat.testBit_or,jbd,jbd,Bool.or_eq_true,decide_eq_true_iff,decide_eq_true_iff] at h1
  intro y hy
  rw[Nat.testBit_or,jbd,jbd,Bool.or_eq_true,decide_eq_true_iff,decide_eq_true_iff] at hy
  rw[hS]
  rcases h1 with h1 | h1<;>rcases hy with hy | hy
  ·rw[<-hy,h1];exact xf
  ·rw[<-hy];exact dn.1 h1
  ·rw[<-hy];exact dn.2 h1
  ·rw[<-hy,h1];exact xf)
 exact(hS y).mp (this y q)
theorem jf4(x:Nat):(ja6 x).Pairwise (·<·):=List.Pairwise.filter _ List.pairwise_lt_range
theorem jn1(x:Nat):(ja6 x).Nodup:=(jf4 x).imp λh=>Nat.ne_of_lt h
theorem jo5{f:List Nat}{C:Nat}(nd:f.Nodup)(h:∀y,y∈f↔C.testBit y=true):srt (f.map λx:Nat=>(x:Int))=(ja6 C).map λx:Nat=>(x:Int):=by
 have pm:(f.map λx:Nat=>(x:Int)).Perm ((ja6 C).map λx:Nat=>(x:Int)):=((List.perm_ext_iff_of_nodup nd (jn1 C)).mpr λy=>(h y).trans jc1.symm).map _
 unfold srt
 refine List.Perm.eq_of_pairwise (le:=λa b:Int=>a<=b) (λa b _ _=>Int.le_antisymm) ?_ ?_ ((List.mergeSort_perm _ _).trans pm)
 ·exact(List.pairwise_mergeSort (le:=λa b:Int=>decide (a<=b)) (λa b c h1 h2=>by simp at h1 h2 ⊢;omega) (λa b=>by simp;omega) _).imp λh=>by simpa using h
 ·exact List.pairwise_map.mpr ((jf4 C).imp λh=>by omega)
theorem jr5(l:List Nat):jld (iL l)=some (l.map λx:Nat=>(x:Int)):=by
 have:iL l=(l.map λx:Nat=>(x:Int)).map D.int:=by rw[List.map_map];rfl
 rw[this,jr9]
theorem jxe(l:List Nat)(m:Nat):D.bnds m (iL l)=true:=jo6 λd hd=>by
 obtain⟨k,_,rfl⟩:=List.mem_map.mp hd
 rfl
def jfs(sws:List Sw)(ks:List Nat):List Sw:=ks.filterMap λk=>(sws[k]?).filter Sw.tie
theorem sw_l{sws:List Sw}{k:Nat}{w:Sw}(hw:sws[k]?=some w)(h:MH):dIx (.lst (sws.map Sw.l)) (.int (k:Nat)) h= .ok w.l h:=by
 have a:atI (sws.map Sw.l) (k:Int)=some w.l:=jhl (by rw[List.getElem?_map,hw];rfl)
 generalize sws.map Sw.l=T at*
 simp[a]
theorem len_l(w:Sw)(h:MH):fLen [w.l] h= .ok (.int (if w.tie then 3 else 2)) h:=by
 cases w<;>simp[Sw.l,Sw.tie]
theorem jkh{sws:List Sw}(h:MH):∀(ks:List Nat),(∀k∈ks,k<sws.length)->compLoop (jac 0) (tB (mBin dEq (mFn fLen (ja2 (mBin dIx (mVar 1) (mVar 0)) mNil)) (mC (.int 3)))) (mBin dIx (mVar 1) (mVar 0)) [none,some (.lst (sws.map Sw.l))] (iL ks) h= .ok ((jfs sws ks).map Sw.l) h
 | [],_=>rfl
 | k::ks,hk=>by
  have ih:=jkh (sws:=sws) h ks λj m=>hk j (List.mem_cons_of_mem _ m)
  obtain⟨w,hw⟩:∃w,sws[k]?=some w:=⟨_,List.getElem?_eq_getElem (hk k (List.mem_cons_self ..))⟩
  have e1:=sw_l hw h
  have e2:=len_l w h
  have et:jfs sws (k::ks)=(if w.tie then[w] else[])++jfs sws ks:=by
   unfold jfs
   rw[List.filterMap_cons,hw]
   cases q:w.tie<;>simp[Option.filter,q]
  rw[et]
  have ei:iL (k::ks)=D.int (k:Nat)::iL ks:=rfl
  rw[ei]
  generalize iL ks=T at*
  generalize jfs sws ks=U at*
  generalize sws.map Sw.l=V at*
  cases q:w.tie with
  | true=>
   rw[q] at e2
   simp[-dIx, -fLen,compLoop,e1,e2,ih]
  | false=>
   rw[q] at e2
   simp[-dIx, -fLen,compLoop,e1,e2,ih]
theorem jou{sws:List Sw}{ks:List Nat}{st:Nat}(hk:∀k,k∈ks↔st.testBit k=true /\ k<sws.length)(s:Nat):Clo.clo ((jfs sws ks).map Sw.pair) s=Clo.clo (jcd st sws) s:=by
 refine Clo.jrf (λp m _=> ?_) (λp m n=> ?_)
 ·obtain⟨w,mw,rfl⟩:=List.mem_map.mp m
  obtain⟨k,mk,ek⟩:=List.mem_filterMap.mp mw
  obtain⟨h1,_⟩:=Option.filter_eq_some_iff.mp ek
  exact jt7 h1 ((hk k).mp mk).1
 ·obtain⟨k,w,h1,h2,rfl⟩:=joj m
  have t:w.tie=true:=by
   cases q:w.tie with
   | true=>rfl
   | false=>exact absurd (jpm q) n
  refine List.mem_map.mpr ⟨w,List.mem_filterMap.mpr ⟨k,(hk k).mpr ⟨h2,(List.getElem?_eq_some_iff.mp h1).1⟩,?_⟩,rfl⟩
  exact Option.filter_eq_some_iff.mpr ⟨h1,t⟩
theorem jrh(ok:jbr n sws)(ks:List Nat):TsOk n (jfs sws ks):=λw m=>by
 obtain⟨k,mk,ek⟩:=List.mem_filterMap.mp m
 obtain⟨h1,t⟩:=Option.filter_eq_some_iff.mp ek
 have wok:=ok.2.2.2 w (List.mem_of_getElem? h1)
 refine⟨t,?_⟩
 cases w with
 | feed a=>cases t
 | earth a=>cases t
 | breaker a b=>exact⟨wok.1,wok.2.1⟩
 | splitter a b=>exact⟨wok.1,wok.2.1⟩
theorem jn8(ok:jbr n sws){ks f:List Nat}{st s:Nat}(hk:∀k,k∈ks↔st.testBit k=true /\ k<sws.length)(hkl:ks.length<=12)(nd:f.Nodup)(lt:∀y∈f,y<n)(hs:∀y,s.testBit y=true↔y∈f){h:MH}(hb:Hb h):
  z_X1 [.lst (sws.map Sw.l),.lst (iL ks),.lst (iL f)] h= .ok (.lst (iL (ja6 (Clo.clo (jcd st sws) s)))) h:=by
 have hn:=ok.2.1
 have F:Fnd n (jfs sws ks) s f:=⟨nd,lt,λy q=>(hs y).mp q,λt h1 _ y m=>h1 y ((hs y).mpr m)⟩
 obtain⟨f',i',x6,F',Dn,e⟩:=jpo hn (jrh ok ks) (s:=s) (H:=h) (some (.lst (sws.map Sw.l))) (some (.lst (iL ks))) (some (.lst (iL f))) n 0 f none (by omega) (by omega) F (λj hj=>absurd hj (Nat.not_lt_zero _))
 have mem:=jza (jrh ok ks) F' Dn
 rw[jou hk] at mem
 have sr:=jo5 F'.nd mem
 have tc:=jkh (sws:=sws) (h++[some (.lst (iL f))]) ks λk m=>((hk k).mp m).2
 have l1:=F'.len
 have l0:f.length<=n:=F.len
 have li:=jr5 f'
 have lf:(iL f).length=f.length:=List.length_map _
 have lk:(iL ks).length=ks.length:=List.length_map _
 have lf':(f'.map λx:Nat=>(x:Int)).length=f'.length:=List.length_map _
 have eb:(ja6 (Clo.clo (jcd st sws) s)).map (λx:Nat=>D.int (x:Int))=((ja6 (Clo.clo (jcd st sws) s)).map λx:Nat=>(x:Int)).map D.int:=by rw[List.map_map];rfl
 have bn:=jxe (ja6 (Clo.clo (jcd st sws) s)) h.length
 have key:b_X1 [some (.lst (sws.map Sw.l)),some (.lst (iL ks)),some (.lst (iL f)),none,none,none,none] h= .rt (.lst (iL (ja6 (Clo.clo (jcd st sws) s)))) (h++[none]):=by
  unfold b_X1
  unfold iL at*
  rw[eb]
  generalize (ja6 (Clo.clo (jcd st sws) s)).map (λx:Nat=>(x:Int))=B at*
  generalize (jfs sws ks).map Sw.l=T at*
  generalize sws.map Sw.l=V at*
  generalize f'.map (λx:Nat=>(x:Int))=f3 at*
  generalize f.map (λk:Nat=>D.int k)=f1 at*
  generalize f'.map (λk:Nat=>D.int k)=f2 at*
  generalize ks.map (λk:Nat=>D.int k)=k1 at*
  have g:∀c:Option Cell,(h++[c])[h.length]?=some c:=λc=>by simp
  have g2:∀c e:Option Cell,(h++[c]).set h.length e=h++[e]:=λc e=>by simp
  refine(jae (ρ':=[some (.lst V),some (.lst k1),some (.lst f1),some (.ref h.length),none,none,none]) (h':=h++[some (.lst f1)]) (by simp[show f1.length<=16777216 by omega])).trans ?_
  refine(jae (ρ':=[some (.lst V),some (.lst k1),some (.lst f1),some (.ref h.length),some (.lst T),none,none]) (h':=h++[some (.lst f1)]) (by simp[-mBin, -mFn,caps,tc,show k1.length<16777216 by omega])).trans ?_
  refine(jae (ρ':=[some (.lst V),some (.lst k1),some (.lst f1),some (.ref h.length),some (.lst T),some (.int 0),none]) (h':=h++[some (.lst f1)]) (by simp)).trans ?_
  refine(jae e).trans ?_
  simp only[jfp,List.getElem?_cons_succ,List.getElem?_cons_zero,g,g2,List.set_cons_succ,List.set_cons_zero,sRet,jb5,jj7,ja2,mNil,mVar,jde,asLi,asL]
  simp[li,sr,show f3.length<64 by omega]
 exact joi (np:=3) (nn:=7) (b:=b_X1) (ds:=[.lst (sws.map Sw.l),.lst (iL ks),.lst (iL f)]) rfl key hb bn
def Sw.kn:Sw->Str
 | .feed _=>"feed" | .earth _=>"earth" | .breaker _ _=>"breaker" | .splitter _ _=>"splitter"
theorem l_ix(w:Sw)(h:MH):dIx w.l (.int 0) h= .ok (.str w.kn) h /\ dIx w.l (.int 1) h= .ok (.int (w.a:Nat)) h:=by
 cases w<;>exact⟨by simp[Sw.l,Sw.kn],by simp[Sw.l,Sw.a]⟩
theorem sw_alt{n:Nat}{w:Sw}(ok:w.ok n):w.a<n:=by
 cases w with
 | feed a=>exact ok
 | earth a=>exact ok
 | breaker a b=>exact ok.1
 | splitter a b=>exact ok.1
theorem joa(ok:jbr n sws)(kd:Str){H:MH}(x1:Option D):∀(ks f:List Nat) (x4:Option D),(∀k∈ks,k<sws.length)->f.Nodup->(∀y∈f,y<n)->∃(f':List Nat) (x4':Option D),f'.Nodup /\ (∀y∈f',y<n) /\ (∀y,y∈f'↔y∈f \/ ∃k w,k∈ks /\ sws[k]?=some w /\ w.kn=kd /\ w.a=y) /\
  jdf (jac 4) jc6 (iL ks) [some (.lst (sws.map Sw.l)),x1,some (.str kd),some (.ref H.length),x4] (H++[some (.lst (iL f))])= .nx [some (.lst (sws.map Sw.l)),x1,some (.str kd),some (.ref H.length),x4'] (H++[some (.lst (iL f'))])
 | [],f,x4,_,nd,lt=>⟨f,x4,nd,lt,λy=>⟨λm=> .inl m,λm=>by
   rcases m with m | ⟨k,w,m,_⟩
   ·exact m
   ·cases m⟩,rfl⟩
 | k::ks,f,x4,hk,nd,lt=>by
  obtain⟨w,hw⟩:∃w,sws[k]?=some w:=⟨_,List.getElem?_eq_getElem (hk k (List.mem_cons_self ..))⟩
  have wa:=sw_alt (ok.2.2.2 w (List.mem_of_getElem? hw))
  have fl:=jkg n f nd lt
  have hn:=ok.2.1
  have g:∀c:Option Cell,(H++[c])[H.length]?=some c:=λc=>by simp
  have g2:∀c e:Option Cell,(H++[c]).set H.length e=H++[e]:=λc e=>by simp
  have st:jc6 [some (.lst (sws.map Sw.l)),x1,some (.str kd),some (.ref H.length),some (.int (k:Nat))] (H++[some (.lst (iL f))])= .nx [some (.lst (sws.map Sw.l)),x1,some (.str kd),some (.ref H.length),some (.int (k:Nat))] (H++[some (.lst (iL (if w.kn=kd /\ w.a∉f then f++[w.a] else f)))]):=by
   have e1:=sw_l hw (H++[some (.lst (iL f))])
   have e2:=(l_ix w (H++[some (.lst (iL f))])).1
   have e3:=(l_ix w (H++[some (.lst (iL f))])).2
   have e4:=jwd (g (some (.lst (iL f)))) w.a true
   have e5:iL f++[.int (w.a:Nat)]=iL (f++[w.a]):=by simp
   have g1:=g (some (.lst (iL f)))
   have g3:=g2 (some (.lst (iL f)))
   have ln:(iL f).length<=100:=by rw[List.length_map];omega
   by_cases q1:w.kn=kd
   ·by_cases q2:w.a∈f
    ·rw[if_neg (λz=>z.2 q2)]
     generalize iL f=T at*
     generalize sws.map Sw.l=V at*
     simp[-dIx, -dIn,jc6,e1,e2,e3,e4,q1,q2]
    ·rw[if_pos ⟨q1,q2⟩,<-e5]
     generalize iL f=T at*
     generalize sws.map Sw.l=V at*
     simp[-dIx, -dIn,jc6,e1,e2,e3,e4,q1,q2,show T.length<16777216 by omega]
   ·rw[if_neg (λz=>q1 z.1)]
    generalize iL f=T at*
    generalize sws.map Sw.l=V at*
    simp[-dIx, -dIn,jc6,e1,e2,q1]
  have nd1:(if w.kn=kd /\ w.a∉f then f++[w.a] else f).Nodup:=by
   split
   ·rename_i q
    rw[List.nodup_append]
    exact⟨nd,by simp,λa ma b mb e=>q.2 (by rw[List.mem_singleton] at mb;rw[<-mb,<-e];exact ma)⟩
   ·exact nd
  have lt1:∀y∈(if w.kn=kd /\ w.a∉f then f++[w.a] else f),y<n:=by
   split
   ·intro y m
    rcases List.mem_append.mp m with m | m
    ·exact lt y m
    ·rw[List.mem_singleton.mp m];exact wa
   ·exact lt
  have me1:∀y,y∈(if w.kn=kd /\ w.a∉f then f++[w.a] else f)↔y∈f \/ (w.kn=kd /\ w.a=y):=λy=>by
   by_cases q:w.kn=kd /\ w.a∉f
   ·rw[if_pos q,List.mem_append,List.mem_singleton]
    exact⟨λz=>z.imp_right λz=>⟨q.1,z.symm⟩,λz=>z.imp_right λz=>z.2.symm⟩
   ·rw[if_neg q]
    refine⟨.inl,λz=> ?_⟩
    rcases z with z | ⟨z1,z2⟩
    ·exact z
    ·exact Classical.byContradiction λy=>q ⟨z1,z2▸y⟩
  obtain⟨f',x4',nd',lt',me,e⟩:=joa ok kd (H:=H) x1 ks _ (some (.int (k:Nat))) (λj m=>hk j (List.mem_cons_of_mem _ m)) nd1 lt1
  refine⟨f',x4',nd',lt',λy=> ?_,?_⟩
  ·rw[me y,me1 y]
   constructor
   ·rintro((h | h) | ⟨j,v,h1,h2⟩)
    ·exact .inl h
    ·exact .inr ⟨k,w,List.mem_cons_self ..,hw,h⟩
    ·exact .inr ⟨j,v,List.mem_cons_of_mem _ h1,h2⟩
   ·rintro(h | ⟨j,v,h1,h2,h3⟩)
    ·exact .inl (.inl h)
    ·rcases List.mem_cons.mp h1 with rfl | h1
     ·rw[hw] at h2
      cases h2
      exact .inl (.inr h3)
     ·exact .inr ⟨j,v,h1,h2,h3⟩
  ·have ei:iL (k::ks)=D.int (k:Nat)::iL ks:=rfl
   rw[ei]
   have g0:jac 4 (.int (k:Nat)) [some (.lst (sws.map Sw.l)),x1,some (.str kd),some (.ref H.length),x4] (H++[some (.lst (iL f))])= .nx [some (.lst (sws.map Sw.l)),x1,some (.str kd),some (.ref H.length),some (.int (k:Nat))] (H++[some (.lst (iL f))]):=rfl
   simp only[jdf,g0,st,e]
theorem jt8(ok:jbr n sws){ks:List Nat}{st s:Nat}(hk:∀k,k∈ks↔st.testBit k=true /\ k<sws.length)(hkl:ks.length<=12)(kd:Str)(hs:∀y,s.testBit y=true↔∃k w,sws[k]?=some w /\ st.testBit k=true /\ w.kn=kd /\ w.a=y){h:MH}(hb:Hb h):
  z_X5 [.lst (sws.map Sw.l),.lst (iL ks),.str kd] h= .ok (.lst (iL (ja6 (Clo.clo (jcd st sws) s)))) h:=by
 obtain⟨f,x4,nd,lt,me,e⟩:=joa ok kd (H:=h) (some (.lst (iL ks))) ks [] none (λk m=>((hk k).mp m).2) (by simp) (by simp)
 have hb2:Hb (h++[none]):=hb.snoc λ_ _=>rfl
 have hs2:∀y,s.testBit y=true↔y∈f:=λy=>by
  rw[hs y,me y]
  constructor
  ·rintro⟨k,w,h1,h2,h3⟩
   exact .inr ⟨k,w,(hk k).mpr ⟨h2,(List.getElem?_eq_some_iff.mp h1).1⟩,h1,h3⟩
  ·rintro(h | ⟨k,w,h1,h2,h3⟩)
   ·cases h
   ·exact⟨k,w,h2,((hk k).mp h1).1,h3⟩
 have ej:=jn8 ok hk hkl nd lt hs2 hb2
 have bn:=jxe (ja6 (Clo.clo (jcd st sws) s)) h.length
 have key:b_X5 [some (.lst (sws.map Sw.l)),some (.lst (iL ks)),some (.str kd),none,none] h= .rt (.lst (iL (ja6 (Clo.clo (jcd st sws) s)))) (h++[none]):=by
  unfold b_X5
  have e0:iL []=[]:=rfl
  rw[e0] at e
  generalize iL (ja6 (Clo.clo (jcd st sws) s))=B at*
  generalize sws.map Sw.l=V at*
  generalize iL f=f1 at*
  generalize iL ks=k1 at*
  have g:∀c:Option Cell,(h++[c])[h.length]?=some c:=λc=>by simp
  have g2:∀c e:Option Cell,(h++[c]).set h.length e=h++[e]:=λc e=>by simp
  refine(jae (ρ':=[some (.lst V),some (.lst k1),some (.str kd),some (.ref h.length),none]) (h':=h++[some (.lst [])]) (by simp)).trans ?_
  refine(jae (ρ':=[some (.lst V),some (.lst k1),some (.str kd),some (.ref h.length),x4]) (h':=h++[some (.lst f1)]) ?_).trans ?_
  ·rw[jjc]
   have li:lIt (mVar 1) [some (.lst V),some (.lst k1),some (.str kd),some (.ref h.length),none] (h++[some (.lst [])])= .ok (none,k1) (h++[some (.lst [])]):=by simp
   rw[li]
   simp only[jdr,jd4]
   exact e
  simp only[jfp,List.getElem?_cons_succ,List.getElem?_cons_zero,g,g2,List.set_cons_succ,List.set_cons_zero,sRet,jar,ja2,mNil,mVar,jde,ej,jdr,jsv]
 exact joi (np:=3) (nn:=5) (b:=b_X5) (ds:=[.lst (sws.map Sw.l),.lst (iL ks),.str kd]) rfl key hb bn
theorem jqd(y:Nat):∀(ps:List Nat) (s:Nat),(Clo.all ps s).testBit y=true↔s.testBit y=true \/ ∃p∈ps,p.testBit y=true
 | [],s=>by simp[Clo.all]
 | p::ps,s=>by
  have:Clo.all (p::ps) s=Clo.all ps (s|||p):=rfl
  rw[this,jqd y ps,Nat.testBit_or,Bool.or_eq_true]
  simp only[List.mem_cons,exists_eq_or_imp]
  exact or_assoc
theorem fed_tb{sws:List Sw}{st y:Nat}:(jh0 st sws).testBit y=true↔∃k w,sws[k]?=some w /\ st.testBit k=true /\ w.kn=Str.ofString "feed" /\ w.a=y:=by
 unfold jh0
 rw[jqd]
 constructor
 ·rintro(h | ⟨p,m,hp⟩)
  ·simp at h
  ·obtain⟨q,mq,rfl⟩:=List.mem_map.mp m
   obtain⟨h1,h2⟩:=List.mem_filter.mp mq
   refine⟨q.2,q.1,jj5 h1,h2,?_⟩
   cases e:q.1 with
   | feed a=>
    rw[e] at hp
    simp only[Sw.fed,jbd,decide_eq_true_eq] at hp
    exact⟨rfl,hp⟩
   | _=>rw[e] at hp;simp[Sw.fed] at hp
 ·rintro⟨k,w,h1,h2,h3,h4⟩
  refine .inr ⟨w.fed,List.mem_map.mpr ⟨(w,k),List.mem_filter.mpr ⟨List.mk_mem_zipIdx_iff_getElem?.mpr h1,h2⟩,rfl⟩,?_⟩
  cases w with
  | feed a=>
   simp only[Sw.fed,jbd,decide_eq_true_eq]
   exact h4
  | _=>exact absurd h3 (by simp only[Sw.kn];decide+kernel)
theorem led_tb{sws:List Sw}{st y:Nat}:(jhk st sws).testBit y=true↔∃k w,sws[k]?=some w /\ st.testBit k=true /\ w.kn=Str.ofString "earth" /\ w.a=y:=by
 unfold jhk
 rw[jqd]
 constructor
 ·rintro(h | ⟨p,m,hp⟩)
  ·simp at h
  ·obtain⟨q,mq,rfl⟩:=List.mem_map.mp m
   obtain⟨h1,h2⟩:=List.mem_filter.mp mq
   refine⟨q.2,q.1,jj5 h1,h2,?_⟩
   cases e:q.1 with
   | earth a=>
    rw[e] at hp
    simp only[Sw.led,jbd,decide_eq_true_eq] at hp
    exact⟨rfl,hp⟩
   | _=>rw[e] at hp;simp[Sw.led] at hp
 ·rintro⟨k,w,h1,h2,h3,h4⟩
  refine .inr ⟨w.led,List.mem_map.mpr ⟨(w,k),List.mem_filter.mpr ⟨List.mk_mem_zipIdx_iff_getElem?.mpr h1,h2⟩,rfl⟩,?_⟩
  cases w with
  | earth a=>
   simp only[Sw.led,jbd,decide_eq_true_eq]
   exact h4
  | _=>exact absurd h3 (by simp only[Sw.kn];decide+kernel)
theorem lt_ext{l1 l2:List Nat}(p1:l1.Pairwise (·<·))(p2:l2.Pairwise (·<·))(h:∀y,y∈l1↔y∈l2):l1=l2:=by
 have nd:∀{l:List Nat},l.Pairwise (·<·)->l.Nodup:=λp=>p.imp λh=>Nat.ne_of_lt h
 exact List.Perm.eq_of_pairwise (le:=λa b:Nat=>a<b) (λa b _ _ h1 h2=>by omega) p1 p2 ((List.perm_ext_iff_of_nodup (nd p1) (nd p2)).mpr h)
theorem dat_iL(l:List Nat):(D.lst (iL l)).dat=true:=by
 refine jxb (n:=1) (jt0 (n:=0) λd hd=> ?_) (by omega)
 obtain⟨k,_,rfl⟩:=List.mem_map.mp hd
 exact⟨rfl,Nat.le_refl _⟩
theorem jfy(l:List Nat)(h:MH):dEq (.lst (iL l)) (.lst []) h= .ok (.bl (decide (l=[]))) h:=by
 have h1:=dat_iL l
 have h2:(D.lst []).dat=true:=by simp[D.dat,D.py,D.pys,D.deep,D.deeps]
 have h3:(D.lst (iL l)).eq (.lst [])=decide (l=[]):=by
  cases l<;>simp[D.eq,D.eqs]
 generalize iL l=T at*
 simp[h1,h2,h3]
theorem hkB{st L:Nat}(hs:st<2^L):∀k,k∈ja6 st↔st.testBit k=true /\ k<L:=λk=>by
 rw[jc1]
 refine⟨λq=>⟨q,?_⟩,λq=>q.1⟩
 have:=Nat.ge_two_pow_of_testBit q
 exact(Nat.pow_lt_pow_iff_right (show 1<2 by decide)).mp (Nat.lt_of_le_of_lt this hs)
theorem jd7{st L:Nat}(hs:st<2^L):(ja6 st).length<=L:=jkg L _ (jn1 st) λk m=>((hkB hs k).mp m).2
theorem jwr(st k i:Nat):(apart st k).testBit i=(st.testBit i&& !decide (k=i)):=by
 unfold apart
 rw[jsz,jbd]
theorem ap_lt{st k L:Nat}(hs:st<2^L):apart st k<2^L:=Nat.lt_of_le_of_lt (Nat.sub_le _ _) hs
theorem jin(st k:Nat):(ja6 st).filter (λj=> !decide (j=k))=ja6 (apart st k):=lt_ext ((jf4 st).filter _) (jf4 _) λy=>by
 rw[List.mem_filter,jc1,jc1,jwr,Bool.and_eq_true]
 simp only[Bool.not_eq_true',decide_eq_false_iff_not]
 exact⟨λz=>⟨z.1,λw=>z.2 w.symm⟩,λz=>⟨z.1,λw=>z.2 w.symm⟩⟩
theorem jxd{st k:Nat}(h:st.testBit k=true):apart st k=st^^^2^k:=Nat.eq_of_testBit_eq λi=>by
 rw[jwr,Nat.testBit_xor,jbd]
 by_cases q:k=i
 ·subst q;simp[h]
 ·simp[q]
theorem jnb{l:List Nat}{k:Nat}(h:MH):compLoop (jac 0) (tB (mBin dNe (mVar 0) (mVar 1))) (mVar 0) [none,some (.int (k:Nat))] (iL l) h= .ok (iL (l.filter λj=> !decide (j=k))) h:=by
 refine jd9 (g:=jac 0) (h:=h) (ρ0:=[none,some (.int (k:Nat))]) (λj:Nat=>D.int j) (λj=>[some (.int (j:Nat)),some (.int (k:Nat))]) (λj=> !decide (j=k)) (λj:Nat=>D.int j) l λj _=>⟨rfl,?_,rfl⟩
 by_cases q:j=k
 ·simp[q]
 ·have:¬((j:Int)=(k:Int)):=by omega
  simp[q,this]
theorem jqv(l c:List Nat)(h:MH):compLoop (jac 0) (tB (mBin (dIn false) (mVar 0) (mVar 1))) (mVar 0) [none,some (.lst (iL c))] (iL l) h= .ok (iL (l.filter λj=>decide (j∈c))) h:=by
 refine jd9 (g:=jac 0) (h:=h) (ρ0:=[none,some (.lst (iL c))]) (λj:Nat=>D.int j) (λj=>[some (.int (j:Nat)),some (.lst (iL c))]) (λj=>decide (j∈c)) (λj:Nat=>D.int j) l λj _=>⟨rfl,?_,rfl⟩
 have e:=jie c j false h
 generalize iL c=T at*
 simp[-dIn,e]
theorem jnz(x y:Nat):((ja6 x).filter λj=>decide (j∈ja6 y))=[]↔x&&&y=0:=by
 rw[List.filter_eq_nil_iff]
 constructor
 ·intro h
  refine Classical.byContradiction λn=> ?_
  obtain⟨i,h1,h2⟩:=Clo.and_ne.mp n
  exact h i (jc1.mpr h1) (by rw[decide_eq_true_iff];exact jc1.mpr h2)
 ·intro h i m
  rw[decide_eq_true_iff]
  intro m2
  exact absurd h (Clo.and_ne.mpr ⟨i,jc1.mp m,jc1.mp m2⟩)
section
variable {n : Nat} {sws : List Sw} (ok : jbr n sws) {h : MH} (hb : Hb h)
include ok hb
theorem jyu{st:Nat}(hs:st<2^sws.length):z_X5 [.lst (sws.map Sw.l),.lst (iL (ja6 st)),.str "feed"] h= .ok (.lst (iL (ja6 (jbs st sws)))) h:=
 jt8 ok (hkB hs) (by have:=jd7 hs;have:=ok.2.2.1;omega) _ (λ_=>fed_tb) hb
theorem jwj{st:Nat}(hs:st<2^sws.length):z_X5 [.lst (sws.map Sw.l),.lst (iL (ja6 st)),.str "earth"] h= .ok (.lst (iL (ja6 (jcc st sws)))) h:=
 jt8 ok (hkB hs) (by have:=jd7 hs;have:=ok.2.2.1;omega) _ (λ_=>led_tb) hb
theorem jst{st:Nat}(hs:st<2^sws.length):z_Qu [.lst (sws.map Sw.l),.lst (iL (ja6 st))] h= .ok (.bl (!jeg st sws)) h:=by
 have e1:=jwj ok hb hs
 have e2:=jyu ok hb hs
 have e3:=jqv (ja6 (jbs st sws)) (ja6 (jcc st sws)) h
 have e4:=jfy ((ja6 (jbs st sws)).filter λj=>decide (j∈ja6 (jcc st sws))) h
 have e5:decide (((ja6 (jbs st sws)).filter λj=>decide (j∈ja6 (jcc st sws)))=[])=jeg st sws:=by
  unfold jeg
  exact decide_eq_decide.mpr (jnz _ _)
 rw[e5] at e4
 have ll:(iL (ja6 (jbs st sws))).length<=12:=by
  rw[List.length_map]
  refine Nat.le_trans (jd7 (L:=n) ?_) (by have:=ok.2.1;omega)
  refine jr6 ok st (jko _ _ (λp m=> ?_) (Nat.two_pow_pos n))
  obtain⟨q,mq,rfl⟩:=List.mem_map.mp m
  have wok:=ok.2.2.2 q.1 (jly (List.mem_filter.mp mq).1)
  cases e:q.1 with
  | feed b=>
   rw[e] at wok
   exact Nat.pow_lt_pow_right (by decide) wok
  | _=>exact Nat.two_pow_pos n
 refine jbz (np:=2) (nn:=3) (b:=b_Qu) (ds:=[.lst (sws.map Sw.l),.lst (iL (ja6 st))]) rfl ?_ (Nat.le_refl _)
 show b_Qu [some (.lst (sws.map Sw.l)),some (.lst (iL (ja6 st))),none] h=_
 generalize iL ((ja6 (jbs st sws)).filter λj=>decide (j∈ja6 (jcc st sws)))=F at*
 generalize iL (ja6 (jbs st sws))=A at*
 generalize iL (ja6 (jcc st sws))=B at*
 generalize iL (ja6 st)=S at*
 generalize sws.map Sw.l=V at*
 unfold b_Qu
 refine(jae (ρ':=[some (.lst V),some (.lst S),some (.lst B)]) (h':=h) (by simp[e1])).trans ?_
 have lc:jd3 1 [2] (lIt (jar z_X5 (ja2 (mVar 0) (ja2 (mVar 1) (ja2 (mC (.str "feed")) mNil))))) (jac 0) (tB (mBin (dIn false) (mVar 0) (mVar 1))) (mVar 0) [some (.lst V),some (.lst S),some (.lst B)] h= .ok F h:=by
  simp[-mBin, -dIn,e2,caps,e3,show A.length<16777216 by omega]
 simp[-dEq, -jen,lc,e4]
theorem jj3{st k:Nat}(hs:st<2^sws.length)(hk:k<sws.length):z_Qy [.lst (iL (ja6 st)),.int (k:Nat)] h= .ok (.lst (iL (ja6 (st^^^2^k)))) h:=by
 have e1:=jie (ja6 st) k false h
 have e2:=jnb (l:=ja6 st) (k:=k) h
 have l1:=jd7 hs
 have hl:=ok.2.2.1
 have l2:(iL (ja6 st)).length=(ja6 st).length:=List.length_map _
 refine jbz (np:=2) (nn:=2) (b:=b_Qy) (ds:=[.lst (iL (ja6 st)),.int (k:Nat)]) rfl ?_ (Nat.le_refl _)
 show b_Qy [some (.lst (iL (ja6 st))),some (.int (k:Nat))] h=_
 cases q:st.testBit k with
 | true=>
  have q2:k∈ja6 st:=jc1.mpr q
  rw[jin,jxd q] at e2
  generalize iL (ja6 (st^^^2^k))=B at*
  generalize iL (ja6 st)=S at*
  simp[-mBin, -dIn,b_Qy,tB,mBin,e1,q2]
  simp[-mBin, -dIn,caps,e2,show S.length<16777216 by omega]
 | false=>
  have q2:¬k∈ja6 st:=λz=>by rw[jc1,q] at z;cases z
  have sr:=jo5 (f:=ja6 st++[k]) (C:=st^^^2^k) (by
   rw[List.nodup_append]
   exact⟨jn1 st,by simp,λa ma b mb e=>q2 (by rw[List.mem_singleton] at mb;rw[<-mb,<-e];exact ma)⟩) (λy=>by
   rw[List.mem_append,List.mem_singleton,jc1,Nat.testBit_xor,jbd]
   by_cases z:k=y
   ·subst z;simp[q]
   ·have:¬y=k:=λw=>z w.symm
    simp[z,this])
  have ii:=jr5 (ja6 st++[k])
  have ea:iL (ja6 st++[k])=iL (ja6 st)++[.int (k:Nat)]:=by simp
  rw[ea] at ii
  have eb:iL (ja6 (st^^^2^k))=((ja6 (st^^^2^k)).map λx:Nat=>(x:Int)).map D.int:=by rw[List.map_map];rfl
  have l3:((ja6 st++[k]).map λx:Nat=>(x:Int)).length<=20:=by simp;omega
  rw[eb]
  generalize (ja6 (st^^^2^k)).map (λx:Nat=>(x:Int))=B at*
  generalize (ja6 st++[k]).map (λx:Nat=>(x:Int))=G at*
  generalize iL (ja6 st)=S at*
  simp[-dIn,b_Qy,e1,q2,ii,sr,show S.length<=16777215 by omega,show G.length<64 by omega]
theorem jvp{st k:Nat}{w:Sw}(hs:st<2^sws.length)(hw:sws[k]?=some w):z_X2 [.lst (sws.map Sw.l),.lst (iL (ja6 st)),.int (k:Nat)] h= .ok (.bl (jep st k w sws)) h:=by
 have i0:=sw_l hw h
 have i1:=(l_ix w h).1
 have i2:=(l_ix w h).2
 refine jbz (np:=3) (nn:=7) (b:=b_X2) (ds:=[.lst (sws.map Sw.l),.lst (iL (ja6 st)),.int (k:Nat)]) rfl ?_ (Nat.le_refl _)
 show b_X2 [some (.lst (sws.map Sw.l)),some (.lst (iL (ja6 st))),some (.int (k:Nat)),none,none,none,none] h=_
 have wok:=ok.2.2.2 w (List.mem_of_getElem? hw)
 by_cases qs:w.kn=Str.ofString "splitter"
 ·obtain⟨a,b,rfl⟩:∃a b,w= .splitter a b:=by
   cases w with
   | splitter a b=>exact⟨a,b,rfl⟩
   | _=>exact absurd qs (by simp only[Sw.kn];decide+kernel)
  obtain⟨ha,hb',ab⟩:=wok
  have i3:=(jso (s:= .splitter a b) rfl h).2
  simp only[Sw.a,Sw.b,Sw.kn] at i1 i2 i3
  have e2:=jnb (l:=ja6 st) (k:=k) h
  rw[jin] at e2
  have apl:=ap_lt (k:=k) hs
  have ej:=jn8 ok (f:=[a]) (s:=2^a) (hkB apl) (by have:=jd7 apl;have:=ok.2.2.1;omega) (by simp) (by simp;exact ha) (λy=>by rw[jbd,List.mem_singleton,decide_eq_true_iff,eq_comm]) hb
  have eh:=jyu ok hb apl
  have n1:=jie (ja6 (Clo.clo (jcd (apart st k) sws) (2^a))) b false h
  have n2:=jie (ja6 (jbs (apart st k) sws)) a false h
  have n3:=jie (ja6 (jbs (apart st k) sws)) b false h
  simp only[jc1,Bool.false_eq_true,if_false] at n1 n2 n3
  have lj:=jov (jcd (apart st k) sws) ab
  have l1:=jd7 hs
  have hl:=ok.2.2.1
  have l2:(iL (ja6 st)).length=(ja6 st).length:=List.length_map _
  have hot:((2^a|||2^b)&&&jbs (apart st k) sws≠0)↔((jbs (apart st k) sws).testBit a=true \/ (jbs (apart st k) sws).testBit b=true):=by
   rw[Clo.and_ne]
   constructor
   ·rintro⟨i,h1,h2⟩
    rw[Nat.testBit_or,jbd,jbd,Bool.or_eq_true,decide_eq_true_iff,decide_eq_true_iff] at h1
    rcases h1 with rfl | rfl
    ·exact .inl h2
    ·exact .inr h2
   ·rintro(h | h)
    ·exact⟨a,by rw[Nat.testBit_or,jbd];simp,h⟩
    ·exact⟨b,by rw[Nat.testBit_or,jbd,jbd];simp,h⟩
  have res:jep st k (.splitter a b) sws=(((jbs (apart st k) sws).testBit a||(jbs (apart st k) sws).testBit b)&& !(Clo.clo (jcd (apart st k) sws) (2^a)).testBit b):=by
   show(decide _&&decide _)=_
   rw[Bool.eq_iff_iff]
   simp only[Bool.and_eq_true,decide_eq_true_eq,Bool.or_eq_true,Bool.not_eq_true']
   rw[hot,lj]
  rw[res]
  have ea:iL [a]=[.int (a:Nat)]:=rfl
  rw[ea] at ej
  have kb:dNe (.str (Str.ofString "splitter")) (.str (Str.ofString "splitter")) h= .ok (.bl false) h:=by simp
  unfold b_X2
  generalize (jbs (apart st k) sws).testBit a=ta at*
  generalize (jbs (apart st k) sws).testBit b=tb at*
  generalize (Clo.clo (jcd (apart st k) sws) (2^a)).testBit b=tc at*
  generalize iL (ja6 (Clo.clo (jcd (apart st k) sws) (2^a)))=J at*
  generalize iL (ja6 (jbs (apart st k) sws))=A at*
  generalize iL (ja6 (apart st k))=P at*
  generalize iL (ja6 st)=S at*
  generalize sws.map Sw.l=V at*
  generalize (Sw.splitter a b).l=W at*
  refine(jae (ρ':=[some (.lst V),some (.lst S),some (.int (k:Nat)),none,none,none,none]) (h':=h) (by simp[-dIx, -dNe,i0,i1,kb])).trans ?_
  refine(jae (ρ':=[some (.lst V),some (.lst S),some (.int (k:Nat)),some (.lst P),none,none,none]) (h':=h) (by simp[-mBin, -dNe,caps,e2,show S.length<16777216 by omega])).trans ?_
  refine(jae (ρ':=[some (.lst V),some (.lst S),some (.int (k:Nat)),some (.lst P),some (.int (a:Nat)),none,none]) (h':=h) (by simp[-dIx,i0,i2])).trans ?_
  refine(jae (ρ':=[some (.lst V),some (.lst S),some (.int (k:Nat)),some (.lst P),some (.int (a:Nat)),some (.int (b:Nat)),none]) (h':=h) (by simp[-dIx,i0,i3])).trans ?_
  cases tc with
  | true=>exact(jjg (d:= .bl false) (h':=h) (by simp[-dIn,ej,n1])).trans (by simp)
  | false=>
   refine(jae (ρ':=[some (.lst V),some (.lst S),some (.int (k:Nat)),some (.lst P),some (.int (a:Nat)),some (.int (b:Nat)),none]) (h':=h) (by simp[-dIn,ej,n1])).trans ?_
   refine(jae (ρ':=[some (.lst V),some (.lst S),some (.int (k:Nat)),some (.lst P),some (.int (a:Nat)),some (.int (b:Nat)),some (.lst A)]) (h':=h) (by simp[eh])).trans ?_
   cases ta<;>cases tb<;>simp[-dIn,n2,n3]
 ·have res:jep st k w sws=false:=by
   cases w with
   | splitter a b=>exact absurd rfl qs
   | _=>rfl
  rw[res]
  unfold b_X2
  generalize iL (ja6 st)=S at*
  generalize sws.map Sw.l=V at*
  exact jjg (by simp[-dIx,i0,i1,qs])
end
theorem sk1:¬(Str.ofString "earthed"=Str.ofString "live") /\ ¬(Str.ofString "locked"=Str.ofString "live") /\ ¬(Str.ofString "locked"=Str.ofString "earthed") /\ ¬(Str.ofString "shut"=Str.ofString "live") /\ ¬(Str.ofString "shut"=Str.ofString "earthed") /\ ¬(Str.ofString "shut"=Str.ofString "locked"):=by decide+kernel
theorem jjo{np nn:Nat}{b:MS}{ds:List D}{h:MH}{c:String}(hl:ds.length=np)(e:b (ds.map some++List.replicate (nn - ds.length) none) h= .exc c h):mFun np nn b ds h= .exc c h:=by
 unfold mFun
 rw[if_pos hl,e]
 exact if_pos (Nat.le_refl _)
abbrev nB(x:Nat):List D:=(ja6 x).map λk:Nat=>D.int k
section
variable {h : MH} {d p r : Nat} {b : Bd}
theorem juo(D0:Dk h d p r b)(x1:Option D):mFld jbb "board" (mVar 0) [some (.ref d),x1] h= .ok (.ref p) h:=by
 have o:=D0.o
 unfold dkC at o
 simp[o]
theorem fld_y(D0:Dk h d p r b)(x1:Option D):mFld jbg "yard" (mVar 0) [some (.ref d),x1] h= .ok (yd b.n b.sws) h:=by
 have o:=D0.o
 unfold dkC at o
 simp[o]
theorem jul(D0:Dk h d p r b){x:Str}(hst:b.st<2^12)(ej:z_Q1 [.lst (nB b.st)] h= .ok (.str x) h):z_Xt [.ref d,.str "shut"] h= .ok (.str x) h:=by
 refine jj9 jut D0.o rfl ?_
 have ni:=jf6 b.st hst h
 obtain⟨_,_,_,s1,s2,s3⟩:=sk1
 have ms:=je5 D0.a (tab:=jcn) (f:="standing") (z:=z_Qb) (m:=mFld jbb "board" (mVar 0)) (l:=mNil) (ρ:=[some (.ref d),some (.str (Str.ofString "shut"))]) (ds:=[]) rfl (by decide+kernel) (juo D0 _) (by simp)
 have ms:=ms.trans (jfr D0.a)
 refine jbz (np:=2) (nn:=2) (b:=b_Xn) (ds:=[.ref d,.str "shut"]) rfl ?_ (Nat.le_refl _)
 show b_Xn [some (.ref d),some (.str (Str.ofString "shut"))] h= .rt (.str x) h
 unfold nB at ej
 generalize (ja6 b.st).map (λk:Nat=>D.int k)=T at*
 simp[-mFld, -jao,b_Xn,s1,s2,s3,ms,ni,ej]
theorem jpp(D0:Dk h d p r b){x:Str}(hst:b.lk<2^12)(ej:z_Q1 [.lst (nB b.lk)] h= .ok (.str x) h):z_Xt [.ref d,.str "locked"] h= .ok (.str x) h:=by
 refine jj9 jpd D0.o rfl ?_
 have ni:=jf6 b.lk hst h
 obtain⟨_,s1,s2,_⟩:=sk1
 have ms:=je5 D0.a (tab:=ji9) (f:="locked") (z:=z_Qn) (m:=mFld jbb "board" (mVar 0)) (l:=mNil) (ρ:=[some (.ref d),some (.str (Str.ofString "locked"))]) (ds:=[]) rfl (by decide+kernel) (juo D0 _) (by simp)
 have ms:=ms.trans (jsw D0.a)
 refine jbz (np:=2) (nn:=2) (b:=b_Xn) (ds:=[.ref d,.str "locked"]) rfl ?_ (Nat.le_refl _)
 show b_Xn [some (.ref d),some (.str (Str.ofString "locked"))] h= .rt (.str x) h
 unfold nB at ej
 generalize (ja6 b.lk).map (λk:Nat=>D.int k)=T at*
 simp[-mFld, -jao,b_Xn,s1,s2,ms,ni,ej]
theorem juc(D0:Dk h d p r b){x:Str}(hst:jbs b.st b.sws<2^12)(ej:z_Q1 [.lst (nB (jbs b.st b.sws))] h= .ok (.str x) h):z_Xt [.ref d,.str "live"] h= .ok (.str x) h:=by
 refine jj9 jue D0.o rfl ?_
 have ni:=jf6 _ hst h
 have lv:=jz1 D0.a.ok b.st h D0.a.hb
 have fy:=fld_y D0 (some (.str (Str.ofString "live")))
 have ms:=je5 D0.a (tab:=jcn) (f:="standing") (z:=z_Qb) (m:=mFld jbb "board" (mVar 0)) (l:=mNil) (ρ:=[some (.ref d),some (.str (Str.ofString "live"))]) (ds:=[]) rfl (by decide+kernel) (juo D0 _) (by simp)
 have ms:=ms.trans (jfr D0.a)
 refine jbz (np:=2) (nn:=2) (b:=b_Xn) (ds:=[.ref d,.str "live"]) rfl ?_ (Nat.le_refl _)
 show b_Xn [some (.ref d),some (.str (Str.ofString "live"))] h= .rt (.str x) h
 unfold nB at ej
 generalize (ja6 (jbs b.st b.sws)).map (λk:Nat=>D.int k)=T at*
 generalize jbs b.st b.sws=v at*
 generalize yd b.n b.sws=Y at*
 simp[-mFld, -jao,b_Xn,fy,ms,lv,ni,ej]
theorem jmv(D0:Dk h d p r b){x:Str}(hst:jcc b.st b.sws<2^12)(ej:z_Q1 [.lst (nB (jcc b.st b.sws))] h= .ok (.str x) h):z_Xt [.ref d,.str "earthed"] h= .ok (.str x) h:=by
 refine jj9 jm2 D0.o rfl ?_
 have ni:=jf6 _ hst h
 have lv:=jpc D0.a.ok b.st h D0.a.hb
 obtain⟨s1,_⟩:=sk1
 have fy:=fld_y D0 (some (.str (Str.ofString "earthed")))
 have ms:=je5 D0.a (tab:=jcn) (f:="standing") (z:=z_Qb) (m:=mFld jbb "board" (mVar 0)) (l:=mNil) (ρ:=[some (.ref d),some (.str (Str.ofString "earthed"))]) (ds:=[]) rfl (by decide+kernel) (juo D0 _) (by simp)
 have ms:=ms.trans (jfr D0.a)
 refine jbz (np:=2) (nn:=2) (b:=b_Xn) (ds:=[.ref d,.str "earthed"]) rfl ?_ (Nat.le_refl _)
 show b_Xn [some (.ref d),some (.str (Str.ofString "earthed"))] h= .rt (.str x) h
 unfold nB at ej
 generalize (ja6 (jcc b.st b.sws)).map (λk:Nat=>D.int k)=T at*
 generalize jcc b.st b.sws=v at*
 generalize yd b.n b.sws=Y at*
 simp[-mFld, -jao,b_Xn,s1,fy,ms,lv,ni,ej]
end
structure DeedW (k:Str):Prop where
 ln:k.length<=8
 s32:32∉k.cps.toList
 s10:10∉k.cps.toList
 b:¬k=Str.ofString "bars"
 a1:¬Str.ofString "feed"=k
 a2:¬Str.ofString "earth"=k
 a3:¬Str.ofString "breaker"=k
 a4:¬Str.ofString "splitter"=k
 i4:Str.ofString "turn"=k \/ Str.ofString "lock"=k \/ Str.ofString "unlock"=k \/ Str.ofString "back"=k
theorem jg4:DeedW (Str.ofString "turn"):=⟨by decide+kernel,by decide+kernel,by decide+kernel,by decide+kernel,by decide+kernel,by decide+kernel,by decide+kernel,by decide+kernel,.inl rfl⟩
theorem jfz:DeedW (Str.ofString "lock"):=⟨by decide+kernel,by decide+kernel,by decide+kernel,by decide+kernel,by decide+kernel,by decide+kernel,by decide+kernel,by decide+kernel,.inr (.inl rfl)⟩
theorem je6:DeedW (Str.ofString "unlock"):=⟨by decide+kernel,by decide+kernel,by decide+kernel,by decide+kernel,by decide+kernel,by decide+kernel,by decide+kernel,by decide+kernel,.inr (.inr (.inl rfl))⟩
def jc9(w:Str)(k:Nat):Str:=rowT (w,[(k:Int)])
theorem jyg{k:Nat}(hk:k<=12)(h:MH):z_Xb [.lst [.str (W k)]] h= .ok (.int (k:Nat)) h:=by
 have lw:=(w_of (n:=k) (by omega) (by omega)).1
 obtain⟨n1,n2⟩:=jqy (n:=k) (by omega) (by omega)
 have nt:=jgq [W k] h (by simp;omega) (by simp)
 have nt:z_Qs [.lst [.str (W k)]] h= .ok (.lst [.int (k:Nat)]) h:=by
  simp[n1,n2] at nt
  exact nt
 simp[z_Xb,b_Xb,nt]
theorem jnd{w:Str}(u:DeedW w){h:MH}{d p:Nat}{y:D}(o:h[d]?=some (dkC y (.ref p)))(hy:jkx y=false){k:Nat}(hk:k<=12):b_Xt [some (.ref d),some (.str (jc9 w k)),none,none,none] h=(z_Xl [.ref d,.str w,.int (k:Nat)] h).toS λx h1=> .rt x h1:=by
 obtain⟨f1,_,f3⟩:=jg3 (k:=w) (bs:=[(k:Int)]) u.ln u.s32 u.s10 (by simp;omega) (by simp)
 have hd:=jhd (row:=jc9 w k) (k:=w) (ws:=[(k:Int)].map W) f3 (by have:(jc9 w k).length<=20:=f1;omega) (by simp) d
 have on:=jyg hk h
 obtain⟨_,_,_,b,a1,a2,a3,a4,i4⟩:=u
 unfold b_Xt
 rw[hd,jix o hy b]
 refine(jae (ρ':=[some (.ref d),some (.str (jc9 w k)),some (.lst ((w::[(k:Int)].map W).map D.str)),some (.str w),none]) (h':=h) (by simp[eqF,a1,a2,a3,a4])).trans ?_
 have mm:=jgf o (tab:=jmh) (f:="done") (z:=z_Xl) (m:=mVar 0) (l:=ja2 (mVar 3) (ja2 (jar z_Xb (ja2 (mSl (mVar 2) (oSo (mC (.int 1))) oNo) mNil)) mNil)) (ρ:=[some (.ref d),some (.str (jc9 w k)),some (.lst ((w::[(k:Int)].map W).map D.str)),some (.str w),none]) (ds:=[.str w,.int (k:Nat)]) rfl (by decide+kernel) (by simp) (by simp[on])
 have t4:tB (mBin (dIn false) (mVar 3) (mTup (ja2 (mC (.str "turn")) (ja2 (mC (.str "lock")) (ja2 (mC (.str "unlock")) (ja2 (mC (.str "back")) mNil)))))) [some (.ref d),some (.str (jc9 w k)),some (.lst ((w::[(k:Int)].map W).map D.str)),some (.str w),none] h= .ok true h:=by
  rcases i4 with rfl | rfl | rfl | rfl<;>simp[eqF]
 simp only[sSeq,sIf,t4,jdr,if_true,sRet,mm]
 cases z_Xl [.ref d,.str w,.int (k:Nat)] h<;>rfl
theorem jfm{w:Str}(u:DeedW w){h H:MH}{d p:Nat}{y:D}(o:h[d]?=some (dkC y (.ref p)))(hy:jkx y=false){k:Nat}(hk:k<=12){x:D}(e:z_Xl [.ref d,.str w,.int (k:Nat)] h= .ok x H)(hl:H.length<=h.length):z_Xt [.ref d,.str (jc9 w k)] h= .ok x H:=
 jbz (np:=2) (nn:=5) (b:=b_Xt) (ds:=[.ref d,.str (jc9 w k)]) rfl ((jnd u o hy hk).trans (by rw[e];rfl)) hl
theorem jfo{w:Str}(u:DeedW w){h:MH}{d p:Nat}{y:D}(o:h[d]?=some (dkC y (.ref p)))(hy:jkx y=false){k:Nat}(hk:k<=12){c:String}(e:z_Xl [.ref d,.str w,.int (k:Nat)] h= .exc c h):z_Xt [.ref d,.str (jc9 w k)] h= .exc c h:=
 jjo (np:=2) (nn:=5) (b:=b_Xt) (ds:=[.ref d,.str (jc9 w k)]) rfl ((jnd u o hy hk).trans (by rw[e];rfl))
theorem dn1:¬(Str.ofString "lock"=Str.ofString "turn") /\ ¬(Str.ofString "unlock"=Str.ofString "turn") /\ ¬(Str.ofString "unlock"=Str.ofString "lock") /\ ¬(Str.ofString "lock"=Str.ofString "unlock") /\ ¬(Str.ofString "lock"=Str.ofString "back") /\ ¬(Str.ofString "unlock"=Str.ofString "back"):=by decide+kernel
section
variable {h : MH} {d p r : Nat} {b : Bd} (D0 : Dk h d p r b)
include D0
theorem jrb(x1 x2:Option D):mFld jbb "board" (mVar 0) [some (.ref d),x1,x2] h= .ok (.ref p) h:=by
 have o:=D0.o
 unfold dkC at o
 simp[o]
theorem jrs{k:Nat}{w:Sw}(hw:b.sws[k]?=some w):z_Xl [.ref d,.str "turn",.int (k:Nat)] h=match jf0 b k w with | some c=> .exc c h | none=> .ok (.str (if b.st.testBit k then "open" else "shut")) (h.set p (({b with st:=b.st^^^2^k}:Bd).cell r)):=by
 have tu:=jys D0.a k w hw
 have mt:=je5 D0.a (tab:=jlx) (f:="turn") (z:=z_Xc) (m:=mFld jbb "board" (mVar 0)) (l:=ja2 (mVar 2) mNil) (ρ:=[some (.ref d),some (.str (Str.ofString "turn")),some (.int (k:Nat))]) (ds:=[.int (k:Nat)]) rfl (by decide+kernel) (jrb D0 _ _) (by simp)
 cases q:jf0 b k w with
 | some c=>
  rw[q] at tu
  have mt:=mt.trans tu
  refine jjo (np:=3) (nn:=3) (b:=b_Xl) (ds:=[.ref d,.str "turn",.int (k:Nat)]) rfl ?_
  show b_Xl [some (.ref d),some (.str (Str.ofString "turn")),some (.int (k:Nat))] h=_
  simp[-mFld, -jao,b_Xl,mt]
 | none=>
  rw[q] at tu
  have mt:=mt.trans tu
  refine jbz (np:=3) (nn:=3) (b:=b_Xl) (ds:=[.ref d,.str "turn",.int (k:Nat)]) rfl ?_ (by rw[List.length_set];exact Nat.le_refl _)
  show b_Xl [some (.ref d),some (.str (Str.ofString "turn")),some (.int (k:Nat))] h=_
  have hh:=jg8 (b.st^^^2^k) k (h.set p (({b with st:=b.st^^^2^k}:Bd).cell r))
  have tb:(b.st^^^2^k).testBit k= !b.st.testBit k:=by
   rw[Nat.testBit_xor,jbd];simp
  rw[tb] at hh
  generalize h.set p (({b with st:=b.st^^^2^k}:Bd).cell r)=H at*
  generalize b.st^^^2^k=s2 at*
  cases q2:b.st.testBit k<;>rw[q2] at hh<;>simp[-mFld, -jao,b_Xl,mt,hh]
theorem jq1{k:Nat}{w:Sw}(hw:b.sws[k]?=some w):z_Xl [.ref d,.str "lock",.int (k:Nat)] h=match jg9 b k w with | some c=> .exc c h | none=> .ok (.str "ok") (h.set p (({b with lk:=b.lk|||2^k}:Bd).cell r)):=by
 have tu:=jzh D0.a k w hw
 have mt:=je5 D0.a (tab:=jmy) (f:="lock") (z:=z_X3) (m:=mFld jbb "board" (mVar 0)) (l:=ja2 (mVar 2) mNil) (ρ:=[some (.ref d),some (.str (Str.ofString "lock")),some (.int (k:Nat))]) (ds:=[.int (k:Nat)]) rfl (by decide+kernel) (jrb D0 _ _) (by simp)
 obtain⟨d1,d2,d3,d4,d5,d6⟩:=dn1
 cases q:jg9 b k w with
 | some c=>
  rw[q] at tu
  have mt:=mt.trans tu
  refine jjo (np:=3) (nn:=3) (b:=b_Xl) (ds:=[.ref d,.str "lock",.int (k:Nat)]) rfl ?_
  show b_Xl [some (.ref d),some (.str (Str.ofString "lock")),some (.int (k:Nat))] h=_
  simp[-mFld, -jao,b_Xl,mt,d1]
 | none=>
  rw[q] at tu
  have mt:=mt.trans tu
  refine jbz (np:=3) (nn:=3) (b:=b_Xl) (ds:=[.ref d,.str "lock",.int (k:Nat)]) rfl ?_ (by rw[List.length_set];exact Nat.le_refl _)
  show b_Xl [some (.ref d),some (.str (Str.ofString "lock")),some (.int (k:Nat))] h=_
  generalize h.set p (({b with lk:=b.lk|||2^k}:Bd).cell r)=H at*
  simp[-mFld, -jao,b_Xl,mt,d1,d4,d5]
theorem jmi{k:Nat}(hk:k<b.sws.length):z_Xl [.ref d,.str "unlock",.int (k:Nat)] h=match jcy b k with | some c=> .exc c h | none=> .ok (.str "ok") (h.set p (({b with lk:=apart b.lk k}:Bd).cell r)):=by
 have tu:=jtg D0.a k hk
 have mt:=je5 D0.a (tab:=jht) (f:="unlock") (z:=z_Qo) (m:=mFld jbb "board" (mVar 0)) (l:=ja2 (mVar 2) mNil) (ρ:=[some (.ref d),some (.str (Str.ofString "unlock")),some (.int (k:Nat))]) (ds:=[.int (k:Nat)]) rfl (by decide+kernel) (jrb D0 _ _) (by simp)
 obtain⟨d1,d2,d3,d4,d5,d6⟩:=dn1
 cases q:jcy b k with
 | some c=>
  rw[q] at tu
  have mt:=mt.trans tu
  refine jjo (np:=3) (nn:=3) (b:=b_Xl) (ds:=[.ref d,.str "unlock",.int (k:Nat)]) rfl ?_
  show b_Xl [some (.ref d),some (.str (Str.ofString "unlock")),some (.int (k:Nat))] h=_
  simp[-mFld, -jao,b_Xl,mt,d2,d3]
 | none=>
  rw[q] at tu
  have mt:=mt.trans tu
  refine jbz (np:=3) (nn:=3) (b:=b_Xl) (ds:=[.ref d,.str "unlock",.int (k:Nat)]) rfl ?_ (by rw[List.length_set];exact Nat.le_refl _)
  show b_Xl [some (.ref d),some (.str (Str.ofString "unlock")),some (.int (k:Nat))] h=_
  generalize h.set p (({b with lk:=apart b.lk k}:Bd).cell r)=H at*
  simp[-mFld, -jao,b_Xl,mt,d2,d3,d6]
end
def cI:Option String->Nat
 | none=>6
 | some c=>if c="Locked" then 0 else if c="Loaded" then 1 else if c="Shorted" then 2 else if c="NoLock" then 3 else if c="NotLocked" then 4 else 5
theorem jhg:jft []=0:=rfl
theorem kn_in(w:Sw)(h:MH):dIn false (.str w.kn) (.lst [.str "breaker",.str "earth"]) h= .ok (.bl (!w.lockable)) h:=by
 have h1:¬(Str.ofString "breaker"=Str.ofString "feed"):=by decide+kernel
 have h2:¬(Str.ofString "earth"=Str.ofString "feed"):=by decide+kernel
 have h3:¬(Str.ofString "breaker"=Str.ofString "splitter"):=by decide+kernel
 have h4:¬(Str.ofString "earth"=Str.ofString "splitter"):=by decide+kernel
 cases w<;>simp[Sw.kn,Sw.lockable,eqF,h1,h2,h3,h4]
section
variable {b : Bd} (ok : jbr b.n b.sws) (hg : b.gv = []) (hs : b.st < 2 ^ b.sws.length) {k : Nat} {w : Sw} (hw : b.sws[k]? = some w) {h : MH}
include hw
theorem jp7(ok:jbr b.n b.sws)(hg:b.gv=[])(hs:b.st<2^b.sws.length)(hb:Hb h):z_Qk [.lst (b.sws.map Sw.l),.lst (iL (ja6 b.st)),.lst (iL (ja6 b.lk)),.int (k:Nat)] h= .ok (.int (cI (jf0 b k w):Nat)) h:=by
 have hk:k<b.sws.length:=(List.getElem?_eq_some_iff.mp hw).1
 have e1:=jie (ja6 b.lk) k false h
 have e2:=jvp ok hb hs hw
 have e3:=jj3 ok hb hs hk
 have hx:b.st^^^2^k<2^b.sws.length:=Nat.xor_lt_two_pow hs (Nat.pow_lt_pow_right (by decide) hk)
 have e4:=jst ok hb hx
 simp only[jc1,Bool.false_eq_true,if_false] at e1
 have eh:(jft b.gv).testBit k=false:=by rw[hg,jhg];simp
 refine jbz (np:=4) (nn:=4) (b:=b_Qk) (ds:=[.lst (b.sws.map Sw.l),.lst (iL (ja6 b.st)),.lst (iL (ja6 b.lk)),.int (k:Nat)]) rfl ?_ (Nat.le_refl _)
 show b_Qk [some (.lst (b.sws.map Sw.l)),some (.lst (iL (ja6 b.st))),some (.lst (iL (ja6 b.lk))),some (.int (k:Nat))] h=_
 unfold jf0
 rw[eh]
 generalize iL (ja6 (b.st^^^2^k))=X at*
 generalize jeg (b.st^^^2^k) b.sws=ts at*
 generalize iL (ja6 b.st)=S at*
 generalize iL (ja6 b.lk)=L at*
 generalize b.sws.map Sw.l=V at*
 generalize jep b.st k w b.sws=tl at*
 generalize b.lk.testBit k=tk at*
 cases tk<;>cases tl<;>cases ts<;>simp[-dIn,b_Qk,e1,e2,e3,e4,cI]
theorem jos(hg:b.gv=[])(put:Bool):z_Qd [.lst (b.sws.map Sw.l),.lst (iL (ja6 b.st)),.lst (iL (ja6 b.lk)),.int (k:Nat),.bl put] h= .ok (.int (cI (if put then jg9 b k w else jcy b k):Nat)) h:=by
 have e0:=sw_l hw h
 have e1:=(l_ix w h).1
 have e2:=kn_in w h
 have e3:=jie (ja6 b.st) k false h
 have e4:=jie (ja6 b.lk) k false h
 simp only[jc1,Bool.false_eq_true,if_false] at e3 e4
 have eh:(jft b.gv).testBit k=false:=by rw[hg,jhg];simp
 refine jbz (np:=5) (nn:=5) (b:=b_Qd) (ds:=[.lst (b.sws.map Sw.l),.lst (iL (ja6 b.st)),.lst (iL (ja6 b.lk)),.int (k:Nat),.bl put]) rfl ?_ (Nat.le_refl _)
 show b_Qd [some (.lst (b.sws.map Sw.l)),some (.lst (iL (ja6 b.st))),some (.lst (iL (ja6 b.lk))),some (.int (k:Nat)),some (.bl put)] h=_
 have a0:∀(x y:Int),dIx (.lst [.int x,.int y]) (.int 0) h= .ok (.int x) h /\ dIx (.lst [.int x,.int y]) (.int 1) h= .ok (.int y) h:=λx y=>⟨by simp,by simp⟩
 have a1:=(a0 4 6).1
 have a2:=(a0 4 6).2
 have a3:=(a0 6 0).1
 have a4:=(a0 6 0).2
 unfold jg9 jcy
 rw[eh]
 generalize iL (ja6 b.st)=S at*
 generalize iL (ja6 b.lk)=L at*
 generalize b.sws.map Sw.l=V at*
 generalize b.lk.testBit k=tk at*
 generalize b.st.testBit k=ts at*
 generalize w.lockable=tl at*
 cases put<;>cases tk<;>cases ts<;>cases tl<;>simp[-dIn, -dIx,b_Qd,e0,e1,e2,e3,e4,a1,a2,a3,a4,cI]
end
def jT(x:Nat):Str:=if ja6 x=[] then "none" else Txt.join (Str.ofString " ") ((ja6 x).map λk:Nat=>W k)
theorem w_sum(l:List Nat)(hl:∀k∈l,k<=12)(hn:l.length<=12):((l.map λk:Nat=>W k).map (·.length)).sum+(l.map λk:Nat=>W k).length*(Str.ofString " ").length<=16777216:=by
 have l1:(Str.ofString " ").length=1:=by decide+kernel
 have:=jww (l:=(l.map λk:Nat=>W k).map (·.length)) (m:=2) (λx m=>by
  obtain⟨s,ms,rfl⟩:=List.mem_map.mp m
  obtain⟨k,mk,rfl⟩:=List.mem_map.mp ms
  exact(w_of (n:=k) (by omega) (by have:=hl k mk;omega)).1)
 simp only[List.length_map] at this ⊢
 rw[l1]
 omega
theorem jts(l:List Nat)(hl:∀k∈l,k<=12)(h:MH):compLoop (jac 0) tYes (mFn fStr (ja2 (mVar 0) mNil)) [none] (iL l) h= .ok ((l.map λk:Nat=>W k).map D.str) h:=by
 rw[List.map_map]
 refine jc3 (g:=jac 0) (t:=tYes) (h:=h) (m:=mFn fStr (ja2 (mVar 0) mNil)) (ρ0:=[none]) (λk:Nat=>D.int k) (λk=>[some (.int (k:Nat))]) (λk=>D.str (W (k:Nat))) l λk m=>⟨by simp,by simp,?_⟩
 have lg:(k:Nat).log2<1920:=Nat.lt_of_le_of_lt (Nat.log2_le_self k) (by have:=hl k m;omega)
 simp[lg]
theorem jdb{x:Nat}(hx:x<2^12)(h:MH):z_Q1 [.lst (nB x)] h= .ok (.str (jT x)) h /\ z_Xq [.lst (iL (ja6 x))] h= .ok (.str (jT x)) h:=by
 have hm:∀k∈ja6 x,k<=12:=λk m=>by have:=((hkB hx k).mp m).2;omega
 have hl:=jd7 hx
 have sc:=jts (ja6 x) hm h
 have ws:=w_sum (ja6 x) hm hl
 have en:=jfy (ja6 x) h
 have l1:(iL (ja6 x)).length=(ja6 x).length:=List.length_map _
 have sd:=jr7 ((ja6 x).map λk:Nat=>W k)
 unfold nB jT
 show z_Q1 [.lst (iL (ja6 x))] h=_ /\ _
 by_cases q:ja6 x=[]
 ·rw[q]
  exact⟨by simp[z_Q1,b_Q1],by
   have en2:dEq (.lst []) (.lst []) h= .ok (.bl true) h:=jfy [] h
   simp[-dEq,z_Xq,b_Xq,en2]⟩
 ·rw[if_neg q]
  have ne:¬(iL (ja6 x))=[]:=λz=>q (List.map_eq_nil_iff.mp z)
  rw[decide_eq_false q] at en
  generalize (ja6 x).map (λk:Nat=>W k)=U at*
  generalize iL (ja6 x)=T at*
  exact⟨by simp[-List.map_map,z_Q1,b_Q1,ne,sc,sd,ws,show T.length<16777216 by omega],by simp[-dEq, -List.map_map,z_Xq,b_Xq,en,sc,sd,ws,show T.length<16777216 by omega]⟩
def tl6(c:Nat):List D:=[.bl (decide (c=0)),.bl (decide (c=1)),.bl (decide (c=2)),.bl (decide (c=3)),.bl (decide (c=4)),.bl (decide (c=5))]
def six:List String:=["Locked","Loaded","Shorted","NoLock","NotLocked","NotOpen"]
theorem w6:∀c∈six,w_Y9.lookup c=some (decide (c="Locked")) /\ w_Y7.lookup c=some (decide (c="Loaded")) /\ w_Y0.lookup c=some (decide (c="Shorted")) /\ w_Y6.lookup c=some (decide (c="NoLock")) /\ w_Xg.lookup c=some (decide (c="NotLocked")) /\ w_Y1.lookup c=some (decide (c="NotOpen")):=by decide+kernel
theorem jsr{h:MH}{d:Nat}{y b:D}(o:h[d]?=some (dkC y b)){m:ME}{l:ML}{ρ:Ro}{row:Str}(em:m ρ h= .ok (.ref d) h)(el:l ρ h= .ok [.str row] h):jao jgp "say" m l ρ h=z_Xt [.ref d,.str row] h:=jgf o (tab:=jgp) (f:="say") (z:=z_Xt) rfl (by decide+kernel) em el
theorem Dk.push{h:MH}{d p r:Nat}{b:Bd}(D0:Dk h d p r b)(c:Option Cell)(hc:∀n,Cell.bnd n c=true):Dk (h++[c]) d p r b:=by
 have ld:d<h.length:=(List.getElem?_eq_some_iff.mp D0.o).1
 refine⟨by rw[List.getElem?_append_left ld];exact D0.o,by rw[List.getElem?_append_left D0.a.lt'];exact D0.a.o,by rw[List.getElem?_append_left D0.a.lt];exact D0.a.g,D0.a.hb.snoc λn _=>hc n,D0.a.ok⟩
theorem jl5{np nn:Nat}{b:MS}{ds:List D}{h h' J:MH}{d:D}(hl:ds.length=np)(e:b (ds.map some++List.replicate (nn - ds.length) none) h= .rt d (h'++J))(hh:h'.length=h.length)(hb:Hb h')(hd:d.bnd h.length=true):mFun np nn b ds h= .ok d h':=by
 unfold mFun
 rw[if_pos hl,e]
 show fin h.length d (h'++J)=_
 unfold fin
 by_cases q:(h'++J).length<=h.length
 ·rw[if_pos q]
  have:J=[]:=by
   cases J with
   | nil=>rfl
   | cons _ _=>simp at q;omega
  rw[this,List.append_nil]
 ·rw[if_neg q,if_pos]
  ·rw[List.take_left' hh]
  ·rw[hd,Bool.true_and,List.take_left' hh]
   exact hb _ (by omega)
theorem jt6(n:Nat)(x:Bool):Cell.bnd n (some (.lst [.bl x,.bl x,.bl x,.bl x,.bl x,.bl x]))=true:=by simp[Cell.bnd,D.bnds,D.bnd]
section
variable {h : MH} {d : Nat} {y p : D} (o : h[d]? = some (dkC y p)) (row : Str)
include o
theorem jlu{H:MH}{a:Str}(hl:H.length=h.length)(hB:Hb H)(e:∀c,(∀n,Cell.bnd n c=true)->z_Xt [.ref d,.str row] (h++[c])= .ok (.str a) (H++[c])):z_Xj [.ref d,.str row] h= .ok (.tup [.lst (tl6 6),.str a]) H:=by
 have ld:d<h.length:=(List.getElem?_eq_some_iff.mp o).1
 have e1:=e (some (.lst [.bl false,.bl false,.bl false,.bl false,.bl false,.bl false])) λn=>jt6 n false
 have o1:(h++[some (Cell.lst [D.bl false,.bl false,.bl false,.bl false,.bl false,.bl false])])[d]?=some (dkC y p):=by rw[List.getElem?_append_left ld];exact o
 have m1:=jsr o1 (m:=mVar 0) (l:=lNox (ja2 (mVar 1) mNil)) (ρ:=[some (.ref d),some (.str row),some (.ref h.length),some (.str "")]) (row:=row) (by simp) (by simp)
 have m1:=m1.trans e1
 have t6:tl6 6=[.bl false,.bl false,.bl false,.bl false,.bl false,.bl false]:=rfl
 have g:(H++[some (Cell.lst [D.bl false,.bl false,.bl false,.bl false,.bl false,.bl false])])[h.length]?=some (some (.lst [.bl false,.bl false,.bl false,.bl false,.bl false,.bl false])):=by rw[<-hl];simp
 have g2:(H++[some (Cell.lst [D.bl false,.bl false,.bl false,.bl false,.bl false,.bl false])]).set h.length none=H++[none]:=by rw[<-hl];simp
 refine jl5 (np:=2) (nn:=4) (b:=b_Xj) (ds:=[.ref d,.str row]) (J:=[none]) rfl ?_ hl hB (by simp[tl6,D.bnd,D.bnds])
 show b_Xj [some (.ref d),some (.str row),none,none] h=_
 rw[t6]
 unfold b_Xj
 refine(jae (ρ':=[some (.ref d),some (.str row),some (.ref h.length),none]) (h':=h++[some (.lst [.bl false,.bl false,.bl false,.bl false,.bl false,.bl false])]) (by simp)).trans ?_
 refine(jae (ρ':=[some (.ref d),some (.str row),some (.ref h.length),some (.str "")]) (h':=h++[some (.lst [.bl false,.bl false,.bl false,.bl false,.bl false,.bl false])]) (by simp)).trans ?_
 refine(jae (ρ':=[some (.ref d),some (.str row),some (.ref h.length),some (.str a)]) (h':=H++[some (.lst [.bl false,.bl false,.bl false,.bl false,.bl false,.bl false])]) (by simp[-jao, -lNox,m1])).trans ?_
 simp[g,g2]
theorem jme(hB:Hb h){c:String}(hc:c∈six)(e:∀x,(∀n,Cell.bnd n x=true)->z_Xt [.ref d,.str row] (h++[x])= .exc c (h++[x])):z_Xj [.ref d,.str row] h= .ok (.tup [.lst (tl6 (cI (some c))),.str ""]) h:=by
 have ld:d<h.length:=(List.getElem?_eq_some_iff.mp o).1
 have e1:=e (some (.lst [.bl false,.bl false,.bl false,.bl false,.bl false,.bl false])) λn=>jt6 n false
 have o1:(h++[some (Cell.lst [D.bl false,.bl false,.bl false,.bl false,.bl false,.bl false])])[d]?=some (dkC y p):=by rw[List.getElem?_append_left ld];exact o
 have m1:=jsr o1 (m:=mVar 0) (l:=lNox (ja2 (mVar 1) mNil)) (ρ:=[some (.ref d),some (.str row),some (.ref h.length),some (.str "")]) (row:=row) (by simp) (by simp)
 have m1:=m1.trans e1
 have g:∀x:Option Cell,(h++[x])[h.length]?=some x:=λx=>by simp
 have g2:∀x z:Option Cell,(h++[x]).set h.length z=h++[z]:=λx z=>by simp
 obtain⟨w1,w2,w3,w4,w5,w6⟩:=w6 c hc
 refine jl5 (np:=2) (nn:=4) (b:=b_Xj) (ds:=[.ref d,.str row]) (J:=[none]) rfl ?_ rfl hB (by simp[tl6,D.bnd,D.bnds])
 show b_Xj [some (.ref d),some (.str row),none,none] h=_
 unfold b_Xj
 refine(jae (ρ':=[some (.ref d),some (.str row),some (.ref h.length),none]) (h':=h++[some (.lst [.bl false,.bl false,.bl false,.bl false,.bl false,.bl false])]) (by simp)).trans ?_
 refine(jae (ρ':=[some (.ref d),some (.str row),some (.ref h.length),some (.str "")]) (h':=h++[some (.lst [.bl false,.bl false,.bl false,.bl false,.bl false,.bl false])]) (by simp)).trans ?_
 have t:∀x z:Option Cell,(h++[x]).set h.length z=h++[z]:=g2
 have x0:ixN 6 0=some 0:=by decide
 have x1:ixN 6 1=some 1:=by decide
 have x2:ixN 6 2=some 2:=by decide
 have x3:ixN 6 3=some 3:=by decide
 have x4:ixN 6 4=some 4:=by decide
 have x5:ixN 6 5=some 5:=by decide
 have hc2:c="Locked" \/ c="Loaded" \/ c="Shorted" \/ c="NoLock" \/ c="NotLocked" \/ c="NotOpen":=by simpa [six] using hc
 rcases hc2 with rfl | rfl | rfl | rfl | rfl | rfl<;>simp at w1 w2 w3 w4 w5 w6<;>simp[-jao, -lNox,m1,w1,w2,w3,w4,w5,w6,tl6,cI,List.set,x0,x1,x2,x3,x4,x5]
end
section
variable {n : Nat} {sws : List Sw} (ok : jbr n sws)
include ok
theorem jvc(st:Nat):jbs st sws<2^n:=by
 refine jr6 ok st (jko _ _ (λp m=> ?_) (Nat.two_pow_pos n))
 obtain⟨q,mq,rfl⟩:=List.mem_map.mp m
 have wok:=ok.2.2.2 q.1 (jly (List.mem_filter.mp mq).1)
 cases e:q.1 with
 | feed b=>
  rw[e] at wok
  exact Nat.pow_lt_pow_right (by decide) wok
 | _=>exact Nat.two_pow_pos n
theorem jpw(st:Nat):jcc st sws<2^n:=by
 refine jr6 ok st (jko _ _ (λp m=> ?_) (Nat.two_pow_pos n))
 obtain⟨q,mq,rfl⟩:=List.mem_map.mp m
 have wok:=ok.2.2.2 q.1 (jly (List.mem_filter.mp mq).1)
 cases e:q.1 with
 | earth b=>
  rw[e] at wok
  exact Nat.pow_lt_pow_right (by decide) wok
 | _=>exact Nat.two_pow_pos n
end
theorem to12{x m:Nat}(h:x<2^m)(hm:m<=12):x<2^12:=Nat.lt_of_lt_of_le h (Nat.pow_le_pow_right (by decide) hm)
theorem jhi{h:MH}{d:Nat}{y p:D}(o:h[d]?=some (dkC y p)){w x:Str}{N:List D}(x1 x2 x3 x5 x6 x9 x10 x11:Option D){asked:D}{t:Int}{k:Nat}(ea:(mBin dIx (mVar 7) (mBin dMod (mBin dAdd (mBin dMul (mVar 8) (mBin dIx (jb5 (jc8 (ja2 (mC (.int 1)) (ja2 (mC (.int 3)) mNil)))) (mBin dMod (mVar 4) (mC (.int 2))))) (mBin dDiv (mVar 4) (mC (.int 2)))) (mC (.int 4)))) [some (.ref d),x1,x2,x3,some (.int t),x5,x6,some asked,some (.int (k:Nat)),x9,x10,x11] h= .ok (.tup [.str w,.lst N]) h)(es:z_Xt [.ref d,.str w] h= .ok (.str x) h)(er:z_Xq [.lst N] h= .ok (.str x) h):jdg [some (.ref d),x1,x2,x3,some (.int t),x5,x6,some asked,some (.int (k:Nat)),x9,x10,x11] h= .nx [some (.ref d),x1,x2,x3,some (.int t),x5,x6,some asked,some (.int (k:Nat)),some (.str w),some (.lst N),some (.str x)] h:=by
 unfold jdg
 refine(jae (ρ':=[some (.ref d),x1,x2,x3,some (.int t),x5,x6,some asked,some (.int (k:Nat)),some (.str w),some (.lst N),x11]) (h':=h) ?_).trans ?_
 ·simp only[sAsg,ea,jdr]
  simp
 have m1:=jsr o (m:=mVar 0) (l:=ja2 (mVar 9) mNil) (ρ:=[some (.ref d),x1,x2,x3,some (.int t),x5,x6,some asked,some (.int (k:Nat)),some (.str w),some (.lst N),x11]) (row:=w) (by simp) (by simp)
 have m1:=m1.trans es
 refine(jae (ρ':=[some (.ref d),x1,x2,x3,some (.int t),x5,x6,some asked,some (.int (k:Nat)),some (.str w),some (.lst N),some (.str x)]) (h':=h) (by simp[-jao,m1])).trans ?_
 simp[er]
theorem jwx{h:MH}{d p r:Nat}{b:Bd}(D0:Dk h d p r b)(hs:b.st<2^b.sws.length)(hl:b.lk<2^b.sws.length)(sf:jeg b.st b.sws=true)(t:Int):z_Xo [.ref d,.lst (b.sws.map Sw.l),.lst (iL (ja6 b.st)),.lst (iL (ja6 b.lk)),.int t] h= .ok (.bl true) h:=by
 have ok:=D0.a.ok
 have hb:=D0.a.hb
 have h12:=ok.2.2.1
 have h10:=ok.2.1
 have e1:=jyu ok hb hs
 have e2:=jwj ok hb hs
 have L1:=to12 (jvc ok b.st) (by omega)
 have L2:=to12 (jpw ok b.st) (by omega)
 have L3:=to12 hs h12
 have L4:=to12 hl h12
 have s1:=juc D0 L1 (jdb L1 h).1
 have s2:=jmv D0 L2 (jdb L2 h).1
 have s3:=jul D0 L3 (jdb L3 h).1
 have s4:=jpp D0 L4 (jdb L4 h).1
 have r1:=(jdb L1 h).2
 have r2:=(jdb L2 h).2
 have r3:=(jdb L3 h).2
 have r4:=(jdb L4 h).2
 have e3:=jqv (ja6 (jbs b.st b.sws)) (ja6 (jcc b.st b.sws)) h
 have e4:=jfy ((ja6 (jbs b.st b.sws)).filter λj=>decide (j∈ja6 (jcc b.st b.sws))) h
 have e5:decide (((ja6 (jbs b.st b.sws)).filter λj=>decide (j∈ja6 (jcc b.st b.sws)))=[])=true:=by
  rw[<-sf]
  unfold jeg
  exact decide_eq_decide.mpr (jnz _ _)
 rw[e5] at e4
 have ll:(iL (ja6 (jbs b.st b.sws))).length<=12:=by
  rw[List.length_map]
  exact jd7 L1
 have o:=D0.o
 refine jbz (np:=5) (nn:=12) (b:=b_Xo) (ds:=[.ref d,.lst (b.sws.map Sw.l),.lst (iL (ja6 b.st)),.lst (iL (ja6 b.lk)),.int t]) rfl ?_ (Nat.le_refl _)
 show b_Xo [some (.ref d),some (.lst (b.sws.map Sw.l)),some (.lst (iL (ja6 b.st))),some (.lst (iL (ja6 b.lk))),some (.int t),none,none,none,none,none,none,none] h=_
 generalize iL ((ja6 (jbs b.st b.sws)).filter λj=>decide (j∈ja6 (jcc b.st b.sws)))=F at*
 generalize iL (ja6 (jbs b.st b.sws))=A at*
 generalize iL (ja6 (jcc b.st b.sws))=B at*
 generalize iL (ja6 b.st)=S at*
 generalize iL (ja6 b.lk)=L at*
 generalize b.sws.map Sw.l=V at*
 unfold b_Xo
 refine(jae (ρ':=[some (.ref d),some (.lst V),some (.lst S),some (.lst L),some (.int t),some (.lst A),none,none,none,none,none,none]) (h':=h) (by simp[e1])).trans ?_
 refine(jae (ρ':=[some (.ref d),some (.lst V),some (.lst S),some (.lst L),some (.int t),some (.lst A),some (.lst B),none,none,none,none,none]) (h':=h) (by simp[e2])).trans ?_
 obtain⟨Q,hQ⟩:∃Q:D,Q= .lst [.tup [.str "shut",.lst S],.tup [.str "locked",.lst L],.tup [.str "live",.lst A],.tup [.str "earthed",.lst B]]:=⟨_,rfl⟩
 refine(jae (ρ':=[some (.ref d),some (.lst V),some (.lst S),some (.lst L),some (.int t),some (.lst A),some (.lst B),some Q,none,none,none,none]) (h':=h) (by simp[hQ])).trans ?_
 have q0:dIx Q (.int 0) h= .ok (.tup [.str "shut",.lst S]) h:=by simp[hQ]
 have q1:dIx Q (.int 1) h= .ok (.tup [.str "locked",.lst L]) h:=by simp[hQ]
 have q2:dIx Q (.int 2) h= .ok (.tup [.str "live",.lst A]) h:=by simp[hQ]
 have q3:dIx Q (.int 3) h= .ok (.tup [.str "earthed",.lst B]) h:=by
  rw[hQ]
  rfl
 obtain⟨ρ',⟨x8,x9,x10,x11,rfl⟩,lp⟩:=jk7 (g:=jac 8) (b:=jdg) (h:=h) (λρ=>∃x8 x9 x10 x11,ρ=[some (.ref d),some (.lst V),some (.lst S),some (.lst L),some (.int t),some (.lst A),some (.lst B),some Q,x8,x9,x10,x11]) (rng 0 4) [some (.ref d),some (.lst V),some (.lst S),some (.lst L),some (.int t),some (.lst A),some (.lst B),some Q,none,none,none,none] ⟨_,_,_,_,rfl⟩ (λD m ρ ⟨x8,x9,x10,x11,hr⟩=>by
  subst hr
  obtain⟨k,hk,rfl⟩:∃k:Nat,k<4 /\ D= .int (k:Nat):=by
   have r4:rng 0 4=[.int 0,.int 1,.int 2,.int 3]:=rfl
   rw[r4] at m
   simp at m
   rcases m with rfl | rfl | rfl | rfl
   ·exact⟨0,by omega,rfl⟩
   ·exact⟨1,by omega,rfl⟩
   ·exact⟨2,by omega,rfl⟩
   ·exact⟨3,by omega,rfl⟩
  obtain⟨mm,hm,em⟩:∃mm:Int,mm.natAbs<10 /\ dIx (.lst [.int 1,.int 3]) (.int (t % 2)) h= .ok (.int mm) h:=by
   have m2:t % 2=0 \/ t % 2=1:=by omega
   rcases m2 with m2 | m2
   ·exact⟨1,by decide,by simp[m2]⟩
   ·exact⟨3,by decide,by simp[m2]⟩
  have om:jph (k:Int) mm:= .inr (by omega)
  have ea:∀X:Res D,dIx Q (.int (((k:Int)*mm+t / 2) % 4)) h=X->(mBin dIx (mVar 7) (mBin dMod (mBin dAdd (mBin dMul (mVar 8) (mBin dIx (jb5 (jc8 (ja2 (mC (.int 1)) (ja2 (mC (.int 3)) mNil)))) (mBin dMod (mVar 4) (mC (.int 2))))) (mBin dDiv (mVar 4) (mC (.int 2)))) (mC (.int 4)))) [some (.ref d),some (.lst V),some (.lst S),some (.lst L),some (.int t),some (.lst A),some (.lst B),some Q,some (.int (k:Nat)),x9,x10,x11] h=X:=λX hX=>by
   simp[-dIx,em,om,hX]
  have v4:((k:Int)*mm+t / 2) % 4=0 \/ ((k:Int)*mm+t / 2) % 4=1 \/ ((k:Int)*mm+t / 2) % 4=2 \/ ((k:Int)*mm+t / 2) % 4=3:=by omega
  refine⟨_,rfl,?_⟩
  rcases v4 with v | v | v | v<;>rw[v] at ea
  ·exact⟨_,jhi o _ _ _ _ _ _ _ _ (ea _ q0) s3 r3,_,_,_,_,rfl⟩
  ·exact⟨_,jhi o _ _ _ _ _ _ _ _ (ea _ q1) s4 r4,_,_,_,_,rfl⟩
  ·exact⟨_,jhi o _ _ _ _ _ _ _ _ (ea _ q2) s1 r1,_,_,_,_,rfl⟩
  ·exact⟨_,jhi o _ _ _ _ _ _ _ _ (ea _ q3) s2 r2,_,_,_,_,rfl⟩)
 refine(jae (ρ':=[some (.ref d),some (.lst V),some (.lst S),some (.lst L),some (.int t),some (.lst A),some (.lst B),some Q,x8,x9,x10,x11]) (h':=h) (by simp[lp])).trans ?_
 have lc:jd3 1 [6] (lIt (mVar 5)) (jac 0) (tB (mBin (dIn false) (mVar 0) (mVar 1))) (mVar 0) [some (.ref d),some (.lst V),some (.lst S),some (.lst L),some (.int t),some (.lst A),some (.lst B),some Q,x8,x9,x10,x11] h= .ok F h:=by
  simp[-mBin, -dIn,caps,e3,show A.length<16777216 by omega]
 simp[-dEq, -jen,lc,e4]
theorem jqc{x:Int}(h:0<=x):∃a:Nat,x=a:=⟨x.toNat,(Int.toNat_of_nonneg h).symm⟩
theorem jv3{x y n:Int}(hx:0<=x)(hx2:x<n)(hy:0<=y)(hy2:y<n - 1):(x+1+y) % n≠x:=by
 intro e
 by_cases z:x+1+y<n
 ·rw[Int.emod_eq_of_lt (by omega) z] at e;omega
 ·have:(x+1+y) % n=x+1+y - n:=by rw[<-Int.sub_emod_right,Int.emod_eq_of_lt (by omega) (by omega)]
  omega
theorem blk:Str.ofString "bars "=Str.ofString "bars"++⟨#[32]⟩:=by decide+kernel
theorem row1(k:Str)(a:Int):k++⟨#[32]⟩++numS a=rowT (k,[a]):=rfl
theorem jw6(c:Int)(n:Nat)(h1:1<=n)(h2:n<=10)(h:MH):∃s:Sw,s.ok n /\ z_X0 [.int c,.int (n:Nat)] h= .ok s.l h:=by
 have hn:0<n:=by omega
 have hn0:(0:Int)<(n:Int):=by omega
 obtain⟨a,ea⟩:=jqc (x:=c / 4 % (n:Int)) (Int.emod_nonneg _ (by omega))
 have la:a<n:=by have:=Int.emod_lt_of_pos (c / 4) (b:=(n:Int)) hn0;omega
 have d1:dEq (.int (n:Nat)) (.int 1) h= .ok (.bl (decide (n=1))) h:=by
  by_cases q:n=1
  ·subst q;rfl
  ·have:¬(n:Int)=1:=by omega
   simp[this,q]
 have dn:∀x:Int,dMod (.int x) (.int (n:Nat)) h= .ok (.int (x % (n:Int))) h:=λx=>by simp[hn]
 have d4:dDiv (.int c) (.int 4) h= .ok (.int (c / 4)) h:=by simp
 have m4:dMod (.int c) (.int 4) h= .ok (.int (c % 4)) h:=by simp
 have m22:dMod (.int c) (.int 2) h= .ok (.int (c % 2)) h:=by simp
 by_cases qa:c % 4=0 \/ (n=1 /\ c % 2=0)
 ·refine⟨.feed a,la,?_⟩
  by_cases q4:c % 4=0
  ·simp[z_X0,b_X0,hn,ea,q4,Sw.l]
  ·obtain⟨n1,q2⟩:=qa.resolve_left q4
   rw[decide_eq_true n1] at d1
   have q4':dEq (.int (c % 4)) (.int 0) h= .ok (.bl false) h:=by simp[q4]
   have q2':dEq (.int (c % 2)) (.int 0) h= .ok (.bl true) h:=by simp[q2]
   simp[-dEq,z_X0,b_X0,hn,ea,q4',q2',d1,Sw.l]
 ·by_cases qb:c % 4=1 \/ n=1
  ·refine⟨.earth a,la,?_⟩
   have q40:¬c % 4=0:=λz=>qa (.inl z)
   have q4':dEq (.int (c % 4)) (.int 0) h= .ok (.bl false) h:=by simp[q40]
   have t1:tAnd (tB (mBin dEq (mVar 1) (mC (.int 1)))) (tB (mBin dEq (mBin dMod (mVar 0) (mC (.int 2))) (mC (.int 0)))) [some (.int c),some (.int (n:Nat)),some (.int (a:Nat)),none] h= .ok false h:=by
    by_cases n1:n=1
    ·have q2:¬c % 2=0:=λz=>qa (.inr ⟨n1,z⟩)
     have q2':dEq (.int (c % 2)) (.int 0) h= .ok (.bl false) h:=by simp[q2]
     rw[decide_eq_true n1] at d1
     simp[-dEq, -dMod,m22,d1,q2']
    ·rw[decide_eq_false n1] at d1
     simp[-dEq, -dMod,d1]
   by_cases q41:c % 4=1
   ·have q5:dEq (.int (c % 4)) (.int 1) h= .ok (.bl true) h:=by simp[q41]
    simp[-dEq, -tAnd, -dMod, -dDiv,z_X0,b_X0,dn,d4,m4,ea,q4',t1,q5,Sw.l]
   ·have n1:=qb.resolve_left q41
    have q5:dEq (.int (c % 4)) (.int 1) h= .ok (.bl false) h:=by simp[q41]
    rw[decide_eq_true n1] at d1
    simp[-dEq, -tAnd, -dMod, -dDiv,z_X0,b_X0,dn,d4,m4,ea,q4',t1,q5,d1,Sw.l]
  ·have n1:¬n=1:=λz=>qb (.inr z)
   have q41:¬c % 4=1:=λz=>qb (.inl z)
   have q40:¬c % 4=0:=λz=>qa (.inl z)
   have hn1:(1:Int)<(n:Int):=by omega
   have y0:0<=c / 4 / (n:Int) % ((n:Int) - 1):=Int.emod_nonneg _ (by omega)
   have y1:c / 4 / (n:Int) % ((n:Int) - 1)<(n:Int) - 1:=Int.emod_lt_of_pos _ (by omega)
   obtain⟨b,eb⟩:=jqc (x:=((a:Int)+1+c / 4 / (n:Int) % ((n:Int) - 1)) % (n:Int)) (Int.emod_nonneg _ (by omega))
   have lb:b<n:=by have:=Int.emod_lt_of_pos ((a:Int)+1+c / 4 / (n:Int) % ((n:Int) - 1)) (b:=(n:Int)) hn0;omega
   have ab:a≠b:=λz=>by
    have:=jv3 (x:=(a:Int)) (n:=(n:Int)) (by omega) (by omega) y0 y1
    omega
   have q4':dEq (.int (c % 4)) (.int 0) h= .ok (.bl false) h:=by simp[q40]
   have q5:dEq (.int (c % 4)) (.int 1) h= .ok (.bl false) h:=by simp[q41]
   rw[decide_eq_false n1] at d1
   have dm:dMod (.int (c / 4 / (n:Int))) (.int ((n:Int) - 1)) h= .ok (.int (c / 4 / (n:Int) % ((n:Int) - 1))) h:=by
    simp
    omega
   have dd:dDiv (.int (c / 4)) (.int (n:Nat)) h= .ok (.int (c / 4 / (n:Int))) h:=by
    simp[hn,show(n:Int)<1073741824 by omega]
   have m2:c % 2=0 \/ c % 2=1:=by omega
   rcases m2 with m2 | m2
   ·exact⟨.breaker a b,⟨la,lb,ab⟩,by simp[-dEq, -dMod, -dDiv,z_X0,b_X0,dn,d4,m4,m22,ea,q4',q5,d1,dd,dm,eb,m2,Sw.l]⟩
   ·exact⟨.splitter a b,⟨la,lb,ab⟩,by simp[-dEq, -dMod, -dDiv,z_X0,b_X0,dn,d4,m4,m22,ea,q4',q5,d1,dd,dm,eb,m2,Sw.l]⟩
theorem jwa(ns:List Int)(k:Nat)(h:MH):∃v:Int,z_Qq [.arg ns,.int (k:Nat)] h= .ok (.int v) h:=by
 by_cases q:k<ns.length
 ·have a:atI (ns.map D.int) (k:Int)=some (.int ns[k]):=jhl (by rw[List.getElem?_map,List.getElem?_eq_getElem q];rfl)
  exact⟨ns[k],by simp[z_Qq,b_Qq,q,a]⟩
 ·exact⟨0,by simp[z_Qq,b_Qq,q]⟩
def rowM:ME:=mSm jpj (mC (.str " ")) (ja2 (mBin dAdd (jb5 (jc8 (ja2 (mBin dIx (mVar 3) (mC (.int 0))) mNil))) (jb5 (jd3 1 [] (lIt (mSl (mVar 3) (oSo (mC (.int 1))) oNo)) (jac 0) tYes (mFn fStr (ja2 (mVar 0) mNil))))) mNil)
theorem cut2(x a:D):cut [x,a] (some 1) none=[a]:=by simp[cut,sIx]
theorem cut3(x a b:D):cut [x,a,b] (some 1) none=[a,b]:=by simp[cut,sIx]
theorem row_2{k:Str}{a:Nat}(hk:k.length<=8)(ha:a<=12)(x0 x1 x2:Option D)(h:MH):rowM [x0,x1,x2,some (.lst [.str k,.int (a:Nat)])] h= .ok (.str (rowT (k,[(a:Int)]))) h:=by
 have lg:(a:Nat).log2<1920:=Nat.lt_of_le_of_lt (Nat.log2_le_self a) (by omega)
 have lw:(numS (a:Int)).length<=2:=(w_of (n:=a) (by omega) (by omega)).1
 have l1:(Str.ofString " ").length=1:=by decide+kernel
 have jn:Txt.join (Str.ofString " ") [k,numS (a:Int)]=rowT (k,[(a:Int)]):=by rw[jof,e32];rfl
 have ls:k.length+(numS (a:Int)).length+2*(Str.ofString " ").length<=16777216:=by rw[l1];omega
 have c2:=cut2 (.str k) (.int (a:Nat))
 simp[rowM,c2,compLoop,caps,lg,jn]
 omega
theorem row_3{k:Str}{a b:Nat}(hk:k.length<=8)(ha:a<=12)(hb:b<=12)(x0 x1 x2:Option D)(h:MH):rowM [x0,x1,x2,some (.lst [.str k,.int (a:Nat),.int (b:Nat)])] h= .ok (.str (rowT (k,[(a:Int),(b:Int)]))) h:=by
 have lg:(a:Nat).log2<1920:=Nat.lt_of_le_of_lt (Nat.log2_le_self a) (by omega)
 have lg2:(b:Nat).log2<1920:=Nat.lt_of_le_of_lt (Nat.log2_le_self b) (by omega)
 have lw:(numS (a:Int)).length<=2:=(w_of (n:=a) (by omega) (by omega)).1
 have lw2:(numS (b:Int)).length<=2:=(w_of (n:=b) (by omega) (by omega)).1
 have l1:(Str.ofString " ").length=1:=by decide+kernel
 have jn:Txt.join (Str.ofString " ") [k,numS (a:Int),numS (b:Int)]=rowT (k,[(a:Int),(b:Int)]):=by rw[jof,e32];rfl
 have c3:=cut3 (.str k) (.int (a:Nat)) (.int (b:Nat))
 simp[rowM,c3,compLoop,caps,lg,lg2,jn]
 omega
theorem row_l{n:Nat}(hn:n<=10){s:Sw}(ok:s.ok n)(x0 x1 x2:Option D)(h:MH):rowM [x0,x1,x2,some s.l] h= .ok (.str (rowS s)) h:=by
 have g:(Str.ofString "feed").length<=8 /\ (Str.ofString "earth").length<=8 /\ (Str.ofString "breaker").length<=8 /\ (Str.ofString "splitter").length<=8:=by decide+kernel
 cases s with
 | feed a=>exact row_2 g.1 (by have:a<n:=ok;omega) _ _ _ _
 | earth a=>exact row_2 g.2.1 (by have:a<n:=ok;omega) _ _ _ _
 | breaker a b=>exact row_3 g.2.2.1 (by have:=ok.1;omega) (by have:=ok.2.1;omega) _ _ _ _
 | splitter a b=>exact row_3 g.2.2.2 (by have:=ok.1;omega) (by have:=ok.2.1;omega) _ _ _ _
theorem jok{n:Nat}{h0:MH}{d:Nat}(x2:Option D):∀(us ds:List Sw) (x3:Option D) (h:MH) (p r:Nat),jbr n (ds++us)->Dk h d p r (Bd.new n ds)->h0.length<=p->d<h0.length->(∀j,j<h0.length->j≠d->h[j]?=h0[j]?)->∃(H:MH) (p' r':Nat) (x3':Option D),Dk H d p' r' (Bd.new n (ds++us)) /\ h0.length<=p' /\ (∀j,j<h0.length->j≠d->H[j]?=h0[j]?) /\
  jdf (jac 3) jd6 (us.map Sw.l) [some (.ref d),some (.int (n:Nat)),x2,x3] h= .nx [some (.ref d),some (.int (n:Nat)),x2,x3'] H
 | [],ds,x3,h,p,r,ok,D0,hp,hd,fr=>⟨h,p,r,x3,by rw[List.append_nil];exact D0,hp,fr,rfl⟩
 | s::us,ds,x3,h,p,r,ok,D0,hp,hd,fr=>by
  have sok:s.ok n:=ok.2.2.2 s (by simp)
  have okd:jbr n ds:=⟨ok.1,ok.2.1,by have:=ok.2.2.1;simp at this;omega,λw m=>ok.2.2.2 w (List.mem_append_left _ m)⟩
  have okd2:jbr n (ds++[s]):=⟨ok.1,ok.2.1,by have:=ok.2.2.1;simp at this ⊢;omega,λw m=>ok.2.2.2 w (by
   rcases List.mem_append.mp m with m | m
   ·exact List.mem_append_left _ m
   ·rw[List.mem_singleton.mp m];simp)⟩
  have ld:d<h.length:=(List.getElem?_eq_some_iff.mp D0.o).1
  have lp:=D0.a.lt'
  have e1:=jpi D0 okd sok (by have:=ok.2.2.1;simp at this;show ds.length<12;omega)
  have e1:z_Xt [.ref d,.str (rowS s)] h= .ok (.str "ok") (beH h d n (ds++[s]) (.ref p)):=e1
  have D1:=jwn (d:=d) (b:= .ref p) okd2 D0.a.hb ld (λm hm=>by simp[D.bnd];omega)
  have lh:h0.length<=h.length:=by omega
  have ea:ds++s::us=(ds++[s])++us:=by simp
  rw[ea]
  obtain⟨H,p',r',x3',D2,hp',fr',e⟩:=jok (n:=n) (h0:=h0) x2 us (ds++[s]) (some s.l) _ _ _ (by rw[<-ea];exact ok) D1 lh hd (λj hj jd=>by rw[jx9 (by omega) jd];exact fr j hj jd)
  refine⟨H,p',r',x3',D2,hp',fr',?_⟩
  have rl:=row_l ok.2.1 sok (some (.ref d)) (some (.int (n:Nat))) x2 h
  have o:=D0.o
  have m1:=jsr o (m:=mVar 0) (l:=ja2 rowM mNil) (ρ:=[some (.ref d),some (.int (n:Nat)),x2,some s.l]) (row:=rowS s) (by simp) (by simp[rl])
  have m1:=m1.trans e1
  have st:jd6 [some (.ref d),some (.int (n:Nat)),x2,some s.l] h= .nx [some (.ref d),some (.int (n:Nat)),x2,some s.l] (beH h d n (ds++[s]) (.ref p)):=by
   have eb:jd6=sIf (tB (mBin dNe (jao jgp "say" (mVar 0) (ja2 rowM mNil)) (mC (.str "ok")))) (sRet (mC (.bl false))) jas:=rfl
   rw[eb]
   generalize beH h d n (ds++[s]) (.ref p)=H2 at*
   simp[-jao,m1]
  have g0:jac 3 s.l [some (.ref d),some (.int (n:Nat)),x2,x3] h= .nx [some (.ref d),some (.int (n:Nat)),x2,some s.l] h:=rfl
  rw[List.map_cons]
  simp only[jdf,g0,st,e]
theorem jya(ok:jbr n sws){h:MH}(hb:Hb h){d:Nat}(o:h[d]?=some (dkC .non .non)):∃(H:MH) (p r:Nat),Dk H d p r (Bd.new n sws) /\ z_X8 [.ref d,.int (n:Nat),.lst (sws.map Sw.l)] h= .ok (.bl true) H:=by
 have ld:d<h.length:=(List.getElem?_eq_some_iff.mp o).1
 have ok0:jbr n []:=⟨ok.1,ok.2.1,by simp,λs ms=>(nomatch ms)⟩
 have hy:∀m,h.length<=m->D.non.bnd m=true:=λm _=>rfl
 have e1:=jtx ok.1 ok.2.1 hb o hy
 have D1:=jwn (d:=d) (b:= .non) ok0 hb ld hy
 obtain⟨H,p,r,x3,D2,hp,fr,e⟩:=jok (n:=n) (h0:=h) (some (.lst (sws.map Sw.l))) sws [] none _ _ _ (by simpa using ok) D1 (Nat.le_refl _) ld (λj hj jd=>jx9 hj jd)
 have D2:Dk H d p r (Bd.new n sws):=by simpa using D2
 refine⟨H,p,r,D2,?_⟩
 have lg:(n:Nat).log2<1920:=Nat.lt_of_le_of_lt (Nat.log2_le_self n) (by have:=ok.2.1;omega)
 have lw:(numS (n:Int)).length<=2:=(w_of (n:=n) (by omega) (by have:=ok.2.1;omega)).1
 have tr:Str.ofString "bars "++numS (n:Int)=jdd n:=by rw[blk];exact row1 _ _
 have lt:(Str.ofString "bars ").length<=5:=by decide+kernel
 have m1:=jsr o (m:=mVar 0) (l:=ja2 (mBin dAdd (mC (.str "bars ")) (mFn fStr (ja2 (mVar 1) mNil))) mNil) (ρ:=[some (.ref d),some (.int (n:Nat)),some (.lst (sws.map Sw.l)),none]) (row:=jdd n) (by simp) (by simp[lg,tr,show(Str.ofString "bars ").length+(numS (n:Int)).length<=16777216 by omega])
 have m1:=m1.trans e1
 have key:b_X8 [some (.ref d),some (.int (n:Nat)),some (.lst (sws.map Sw.l)),none] h= .rt (.bl true) H:=by
  unfold b_X8
  generalize beH h d n [] .non=H1 at*
  generalize sws.map Sw.l=V at*
  refine(jae (ρ':=[some (.ref d),some (.int (n:Nat)),some (.lst V),none]) (h':=H1) (by simp[-jao,m1])).trans ?_
  refine(jae (ρ':=[some (.ref d),some (.int (n:Nat)),some (.lst V),x3]) (h':=H) (by simp[e])).trans ?_
  simp
 unfold z_X8 mFun
 rw[if_pos (show[D.ref d,D.int (n:Nat),D.lst (sws.map Sw.l)].length=3 from rfl)]
 have k2:b_X8 ([D.ref d,D.int (n:Nat),D.lst (sws.map Sw.l)].map some++List.replicate (4 - [D.ref d,D.int (n:Nat),D.lst (sws.map Sw.l)].length) none) h= .rt (.bl true) H:=key
 rw[k2]
 exact jn7 D2.o ld hp
theorem jum(h:MH):z_Qf [.ref h.length] (h++[some (.ins "Desk" [])])= .ok .non (h++[dkC .non .non]):=by
 have key:b_Qf [some (.ref h.length)] (h++[some (.ins "Desk" [])])= .nx [some (.ref h.length)] (h++[dkC .non .non]):=by
  simp[b_Qf,putF,dkC,dkF]
 unfold z_Qf mFun
 rw[if_pos (show[D.ref h.length].length=1 from rfl)]
 have k2:b_Qf ([D.ref h.length].map some++List.replicate (1 - [D.ref h.length].length) none) (h++[some (.ins "Desk" [])])=_:=key
 rw[k2]
 show fin _ _ _=_
 unfold fin
 rw[if_pos (by simp)]
structure St (h:MH) (d p r:Nat) (b:Bd):Prop where
 k:Dk h d p r b
 g:b.gv=[]
 s:b.st<2^b.sws.length
 l:b.lk<2^b.sws.length
 f:jeg b.st b.sws=true
 dp:d≠p
theorem St.put{h:MH}{d p r:Nat}{b b':Bd}(S:St h d p r b)(e1:b'.n=b.n)(e2:b'.sws=b.sws)(e3:b'.gv=b.gv)(hs:b'.st<2^b.sws.length)(hl:b'.lk<2^b.sws.length)(hf:jeg b'.st b.sws=true):St (h.set p (b'.cell r)) d p r b':=by
 refine⟨⟨?_,S.k.a.put e3 (by rw[e1,e2];exact S.k.a.ok)⟩,by rw[e3];exact S.g,by rw[e2];exact hs,by rw[e2];exact hl,by rw[e2];exact hf,S.dp⟩
 rw[List.getElem?_set_ne (Ne.symm S.dp),e1,e2]
 exact S.k.o
theorem jll{h:MH}{p:Nat}(hp:p<h.length)(x c:Option Cell):(h++[c]).set p x=h.set p x++[c]:=List.set_append_left _ _ hp
theorem jsa{b:Bd}(hg:b.gv=[]){k:Nat}{w:Sw}{c:String}(e:jf0 b k w=some c):c∈six:=by
 unfold jf0 at e
 rw[hg,jhg] at e
 simp only[Nat.zero_testBit,Bool.false_eq_true,if_false] at e
 split at e
 ·cases e;decide
 ·split at e
  ·cases e;decide
  ·split at e
   ·cases e
   ·cases e;decide
theorem jqf{b:Bd}{k:Nat}{w:Sw}{c:String}(e:jg9 b k w=some c):c∈six:=by
 unfold jg9 at e
 split at e
 ·cases e;decide
 ·split at e
  ·cases e;decide
  ·split at e
   ·cases e;decide
   ·cases e
theorem jmg{b:Bd}(hg:b.gv=[]){k:Nat}{c:String}(e:jcy b k=some c):c∈six:=by
 unfold jcy at e
 rw[hg,jhg] at e
 simp only[Nat.zero_testBit,Bool.false_eq_true,if_false] at e
 split at e
 ·cases e;decide
 ·cases e
section
variable {h : MH} {d p r : Nat} {b : Bd} (S : St h d p r b)
include S
theorem js8{k:Nat}{w:Sw}(hw:b.sws[k]?=some w):z_Xj [.ref d,.str (jc9 "turn" k)] h=match jf0 b k w with | some c=> .ok (.tup [.lst (tl6 (cI (some c))),.str ""]) h | none=> .ok (.tup [.lst (tl6 6),.str (if b.st.testBit k then "open" else "shut")]) (h.set p (({b with st:=b.st^^^2^k}:Bd).cell r)):=by
 have hk:k<b.sws.length:=(List.getElem?_eq_some_iff.mp hw).1
 have h12:=S.k.a.ok.2.2.1
 have lp:=S.k.a.lt'
 have done:∀c,(∀n,Cell.bnd n c=true)->_:=λc hc=>jrs (S.k.push c hc) hw
 cases q:jf0 b k w with
 | some c=>
  refine jme S.k.o _ S.k.a.hb (jsa S.g q) λx hx=>jfo jg4 (S.k.push x hx).o rfl (by omega) ?_
  have:=done x hx
  rw[q] at this
  exact this
 | none=>
  have hH:Hb (h.set p (({b with st:=b.st^^^2^k}:Bd).cell r)):=(S.k.a.put (b':={b with st:=b.st^^^2^k}) rfl S.k.a.ok).hb
  refine jlu S.k.o _ (by rw[List.length_set]) hH λx hx=> ?_
  rw[<-jll lp]
  refine jfm jg4 (S.k.push x hx).o rfl (by omega) ?_ (by rw[List.length_set];exact Nat.le_refl _)
  have:=done x hx
  rw[q] at this
  exact this
theorem jpu{k:Nat}{w:Sw}(hw:b.sws[k]?=some w):z_Xj [.ref d,.str (jc9 "lock" k)] h=match jg9 b k w with | some c=> .ok (.tup [.lst (tl6 (cI (some c))),.str ""]) h | none=> .ok (.tup [.lst (tl6 6),.str "ok"]) (h.set p (({b with lk:=b.lk|||2^k}:Bd).cell r)):=by
 have hk:k<b.sws.length:=(List.getElem?_eq_some_iff.mp hw).1
 have h12:=S.k.a.ok.2.2.1
 have lp:=S.k.a.lt'
 have done:∀c,(∀n,Cell.bnd n c=true)->_:=λc hc=>jq1 (S.k.push c hc) hw
 cases q:jg9 b k w with
 | some c=>
  refine jme S.k.o _ S.k.a.hb (jqf q) λx hx=>jfo jfz (S.k.push x hx).o rfl (by omega) ?_
  have:=done x hx
  rw[q] at this
  exact this
 | none=>
  have hH:Hb (h.set p (({b with lk:=b.lk|||2^k}:Bd).cell r)):=(S.k.a.put (b':={b with lk:=b.lk|||2^k}) rfl S.k.a.ok).hb
  refine jlu S.k.o _ (by rw[List.length_set]) hH λx hx=> ?_
  rw[<-jll lp]
  refine jfm jfz (S.k.push x hx).o rfl (by omega) ?_ (by rw[List.length_set];exact Nat.le_refl _)
  have:=done x hx
  rw[q] at this
  exact this
theorem jmz{k:Nat}(hk:k<b.sws.length):z_Xj [.ref d,.str (jc9 "unlock" k)] h=match jcy b k with | some c=> .ok (.tup [.lst (tl6 (cI (some c))),.str ""]) h | none=> .ok (.tup [.lst (tl6 6),.str "ok"]) (h.set p (({b with lk:=apart b.lk k}:Bd).cell r)):=by
 have h12:=S.k.a.ok.2.2.1
 have lp:=S.k.a.lt'
 have done:∀c,(∀n,Cell.bnd n c=true)->_:=λc hc=>jmi (S.k.push c hc) hk
 cases q:jcy b k with
 | some c=>
  refine jme S.k.o _ S.k.a.hb (jmg S.g q) λx hx=>jfo je6 (S.k.push x hx).o rfl (by omega) ?_
  have:=done x hx
  rw[q] at this
  exact this
 | none=>
  have hH:Hb (h.set p (({b with lk:=apart b.lk k}:Bd).cell r)):=(S.k.a.put (b':={b with lk:=apart b.lk k}) rfl S.k.a.ok).hb
  refine jlu S.k.o _ (by rw[List.length_set]) hH λx hx=> ?_
  rw[<-jll lp]
  refine jfm je6 (S.k.push x hx).o rfl (by omega) ?_ (by rw[List.length_set];exact Nat.le_refl _)
  have:=done x hx
  rw[q] at this
  exact this
end
theorem jw0{w:Str}{k:Nat}(hw:w.length<=8)(hk:k<=12)(ρ:Ro)(h:MH)(e1:ρ[10]?=some (some (.str w)))(e2:ρ[8]?=some (some (.int (k:Nat)))):(mBin dAdd (mBin dAdd (mVar 10) (mC (.str " "))) (mFn fStr (ja2 (mVar 8) mNil))) ρ h= .ok (.str (jc9 w k)) h:=by
 have lg:(k:Nat).log2<1920:=Nat.lt_of_le_of_lt (Nat.log2_le_self k) (by omega)
 have lw:(numS (k:Int)).length<=2:=(w_of (n:=k) (by omega) (by omega)).1
 have l1:(Str.ofString " ").length=1:=by decide+kernel
 have la:(w++Str.ofString " ").length=w.length+1:=by
  have:=l1
  simp only[Str.length] at this ⊢
  simp[Str.cps_append,this]
 have tr:w++Str.ofString " "++numS (k:Int)=jc9 w k:=by rw[e32];exact row1 _ _
 have c1:w.length+(Str.ofString " ").length<=16777216:=by omega
 have c2:(w++Str.ofString " ").length+(numS (k:Int)).length<=16777216:=by omega
 simp[e1,e2,lg,c1,c2,tr]
theorem comp6(c:Nat)(h:MH):compLoop (jac 0) tYes (mBin dEq (mVar 1) (mVar 0)) [none,some (.int (c:Nat))] (rng 0 6) h= .ok (tl6 c) h:=by
 have r:rng 0 6=[.int 0,.int 1,.int 2,.int 3,.int 4,.int 5]:=rfl
 have z:∀j:Nat,decide ((c:Int)=(j:Int))=decide (c=j):=λj=>by
  by_cases q:c=j
  ·rw[decide_eq_true q,decide_eq_true (by omega)]
  ·rw[decide_eq_false q,decide_eq_false (by omega)]
 have z0:=z 0
 have z1:=z 1
 have z2:=z 2
 have z3:=z 3
 have z4:=z 4
 have z5:=z 5
 rw[r]
 simp[compLoop,tl6]
 simp at z0 z1 z2 z3 z4 z5
 simp[z0,z1,z2,z3,z4,z5]
theorem eq_tl6(c:Nat)(h:MH):dEq (.lst (tl6 c)) (.lst (tl6 c)) h= .ok (.bl true) h:=by
 have hd:(D.lst (tl6 c)).dat=true:=jxb (n:=1) (jt0 (n:=0) λd md=>by
  simp[tl6] at md
  rcases md with rfl | rfl | rfl | rfl | rfl | rfl<;>simp[D.py,D.deep]) (by omega)
 have he:=dat_eq hd
 generalize tl6 c=T at*
 simp[hd,he]
def qT:MS:=(sSeq (sIf (tB (mBin dNe (mVar 12) (jb5 (jd3 1 [11] (ji0 (ja2 (mC (.int 6)) mNil)) (jac 0) tYes (mBin dEq (mVar 1) (mVar 0))))))
      (sRet (mC (.bl false)))
      jas)
      (sSeq (sIf (tAnd (tB (mBin dEq (mVar 11) (mC (.int 6)))) (tB (mBin dEq (mVar 10) (mC (.str "turn")))))
      (sSeq (sAsg (jar z_Qy (ja2 (mVar 5) (ja2 (mVar 8) mNil))) (jac 5))
      (sIf (tB (mBin dNe (mVar 13) (mBin dIx (jb5 (jc8 (ja2 (mC (.str "open")) (ja2 (mC (.str "shut")) mNil)))) (mFn fInt (ja2 (mBin (dIn false) (mVar 8) (mVar 5)) mNil)))))
      (sRet (mC (.bl false)))
      jas))
      jas)
      (sSeq (sIf (tAnd (tB (mBin dEq (mVar 11) (mC (.int 6)))) (tB (mBin dNe (mVar 10) (mC (.str "turn")))))
      (sSeq (sAsg (jar z_Qy (ja2 (mVar 6) (ja2 (mVar 8) mNil))) (jac 6))
      (sIf (tB (mBin dNe (mVar 13) (mC (.str "ok"))))
      (sRet (mC (.bl false)))
      jas))
      jas)
      (sIf (tNot (tTru (jar z_Xo (ja2 (mVar 4) (ja2 (mVar 3) (ja2 (mVar 5) (ja2 (mVar 6) (ja2 (mBin dDiv (mVar 7) (mC (.int 36))) mNil))))))))
      (sRet (mC (.bl false)))
      jas))))
abbrev bb(n:Nat)(sws:List Sw)(st lk:Nat):Bd:=⟨n,sws,st,lk,[],0⟩
abbrev env(ns:List Int)(n:Nat)(sws:List Sw)(d st lk:Nat)(v:Option D)(x8 x9 x10 x11 x12 x13:Option D):Ro:=[some (.arg ns),some (.int (n:Nat)),some (.int (sws.length:Nat)),some (.lst (sws.map Sw.l)),some (.ref d),some (.lst (iL (ja6 st))),some (.lst (iL (ja6 lk))),v,x8,x9,x10,x11,x12,x13]
section
variable {ns : List Int} {n : Nat} {sws : List Sw} {d p r st lk : Nat} {h : MH} (v : Int) {k : Nat} (x9 : Option D)
theorem jmu(c:Nat)(x0 x1 x2 x3 x4 x5 x6 x7 x8 x10 x13:Option D):(sIf (tB (mBin dNe (mVar 12) (jb5 (jd3 1 [11] (ji0 (ja2 (mC (.int 6)) mNil)) (jac 0) tYes (mBin dEq (mVar 1) (mVar 0)))))) (sRet (mC (.bl false))) jas) [x0,x1,x2,x3,x4,x5,x6,x7,x8,x9,x10,some (.int (c:Nat)),some (.lst (tl6 c)),x13] h= .nx [x0,x1,x2,x3,x4,x5,x6,x7,x8,x9,x10,some (.int (c:Nat)),some (.lst (tl6 c)),x13] h:=by
 have e1:=comp6 c h
 have e2:=eq_tl6 c h
 generalize tl6 c=T at*
 have lc:jd3 1 [11] (ji0 (ja2 (mC (.int 6)) mNil)) (jac 0) tYes (mBin dEq (mVar 1) (mVar 0)) [x0,x1,x2,x3,x4,x5,x6,x7,x8,x9,x10,some (.int (c:Nat)),some (.lst T),x13] h= .ok T h:=by
  simp[-mBin,caps,e1]
 simp[-dEq, -jen,lc,e2]
theorem jhx(S:St h d p r (bb n sws st lk))(x8 x10 x11 x12 x13:Option D):(sIf (tNot (tTru (jar z_Xo (ja2 (mVar 4) (ja2 (mVar 3) (ja2 (mVar 5) (ja2 (mVar 6) (ja2 (mBin dDiv (mVar 7) (mC (.int 36))) mNil)))))))) (sRet (mC (.bl false))) jas) (env ns n sws d st lk (some (.int v)) x8 x9 x10 x11 x12 x13) h= .nx (env ns n sws d st lk (some (.int v)) x8 x9 x10 x11 x12 x13) h:=by
 have e:=jwx S.k S.s S.l S.f (v / 36)
 have e:z_Xo [.ref d,.lst (sws.map Sw.l),.lst (iL (ja6 st)),.lst (iL (ja6 lk)),.int (v / 36)] h= .ok (.bl true) h:=e
 unfold env
 generalize iL (ja6 st)=A at*
 generalize iL (ja6 lk)=B at*
 generalize sws.map Sw.l=V at*
 simp[e]
theorem jmq(S:St h d p r (bb n sws st lk)){c:Nat}(hc:c≠6)(w:Str)(x8 x13:Option D):qT (env ns n sws d st lk (some (.int v)) x8 x9 (some (.str w)) (some (.int (c:Nat))) (some (.lst (tl6 c))) x13) h= .nx (env ns n sws d st lk (some (.int v)) x8 x9 (some (.str w)) (some (.int (c:Nat))) (some (.lst (tl6 c))) x13) h:=by
 have q:dEq (.int (c:Nat)) (.int 6) h= .ok (.bl false) h:=by
  have:¬(c:Int)=6:=by omega
  simp[this]
 unfold qT
 refine(jae (jmu x9 c _ _ _ _ _ _ _ _ _ _ _)).trans ?_
 refine(jae (ρ':=env ns n sws d st lk (some (.int v)) x8 x9 (some (.str w)) (some (.int (c:Nat))) (some (.lst (tl6 c))) x13) (h':=h) ?_).trans ?_
 ·unfold env
  generalize iL (ja6 st)=A at*
  generalize iL (ja6 lk)=B at*
  generalize sws.map Sw.l=V at*
  simp[-dEq,q]
 refine(jae (ρ':=env ns n sws d st lk (some (.int v)) x8 x9 (some (.str w)) (some (.int (c:Nat))) (some (.lst (tl6 c))) x13) (h':=h) ?_).trans ?_
 ·unfold env
  generalize iL (ja6 st)=A at*
  generalize iL (ja6 lk)=B at*
  generalize sws.map Sw.l=V at*
  simp[-dEq,q]
 exact jhx v x9 S _ _ _ _ _
theorem jsn(ok:jbr n sws)(hs:st<2^sws.length)(hk:k<sws.length){H:MH}(S:St H d p r (bb n sws (st^^^2^k) lk)):qT (env ns n sws d st lk (some (.int v)) (some (.int (k:Nat))) x9 (some (.str "turn")) (some (.int (6:Nat))) (some (.lst (tl6 6))) (some (.str (if st.testBit k then "open" else "shut")))) H= .nx (env ns n sws d (st^^^2^k) lk (some (.int v)) (some (.int (k:Nat))) x9 (some (.str "turn")) (some (.int (6:Nat))) (some (.lst (tl6 6))) (some (.str (if st.testBit k then "open" else "shut")))) H:=by
 have e1:=jj3 ok S.k.a.hb hs hk
 have e2:=jie (ja6 (st^^^2^k)) k false H
 have tb:(st^^^2^k).testBit k= !st.testBit k:=by
  rw[Nat.testBit_xor,jbd];simp
 simp only[jc1,tb,Bool.false_eq_true,if_false] at e2
 have d6:dEq (.int (6:Nat)) (.int 6) H= .ok (.bl true) H:=by simp
 have dt:dEq (.str (Str.ofString "turn")) (.str (Str.ofString "turn")) H= .ok (.bl true) H:=by simp
 unfold qT
 refine(jae (jmu x9 6 _ _ _ _ _ _ _ _ _ _ _)).trans ?_
 refine(jae (ρ':=env ns n sws d (st^^^2^k) lk (some (.int v)) (some (.int (k:Nat))) x9 (some (.str "turn")) (some (.int (6:Nat))) (some (.lst (tl6 6))) (some (.str (if st.testBit k then "open" else "shut")))) (h':=H) ?_).trans ?_
 ·unfold env
  generalize iL (ja6 (st^^^2^k))=X at*
  generalize iL (ja6 st)=A at*
  generalize iL (ja6 lk)=B at*
  generalize sws.map Sw.l=V at*
  cases q:st.testBit k<;>rw[q] at e2<;>simp[-dIn,e1,e2]
 refine(jae (ρ':=env ns n sws d (st^^^2^k) lk (some (.int v)) (some (.int (k:Nat))) x9 (some (.str "turn")) (some (.int (6:Nat))) (some (.lst (tl6 6))) (some (.str (if st.testBit k then "open" else "shut")))) (h':=H) ?_).trans ?_
 ·unfold env
  generalize iL (ja6 (st^^^2^k))=X at*
  generalize iL (ja6 lk)=B at*
  generalize sws.map Sw.l=V at*
  simp
 exact jhx v x9 S _ _ _ _ _
theorem jky(ok:jbr n sws)(hl:lk<2^sws.length)(hk:k<sws.length){w:Str}(hw:¬w=Str.ofString "turn"){H:MH}(S:St H d p r (bb n sws st (lk^^^2^k))):qT (env ns n sws d st lk (some (.int v)) (some (.int (k:Nat))) x9 (some (.str w)) (some (.int (6:Nat))) (some (.lst (tl6 6))) (some (.str "ok"))) H= .nx (env ns n sws d st (lk^^^2^k) (some (.int v)) (some (.int (k:Nat))) x9 (some (.str w)) (some (.int (6:Nat))) (some (.lst (tl6 6))) (some (.str "ok"))) H:=by
 have e1:=jj3 ok S.k.a.hb hl hk
 unfold qT
 refine(jae (jmu x9 6 _ _ _ _ _ _ _ _ _ _ _)).trans ?_
 refine(jae (ρ':=env ns n sws d st lk (some (.int v)) (some (.int (k:Nat))) x9 (some (.str w)) (some (.int (6:Nat))) (some (.lst (tl6 6))) (some (.str "ok"))) (h':=H) ?_).trans ?_
 ·unfold env
  generalize iL (ja6 st)=A at*
  generalize iL (ja6 lk)=B at*
  generalize sws.map Sw.l=V at*
  simp[hw]
 refine(jae (ρ':=env ns n sws d st (lk^^^2^k) (some (.int v)) (some (.int (k:Nat))) x9 (some (.str w)) (some (.int (6:Nat))) (some (.lst (tl6 6))) (some (.str "ok"))) (h':=H) ?_).trans ?_
 ·unfold env
  generalize iL (ja6 (lk^^^2^k))=X at*
  generalize iL (ja6 st)=A at*
  generalize iL (ja6 lk)=B at*
  generalize sws.map Sw.l=V at*
  simp[hw,e1]
 exact jhx v x9 S _ _ _ _ _
end
section
variable {ns : List Int} {n : Nat} {sws : List Sw} {d p r st lk : Nat} {h : MH}
def qW:MS:=(sSeq (sAsg (jar z_Qk (ja2 (mVar 3) (ja2 (mVar 5) (ja2 (mVar 6) (ja2 (mVar 8) mNil))))) (jac 11))
      (sSeq (sIf (tB (mBin dNe (mVar 10) (mC (.str "turn"))))
      (sAsg (jar z_Qd (ja2 (mVar 3) (ja2 (mVar 5) (ja2 (mVar 6) (ja2 (mVar 8) (ja2 (mVar 9) mNil)))))) (jac 11))
      jas)
      (sSeq (sAsg (jar z_Xj (ja2 (mVar 4) (ja2 (mBin dAdd (mBin dAdd (mVar 10) (mC (.str " "))) (mFn fStr (ja2 (mVar 8) mNil))) mNil))) (gTup [12,13])) qT)))
theorem jzi{c:String}:cI (some c)≠6:=by
 simp only[cI]
 repeat' split
 all_goals decide
theorem jf5{w:Str}{k:Nat}(hw:w.length<=8)(hk:k<=12){H:MH}{T:List D}{a:Str}(v:Int)(x9 x11 x12 x13:Option D)(e:z_Xj [.ref d,.str (jc9 w k)] h= .ok (.tup [.lst T,.str a]) H):(sAsg (jar z_Xj (ja2 (mVar 4) (ja2 (mBin dAdd (mBin dAdd (mVar 10) (mC (.str " "))) (mFn fStr (ja2 (mVar 8) mNil))) mNil))) (gTup [12,13])) (env ns n sws d st lk (some (.int v)) (some (.int (k:Nat))) x9 (some (.str w)) x11 x12 x13) h= .nx (env ns n sws d st lk (some (.int v)) (some (.int (k:Nat))) x9 (some (.str w)) x11 (some (.lst T)) (some (.str a))) H:=by
 have e1:=jw0 hw hk (env ns n sws d st lk (some (.int v)) (some (.int (k:Nat))) x9 (some (.str w)) x11 x12 x13) h rfl rfl
 unfold env at*
 generalize iL (ja6 st)=A at*
 generalize iL (ja6 lk)=B at*
 generalize sws.map Sw.l=V at*
 simp only[sAsg,jar,ja2,e1,mVar,List.getElem?_cons_succ,List.getElem?_cons_zero,jde,mNil,e,jdr]
 simp
theorem jsy(S:St h d p r (bb n sws st lk)){k:Nat}(hk:k<sws.length)(v:Int)(put:Bool)(w:Str)(hw:w=Str.ofString "turn" \/ (w=Str.ofString "lock" /\ put=true) \/ (w=Str.ofString "unlock" /\ put=false))(x11 x12 x13:Option D):∃(H:MH) (st' lk':Nat) (y11 y12 y13:Option D),St H d p r (bb n sws st' lk') /\ qW (env ns n sws d st lk (some (.int v)) (some (.int (k:Nat))) (some (.bl put)) (some (.str w)) x11 x12 x13) h= .nx (env ns n sws d st' lk' (some (.int v)) (some (.int (k:Nat))) (some (.bl put)) (some (.str w)) y11 y12 y13) H:=by
 have ok:jbr n sws:=S.k.a.ok
 have h12:=ok.2.2.1
 obtain⟨s,hs⟩:∃s,sws[k]?=some s:=⟨_,List.getElem?_eq_getElem hk⟩
 have dt:=jp7 (b:=bb n sws st lk) hs ok rfl S.s S.k.a.hb
 have dl:=jos (b:=bb n sws st lk) (h:=h) hs rfl put
 have pk:2^k<2^sws.length:=Nat.pow_lt_pow_right (by decide) hk
 have dt:z_Qk [.lst (sws.map Sw.l),.lst (iL (ja6 st)),.lst (iL (ja6 lk)),.int (k:Nat)] h= .ok (.int (cI (jf0 (bb n sws st lk) k s):Nat)) h:=dt
 have dl:z_Qd [.lst (sws.map Sw.l),.lst (iL (ja6 st)),.lst (iL (ja6 lk)),.int (k:Nat),.bl put] h= .ok (.int (cI (if put then jg9 (bb n sws st lk) k s else jcy (bb n sws st lk) k):Nat)) h:=dl
 have s1:∀B:MS,sSeq (sAsg (jar z_Qk (ja2 (mVar 3) (ja2 (mVar 5) (ja2 (mVar 6) (ja2 (mVar 8) mNil))))) (jac 11)) B (env ns n sws d st lk (some (.int v)) (some (.int (k:Nat))) (some (.bl put)) (some (.str w)) x11 x12 x13) h=B (env ns n sws d st lk (some (.int v)) (some (.int (k:Nat))) (some (.bl put)) (some (.str w)) (some (.int (cI (jf0 (bb n sws st lk) k s):Nat))) x12 x13) h:=λB=>by
  refine jae ?_
  unfold env
  generalize iL (ja6 st)=A at*
  generalize iL (ja6 lk)=B at*
  generalize sws.map Sw.l=V at*
  simp[dt]
 unfold qW
 rw[s1]
 obtain⟨d1,d2,d3,d4,d5,d6⟩:=dn1
 rcases hw with rfl | ⟨rfl,rfl⟩ | ⟨rfl,rfl⟩
 ·rw[jae (ρ':=env ns n sws d st lk (some (.int v)) (some (.int (k:Nat))) (some (.bl put)) (some (.str (Str.ofString "turn"))) (some (.int (cI (jf0 (bb n sws st lk) k s):Nat))) x12 x13) (h':=h) (by
   unfold env
   generalize iL (ja6 st)=A at*
   generalize iL (ja6 lk)=B at*
   generalize sws.map Sw.l=V at*
   simp)]
  have sd:=js8 S (k:=k) hs
  cases q:jf0 (bb n sws st lk) k s with
  | some c=>
   rw[q] at sd
   refine⟨h,st,lk,_,_,_,S,(jae (jf5 jg4.ln (by omega) v _ _ _ _ sd)).trans (jmq v _ S jzi _ _ _)⟩
  | none=>
   rw[q] at sd
   have sf:jeg (st^^^2^k) sws=true:=by
    unfold jf0 at q
    repeat' split at q
    all_goals first | (cases q;done) | skip
    assumption
   have S2:=S.put (b':=bb n sws (st^^^2^k) lk) rfl rfl rfl (Nat.xor_lt_two_pow S.s pk) S.l sf
   exact⟨_,_,_,_,_,_,S2,(jae (jf5 jg4.ln (by omega) v _ _ _ _ sd)).trans (jsn v _ ok S.s hk S2)⟩
 ·have e2:(sIf (tB (mBin dNe (mVar 10) (mC (.str "turn")))) (sAsg (jar z_Qd (ja2 (mVar 3) (ja2 (mVar 5) (ja2 (mVar 6) (ja2 (mVar 8) (ja2 (mVar 9) mNil)))))) (jac 11)) jas) (env ns n sws d st lk (some (.int v)) (some (.int (k:Nat))) (some (.bl true)) (some (.str (Str.ofString "lock"))) (some (.int (cI (jf0 (bb n sws st lk) k s):Nat))) x12 x13) h= .nx (env ns n sws d st lk (some (.int v)) (some (.int (k:Nat))) (some (.bl true)) (some (.str (Str.ofString "lock"))) (some (.int (cI (jg9 (bb n sws st lk) k s):Nat))) x12 x13) h:=by
   simp only[if_true] at dl
   unfold env
   generalize iL (ja6 st)=A at*
   generalize iL (ja6 lk)=B at*
   generalize sws.map Sw.l=V at*
   simp[d1,dl]
  rw[jae e2]
  have sd:=jpu S (k:=k) hs
  cases q:jg9 (bb n sws st lk) k s with
  | some c=>
   rw[q] at sd
   exact⟨h,st,lk,_,_,_,S,(jae (jf5 jfz.ln (by omega) v _ _ _ _ sd)).trans (jmq v _ S jzi _ _ _)⟩
  | none=>
   rw[q] at sd
   have nl:lk.testBit k=false:=by
    unfold jg9 at q
    repeat' split at q
    all_goals first | (cases q;done) | skip
    rename_i z
    simpa using z
   have ex:lk|||2^k=lk^^^2^k:=Nat.eq_of_testBit_eq λi=>by
    rw[Nat.testBit_or,Nat.testBit_xor,jbd]
    by_cases z:k=i
    ·subst z;simp[nl]
    ·simp[z]
   have sd:z_Xj [.ref d,.str (jc9 "lock" k)] h= .ok (.tup [.lst (tl6 6),.str "ok"]) (h.set p ((bb n sws st (lk^^^2^k)).cell r)):=by rw[<-ex];exact sd
   have S2:=S.put (b':=bb n sws st (lk^^^2^k)) rfl rfl rfl S.s (Nat.xor_lt_two_pow S.l pk) S.f
   exact⟨_,_,_,_,_,_,S2,(jae (jf5 jfz.ln (by omega) v _ _ _ _ sd)).trans (jky v _ ok S.l hk d1 S2)⟩
 ·have e2:(sIf (tB (mBin dNe (mVar 10) (mC (.str "turn")))) (sAsg (jar z_Qd (ja2 (mVar 3) (ja2 (mVar 5) (ja2 (mVar 6) (ja2 (mVar 8) (ja2 (mVar 9) mNil)))))) (jac 11)) jas) (env ns n sws d st lk (some (.int v)) (some (.int (k:Nat))) (some (.bl false)) (some (.str (Str.ofString "unlock"))) (some (.int (cI (jf0 (bb n sws st lk) k s):Nat))) x12 x13) h= .nx (env ns n sws d st lk (some (.int v)) (some (.int (k:Nat))) (some (.bl false)) (some (.str (Str.ofString "unlock"))) (some (.int (cI (jcy (bb n sws st lk) k):Nat))) x12 x13) h:=by
   simp only[Bool.false_eq_true,if_false] at dl
   unfold env
   generalize iL (ja6 st)=A at*
   generalize iL (ja6 lk)=B at*
   generalize sws.map Sw.l=V at*
   simp[d2,dl]
  rw[jae e2]
  have sd:=jmz S (k:=k) hk
  cases q:jcy (bb n sws st lk) k with
  | some c=>
   rw[q] at sd
   exact⟨h,st,lk,_,_,_,S,(jae (jf5 je6.ln (by omega) v _ _ _ _ sd)).trans (jmq v _ S jzi _ _ _)⟩
  | none=>
   rw[q] at sd
   have nl:lk.testBit k=true:=by
    unfold jcy at q
    repeat' split at q
    all_goals first | (cases q;done) | skip
    rename_i z _
    simpa using z
   have ex:apart lk k=lk^^^2^k:=jxd nl
   have sd:z_Xj [.ref d,.str (jc9 "unlock" k)] h= .ok (.tup [.lst (tl6 6),.str "ok"]) (h.set p ((bb n sws st (lk^^^2^k)).cell r)):=by rw[<-ex];exact sd
   have S2:=S.put (b':=bb n sws st (lk^^^2^k)) rfl rfl rfl S.s (Nat.xor_lt_two_pow S.l pk) S.f
   exact⟨_,_,_,_,_,_,S2,(jae (jf5 je6.ln (by omega) v _ _ _ _ sd)).trans (jky v _ ok S.l hk d2 S2)⟩
end
section
variable {ns : List Int} {n : Nat} {sws : List Sw} {d p r st lk : Nat} {h : MH}
theorem jrk(S:St h d p r (bb n sws st lk))(h0:0<sws.length)(v:Int)(x8 x9 x10 x11 x12 x13:Option D):∃(H:MH) (st' lk':Nat) (y8 y9 y10 y11 y12 y13:Option D),St H d p r (bb n sws st' lk') /\ jgb (env ns n sws d st lk (some (.int v)) x8 x9 x10 x11 x12 x13) h= .nx (env ns n sws d st' lk' (some (.int v)) y8 y9 y10 y11 y12 y13) H:=by
 have ok:jbr n sws:=S.k.a.ok
 have h12:=ok.2.2.1
 have hc:(0:Int)<(sws.length:Int):=by omega
 obtain⟨k,ek⟩:=jqc (x:=v / 3 % (sws.length:Int)) (Int.emod_nonneg _ (by omega))
 have lk':k<sws.length:=by have:=Int.emod_lt_of_pos (v / 3) (b:=(sws.length:Int)) hc;omega
 have eb:jgb=sSeq (sIf (tB (mBin dEq (mVar 2) (mC (.int 0)))) jug jas)
   (sSeq (sAsg (mBin dMod (mBin dDiv (mVar 7) (mC (.int 3))) (mVar 2)) (jac 8))
   (sSeq (sAsg (mBin (dIn true) (mVar 8) (mVar 6)) (jac 9))
   (sSeq (sIf (tB (mBin dEq (mBin dMod (mBin dDiv (mBin dDiv (mVar 7) (mC (.int 3))) (mVar 2)) (mC (.int 4))) (mC (.int 0)))) (sAsg (js3 (mVar 9)) (jac 9)) jas)
   (sSeq (sAsg (mBin dIx (jb5 (jc8 (ja2 (mC (.str "turn")) (ja2 (mC (.str "turn")) (ja2 (mBin dIx (jb5 (jc8 (ja2 (mC (.str "unlock")) (ja2 (mC (.str "lock")) mNil)))) (mFn fInt (ja2 (mVar 9) mNil))) mNil))))) (mBin dMod (mVar 7) (mC (.int 3)))) (jac 10)) qW)))):=rfl
 have c0:dEq (.int (sws.length:Nat)) (.int 0) h= .ok (.bl false) h:=by
  have:¬(sws.length:Int)=0:=by omega
  simp only[dEq,this,decide_false]
 have c1:dMod (.int (v / 3)) (.int (sws.length:Nat)) h= .ok (.int (k:Nat)) h:=by
  rw[<-ek]
  simp only[dMod,jlc,chk,hc,if_true]
 have c2:dDiv (.int (v / 3)) (.int (sws.length:Nat)) h= .ok (.int (v / 3 / (sws.length:Int))) h:=by
  have:(0:Int)<(sws.length:Int) /\ (sws.length:Int)<1073741824:=by omega
  simp only[dDiv,jlc,chk,this,and_self,if_true]
 have c3:dDiv (.int v) (.int 3) h= .ok (.int (v / 3)) h:=by simp
 have e9:=jie (ja6 lk) k true h
 simp only[if_true] at e9
 obtain⟨put,ep⟩:∃put:Bool,∀B:MS,sSeq (sAsg (mBin (dIn true) (mVar 8) (mVar 6)) (jac 9)) (sSeq (sIf (tB (mBin dEq (mBin dMod (mBin dDiv (mBin dDiv (mVar 7) (mC (.int 3))) (mVar 2)) (mC (.int 4))) (mC (.int 0)))) (sAsg (js3 (mVar 9)) (jac 9)) jas) B) (env ns n sws d st lk (some (.int v)) (some (.int (k:Nat))) x9 x10 x11 x12 x13) h=B (env ns n sws d st lk (some (.int v)) (some (.int (k:Nat))) (some (.bl put)) x10 x11 x12 x13) h:=by
  generalize decide (k∈ja6 lk)=tk at*
  unfold env
  generalize iL (ja6 st)=A at*
  generalize iL (ja6 lk)=L at*
  generalize sws.map Sw.l=V at*
  generalize (sws.length:Int)=c at*
  by_cases q:v / 3 / c % 4=0
  ·refine⟨tk,λB=> ?_⟩
   refine(jae (ρ':=[some (.arg ns),some (.int (n:Nat)),some (.int c),some (.lst V),some (.ref d),some (.lst A),some (.lst L),some (.int v),some (.int (k:Nat)),some (.bl (!tk)),x10,x11,x12,x13]) (h':=h) (by simp[-dIn,e9])).trans ?_
   refine jae ?_
   simp[-dDiv,c3,c2,q]
  ·refine⟨!tk,λB=> ?_⟩
   refine(jae (ρ':=[some (.arg ns),some (.int (n:Nat)),some (.int c),some (.lst V),some (.ref d),some (.lst A),some (.lst L),some (.int v),some (.int (k:Nat)),some (.bl (!tk)),x10,x11,x12,x13]) (h':=h) (by simp[-dIn,e9])).trans ?_
   refine jae ?_
   simp[-dDiv,c3,c2,q]
 obtain⟨w,hw,ew⟩:∃w:Str,(w=Str.ofString "turn" \/ (w=Str.ofString "lock" /\ put=true) \/ (w=Str.ofString "unlock" /\ put=false)) /\ (sAsg (mBin dIx (jb5 (jc8 (ja2 (mC (.str "turn")) (ja2 (mC (.str "turn")) (ja2 (mBin dIx (jb5 (jc8 (ja2 (mC (.str "unlock")) (ja2 (mC (.str "lock")) mNil)))) (mFn fInt (ja2 (mVar 9) mNil))) mNil))))) (mBin dMod (mVar 7) (mC (.int 3)))) (jac 10)) (env ns n sws d st lk (some (.int v)) (some (.int (k:Nat))) (some (.bl put)) x10 x11 x12 x13) h= .nx (env ns n sws d st lk (some (.int v)) (some (.int (k:Nat))) (some (.bl put)) (some (.str w)) x11 x12 x13) h:=by
  unfold env
  generalize iL (ja6 st)=A at*
  generalize iL (ja6 lk)=L at*
  generalize sws.map Sw.l=V at*
  generalize (sws.length:Int)=c at*
  have m3:v % 3=0 \/ v % 3=1 \/ v % 3=2:=by omega
  rcases m3 with m3 | m3 | m3
  ·exact⟨Str.ofString "turn",.inl rfl,by cases put<;>simp[m3]⟩
  ·exact⟨Str.ofString "turn",.inl rfl,by cases put<;>simp[m3]⟩
  ·cases put with
   | true=>exact⟨Str.ofString "lock",.inr (.inl ⟨rfl,rfl⟩),by simp[m3]⟩
   | false=>exact⟨Str.ofString "unlock",.inr (.inr ⟨rfl,rfl⟩),by simp[m3]⟩
 obtain⟨H,st',lk2,y11,y12,y13,S2,e⟩:=jsy (ns:=ns) S lk' v put w hw x11 x12 x13
 refine⟨H,st',lk2,some (.int (k:Nat)),some (.bl put),some (.str w),y11,y12,y13,S2,?_⟩
 rw[eb]
 refine(jae (ρ':=env ns n sws d st lk (some (.int v)) x8 x9 x10 x11 x12 x13) (h':=h) ?_).trans ?_
 ·unfold env
  generalize iL (ja6 st)=A at*
  generalize iL (ja6 lk)=L at*
  generalize sws.map Sw.l=V at*
  generalize (sws.length:Int)=c at*
  simp[-dEq,c0]
 refine(jae (ρ':=env ns n sws d st lk (some (.int v)) (some (.int (k:Nat))) x9 x10 x11 x12 x13) (h':=h) ?_).trans ?_
 ·unfold env
  generalize iL (ja6 st)=A at*
  generalize iL (ja6 lk)=L at*
  generalize sws.map Sw.l=V at*
  generalize (sws.length:Int)=c at*
  simp[-dMod, -dDiv,c3,c1]
 rw[ep,jae ew]
 exact e
theorem jux(vs:List Int):∀{st lk:Nat} {h:MH} (x7 x8 x9 x10 x11 x12 x13:Option D),St h d p r (bb n sws st lk)->∃(H:MH) (st' lk':Nat) (y7 y8 y9 y10 y11 y12 y13:Option D),St H d p r (bb n sws st' lk') /\ jdf (jac 7) jgb (vs.map D.int) (env ns n sws d st lk x7 x8 x9 x10 x11 x12 x13) h= .nx (env ns n sws d st' lk' y7 y8 y9 y10 y11 y12 y13) H:=by
 induction vs with
 | nil=>exact λx7 x8 x9 x10 x11 x12 x13 S=>⟨_,_,_,_,_,_,_,_,_,_,S,rfl⟩
 | cons v vs ih=>
  intro st lk h x7 x8 x9 x10 x11 x12 x13 S
  have g0:jac 7 (.int v) (env ns n sws d st lk x7 x8 x9 x10 x11 x12 x13) h= .nx (env ns n sws d st lk (some (.int v)) x8 x9 x10 x11 x12 x13) h:=rfl
  by_cases hz:sws.length=0
  ·obtain⟨H,st',lk',y7,y8,y9,y10,y11,y12,y13,S2,e⟩:=ih (some (.int v)) x8 x9 x10 x11 x12 x13 S
   refine⟨H,st',lk',y7,y8,y9,y10,y11,y12,y13,S2,?_⟩
   have e1:jgb (env ns n sws d st lk (some (.int v)) x8 x9 x10 x11 x12 x13) h= .ct (env ns n sws d st lk (some (.int v)) x8 x9 x10 x11 x12 x13) h:=by
    have c0:dEq (.int (sws.length:Nat)) (.int 0) h= .ok (.bl true) h:=by rw[hz];rfl
    unfold jgb env
    generalize iL (ja6 st)=A at*
    generalize iL (ja6 lk)=L at*
    generalize sws.map Sw.l=V at*
    generalize (sws.length:Int)=c at*
    simp only[sSeq,sIf,tB,mBin,mVar,mC,List.getElem?_cons_succ,List.getElem?_cons_zero,jde,c0,jdr,if_true,jug]
   rw[List.map_cons]
   simp only[jdf,g0,e1,e]
  ·obtain⟨H1,s1,l1,z8,z9,z10,z11,z12,z13,S1,e1⟩:=jrk (ns:=ns) S (by omega) v x8 x9 x10 x11 x12 x13
   obtain⟨H,st',lk',y7,y8,y9,y10,y11,y12,y13,S2,e⟩:=ih (some (.int v)) z8 z9 z10 z11 z12 z13 S1
   refine⟨H,st',lk',y7,y8,y9,y10,y11,y12,y13,S2,?_⟩
   rw[List.map_cons]
   simp only[jdf,g0,e1,e]
end
theorem jrx(ns:List Int)(n:Nat)(h1:1<=n)(h2:n<=10)(h:MH):∀(m i:Nat),∃sws:List Sw,sws.length=m /\ (∀s∈sws,s.ok n) /\ compLoop (jac 0) tYes (jar z_X0 (ja2 (mBin dDiv (jar z_Qq (ja2 (mVar 2) (ja2 (mBin dAdd (mC (.int 1)) (mVar 0)) mNil))) (mC (.int 7))) (ja2 (mVar 1) mNil))) [none,some (.int (n:Nat)),some (.arg ns)] ((List.range' i m).map λk:Nat=>D.int k) h= .ok (sws.map Sw.l) h
 | 0,i=>⟨[],rfl,λs m=>(nomatch m),rfl⟩
 | m+1,i=>by
  obtain⟨sws,l,ok,e⟩:=jrx ns n h1 h2 h m (i+1)
  obtain⟨v,ev⟩:=jwa ns (1+i) h
  obtain⟨s,sok,es⟩:=jw6 (v / 7) n h1 h2 h
  refine⟨s::sws,by simp[l],λw mw=> ?_,?_⟩
  ·rcases List.mem_cons.mp mw with rfl | mw
   ·exact sok
   ·exact ok w mw
  ·have er:(List.range' i (m+1)).map (λk:Nat=>D.int k)=D.int (i:Nat)::(List.range' (i+1) m).map (λk:Nat=>D.int k):=by simp[List.range'_succ]
   have ei:(1:Int)+(i:Int)=((1+i:Nat):Int):=by omega
   rw[er]
   generalize (List.range' (i+1) m).map (λk:Nat=>D.int k)=T at*
   rw[List.map_cons]
   generalize sws.map Sw.l=V at*
   have ev:z_Qq [.arg ns,.int (1+(i:Int))] h= .ok (.int v) h:=by rw[ei];exact ev
   have m1:jar z_X0 (ja2 (mBin dDiv (jar z_Qq (ja2 (mVar 2) (ja2 (mBin dAdd (mC (.int 1)) (mVar 0)) mNil))) (mC (.int 7))) (ja2 (mVar 1) mNil)) [some (.int (i:Nat)),some (.int (n:Nat)),some (.arg ns)] h= .ok s.l h:=by
    simp[ev,es]
   have g0:jac 0 (.int (i:Nat)) [none,some (.int (n:Nat)),some (.arg ns)] h= .nx [some (.int (i:Nat)),some (.int (n:Nat)),some (.arg ns)] h:=rfl
   have t0:tYes [some (.int (i:Nat)),some (.int (n:Nat)),some (.arg ns)] h= .ok true h:=rfl
   simp only[compLoop,g0,t0,m1,e]
theorem law_true(ns:List Int)(_:ns.length<=63):∃h,jy6 [.arg ns] []= .ok (.bl true) h:=by
 obtain⟨v,ev⟩:=jwa ns 0 []
 have ev:z_Qq [.arg ns,.int 0] []= .ok (.int v) []:=ev
 obtain⟨n,en⟩:=jqc (x:=1+v % 10) (by omega)
 obtain⟨M,hM,eM⟩:∃M:Int,(M=9 \/ M=13) /\ dIx (.lst [.int 9,.int 9,.int 13]) (.int (v / 130 % 3)) []= .ok (.int M) []:=by
  have m3:v / 130 % 3=0 \/ v / 130 % 3=1 \/ v / 130 % 3=2:=by omega
  rcases m3 with m3 | m3 | m3
  ·exact⟨9,.inl rfl,by simp[m3]⟩
  ·exact⟨9,.inl rfl,by simp[m3]⟩
  ·exact⟨13,.inr rfl,by simp[m3]⟩
 obtain⟨c,ec⟩:=jqc (x:=v / 10 % M) (Int.emod_nonneg _ (by omega))
 have lc:c<=12:=by
  have:=Int.emod_lt_of_pos (v / 10) (b:=M) (by omega)
  omega
 have n1:1<=n:=by omega
 have n2:n<=10:=by omega
 obtain⟨sws,sl,sok,eS⟩:=jrx ns n n1 n2 [] c 0
 have ok:jbr n sws:=⟨n1,n2,by omega,sok⟩
 subst sl
 obtain⟨H,p,r,D0,eB⟩:=jya ok (h:=[dkC .non .non]) (λm _=>by simp[dkC,dkF,Cell.bnd,D.bnds,D.bnd]) (d:=0) rfl
 have S0:St H 0 p r (bb n sws 0 0):=by
  have o:=D0.o
  have a:=D0.a.o
  refine⟨D0,rfl,Nat.two_pow_pos _,Nat.two_pow_pos _,?_,λz=> ?_⟩
  ·show jeg 0 sws=true
   have:jh0 0 sws=0:=by
    have e:jdw 0 sws=[]:=by simp[jdw]
    unfold jh0
    rw[e]
    rfl
   unfold jeg jbs
   rw[this,Clo.jv7]
   simp
  ·rw[<-z,o] at a
   simp[dkC,Bd.cell] at a
 obtain⟨H2,st,lk,y7,y8,y9,y10,y11,y12,y13,S,eL⟩:=jux (ns:=ns) (cut ns none (some 63)) none none none none none none none S0
 have e9:=jwx S.k S.s S.l S.f 0
 have e9:z_Xo [.ref 0,.lst (sws.map Sw.l),.lst (iL (ja6 st)),.lst (iL (ja6 lk)),.int 0] H2= .ok (.bl true) H2:=e9
 have d0:z_Qf [.ref 0] [some (.ins "Desk" [])]= .ok .non [dkC .non .non]:=jum []
 have key:js7 [some (.arg ns),none,none,none,none,none,none,none,none,none,none,none,none,none] []= .rt (.bl true) H2:=by
  have b0:iL (ja6 0)=[]:=by
   have:ja6 0=[]:=by decide+kernel
   rw[this];rfl
  unfold js7
  unfold env at eL
  rw[b0] at eL
  have er:rng 0 sws.length=(List.range' 0 sws.length).map λk:Nat=>D.int k:=by
   rw[jsu,List.range_eq_range']
  have hc1:((sws.length:Nat):Int).natAbs<4611686018427387904:=by omega
  have lr:((List.range' 0 sws.length).map λk:Nat=>D.int k).length<16777216:=by simp;omega
  have cm:jd3 1 [1,0] (ji0 (ja2 (mVar 2) mNil)) (jac 0) tYes (jar z_X0 (ja2 (mBin dDiv (jar z_Qq (ja2 (mVar 2) (ja2 (mBin dAdd (mC (.int 1)) (mVar 0)) mNil))) (mC (.int 7))) (ja2 (mVar 1) mNil))) [some (.arg ns),some (.int (n:Nat)),some (.int (sws.length:Nat)),none,none,none,none,none,none,none,none,none,none,none] []= .ok (sws.map Sw.l) []:=by
   have li:ji0 (ja2 (mVar 2) mNil) [some (.arg ns),some (.int (n:Nat)),some (.int (sws.length:Nat)),none,none,none,none,none,none,none,none,none,none,none] []= .ok (none,(List.range' 0 sws.length).map λk:Nat=>D.int k) []:=by
    rw[<-er]
    simp only[ji0,ja2,mVar,mNil,List.getElem?_cons_succ,List.getElem?_cons_zero,jde,chk,hc1,if_true,Int.toNat_natCast]
   rw[jen,li]
   generalize (List.range' 0 sws.length).map (λk:Nat=>D.int k)=T at*
   generalize sws.map Sw.l=V at*
   simp only[jde,chk,lr,if_true,jdx]
   exact eS
  have M0:0<M:=by omega
  refine(jae (ρ':=[some (.arg ns),some (.int (n:Nat)),none,none,none,none,none,none,none,none,none,none,none,none]) (h':=[]) (by simp[ev,en])).trans ?_
  refine(jae (ρ':=[some (.arg ns),some (.int (n:Nat)),some (.int (sws.length:Nat)),none,none,none,none,none,none,none,none,none,none,none]) (h':=[]) (by simp[-dIx,ev,eM,M0,ec])).trans ?_
  refine(jae (ρ':=[some (.arg ns),some (.int (n:Nat)),some (.int (sws.length:Nat)),some (.lst (sws.map Sw.l)),none,none,none,none,none,none,none,none,none,none]) (h':=[]) ?_).trans ?_
  ·generalize sws.map Sw.l=V at*
   generalize (sws.length:Int)=L at*
   simp[-jen, -dDiv,cm]
  generalize sws.map Sw.l=V at*
  generalize iL (ja6 st)=A at*
  generalize iL (ja6 lk)=B at*
  generalize (sws.length:Int)=L at*
  refine(jae (ρ':=[some (.arg ns),some (.int (n:Nat)),some (.int L),some (.lst V),some (.ref 0),none,none,none,none,none,none,none,none,none]) (h':=[dkC .non .non]) (by simp[d0])).trans ?_
  refine(jae (ρ':=[some (.arg ns),some (.int (n:Nat)),some (.int L),some (.lst V),some (.ref 0),none,none,none,none,none,none,none,none,none]) (h':=H) (by simp[eB])).trans ?_
  refine(jae (ρ':=[some (.arg ns),some (.int (n:Nat)),some (.int L),some (.lst V),some (.ref 0),some (.lst []),none,none,none,none,none,none,none,none]) (h':=H) (by simp)).trans ?_
  refine(jae (ρ':=[some (.arg ns),some (.int (n:Nat)),some (.int L),some (.lst V),some (.ref 0),some (.lst []),some (.lst []),none,none,none,none,none,none,none]) (h':=H) (by simp)).trans ?_
  refine(jae (ρ':=[some (.arg ns),some (.int (n:Nat)),some (.int L),some (.lst V),some (.ref 0),some (.lst A),some (.lst B),y7,y8,y9,y10,y11,y12,y13]) (h':=H2) ?_).trans ?_
  ·have li:lIt (mSl (mVar 0) oNo (oSo (mC (.int 63)))) [some (.arg ns),some (.int (n:Nat)),some (.int L),some (.lst V),some (.ref 0),some (.lst []),some (.lst []),none,none,none,none,none,none,none] H= .ok (none,(cut ns none (some 63)).map D.int) H:=by
    have:cut (ns.map D.int) none (some 63)=(cut ns none (some 63)).map D.int:=by simp[cut,List.map_drop,List.map_take]
    simp[this]
   rw[jjc,li]
   simp only[jdr,jd4]
   exact eL
  simp[e9]
 have k2:js7 ([D.arg ns].map some++List.replicate (14 - [D.arg ns].length) none) []= .rt (.bl true) H2:=key
 unfold jy6 mFun
 rw[if_pos (show[D.arg ns].length=1 from rfl),k2]
 show ∃h,fin _ _ _=_
 unfold fin
 split
 ·exact⟨_,rfl⟩
 ·split<;>exact⟨_,rfl⟩
end My
namespace My
open PySem L2
def top(i:Nat):Stmt:=PySem.Challenge.pw_earthward_k42_whole_never_live_and_earth.main.body.getD i (.Pass ⟨0,0,0,0⟩)
abbrev s_Qv:Stmt:=jb0 (top 19) 0
abbrev s_Qg:Stmt:=jb0 (top 19) 1
abbrev s_Qr:Stmt:=jb0 (top 19) 2
abbrev s_Qj:Stmt:=jb0 (top 19) 3
abbrev s_Qc:Stmt:=jb0 (top 20) 0
abbrev s_X9:Stmt:=jb0 (top 20) 1
abbrev s_Qa:Stmt:=jb0 (top 21) 0
abbrev s_Qx:Stmt:=jb0 (top 21) 1
abbrev s_Q2:Stmt:=jb0 (top 22) 0
abbrev s_Qh:Stmt:=jb0 (top 22) 1
abbrev s_Q0:Stmt:=jb0 (top 23) 0
abbrev s_Q9:Stmt:=jb0 (top 23) 1
abbrev s_Q4:Stmt:=jb0 (top 23) 2
abbrev s_Xm:Stmt:=top 24
abbrev s_has:Stmt:=top 26
abbrev s_Qw:Stmt:=jb0 (top 27) 0
abbrev s_Qi:Stmt:=jb0 (top 27) 1
abbrev s_Q7:Stmt:=jb0 (top 27) 2
abbrev s_Qe:Stmt:=jb0 (top 27) 3
abbrev s_Qt:Stmt:=jb0 (top 27) 4
abbrev s_Q3:Stmt:=jb0 (top 27) 5
abbrev s_Qz:Stmt:=jb0 (top 27) 6
abbrev s_Yl:Stmt:=top 28
abbrev s_Xz:Stmt:=top 29
abbrev s_Y8:Stmt:=top 30
abbrev s_X7:Stmt:=top 31
abbrev s_Qm:Stmt:=top 36
abbrev s_Xa:Stmt:=top 37
abbrev s_Yd:Stmt:=top 38
abbrev s_Y4:Stmt:=top 39
abbrev s_Y2:Stmt:=top 40
abbrev s_Xw:Stmt:=top 42
abbrev s_Ql:Stmt:=top 46
abbrev s_Q8:Stmt:=jb0 (top 49) 0
abbrev s_Qb:Stmt:=jb0 (top 49) 1
abbrev s_Qn:Stmt:=jb0 (top 49) 2
abbrev s_Xf:Stmt:=jb0 (top 49) 3
abbrev s_Xc:Stmt:=jb0 (top 49) 5
abbrev s_X3:Stmt:=jb0 (top 49) 6
abbrev s_Qo:Stmt:=jb0 (top 49) 7
abbrev s_Qp:Stmt:=jb0 (top 49) 8
abbrev s_Q6:Stmt:=jb0 (top 49) 9
abbrev s_Xp:Stmt:=top 62
abbrev s_Qs:Stmt:=top 63
abbrev s_Ya:Stmt:=top 64
abbrev s_Xr:Stmt:=top 65
abbrev s_Xh:Stmt:=top 66
abbrev s_Yc:Stmt:=top 68
abbrev s_Q1:Stmt:=top 70
abbrev s_Xb:Stmt:=top 71
abbrev s_X6:Stmt:=top 72
abbrev s_Qf:Stmt:=jb0 (top 74) 0
abbrev s_Xt:Stmt:=jb0 (top 74) 1
abbrev s_X4:Stmt:=jb0 (top 74) 2
abbrev s_Q5:Stmt:=jb0 (top 74) 3
abbrev s_Xl:Stmt:=jb0 (top 74) 4
abbrev s_Xe:Stmt:=jb0 (top 74) 5
abbrev s_Xn:Stmt:=jb0 (top 74) 6
abbrev s_Qq:Stmt:=top 76
abbrev s_X0:Stmt:=top 77
abbrev s_X1:Stmt:=top 78
abbrev s_X5:Stmt:=top 79
abbrev s_X2:Stmt:=top 80
abbrev s_Qy:Stmt:=top 81
abbrev s_Qu:Stmt:=top 82
abbrev s_Qk:Stmt:=top 83
abbrev s_Qd:Stmt:=top 84
abbrev s_Xj:Stmt:=top 85
abbrev s_Xq:Stmt:=top 86
abbrev s_Xo:Stmt:=top 87
abbrev s_X8:Stmt:=top 88
abbrev s_law:Stmt:=top 89
theorem sc_Qv:FnScope ["self"] ["self"] (jaa s_Qv):=scof
theorem sc_Qg:FnScope ["self"] ["self"] (jaa s_Qg):=scof
theorem sc_Qr:FnScope ["self"] ["self"] (jaa s_Qr):=scof
theorem sc_Qj:FnScope ["self"] ["self"] (jaa s_Qj):=scof
theorem sc_Qc:FnScope ["self","bar"] ["self","bar"] (jaa s_Qc):=scof
theorem sc_X9:FnScope ["self"] ["self"] (jaa s_X9):=scof
theorem sc_Qa:FnScope ["self","bar"] ["self","bar"] (jaa s_Qa):=scof
theorem sc_Qx:FnScope ["self"] ["self"] (jaa s_Qx):=scof
theorem sc_Q2:FnScope ["self","one","other"] ["self","one","other"] (jaa s_Q2):=scof
theorem sc_Qh:FnScope ["self"] ["self"] (jaa s_Qh):=scof
theorem sc_Q0:FnScope ["self","one","other"] ["self","one","other"] (jaa s_Q0):=scof
theorem sc_Q9:FnScope ["self"] ["self"] (jaa s_Q9):=scof
theorem sc_Q4:FnScope ["self"] ["self"] (jaa s_Q4):=scof
theorem sc_Xm:FnScope ["switch","kind"] ["switch"] (jaa s_Xm):=scof
theorem sc_has:FnScope ["some","number"] ["some","number"] (jaa s_has):=scof
theorem sc_Qw:FnScope ["self","yard"] ["self","yard"] (jaa s_Qw):=scof
theorem sc_Qi:FnScope ["self","standing"] ["self","standing"] (jaa s_Qi):=scof
theorem jm5:FnScope ["self","standing","some","pairs","reached","ahead","pair"] ["self","standing","some"] (jaa s_Q7):=scof
theorem jur:FnScope ["self","standing","fed","switch"] ["self","standing"] (jaa s_Qe):=scof
theorem jvi:FnScope ["self","standing","led","switch"] ["self","standing"] (jaa s_Qt):=scof
theorem sc_Q3:FnScope ["self","standing"] ["self","standing"] (jaa s_Q3):=scof
theorem sc_Qz:FnScope ["self","standing"] ["self","standing"] (jaa s_Qz):=scof
theorem sc_Yl:FnScope ["yard","standing"] ["yard","standing"] (jaa s_Yl):=scof
theorem sc_Xz:FnScope ["yard","standing"] ["yard","standing"] (jaa s_Xz):=scof
theorem sc_Y8:FnScope ["some"] ["some"] (jaa s_Y8):=scof
theorem sc_X7:FnScope ["some"] ["some"] (jaa s_X7):=scof
theorem sc_Qm:FnScope ["yard","number"] ["yard","number"] (jaa s_Qm):=scof
theorem sc_Xa:FnScope ["standing","number"] ["standing","number"] (jaa s_Xa):=scof
theorem jtt:FnScope ["net","standing","number","switch","apart","ends"] ["net","standing","number"] (jaa s_Yd):=scof
theorem sc_Y4:FnScope ["net","standing","number"] ["net","standing","number"] (jaa s_Y4):=scof
theorem sc_Y2:FnScope ["yard","standing","number","net"] ["yard","standing","number"] (jaa s_Y2):=scof
theorem sc_Xw:FnScope ["switch"] ["switch"] (jaa s_Xw):=scof
theorem sc_Q8:FnScope ["self","yard"] ["self","yard"] (jaa s_Q8):=scof
theorem sc_Qb:FnScope ["self"] ["self"] (jaa s_Qb):=scof
theorem sc_Qn:FnScope ["self"] ["self"] (jaa s_Qn):=scof
theorem ju2:FnScope ["self","some","given"] ["self"] (jaa s_Xf):=scof
theorem sc_Xc:FnScope ["self","number"] ["self","number"] (jaa s_Xc):=scof
theorem sc_X3:FnScope ["self","number"] ["self","number"] (jaa s_X3):=scof
theorem sc_Qo:FnScope ["self","number"] ["self","number"] (jaa s_Qo):=scof
theorem sc_Xp:FnScope ["word"] ["word"] (jaa s_Xp):=scof
theorem sc_Qs:FnScope ["words"] ["words"] (jaa s_Qs):=scof
theorem jyp:FnScope ["row","words","kind"] ["row"] (jaa s_Ya):=scof
theorem sc_Xr:FnScope ["row","told"] ["row"] (jaa s_Xr):=scof
theorem sc_Xh:FnScope ["row","bars","switches_ahead","switch"] ["row","bars","switches_ahead"] (jaa s_Xh):=scof
theorem sc_Q1:FnScope ["numbers"] ["numbers"] (jaa s_Q1):=scof
theorem sc_Xb:FnScope ["words"] ["words"] (jaa s_Xb):=scof
theorem sc_Qf:FnScope ["self"] ["self"] (jaa s_Qf):=scof
theorem juq:FnScope ["self","row","words","kind","number"] ["self","row"] (jaa s_Xt):=scof
theorem sc_X4:FnScope ["self","yard"] ["self","yard"] (jaa s_X4):=scof
theorem jy4:FnScope ["self","row","bars","switches"] ["self","row"] (jaa s_Q5):=scof
theorem sc_Xl:FnScope ["self","kind","number"] ["self","kind","number"] (jaa s_Xl):=scof
theorem sc_Xn:FnScope ["self","kind"] ["self","kind"] (jaa s_Xn):=scof
theorem sc_Qq:FnScope ["script","k"] ["script","k"] (jaa s_Qq):=scof
theorem jxr:FnScope ["cell","bars","one","other"] ["cell","bars"] (jaa s_X0):=scof
theorem jpf:FnScope ["switches","shut","some","found","ties","at","tie"] ["switches","shut","some"] (jaa s_X1):=scof
theorem jzd:FnScope ["switches","shut","kind","some","k"] ["switches","shut","kind"] (jaa s_X5):=scof
theorem jql:FnScope ["switches","shut","at","rest","one","other","hot"] ["switches","shut","at"] (jaa s_X2):=scof
theorem sc_Qy:FnScope ["shut","at"] ["shut","at"] (jaa s_Qy):=scof
theorem sc_Qu:FnScope ["switches","shut","cold"] ["switches","shut"] (jaa s_Qu):=scof
theorem sc_Qk:FnScope ["switches","shut","locks","at"] ["switches","shut","locks","at"] (jaa s_Qk):=scof
theorem sc_Qd:FnScope ["switches","shut","locks","at","put"] ["switches","shut","locks","at","put"] (jaa s_Qd):=scof
theorem ju6:FnScope ["desk","row","told","answer"] ["desk","row"] (jaa s_Xj):=scof
theorem sc_Xq:FnScope ["numbers"] ["numbers"] (jaa s_Xq):=scof
theorem jl4:FnScope ["desk","switches","shut","locks","turn","hot","cold","asked","k","word","numbers","answer"] ["desk","switches","shut","locks","turn"] (jaa s_Xo):=scof
theorem sc_X8:FnScope ["desk","bars","switches","switch"] ["desk","bars","switches"] (jaa s_X8):=scof
theorem jd0:FnScope ["script","bars","count","switches","desk","shut","locks","cell","at","put","word","due","told","answer"] ["script"] (jaa s_law):=scof
set_option genInjectivity false in
structure Txt (P:Program) (w:World) (K:W.Frag) (mg:Str->Option Value) where
 c_Y5:Addr
 C_Y5:ClsT K mg "Switch" c_Y5
 f_Qv:Addr
 fd_Qv:FuncData
 mt_Qv:Meth K c_Y5 "feeds" f_Qv
 H_Qv:FnM K "feeds" "Switch.feeds" s_Qv f_Qv fd_Qv ["self"]
 f_Qg:Addr
 fd_Qg:FuncData
 mt_Qg:Meth K c_Y5 "earths" f_Qg
 H_Qg:FnM K "earths" "Switch.earths" s_Qg f_Qg fd_Qg ["self"]
 f_Qr:Addr
 fd_Qr:FuncData
 mt_Qr:Meth K c_Y5 "joins" f_Qr
 H_Qr:FnM K "joins" "Switch.joins" s_Qr f_Qr fd_Qr ["self"]
 f_Qj:Addr
 fd_Qj:FuncData
 mt_Qj:Meth K c_Y5 "gentle" f_Qj
 H_Qj:FnM K "gentle" "Switch.gentle" s_Qj f_Qj fd_Qj ["self"]
 c_Yj:Addr
 C_Yj:ClsT K mg "Feed" c_Yj
 f_Qc:Addr
 fd_Qc:FuncData
 mt_Qc:Meth K c_Yj "__init__" f_Qc
 H_Qc:FnM K "__init__" "Feed.__init__" s_Qc f_Qc fd_Qc ["self","bar"]
 f_X9:Addr
 fd_X9:FuncData
 mt_X9:Meth K c_Yj "feeds" f_X9
 H_X9:FnM K "feeds" "Feed.feeds" s_X9 f_X9 fd_X9 ["self"]
 mt_Feed_earths:Meth K c_Yj "earths" f_Qg
 mt_Feed_joins:Meth K c_Yj "joins" f_Qr
 mt_Feed_gentle:Meth K c_Yj "gentle" f_Qj
 na_Feed_bar:jbj K c_Yj "bar"
 c_Yf:Addr
 C_Yf:ClsT K mg "Earth" c_Yf
 f_Qa:Addr
 fd_Qa:FuncData
 mt_Qa:Meth K c_Yf "__init__" f_Qa
 H_Qa:FnM K "__init__" "Earth.__init__" s_Qa f_Qa fd_Qa ["self","bar"]
 f_Qx:Addr
 fd_Qx:FuncData
 mt_Qx:Meth K c_Yf "earths" f_Qx
 H_Qx:FnM K "earths" "Earth.earths" s_Qx f_Qx fd_Qx ["self"]
 mt_Earth_feeds:Meth K c_Yf "feeds" f_Qv
 mt_Earth_joins:Meth K c_Yf "joins" f_Qr
 mt_Earth_gentle:Meth K c_Yf "gentle" f_Qj
 na_Earth_bar:jbj K c_Yf "bar"
 c_Xx:Addr
 C_Xx:ClsT K mg "Breaker" c_Xx
 f_Q2:Addr
 fd_Q2:FuncData
 mt_Q2:Meth K c_Xx "__init__" f_Q2
 H_Q2:FnM K "__init__" "Breaker.__init__" s_Q2 f_Q2 fd_Q2 ["self","one","other"]
 f_Qh:Addr
 fd_Qh:FuncData
 mt_Qh:Meth K c_Xx "joins" f_Qh
 H_Qh:FnM K "joins" "Breaker.joins" s_Qh f_Qh fd_Qh ["self"]
 mt_Breaker_feeds:Meth K c_Xx "feeds" f_Qv
 mt_Breaker_earths:Meth K c_Xx "earths" f_Qg
 mt_Breaker_gentle:Meth K c_Xx "gentle" f_Qj
 na_Breaker_one:jbj K c_Xx "one"
 na_Breaker_other:jbj K c_Xx "other"
 c_Xu:Addr
 C_Xu:ClsT K mg "Splitter" c_Xu
 f_Q0:Addr
 fd_Q0:FuncData
 mt_Q0:Meth K c_Xu "__init__" f_Q0
 H_Q0:FnM K "__init__" "Splitter.__init__" s_Q0 f_Q0 fd_Q0 ["self","one","other"]
 f_Q9:Addr
 fd_Q9:FuncData
 mt_Q9:Meth K c_Xu "joins" f_Q9
 H_Q9:FnM K "joins" "Splitter.joins" s_Q9 f_Q9 fd_Q9 ["self"]
 f_Q4:Addr
 fd_Q4:FuncData
 mt_Q4:Meth K c_Xu "gentle" f_Q4
 H_Q4:FnM K "gentle" "Splitter.gentle" s_Q4 f_Q4 fd_Q4 ["self"]
 mt_Splitter_feeds:Meth K c_Xu "feeds" f_Qv
 mt_Splitter_earths:Meth K c_Xu "earths" f_Qg
 na_Splitter_one:jbj K c_Xu "one"
 na_Splitter_other:jbj K c_Xu "other"
 c_Net:Addr
 C_Net:ClsT K mg "Net" c_Net
 f_Qw:Addr
 fd_Qw:FuncData
 mt_Qw:Meth K c_Net "__init__" f_Qw
 H_Qw:FnM K "__init__" "Net.__init__" s_Qw f_Qw fd_Qw ["self","yard"]
 f_Qi:Addr
 fd_Qi:FuncData
 mt_Qi:Meth K c_Net "shut_ones" f_Qi
 H_Qi:FnM K "shut_ones" "Net.shut_ones" s_Qi f_Qi fd_Qi ["self","standing"]
 f_Q7:Addr
 fd_Q7:FuncData
 mt_Q7:Meth K c_Net "joined_bars" f_Q7
 H_Q7:FnM K "joined_bars" "Net.joined_bars" s_Q7 f_Q7 fd_Q7 ["self","standing","some"]
 f_Qe:Addr
 fd_Qe:FuncData
 mt_Qe:Meth K c_Net "live_bars" f_Qe
 H_Qe:FnM K "live_bars" "Net.live_bars" s_Qe f_Qe fd_Qe ["self","standing"]
 f_Qt:Addr
 fd_Qt:FuncData
 mt_Qt:Meth K c_Net "led_bars" f_Qt
 H_Qt:FnM K "led_bars" "Net.led_bars" s_Qt f_Qt fd_Qt ["self","standing"]
 f_Q3:Addr
 fd_Q3:FuncData
 mt_Q3:Meth K c_Net "earthed_bars" f_Q3
 H_Q3:FnM K "earthed_bars" "Net.earthed_bars" s_Q3 f_Q3 fd_Q3 ["self","standing"]
 f_Qz:Addr
 fd_Qz:FuncData
 mt_Qz:Meth K c_Net "is_safe" f_Qz
 H_Qz:FnM K "is_safe" "Net.is_safe" s_Qz f_Qz fd_Qz ["self","standing"]
 na_Net_switches:jbj K c_Net "switches"
 c_Y3:Addr
 C_Y3:ClsT K mg "Bundle" c_Y3
 na_Bundle_common:jbj K c_Y3 "common"
 na_Bundle_goals:jbj K c_Y3 "goals"
 na_Bundle_net:jbj K c_Y3 "net"
 na_Bundle_pairs:jbj K c_Y3 "pairs"
 na_Bundle_place:jbj K c_Y3 "place"
 na_Bundle_power:jbj K c_Y3 "power"
 na_Bundle_yard:jbj K c_Y3 "yard"
 c_Yb:Addr
 C_Yb:ClsT K mg "Board" c_Yb
 f_Q8:Addr
 fd_Q8:FuncData
 mt_Q8:Meth K c_Yb "__init__" f_Q8
 H_Q8:FnM K "__init__" "Board.__init__" s_Q8 f_Q8 fd_Q8 ["self","yard"]
 f_Qb:Addr
 fd_Qb:FuncData
 mt_Qb:Meth K c_Yb "standing" f_Qb
 H_Qb:FnM K "standing" "Board.standing" s_Qb f_Qb fd_Qb ["self"]
 f_Qn:Addr
 fd_Qn:FuncData
 mt_Qn:Meth K c_Yb "locked" f_Qn
 H_Qn:FnM K "locked" "Board.locked" s_Qn f_Qn fd_Qn ["self"]
 f_Xf:Addr
 fd_Xf:FuncData
 mt_Xf:Meth K c_Yb "held" f_Xf
 H_Xf:FnM K "held" "Board.held" s_Xf f_Xf fd_Xf ["self"]
 f_Xc:Addr
 fd_Xc:FuncData
 mt_Xc:Meth K c_Yb "turn" f_Xc
 H_Xc:FnM K "turn" "Board.turn" s_Xc f_Xc fd_Xc ["self","number"]
 f_X3:Addr
 fd_X3:FuncData
 mt_X3:Meth K c_Yb "lock" f_X3
 H_X3:FnM K "lock" "Board.lock" s_X3 f_X3 fd_X3 ["self","number"]
 f_Qo:Addr
 fd_Qo:FuncData
 mt_Qo:Meth K c_Yb "unlock" f_Qo
 H_Qo:FnM K "unlock" "Board.unlock" s_Qo f_Qo fd_Qo ["self","number"]
 f_Qp:Addr
 fd_Qp:FuncData
 mt_Qp:Meth K c_Yb "permit" f_Qp
 H_Qp:FnM K "permit" "Board.permit" s_Qp f_Qp fd_Qp ["self","place"]
 f_Q6:Addr
 fd_Q6:FuncData
 mt_Q6:Meth K c_Yb "give_back" f_Q6
 H_Q6:FnM K "give_back" "Board.give_back" s_Q6 f_Q6 fd_Q6 ["self","number"]
 na_Board_given:jbj K c_Yb "given"
 na_Board_last_number:jbj K c_Yb "last_number"
 na_Board_locks:jbj K c_Yb "locks"
 na_Board_net:jbj K c_Yb "net"
 na_Board_shut:jbj K c_Yb "shut"
 na_Board_yard:jbj K c_Yb "yard"
 c_Yk:Addr
 C_Yk:ClsT K mg "Desk" c_Yk
 f_Qf:Addr
 fd_Qf:FuncData
 mt_Qf:Meth K c_Yk "__init__" f_Qf
 H_Qf:FnM K "__init__" "Desk.__init__" s_Qf f_Qf fd_Qf ["self"]
 f_Xt:Addr
 fd_Xt:FuncData
 mt_Xt:Meth K c_Yk "say" f_Xt
 H_Xt:FnM K "say" "Desk.say" s_Xt f_Xt fd_Xt ["self","row"]
 f_X4:Addr
 fd_X4:FuncData
 mt_X4:Meth K c_Yk "begin" f_X4
 H_X4:FnM K "begin" "Desk.begin" s_X4 f_X4 fd_X4 ["self","yard"]
 f_Q5:Addr
 fd_Q5:FuncData
 mt_Q5:Meth K c_Yk "add_switch" f_Q5
 H_Q5:FnM K "add_switch" "Desk.add_switch" s_Q5 f_Q5 fd_Q5 ["self","row"]
 f_Xl:Addr
 fd_Xl:FuncData
 mt_Xl:Meth K c_Yk "done" f_Xl
 H_Xl:FnM K "done" "Desk.done" s_Xl f_Xl fd_Xl ["self","kind","number"]
 f_Xe:Addr
 fd_Xe:FuncData
 mt_Xe:Meth K c_Yk "reach" f_Xe
 H_Xe:FnM K "reach" "Desk.reach" s_Xe f_Xe fd_Xe ["self","words"]
 f_Xn:Addr
 fd_Xn:FuncData
 mt_Xn:Meth K c_Yk "tell" f_Xn
 H_Xn:FnM K "tell" "Desk.tell" s_Xn f_Xn fd_Xn ["self","kind"]
 na_Desk_board:jbj K c_Yk "board"
 na_Desk_yard:jbj K c_Yk "yard"
 c_Yh:Addr
 ac_Yh:W.nsIn K mainGlobals "Held"=some (some (.ref c_Yh))
 xq_Yh:W.excIn K c_Yh [.type "ValueError",.type "Exception",.type "BaseException",.type "object"] "ValueError.__new__"=true
 xm_Yh:mg "Held"=some (.ref c_Yh)
 c_Y7:Addr
 ac_Y7:W.nsIn K mainGlobals "Loaded"=some (some (.ref c_Y7))
 xq_Y7:W.excIn K c_Y7 [.type "ValueError",.type "Exception",.type "BaseException",.type "object"] "ValueError.__new__"=true
 xm_Y7:mg "Loaded"=some (.ref c_Y7)
 c_Y9:Addr
 ac_Y9:W.nsIn K mainGlobals "Locked"=some (some (.ref c_Y9))
 xq_Y9:W.excIn K c_Y9 [.type "ValueError",.type "Exception",.type "BaseException",.type "object"] "ValueError.__new__"=true
 xm_Y9:mg "Locked"=some (.ref c_Y9)
 c_Ye:Addr
 ac_Ye:W.nsIn K mainGlobals "NoBar"=some (some (.ref c_Ye))
 xq_Ye:W.excIn K c_Ye [.type "ValueError",.type "Exception",.type "BaseException",.type "object"] "ValueError.__new__"=true
 xm_Ye:mg "NoBar"=some (.ref c_Ye)
 c_Y6:Addr
 ac_Y6:W.nsIn K mainGlobals "NoLock"=some (some (.ref c_Y6))
 xq_Y6:W.excIn K c_Y6 [.type "ValueError",.type "Exception",.type "BaseException",.type "object"] "ValueError.__new__"=true
 xm_Y6:mg "NoLock"=some (.ref c_Y6)
 c_Xi:Addr
 ac_Xi:W.nsIn K mainGlobals "NoMeasure"=some (some (.ref c_Xi))
 xq_Xi:W.excIn K c_Xi [.type "ValueError",.type "Exception",.type "BaseException",.type "object"] "ValueError.__new__"=true
 xm_Xi:mg "NoMeasure"=some (.ref c_Xi)
 c_Xs:Addr
 ac_Xs:W.nsIn K mainGlobals "NoPermit"=some (some (.ref c_Xs))
 xq_Xs:W.excIn K c_Xs [.type "ValueError",.type "Exception",.type "BaseException",.type "object"] "ValueError.__new__"=true
 xm_Xs:mg "NoPermit"=some (.ref c_Xs)
 c_Yg:Addr
 ac_Yg:W.nsIn K mainGlobals "NoRow"=some (some (.ref c_Yg))
 xq_Yg:W.excIn K c_Yg [.type "ValueError",.type "Exception",.type "BaseException",.type "object"] "ValueError.__new__"=true
 xm_Yg:mg "NoRow"=some (.ref c_Yg)
 c_Xv:Addr
 ac_Xv:W.nsIn K mainGlobals "NoSwitch"=some (some (.ref c_Xv))
 xq_Xv:W.excIn K c_Xv [.type "ValueError",.type "Exception",.type "BaseException",.type "object"] "ValueError.__new__"=true
 xm_Xv:mg "NoSwitch"=some (.ref c_Xv)
 c_Xy:Addr
 ac_Xy:W.nsIn K mainGlobals "NotDead"=some (some (.ref c_Xy))
 xq_Xy:W.excIn K c_Xy [.type "ValueError",.type "Exception",.type "BaseException",.type "object"] "ValueError.__new__"=true
 xm_Xy:mg "NotDead"=some (.ref c_Xy)
 c_Xd:Addr
 ac_Xd:W.nsIn K mainGlobals "NotEarthed"=some (some (.ref c_Xd))
 xq_Xd:W.excIn K c_Xd [.type "ValueError",.type "Exception",.type "BaseException",.type "object"] "ValueError.__new__"=true
 xm_Xd:mg "NotEarthed"=some (.ref c_Xd)
 c_Xg:Addr
 ac_Xg:W.nsIn K mainGlobals "NotLocked"=some (some (.ref c_Xg))
 xq_Xg:W.excIn K c_Xg [.type "ValueError",.type "Exception",.type "BaseException",.type "object"] "ValueError.__new__"=true
 xm_Xg:mg "NotLocked"=some (.ref c_Xg)
 c_Y1:Addr
 ac_Y1:W.nsIn K mainGlobals "NotOpen"=some (some (.ref c_Y1))
 xq_Y1:W.excIn K c_Y1 [.type "ValueError",.type "Exception",.type "BaseException",.type "object"] "ValueError.__new__"=true
 xm_Y1:mg "NotOpen"=some (.ref c_Y1)
 c_Yi:Addr
 ac_Yi:W.nsIn K mainGlobals "Same"=some (some (.ref c_Yi))
 xq_Yi:W.excIn K c_Yi [.type "ValueError",.type "Exception",.type "BaseException",.type "object"] "ValueError.__new__"=true
 xm_Yi:mg "Same"=some (.ref c_Yi)
 c_Y0:Addr
 ac_Y0:W.nsIn K mainGlobals "Shorted"=some (some (.ref c_Y0))
 xq_Y0:W.excIn K c_Y0 [.type "ValueError",.type "Exception",.type "BaseException",.type "object"] "ValueError.__new__"=true
 xm_Y0:mg "Shorted"=some (.ref c_Y0)
 c_Xk:Addr
 ac_Xk:W.nsIn K mainGlobals "WardError"=some (some (.ref c_Xk))
 xq_Xk:W.excIn K c_Xk [.type "ValueError",.type "Exception",.type "BaseException",.type "object"] "ValueError.__new__"=true
 xm_Xk:mg "WardError"=some (.ref c_Xk)
 f_Xm:Addr
 fd_Xm:FuncData
 H_Xm:FnT K mg "switch_of" "switch_of" s_Xm f_Xm fd_Xm ["switch"]
 f_has:Addr
 fd_has:FuncData
 H_has:FnT K mg "has" "has" s_has f_has fd_has ["some","number"]
 f_Yl:Addr
 fd_Yl:FuncData
 H_Yl:FnT K mg "live" "live" s_Yl f_Yl fd_Yl ["yard","standing"]
 f_Xz:Addr
 fd_Xz:FuncData
 H_Xz:FnT K mg "earthed" "earthed" s_Xz f_Xz fd_Xz ["yard","standing"]
 f_Y8:Addr
 fd_Y8:FuncData
 H_Y8:FnT K mg "lowest" "lowest" s_Y8 f_Y8 fd_Y8 ["some"]
 f_X7:Addr
 fd_X7:FuncData
 H_X7:FnT K mg "numbers_in" "numbers_in" s_X7 f_X7 fd_X7 ["some"]
 f_Qm:Addr
 fd_Qm:FuncData
 H_Qm:FnT K mg "check_switch" "check_switch" s_Qm f_Qm fd_Qm ["yard","number"]
 f_Xa:Addr
 fd_Xa:FuncData
 H_Xa:FnT K mg "after_turn" "after_turn" s_Xa f_Xa fd_Xa ["standing","number"]
 f_Yd:Addr
 fd_Yd:FuncData
 H_Yd:FnT K mg "loads" "loads" s_Yd f_Yd fd_Yd ["net","standing","number"]
 f_Y4:Addr
 fd_Y4:FuncData
 H_Y4:FnT K mg "shorts" "shorts" s_Y4 f_Y4 fd_Y4 ["net","standing","number"]
 f_Y2:Addr
 fd_Y2:FuncData
 H_Y2:FnT K mg "turned" "turned" s_Y2 f_Y2 fd_Y2 ["yard","standing","number"]
 f_Xw:Addr
 fd_Xw:FuncData
 H_Xw:FnT K mg "can_lock" "can_lock" s_Xw f_Xw fd_Xw ["switch"]
 f_Ql:Addr
 fd_Ql:FuncData
 H_Ql:FnT K mg "fewest_locks" "fewest_locks" s_Ql f_Ql fd_Ql ["yard","place"]
 f_Xp:Addr
 fd_Xp:FuncData
 H_Xp:FnT K mg "is_number" "is_number" s_Xp f_Xp fd_Xp ["word"]
 f_Qs:Addr
 fd_Qs:FuncData
 H_Qs:FnT K mg "numbers_told" "numbers_told" s_Qs f_Qs fd_Qs ["words"]
 f_Ya:Addr
 fd_Ya:FuncData
 H_Ya:FnT K mg "parted" "parted" s_Ya f_Ya fd_Ya ["row"]
 f_Xr:Addr
 fd_Xr:FuncData
 H_Xr:FnT K mg "count_in" "count_in" s_Xr f_Xr fd_Xr ["row"]
 f_Xh:Addr
 fd_Xh:FuncData
 H_Xh:FnT K mg "switch_in" "switch_in" s_Xh f_Xh fd_Xh ["row","bars","switches_ahead"]
 f_Yc:Addr
 fd_Yc:FuncData
 H_Yc:FnT K mg "shown" "shown" s_Yc f_Yc fd_Yc ["yard"]
 f_Q1:Addr
 fd_Q1:FuncData
 H_Q1:FnT K mg "joined_by_blanks" "joined_by_blanks" s_Q1 f_Q1 fd_Q1 ["numbers"]
 f_Xb:Addr
 fd_Xb:FuncData
 H_Xb:FnT K mg "one_number" "one_number" s_Xb f_Xb fd_Xb ["words"]
 f_X6:Addr
 fd_X6:FuncData
 H_X6:FnT K mg "place_told" "place_told" s_X6 f_X6 fd_X6 ["words","bars"]
 f_Qq:Addr
 fd_Qq:FuncData
 H_Qq:FnT K mg "_law_cell_at" "_law_cell_at" s_Qq f_Qq fd_Qq ["script","k"]
 f_X0:Addr
 fd_X0:FuncData
 H_X0:FnT K mg "_law_switch" "_law_switch" s_X0 f_X0 fd_X0 ["cell","bars"]
 f_X1:Addr
 fd_X1:FuncData
 H_X1:FnT K mg "_law_joined" "_law_joined" s_X1 f_X1 fd_X1 ["switches","shut","some"]
 f_X5:Addr
 fd_X5:FuncData
 H_X5:FnT K mg "_law_under" "_law_under" s_X5 f_X5 fd_X5 ["switches","shut","kind"]
 f_X2:Addr
 fd_X2:FuncData
 H_X2:FnT K mg "_law_loaded" "_law_loaded" s_X2 f_X2 fd_X2 ["switches","shut","at"]
 f_Qy:Addr
 fd_Qy:FuncData
 H_Qy:FnT K mg "_law_turned" "_law_turned" s_Qy f_Qy fd_Qy ["shut","at"]
 f_Qu:Addr
 fd_Qu:FuncData
 H_Qu:FnT K mg "_law_shorted" "_law_shorted" s_Qu f_Qu fd_Qu ["switches","shut"]
 f_Qk:Addr
 fd_Qk:FuncData
 H_Qk:FnT K mg "_law_due_turn" "_law_due_turn" s_Qk f_Qk fd_Qk ["switches","shut","locks","at"]
 f_Qd:Addr
 fd_Qd:FuncData
 H_Qd:FnT K mg "_law_due_lock" "_law_due_lock" s_Qd f_Qd fd_Qd ["switches","shut","locks","at","put"]
 f_Xj:Addr
 fd_Xj:FuncData
 H_Xj:FnT K mg "_law_said" "_law_said" s_Xj f_Xj fd_Xj ["desk","row"]
 f_Xq:Addr
 fd_Xq:FuncData
 H_Xq:FnT K mg "_law_row" "_law_row" s_Xq f_Xq fd_Xq ["numbers"]
 f_Xo:Addr
 fd_Xo:FuncData
 H_Xo:FnT K mg "_law_seen" "_law_seen" s_Xo f_Xo fd_Xo ["desk","switches","shut","locks","turn"]
 f_X8:Addr
 fd_X8:FuncData
 H_X8:FnT K mg "_law_begun" "_law_begun" s_X8 f_X8 fd_X8 ["desk","bars","switches"]
 f_law:Addr
 fd_law:FuncData
 H_law:FnT K mg "law" "law" s_law f_law fd_law ["script"]
 b_len:mg "len"=none
 b_sum:mg "sum"=none
 b_all:mg "all"=none
 b_any:mg "any"=none
 b_isinstance:mg "isinstance"=none
 b_max:mg "max"=none
 b_sorted:mg "sorted"=none
 b_int:mg "int"=none
 b_str:mg "str"=none
 b_list:mg "list"=none
 b_tuple:mg "tuple"=none
 b_range:mg "range"=none
 b_reversed:mg "reversed"=none
 b_enumerate:mg "enumerate"=none
 b_dict:mg "dict"=none
 b_ValueError:mg "ValueError"=none
 b_zip:mg "zip"=none
 a_NUMBERS_BEHIND:Addr
 c_NUMBERS_BEHIND:GV mg "NUMBERS_BEHIND" (.ref a_NUMBERS_BEHIND)
 c_MOST_BARS:GV mg "MOST_BARS" (.int 10)
 c_MOST_SWITCHES:GV mg "MOST_SWITCHES" (.int 12)
 c_MOST_FIGURES:GV mg "MOST_FIGURES" (.int 9)
 c_FIGURES:GV mg "FIGURES" (.str "0123456789")
 w_Y7:Clause K c_Y7
 su_Held_Loaded:W.mroIn K c_Yh (.ref c_Y7)=some false
 su_Loaded_Loaded:W.mroIn K c_Y7 (.ref c_Y7)=some true
 su_Locked_Loaded:W.mroIn K c_Y9 (.ref c_Y7)=some false
 su_NoBar_Loaded:W.mroIn K c_Ye (.ref c_Y7)=some false
 su_NoLock_Loaded:W.mroIn K c_Y6 (.ref c_Y7)=some false
 su_NoMeasure_Loaded:W.mroIn K c_Xi (.ref c_Y7)=some false
 su_NoPermit_Loaded:W.mroIn K c_Xs (.ref c_Y7)=some false
 su_NoRow_Loaded:W.mroIn K c_Yg (.ref c_Y7)=some false
 su_NoSwitch_Loaded:W.mroIn K c_Xv (.ref c_Y7)=some false
 su_NotDead_Loaded:W.mroIn K c_Xy (.ref c_Y7)=some false
 su_NotEarthed_Loaded:W.mroIn K c_Xd (.ref c_Y7)=some false
 su_NotLocked_Loaded:W.mroIn K c_Xg (.ref c_Y7)=some false
 su_NotOpen_Loaded:W.mroIn K c_Y1 (.ref c_Y7)=some false
 su_Same_Loaded:W.mroIn K c_Yi (.ref c_Y7)=some false
 su_Shorted_Loaded:W.mroIn K c_Y0 (.ref c_Y7)=some false
 w_Y9:Clause K c_Y9
 su_Held_Locked:W.mroIn K c_Yh (.ref c_Y9)=some false
 su_Loaded_Locked:W.mroIn K c_Y7 (.ref c_Y9)=some false
 su_Locked_Locked:W.mroIn K c_Y9 (.ref c_Y9)=some true
 su_NoBar_Locked:W.mroIn K c_Ye (.ref c_Y9)=some false
 su_NoLock_Locked:W.mroIn K c_Y6 (.ref c_Y9)=some false
 su_NoMeasure_Locked:W.mroIn K c_Xi (.ref c_Y9)=some false
 su_NoPermit_Locked:W.mroIn K c_Xs (.ref c_Y9)=some false
 su_NoRow_Locked:W.mroIn K c_Yg (.ref c_Y9)=some false
 su_NoSwitch_Locked:W.mroIn K c_Xv (.ref c_Y9)=some false
 su_NotDead_Locked:W.mroIn K c_Xy (.ref c_Y9)=some false
 su_NotEarthed_Locked:W.mroIn K c_Xd (.ref c_Y9)=some false
 su_NotLocked_Locked:W.mroIn K c_Xg (.ref c_Y9)=some false
 su_NotOpen_Locked:W.mroIn K c_Y1 (.ref c_Y9)=some false
 su_Same_Locked:W.mroIn K c_Yi (.ref c_Y9)=some false
 su_Shorted_Locked:W.mroIn K c_Y0 (.ref c_Y9)=some false
 w_Y6:Clause K c_Y6
 su_Held_NoLock:W.mroIn K c_Yh (.ref c_Y6)=some false
 su_Loaded_NoLock:W.mroIn K c_Y7 (.ref c_Y6)=some false
 su_Locked_NoLock:W.mroIn K c_Y9 (.ref c_Y6)=some false
 su_NoBar_NoLock:W.mroIn K c_Ye (.ref c_Y6)=some false
 su_NoLock_NoLock:W.mroIn K c_Y6 (.ref c_Y6)=some true
 su_NoMeasure_NoLock:W.mroIn K c_Xi (.ref c_Y6)=some false
 su_NoPermit_NoLock:W.mroIn K c_Xs (.ref c_Y6)=some false
 su_NoRow_NoLock:W.mroIn K c_Yg (.ref c_Y6)=some false
 su_NoSwitch_NoLock:W.mroIn K c_Xv (.ref c_Y6)=some false
 su_NotDead_NoLock:W.mroIn K c_Xy (.ref c_Y6)=some false
 su_NotEarthed_NoLock:W.mroIn K c_Xd (.ref c_Y6)=some false
 su_NotLocked_NoLock:W.mroIn K c_Xg (.ref c_Y6)=some false
 su_NotOpen_NoLock:W.mroIn K c_Y1 (.ref c_Y6)=some false
 su_Same_NoLock:W.mroIn K c_Yi (.ref c_Y6)=some false
 su_Shorted_NoLock:W.mroIn K c_Y0 (.ref c_Y6)=some false
 w_Xg:Clause K c_Xg
 su_Held_NotLocked:W.mroIn K c_Yh (.ref c_Xg)=some false
 su_Loaded_NotLocked:W.mroIn K c_Y7 (.ref c_Xg)=some false
 su_Locked_NotLocked:W.mroIn K c_Y9 (.ref c_Xg)=some false
 su_NoBar_NotLocked:W.mroIn K c_Ye (.ref c_Xg)=some false
 su_NoLock_NotLocked:W.mroIn K c_Y6 (.ref c_Xg)=some false
 su_NoMeasure_NotLocked:W.mroIn K c_Xi (.ref c_Xg)=some false
 su_NoPermit_NotLocked:W.mroIn K c_Xs (.ref c_Xg)=some false
 su_NoRow_NotLocked:W.mroIn K c_Yg (.ref c_Xg)=some false
 su_NoSwitch_NotLocked:W.mroIn K c_Xv (.ref c_Xg)=some false
 su_NotDead_NotLocked:W.mroIn K c_Xy (.ref c_Xg)=some false
 su_NotEarthed_NotLocked:W.mroIn K c_Xd (.ref c_Xg)=some false
 su_NotLocked_NotLocked:W.mroIn K c_Xg (.ref c_Xg)=some true
 su_NotOpen_NotLocked:W.mroIn K c_Y1 (.ref c_Xg)=some false
 su_Same_NotLocked:W.mroIn K c_Yi (.ref c_Xg)=some false
 su_Shorted_NotLocked:W.mroIn K c_Y0 (.ref c_Xg)=some false
 w_Y1:Clause K c_Y1
 su_Held_NotOpen:W.mroIn K c_Yh (.ref c_Y1)=some false
 su_Loaded_NotOpen:W.mroIn K c_Y7 (.ref c_Y1)=some false
 su_Locked_NotOpen:W.mroIn K c_Y9 (.ref c_Y1)=some false
 su_NoBar_NotOpen:W.mroIn K c_Ye (.ref c_Y1)=some false
 su_NoLock_NotOpen:W.mroIn K c_Y6 (.ref c_Y1)=some false
 su_NoMeasure_NotOpen:W.mroIn K c_Xi (.ref c_Y1)=some false
 su_NoPermit_NotOpen:W.mroIn K c_Xs (.ref c_Y1)=some false
 su_NoRow_NotOpen:W.mroIn K c_Yg (.ref c_Y1)=some false
 su_NoSwitch_NotOpen:W.mroIn K c_Xv (.ref c_Y1)=some false
 su_NotDead_NotOpen:W.mroIn K c_Xy (.ref c_Y1)=some false
 su_NotEarthed_NotOpen:W.mroIn K c_Xd (.ref c_Y1)=some false
 su_NotLocked_NotOpen:W.mroIn K c_Xg (.ref c_Y1)=some false
 su_NotOpen_NotOpen:W.mroIn K c_Y1 (.ref c_Y1)=some true
 su_Same_NotOpen:W.mroIn K c_Yi (.ref c_Y1)=some false
 su_Shorted_NotOpen:W.mroIn K c_Y0 (.ref c_Y1)=some false
 w_Y0:Clause K c_Y0
 su_Held_Shorted:W.mroIn K c_Yh (.ref c_Y0)=some false
 su_Loaded_Shorted:W.mroIn K c_Y7 (.ref c_Y0)=some false
 su_Locked_Shorted:W.mroIn K c_Y9 (.ref c_Y0)=some false
 su_NoBar_Shorted:W.mroIn K c_Ye (.ref c_Y0)=some false
 su_NoLock_Shorted:W.mroIn K c_Y6 (.ref c_Y0)=some false
 su_NoMeasure_Shorted:W.mroIn K c_Xi (.ref c_Y0)=some false
 su_NoPermit_Shorted:W.mroIn K c_Xs (.ref c_Y0)=some false
 su_NoRow_Shorted:W.mroIn K c_Yg (.ref c_Y0)=some false
 su_NoSwitch_Shorted:W.mroIn K c_Xv (.ref c_Y0)=some false
 su_NotDead_Shorted:W.mroIn K c_Xy (.ref c_Y0)=some false
 su_NotEarthed_Shorted:W.mroIn K c_Xd (.ref c_Y0)=some false
 su_NotLocked_Shorted:W.mroIn K c_Xg (.ref c_Y0)=some false
 su_NotOpen_Shorted:W.mroIn K c_Y1 (.ref c_Y0)=some false
 su_Same_Shorted:W.mroIn K c_Yi (.ref c_Y0)=some false
 su_Shorted_Shorted:W.mroIn K c_Y0 (.ref c_Y0)=some true
 d_NUMBERS_BEHIND:jun P w K a_NUMBERS_BEHIND [(.inr "bars",(.int 1)),(.inr "feed",(.int 1)),(.inr "earth",(.int 1)),(.inr "breaker",(.int 2)),(.inr "splitter",(.int 2))]
 Bl:∀(s:Shared) (u:Value),BindsTo s fd_law ⟨[u],[]⟩ [("script",u)]
section
variable {P : Program} {w : World} {K : W.Frag} {mg : Str -> Option Value} (T : Txt P w K mg)
theorem Txt.x_Yh:Exc K mg "Held" T.c_Yh:=⟨T.ac_Yh,⟨_,_,_,_,T.xq_Yh,PySem.F.excBase_ValueError⟩,T.xm_Yh⟩
theorem Txt.x_Y7:Exc K mg "Loaded" T.c_Y7:=⟨T.ac_Y7,⟨_,_,_,_,T.xq_Y7,PySem.F.excBase_ValueError⟩,T.xm_Y7⟩
theorem Txt.x_Y9:Exc K mg "Locked" T.c_Y9:=⟨T.ac_Y9,⟨_,_,_,_,T.xq_Y9,PySem.F.excBase_ValueError⟩,T.xm_Y9⟩
theorem Txt.x_Ye:Exc K mg "NoBar" T.c_Ye:=⟨T.ac_Ye,⟨_,_,_,_,T.xq_Ye,PySem.F.excBase_ValueError⟩,T.xm_Ye⟩
theorem Txt.x_Y6:Exc K mg "NoLock" T.c_Y6:=⟨T.ac_Y6,⟨_,_,_,_,T.xq_Y6,PySem.F.excBase_ValueError⟩,T.xm_Y6⟩
theorem Txt.x_Xi:Exc K mg "NoMeasure" T.c_Xi:=⟨T.ac_Xi,⟨_,_,_,_,T.xq_Xi,PySem.F.excBase_ValueError⟩,T.xm_Xi⟩
theorem Txt.x_Xs:Exc K mg "NoPermit" T.c_Xs:=⟨T.ac_Xs,⟨_,_,_,_,T.xq_Xs,PySem.F.excBase_ValueError⟩,T.xm_Xs⟩
theorem Txt.x_Yg:Exc K mg "NoRow" T.c_Yg:=⟨T.ac_Yg,⟨_,_,_,_,T.xq_Yg,PySem.F.excBase_ValueError⟩,T.xm_Yg⟩
theorem Txt.x_Xv:Exc K mg "NoSwitch" T.c_Xv:=⟨T.ac_Xv,⟨_,_,_,_,T.xq_Xv,PySem.F.excBase_ValueError⟩,T.xm_Xv⟩
theorem Txt.x_Xy:Exc K mg "NotDead" T.c_Xy:=⟨T.ac_Xy,⟨_,_,_,_,T.xq_Xy,PySem.F.excBase_ValueError⟩,T.xm_Xy⟩
theorem Txt.x_Xd:Exc K mg "NotEarthed" T.c_Xd:=⟨T.ac_Xd,⟨_,_,_,_,T.xq_Xd,PySem.F.excBase_ValueError⟩,T.xm_Xd⟩
theorem Txt.x_Xg:Exc K mg "NotLocked" T.c_Xg:=⟨T.ac_Xg,⟨_,_,_,_,T.xq_Xg,PySem.F.excBase_ValueError⟩,T.xm_Xg⟩
theorem Txt.x_Y1:Exc K mg "NotOpen" T.c_Y1:=⟨T.ac_Y1,⟨_,_,_,_,T.xq_Y1,PySem.F.excBase_ValueError⟩,T.xm_Y1⟩
theorem Txt.x_Yi:Exc K mg "Same" T.c_Yi:=⟨T.ac_Yi,⟨_,_,_,_,T.xq_Yi,PySem.F.excBase_ValueError⟩,T.xm_Yi⟩
theorem Txt.x_Y0:Exc K mg "Shorted" T.c_Y0:=⟨T.ac_Y0,⟨_,_,_,_,T.xq_Y0,PySem.F.excBase_ValueError⟩,T.xm_Y0⟩
theorem Txt.x_Xk:Exc K mg "WardError" T.c_Xk:=⟨T.ac_Xk,⟨_,_,_,_,T.xq_Xk,PySem.F.excBase_ValueError⟩,T.xm_Xk⟩
theorem Txt.k_Yj:GV mg "Feed" (.ref T.c_Yj):=T.C_Yj.k
theorem Txt.k_Yf:GV mg "Earth" (.ref T.c_Yf):=T.C_Yf.k
theorem Txt.k_Xx:GV mg "Breaker" (.ref T.c_Xx):=T.C_Xx.k
theorem Txt.k_Xu:GV mg "Splitter" (.ref T.c_Xu):=T.C_Xu.k
theorem Txt.k_Net:GV mg "Net" (.ref T.c_Net):=T.C_Net.k
theorem Txt.k_Y3:GV mg "Bundle" (.ref T.c_Y3):=T.C_Y3.k
theorem Txt.k_Yb:GV mg "Board" (.ref T.c_Yb):=T.C_Yb.k
theorem Txt.k_Yk:GV mg "Desk" (.ref T.c_Yk):=T.C_Yk.k
end
def cmOf{P:Program}{w:World}{K:W.Frag}{mg:Str->Option Value}(T:Txt P w K mg)(n:String):Addr:=
 if n="Held" then T.c_Yh else
 if n="Loaded" then T.c_Y7 else
 if n="Locked" then T.c_Y9 else
 if n="NoBar" then T.c_Ye else
 if n="NoLock" then T.c_Y6 else
 if n="NoMeasure" then T.c_Xi else
 if n="NoPermit" then T.c_Xs else
 if n="NoRow" then T.c_Yg else
 if n="NoSwitch" then T.c_Xv else
 if n="NotDead" then T.c_Xy else
 if n="NotEarthed" then T.c_Xd else
 if n="NotLocked" then T.c_Xg else
 if n="NotOpen" then T.c_Y1 else
 if n="Same" then T.c_Yi else
 if n="Shorted" then T.c_Y0 else
 if n="WardError" then T.c_Xk else
 if n="Switch" then T.c_Y5 else
 if n="Feed" then T.c_Yj else
 if n="Earth" then T.c_Yf else
 if n="Breaker" then T.c_Xx else
 if n="Splitter" then T.c_Xu else
 if n="Net" then T.c_Net else
 if n="Bundle" then T.c_Y3 else
 if n="Board" then T.c_Yb else
 if n="Desk" then T.c_Yk else
 0
abbrev ct{P:Program}{w:World}{K:W.Frag}{mg:Str->Option Value}(T:Txt P w K mg):Ct:=⟨P,w,K,cmOf T⟩
section
variable {P : Program} {w : World} {K : W.Frag} {mg : Str -> Option Value} {base : Heap} (T : Txt P w K mg)
theorem jl6:cmOf T "Held"=T.c_Yh:=by simp[cmOf]
theorem jm4:cmOf T "Loaded"=T.c_Y7:=by simp[cmOf]
theorem jjz:cmOf T "Locked"=T.c_Y9:=by simp[cmOf]
theorem jmk:cmOf T "NoBar"=T.c_Ye:=by simp[cmOf]
theorem jml:cmOf T "NoLock"=T.c_Y6:=by simp[cmOf]
theorem jm0:cmOf T "NoMeasure"=T.c_Xi:=by simp[cmOf]
theorem jp9:cmOf T "NoPermit"=T.c_Xs:=by simp[cmOf]
theorem jfl:cmOf T "NoRow"=T.c_Yg:=by simp[cmOf]
theorem jn2:cmOf T "NoSwitch"=T.c_Xv:=by simp[cmOf]
theorem jpt:cmOf T "NotDead"=T.c_Xy:=by simp[cmOf]
theorem jp5:cmOf T "NotEarthed"=T.c_Xd:=by simp[cmOf]
theorem jn0:cmOf T "NotLocked"=T.c_Xg:=by simp[cmOf]
theorem jms:cmOf T "NotOpen"=T.c_Y1:=by simp[cmOf]
theorem jmj:cmOf T "Same"=T.c_Yi:=by simp[cmOf]
theorem jmw:cmOf T "Shorted"=T.c_Y0:=by simp[cmOf]
theorem jv0:cmOf T "Switch"=T.c_Y5:=by simp[cmOf]
theorem jox:cmOf T "Feed"=T.c_Yj:=by simp[cmOf]
theorem jot:cmOf T "Earth"=T.c_Yf:=by simp[cmOf]
theorem jmo:cmOf T "Breaker"=T.c_Xx:=by simp[cmOf]
theorem jmb:cmOf T "Splitter"=T.c_Xu:=by simp[cmOf]
theorem jew:cmOf T "Net"=T.c_Net:=by simp[cmOf]
theorem cm_Y3:cmOf T "Bundle"=T.c_Y3:=by simp[cmOf]
theorem jfj:cmOf T "Board"=T.c_Yb:=by simp[cmOf]
theorem jjq:cmOf T "Desk"=T.c_Yk:=by simp[cmOf]
theorem jog:jeh (ct T) "bar" jgu:=(fldc (jox T) T.C_Yj.cl T.na_Feed_bar (fldc (jot T) T.C_Yf.cl T.na_Earth_bar jdk))
theorem jcx:jeh (ct T) "board" jbb:=(fldc (jjq T) T.C_Yk.cl T.na_Desk_board jdk)
theorem jo9:jeh (ct T) "given" jhh:=(fldc (jfj T) T.C_Yb.cl T.na_Board_given jdk)
theorem jid:jeh (ct T) "last_number" jdu:=(fldc (jfj T) T.C_Yb.cl T.na_Board_last_number jdk)
theorem jcu:jeh (ct T) "locks" jc0:=(fldc (jfj T) T.C_Yb.cl T.na_Board_locks jdk)
theorem jx2:jeh (ct T) "net" jlf:=(fldc (cm_Y3 T) T.C_Y3.cl T.na_Bundle_net (fldc (jfj T) T.C_Yb.cl T.na_Board_net jdk))
theorem jnl:jeh (ct T) "one" jgy:=(fldc (jmo T) T.C_Xx.cl T.na_Breaker_one (fldc (jmb T) T.C_Xu.cl T.na_Splitter_one jdk))
theorem jhb:jeh (ct T) "other" jdq:=(fldc (jmo T) T.C_Xx.cl T.na_Breaker_other (fldc (jmb T) T.C_Xu.cl T.na_Splitter_other jdk))
theorem jgj:jeh (ct T) "shut" jey:=(fldc (jfj T) T.C_Yb.cl T.na_Board_shut jdk)
theorem je9:jeh (ct T) "switches" jbf:=(fldc (jew T) T.C_Net.cl T.na_Net_switches jdk)
theorem jch:jeh (ct T) "yard" jbg:=(fldc (cm_Y3 T) T.C_Y3.cl T.na_Bundle_yard (fldc (jfj T) T.C_Yb.cl T.na_Board_yard (fldc (jjq T) T.C_Yk.cl T.na_Desk_yard jdk)))
theorem sub_Y7:jh6 (ct T) T.c_Y7 w_Y7:=(subc (jl6 T) T.su_Held_Loaded (subc (jm4 T) T.su_Loaded_Loaded (subc (jjz T) T.su_Locked_Loaded (subc (jmk T) T.su_NoBar_Loaded (subc (jml T) T.su_NoLock_Loaded (subc (jm0 T) T.su_NoMeasure_Loaded (subc (jp9 T) T.su_NoPermit_Loaded (subc (jfl T) T.su_NoRow_Loaded (subc (jn2 T) T.su_NoSwitch_Loaded (subc (jpt T) T.su_NotDead_Loaded (subc (jp5 T) T.su_NotEarthed_Loaded (subc (jn0 T) T.su_NotLocked_Loaded (subc (jms T) T.su_NotOpen_Loaded (subc (jmj T) T.su_Same_Loaded (subc (jmw T) T.su_Shorted_Loaded jga)))))))))))))))
theorem sub_Y9:jh6 (ct T) T.c_Y9 w_Y9:=(subc (jl6 T) T.su_Held_Locked (subc (jm4 T) T.su_Loaded_Locked (subc (jjz T) T.su_Locked_Locked (subc (jmk T) T.su_NoBar_Locked (subc (jml T) T.su_NoLock_Locked (subc (jm0 T) T.su_NoMeasure_Locked (subc (jp9 T) T.su_NoPermit_Locked (subc (jfl T) T.su_NoRow_Locked (subc (jn2 T) T.su_NoSwitch_Locked (subc (jpt T) T.su_NotDead_Locked (subc (jp5 T) T.su_NotEarthed_Locked (subc (jn0 T) T.su_NotLocked_Locked (subc (jms T) T.su_NotOpen_Locked (subc (jmj T) T.su_Same_Locked (subc (jmw T) T.su_Shorted_Locked jga)))))))))))))))
theorem sub_Y6:jh6 (ct T) T.c_Y6 w_Y6:=(subc (jl6 T) T.su_Held_NoLock (subc (jm4 T) T.su_Loaded_NoLock (subc (jjz T) T.su_Locked_NoLock (subc (jmk T) T.su_NoBar_NoLock (subc (jml T) T.su_NoLock_NoLock (subc (jm0 T) T.su_NoMeasure_NoLock (subc (jp9 T) T.su_NoPermit_NoLock (subc (jfl T) T.su_NoRow_NoLock (subc (jn2 T) T.su_NoSwitch_NoLock (subc (jpt T) T.su_NotDead_NoLock (subc (jp5 T) T.su_NotEarthed_NoLock (subc (jn0 T) T.su_NotLocked_NoLock (subc (jms T) T.su_NotOpen_NoLock (subc (jmj T) T.su_Same_NoLock (subc (jmw T) T.su_Shorted_NoLock jga)))))))))))))))
theorem sub_Xg:jh6 (ct T) T.c_Xg w_Xg:=(subc (jl6 T) T.su_Held_NotLocked (subc (jm4 T) T.su_Loaded_NotLocked (subc (jjz T) T.su_Locked_NotLocked (subc (jmk T) T.su_NoBar_NotLocked (subc (jml T) T.su_NoLock_NotLocked (subc (jm0 T) T.su_NoMeasure_NotLocked (subc (jp9 T) T.su_NoPermit_NotLocked (subc (jfl T) T.su_NoRow_NotLocked (subc (jn2 T) T.su_NoSwitch_NotLocked (subc (jpt T) T.su_NotDead_NotLocked (subc (jp5 T) T.su_NotEarthed_NotLocked (subc (jn0 T) T.su_NotLocked_NotLocked (subc (jms T) T.su_NotOpen_NotLocked (subc (jmj T) T.su_Same_NotLocked (subc (jmw T) T.su_Shorted_NotLocked jga)))))))))))))))
theorem sub_Y1:jh6 (ct T) T.c_Y1 w_Y1:=(subc (jl6 T) T.su_Held_NotOpen (subc (jm4 T) T.su_Loaded_NotOpen (subc (jjz T) T.su_Locked_NotOpen (subc (jmk T) T.su_NoBar_NotOpen (subc (jml T) T.su_NoLock_NotOpen (subc (jm0 T) T.su_NoMeasure_NotOpen (subc (jp9 T) T.su_NoPermit_NotOpen (subc (jfl T) T.su_NoRow_NotOpen (subc (jn2 T) T.su_NoSwitch_NotOpen (subc (jpt T) T.su_NotDead_NotOpen (subc (jp5 T) T.su_NotEarthed_NotOpen (subc (jn0 T) T.su_NotLocked_NotOpen (subc (jms T) T.su_NotOpen_NotOpen (subc (jmj T) T.su_Same_NotOpen (subc (jmw T) T.su_Shorted_NotOpen jga)))))))))))))))
theorem sub_Y0:jh6 (ct T) T.c_Y0 w_Y0:=(subc (jl6 T) T.su_Held_Shorted (subc (jm4 T) T.su_Loaded_Shorted (subc (jjz T) T.su_Locked_Shorted (subc (jmk T) T.su_NoBar_Shorted (subc (jml T) T.su_NoLock_Shorted (subc (jm0 T) T.su_NoMeasure_Shorted (subc (jp9 T) T.su_NoPermit_Shorted (subc (jfl T) T.su_NoRow_Shorted (subc (jn2 T) T.su_NoSwitch_Shorted (subc (jpt T) T.su_NotDead_Shorted (subc (jp5 T) T.su_NotEarthed_Shorted (subc (jn0 T) T.su_NotLocked_Shorted (subc (jms T) T.su_NotOpen_Shorted (subc (jmj T) T.su_Same_Shorted (subc (jmw T) T.su_Shorted_Shorted jga)))))))))))))))
seal PE PA PS PSs
local macro_rules | `(tactic| trivial) => `(tactic| first | exact Or.inl rfl | exact Or.inr rfl)
theorem ok_X1:FnOk P w K mg base (CXE P w) 1 T.f_X1 T.fd_X1 ["switches","shut","some"] (spZ (ct T) z_X1):=by
 refine okZ2 (b:=b_X1) T.H_X1.F jpf λcdv A outer s H E hr=> ?_
 have hu:=hr.units
 refine⟨_,(ja4 (jax (i:=3) jpf.nd rfl (by trivial) (jbw (jii (K:=K) rfl) (by rfl) T.b_list jry (ja0 (pv 2) ja7)))
   (ja4 (jhf (i:=4) jpf.nd rfl (by trivial) (CompOk.mk (tgs:=["k"]) (cap:=["switches"]) (idx:=[0]) rfl rfl (by decide+kernel) (by decide+kernel) (List.forall_mem_cons.mpr ⟨rfl,(List.forall_mem_nil _)⟩) rfl (.cons rfl (by trivial) (by trivial) rfl rfl .nil)) rfl (pi_K (K:=K) rfl (pv 1)) (jbt (by decide)) (λ_ _ _ _=>(jb7 (i:=0) (show List.Nodup (α:=PySem.Str) ["k","switches"] by decide+kernel) rfl (by trivial))) (λ_ _ _ _=>(ji8 (jal (jb9 hu) (jbm (jcg (P:=P) (w:=w) (K:=K) rfl rfl rfl) (by rfl) T.b_len jex (ja0 (ixq P w K hu (pv 1) (pv 0)) ja7)) ja9 (jat _)))) (λ_ _ _ _=>(ixq P w K hu (pv 1) (pv 0))))
   (ja4 (jax (i:=5) jpf.nd rfl (by trivial) ja9)
   (ja4 (jn9 ownE (jal (jy9) (pv 5) (jbm (jcg (P:=P) (w:=w) (K:=K) rfl rfl rfl) (by rfl) T.b_len jex (ja0 (pv 3) ja7)) (jat _)) (ja4 (jfu ownE rfl (pi_K (K:=K) rfl (pv 4)) (jb7 (i:=6) jpf.nd rfl (by trivial)) (ja4 (jaz (PW.pt (jgx (jal (jb9 hu) (ixq P w K hu (pv 6) ja9) (ixq P w K hu (pv 3) (pv 5)) (jat _)) (jei (jal (jel (P:=P) (w:=w) (K:=K) rfl rfl rfl hu) (ixq P w K hu (pv 6) ja9) (pv 3) (by with_unfolding_all rfl))))) (ja5 (jdv (jh2 (K:=K) rfl (jke PySem.F.plainAttrs_list PySem.F.slot_list_append PySem.F.type_list_append jg7 (pv 3) (ja0 (ixq P w K hu (pv 6) ja9) ja7))))) jaf)
   (ja5 (jaz (PW.pt (jgx (jal (jb9 hu) (ixq P w K hu (pv 6) ja9) (ixq P w K hu (pv 3) (pv 5)) (jat _)) (jei (jal (jel (P:=P) (w:=w) (K:=K) rfl rfl rfl hu) (ixq P w K hu (pv 6) ja9) (pv 3) (by with_unfolding_all rfl))))) (ja5 (jdv (jh2 (K:=K) rfl (jke PySem.F.plainAttrs_list PySem.F.slot_list_append PySem.F.type_list_append jg7 (pv 3) (ja0 (ixq P w K hu (pv 6) ja9) ja7))))) jaf))))
   (ja5 (jax (i:=5) jpf.nd rfl (by trivial) (jb4 (jcw (K:=K) rfl) (pv 5) ja9)))))
   (ja5 (jah (jbm (jgs (K:=K) rfl) (by rfl) T.b_sorted jk5 (ja0 (pv 3) ja7)))))))),?_⟩
 exact(ja8 (jau (jri (jwi (ja3 ja1 jab))) jad)
   (ja8 (jk3 (jb3 (jda (si_V ja1) jad (jaj (s_op jc4 (s_cb jem (ja3 (s_ix ja1 ja1) jab)) jak)) (s_ix ja1 ja1))))
   (ja8 (jau jak jad)
   (ja8 (jo1 (jaj (s_op jyn ja1 (s_cb jem (ja3 ja1 jab)))) (ja8 (jgo (si_V ja1) jad (ja8 (jay (jgr (jaj (s_op jc4 (s_ix ja1 jak) (s_ix ja1 ja1))) (jaj (s_op je0 (s_ix ja1 jak) ja1))) (jia ja1 (s_ix ja1 jak)) jag)
   (jay (jgr (jaj (s_op jc4 (s_ix ja1 jak) (s_ix ja1 ja1))) (jaj (s_op je0 (s_ix ja1 jak) ja1))) (jia ja1 (s_ix ja1 jak)) jag)))
   (jau (s_op jdp ja1 jak) jad)))
   (ji1 (i:=3) (jai (jb3 (jnt (ja3 ja1 jab)))))))))
theorem jsk:FnOk P w K mg base (CXE P w) 2 T.f_X5 T.fd_X5 ["switches","shut","kind"] (spZ (ct T) z_X5):=by
 refine okZ2 (b:=b_X5) T.H_X5.F jzd λcdv A outer s H E hr=> ?_
 have hu:=hr.units
 refine⟨_,(ja4 (jax (i:=3) jzd.nd rfl (by trivial) (jbx ja7))
   (ja4 (jfu ownE rfl (pi_K (K:=K) rfl (pv 1)) (jb7 (i:=4) jzd.nd rfl (by trivial)) (ja5 (jaz (PW.pt (jgx (jal (jb9 hu) (ixq P w K hu (ixq P w K hu (pv 0) (pv 4)) ja9) (pv 2) (jat _)) (jei (jal (jel (P:=P) (w:=w) (K:=K) rfl rfl rfl hu) (ixq P w K hu (ixq P w K hu (pv 0) (pv 4)) ja9) (pv 3) (by with_unfolding_all rfl))))) (ja5 (jdv (jh2 (K:=K) rfl (jke PySem.F.plainAttrs_list PySem.F.slot_list_append PySem.F.type_list_append jg7 (pv 3) (ja0 (ixq P w K hu (ixq P w K hu (pv 0) (pv 4)) ja9) ja7))))) jaf)))
   (ja5 (jah (pe_g (gOf T.H_X1 (ok_X1 T)) (hm hr) jap (ja0 (pv 0) (ja0 (pv 1) (ja0 (pv 3) ja7)))))))),?_⟩
 exact(ja8 (jau (jri (jby jab)) jad)
   (ja8 (jgo (si_V ja1) jad (jay (jgr (jaj (s_op jc4 (s_ix (s_ix ja1 ja1) jak) ja1)) (jaj (s_op je0 (s_ix (s_ix ja1 ja1) jak) ja1))) (jia ja1 (s_ix (s_ix ja1 ja1) jak)) jag))
   (ji1 (i:=3) (jai (jaq (ja3 ja1 (ja3 ja1 (ja3 ja1 jab))))))))
theorem ok_Xq:FnOk P w K mg base (CXE P w) 1 T.f_Xq T.fd_Xq ["numbers"] (spZ (ct T) z_Xq):=by
 refine okZ2 (b:=b_Xq) T.H_Xq.F sc_Xq λcdv A outer s H E hr=> ?_
 have hu:=hr.units
 refine⟨_,(ja4 (jaz (jal (jb9 hu) (pv 0) (jbx ja7) (jat _)) (ja5 (jah jam)) jaf)
   (ja5 (jah (jh2 (K:=K) rfl (jke PySem.F.plainAttrs_str PySem.F.slot_str_join PySem.F.type_str_join (jj2 (K:=K) rfl) jam (ja0 (jgc (CompOk.mk (tgs:=["number"]) (cap:=[]) (idx:=[]) rfl rfl (by decide+kernel) (by decide+kernel) (List.forall_mem_nil _) rfl .nil) rfl (pi_K (K:=K) rfl (pv 0)) (jbt (by decide)) (λ_ _ _ _=>(jb7 (i:=0) (show List.Nodup (α:=PySem.Str) ["number"] by decide+kernel) rfl (by trivial))) (λ_ _ _ _=>jff) (λ_ _ _ _=>(jbw (jev) (by rfl) T.b_str jis (ja0 (pv 0) ja7)))) ja7)))))),?_⟩
 exact(ja8 (jay (jaj (s_op jc4 ja1 (jb3 (jby jab)))) (jai jav) jag)
   (jai (s_sm jma jav (ja3 (jb3 (jda (si_V ja1) jad jic (s_cb jkq (ja3 ja1 jab)))) jab))))
theorem jss:FnOk P w K mg base (CXE P w) 1 T.f_Q1 T.fd_Q1 ["numbers"] (spZ (ct T) z_Q1):=by
 refine okZ2 (b:=b_Q1) T.H_Q1.F sc_Q1 λcdv A outer s H E hr=> ?_
 have hu:=hr.units
 refine⟨_,(ja4 (jaz (jdz (jb1 (K:=K) rfl (pv 0) (λ_=>rfl))) (ja5 (jah jam)) jaf)
   (ja5 (jah (jh2 (K:=K) rfl (jke PySem.F.plainAttrs_str PySem.F.slot_str_join PySem.F.type_str_join (jj2 (K:=K) rfl) jam (ja0 (jgc (CompOk.mk (tgs:=["number"]) (cap:=[]) (idx:=[]) rfl rfl (by decide+kernel) (by decide+kernel) (List.forall_mem_nil _) rfl .nil) rfl (pi_K (K:=K) rfl (pv 0)) (jbt (by decide)) (λ_ _ _ _=>(jb7 (i:=0) (show List.Nodup (α:=PySem.Str) ["number"] by decide+kernel) rfl (by trivial))) (λ_ _ _ _=>jff) (λ_ _ _ _=>(jbw (jev) (by rfl) T.b_str jis (ja0 (pv 0) ja7)))) ja7)))))),?_⟩
 exact(ja8 (jay (jdy (jbk ja1)) (jai jav) jag)
   (jai (s_sm jma jav (ja3 (jb3 (jda (si_V ja1) jad jic (s_cb jkq (ja3 ja1 jab)))) jab))))
theorem ok_Xp:FnOk P w K mg base (CXE P w) 1 T.f_Xp T.fd_Xp ["word"] (spZ (ct T) z_Xp):=by
 refine okZ2 (b:=b_Xp) T.H_Xp.F sc_Xp λcdv A outer s H E hr=> ?_
 have hu:=hr.units
 refine⟨_,(ja4 (jaz (jdz (jjf (jqe) (jqe) ja9 (jbm (jcg (P:=P) (w:=w) (K:=K) rfl rfl rfl) (by rfl) T.b_len jex (ja0 (pv 0) ja7)) (jp6 T.c_MOST_FIGURES))) (ja5 (jah jcv)) jaf)
   (ja4 (jaz (PW.pt (jgx (jal (jb9 hu) (ixq P w K hu (pv 0) ja9) jam (jat _)) (jei (jal (op_gt) (jbm (jcg (P:=P) (w:=w) (K:=K) rfl rfl rfl) (by rfl) T.b_len jex (ja0 (pv 0) ja7)) ja9 (jat _))))) (ja5 (jah jcv)) jaf)
   (ja5 (jah (jbm (jk6 (K:=K) rfl rfl) (by rfl) T.b_all jxf (ja0 (jgc (CompOk.mk (tgs:=["sign"]) (cap:=[]) (idx:=[]) rfl rfl (by decide+kernel) (by decide+kernel) (List.forall_mem_nil _) rfl .nil) rfl (pi_K (K:=K) rfl (pv 0)) (jbt (by decide)) (λ_ _ _ _=>(jb7 (i:=0) (show List.Nodup (α:=PySem.Str) ["sign"] by decide+kernel) rfl (by trivial))) (λ_ _ _ _=>jff) (λ_ _ _ _=>(jcz (jdl (P:=P) (w:=w) (K:=K) rfl rfl rfl hu) (pv 0) (jp6 T.c_FIGURES) (by with_unfolding_all rfl)))) ja7)))))),?_⟩
 exact(ja8 (jay (jdy (jaj (jmt jr0 jr0 jak (s_cb jem (ja3 ja1 jab)) jak))) (jai s_bl) jag)
   (ja8 (jay (jgr (jaj (s_op jc4 (s_ix ja1 jak) jav)) (jaj (s_op s2_gt (s_cb jem (ja3 ja1 jab)) jak))) (jai s_bl) jag)
   (jai (s_cb jx8 (ja3 (jb3 (jda (si_V ja1) jad jic (s_op je0 ja1 jav))) jab)))))
theorem ok_Qs:FnOk P w K mg base (CXE P w) 2 T.f_Qs T.fd_Qs ["words"] (spZ (ct T) z_Qs):=by
 refine okZ2 (b:=b_Qs) T.H_Qs.F sc_Qs λcdv A outer s H E hr=> ?_
 have hu:=hr.units
 refine⟨_,(ja4 (jaz (jdz (jb1 (K:=K) rfl (jbm (jk6 (K:=K) rfl rfl) (by rfl) T.b_all jxf (ja0 (jgc (CompOk.mk (tgs:=["word"]) (cap:=[]) (idx:=[]) rfl rfl (by decide+kernel) (by decide+kernel) (List.forall_mem_nil _) rfl .nil) rfl (pi_K (K:=K) rfl (pv 0)) (jbt (by decide)) (λ_ _ _ _=>(jb7 (i:=0) (show List.Nodup (α:=PySem.Str) ["word"] by decide+kernel) rfl (by trivial))) (λ_ _ _ _=>jff) (λ_ _ _ _=>(pe_g (gOf T.H_Xp (ok_Xp T)) (hm hr) jhm (ja0 (pv 0) ja7)))) ja7)) (λ_=>rfl))) (ja5 (jbc T.x_Yg jam (hr.mono (Nat.zero_le _)))) jaf)
   (ja5 (jah (jgc (CompOk.mk (tgs:=["word"]) (cap:=[]) (idx:=[]) rfl rfl (by decide+kernel) (by decide+kernel) (List.forall_mem_nil _) rfl .nil) rfl (pi_K (K:=K) rfl (pv 0)) (jbt (by decide)) (λ_ _ _ _=>(jb7 (i:=0) (show List.Nodup (α:=PySem.Str) ["word"] by decide+kernel) rfl (by trivial))) (λ_ _ _ _=>jff) (λ_ _ _ _=>(jbw (jek) (by rfl) T.b_int jk2 (ja0 (pv 0) ja7))))))),?_⟩
 exact(ja8 (jay (jdy (jbk (s_cb jx8 (ja3 (jb3 (jda (si_V ja1) jad jic (jaq (ja3 ja1 jab)))) jab)))) (jba (jfl T) jav) jag)
   (jai (jb3 (jda (si_V ja1) jad jic (s_cb jka (ja3 ja1 jab))))))
theorem ok_Xb:FnOk P w K mg base (CXE P w) 3 T.f_Xb T.fd_Xb ["words"] (spZ (ct T) z_Xb):=by
 refine okZ2 (b:=b_Xb) T.H_Xb.F sc_Xb λcdv A outer s H E hr=> ?_
 have hu:=hr.units
 refine⟨_,(ja4 (jaz (jal (jct hu) (jbm (jcg (P:=P) (w:=w) (K:=K) rfl rfl rfl) (by rfl) T.b_len jex (ja0 (pv 0) ja7)) ja9 (jat _)) (ja5 (jbc T.x_Yg jam (hr.mono (Nat.zero_le _)))) jaf)
   (ja5 (jah (ixq P w K hu (pe_g (gOf T.H_Qs (ok_Qs T)) (hm hr) jap (ja0 (pv 0) ja7)) ja9)))),?_⟩
 exact(ja8 (jay (jaj (s_op jea (s_cb jem (ja3 ja1 jab)) jak)) (jba (jfl T) jav) jag)
   (jai (s_ix (jaq (ja3 ja1 jab)) jak)))
theorem ok_X6:FnOk P w K mg base (CXE P w) 1 T.f_X6 T.fd_X6 ["words","bars"] (spZ (ct T) z_X6):=by
 exact jf2
theorem ok_Ya:FnOk P w K mg base (CXE P w) 3 T.f_Ya T.fd_Ya ["row"] (spZ (ct T) z_Ya):=by
 refine okZ2 (b:=b_Ya) T.H_Ya.F jyp λcdv A outer s H E hr=> ?_
 have hu:=hr.units
 refine⟨_,(ja4 (jax (i:=1) jyp.nd rfl (by trivial) (jh2 (K:=K) rfl (jke PySem.F.plainAttrs_str PySem.F.slot_str_split PySem.F.type_str_split joc (pv 0) (ja0 jam ja7))))
   (ja4 (jax (i:=2) jyp.nd rfl (by trivial) (ixq P w K hu (pv 1) ja9))
   (ja4 (jaz (PW.pt (jv2 (jal (jel (P:=P) (w:=w) (K:=K) rfl rfl rfl hu) (pv 2) (jp6 T.c_NUMBERS_BEHIND) (by with_unfolding_all rfl)) (job (jal (jct hu) (jbm (jcg (P:=P) (w:=w) (K:=K) rfl rfl rfl) (by rfl) T.b_len jex (ja0 (pv 1) ja7)) (jb4 (jcw (K:=K) rfl) ja9 (ixq P w K hu (jp6 T.c_NUMBERS_BEHIND) (pv 2))) (jat _))))) (ja5 (jbc T.x_Yg jam (hr.mono (Nat.zero_le _)))) jaf)
   (ja5 (jah (jbw (jln (K:=K) rfl) (by rfl) T.b_tuple jw5 (ja0 (jb4 (jcw (K:=K) rfl) (jbx (ja0 (pv 2) ja7)) (pe_g (gOf T.H_Qs (ok_Qs T)) (hm hr) jap (ja0 (jds (sl_K (K:=K) rfl) (pv 1) (jeu ja9) jet) ja7))) ja7))))))),?_⟩
 exact(ja8 (jau (jb3 (jq5 ja1 (ja3 jav jab))) jad)
   (ja8 (jau (s_ix ja1 jak) jad)
   (ja8 (jay (jvk (jaj (s_op je0 ja1 (s_c λ_ _=>by unfold jc5;simp only[RV];exact⟨_,_,rfl,T.d_NUMBERS_BEHIND,rfl⟩))) (jaj (s_op jea (s_cb jem (ja3 ja1 jab)) (s_op jdp jak (s_ix (s_c λ_ _=>by unfold jc5;simp only[RV];exact⟨_,_,rfl,T.d_NUMBERS_BEHIND,rfl⟩) ja1))))) (jba (jfl T) jav) jag)
   (jai (s_cb jw4 (ja3 (s_op jdp (jb3 (jby (ja3 ja1 jab))) (jaq (ja3 (s_sl ja1 (jk8 jak) jjs) jab))) jab))))))
theorem ok_Xr:FnOk P w K mg base (CXE P w) 4 T.f_Xr T.fd_Xr ["row"] (spZ (ct T) z_Xr):=by
 refine okZ2 (b:=b_Xr) T.H_Xr.F sc_Xr λcdv A outer s H E hr=> ?_
 have hu:=hr.units
 refine⟨_,(ja4 (jax (i:=1) sc_Xr.nd rfl (by trivial) (pe_g (gOf T.H_Ya (ok_Ya T)) (hm hr) jap (ja0 (pv 0) ja7)))
   (ja4 (jaz (jal (jct hu) (ixq P w K hu (pv 1) ja9) jam (jat _)) (ja5 (jbc T.x_Yg jam (hr.mono (Nat.zero_le _)))) jaf)
   (ja4 (jaz (jdz (jjf (jqe) (jqe) ja9 (ixq P w K hu (pv 1) ja9) (jp6 T.c_MOST_BARS))) (ja5 (jbc T.x_Xi jam (hr.mono (Nat.zero_le _)))) jaf)
   (ja5 (jah (ixq P w K hu (pv 1) ja9)))))),?_⟩
 exact(ja8 (jau (jaq (ja3 ja1 jab)) jad)
   (ja8 (jay (jaj (s_op jea (s_ix ja1 jak) jav)) (jba (jfl T) jav) jag)
   (ja8 (jay (jdy (jaj (jmt jr0 jr0 jak (s_ix ja1 jak) jak))) (jba (jm0 T) jav) jag)
   (jai (s_ix ja1 jak)))))
theorem ok_Ql:FnOk P w K mg base (CXE P w) 1 T.f_Ql T.fd_Ql ["yard","place"] (spZ (ct T) z_Ql):=by
 exact jf2
theorem ok_Xh:FnOk P w K mg base (CXE P w) 4 T.f_Xh T.fd_Xh ["row","bars","switches_ahead"] (spZ (ct T) z_Xh):=by
 refine okZ2 (b:=b_Xh) T.H_Xh.F sc_Xh λcdv A outer s H E hr=> ?_
 have hu:=hr.units
 refine⟨_,(ja4 (jax (i:=3) sc_Xh.nd rfl (by trivial) (pe_g (gOf T.H_Ya (ok_Ya T)) (hm hr) jap (ja0 (pv 0) ja7)))
   (ja4 (jaz (jal (jb9 hu) (ixq P w K hu (pv 3) ja9) jam (jat _)) (ja5 (jbc T.x_Yg jam (hr.mono (Nat.zero_le _)))) jaf)
   (ja4 (jaz (jal (op_ge) (pv 2) (jp6 T.c_MOST_SWITCHES) (jat _)) (ja5 (jbc T.x_Yg jam (hr.mono (Nat.zero_le _)))) jaf)
   (ja4 (jaz (jal (op_ge) (jbm (jrg (K:=K) rfl rfl) (by rfl) T.b_max bt_max (ja0 (jds (sl_K (K:=K) rfl) (pv 3) (jeu ja9) jet) ja7)) (pv 1) (jat _)) (ja5 (jbc T.x_Ye jam (hr.mono (Nat.zero_le _)))) jaf)
   (ja4 (jaz (PW.pt (jgx (jal (jb9 hu) (jbm (jcg (P:=P) (w:=w) (K:=K) rfl rfl rfl) (by rfl) T.b_len jex (ja0 (pv 3) ja7)) ja9 (jat _)) (jei (jal (jb9 hu) (ixq P w K hu (pv 3) ja9) (ixq P w K hu (pv 3) ja9) (jat _))))) (ja5 (jbc T.x_Yi jam (hr.mono (Nat.zero_le _)))) jaf)
   (ja5 (jah (pv 3)))))))),?_⟩
 exact(ja8 (jau (jaq (ja3 ja1 jab)) jad)
   (ja8 (jay (jaj (s_op jc4 (s_ix ja1 jak) jav)) (jba (jfl T) jav) jag)
   (ja8 (jay (jaj (s_op s2_ge ja1 jak)) (jba (jfl T) jav) jag)
   (ja8 (jay (jaj (s_op s2_ge (s_cb sl_max (ja3 (s_sl ja1 (jk8 jak) jjs) jab)) ja1)) (jba (jmk T) jav) jag)
   (ja8 (jay (jgr (jaj (s_op jc4 (s_cb jem (ja3 ja1 jab)) jak)) (jaj (s_op jc4 (s_ix ja1 jak) (s_ix ja1 jak)))) (jba (jmj T) jav) jag)
   (jai ja1))))))
theorem ok_Q2:FnOk P w K mg base (CXE P w) 1 T.f_Q2 T.fd_Q2 ["self","one","other"] (spZ (ct T) z_Q2):=by
 refine okZ2 (b:=b_Q2) T.H_Q2.F sc_Q2 λcdv A outer s H E hr=> ?_
 have hu:=hr.units
 refine⟨_,(ja4 (jbv (K:=K) rfl (jcp (pv 0) (pv 1) rfl))
   (ja5 (jbv (K:=K) rfl (jcp (pv 0) (pv 2) rfl)))),?_⟩
 exact(ja8 (jcq (jnl T) ja1 ja1)
   (jcq (jhb T) ja1 ja1))
theorem ok_Qa:FnOk P w K mg base (CXE P w) 1 T.f_Qa T.fd_Qa ["self","bar"] (spZ (ct T) z_Qa):=by
 refine okZ2 (b:=b_Qa) T.H_Qa.F sc_Qa λcdv A outer s H E hr=> ?_
 have hu:=hr.units
 refine⟨_,(ja5 (jbv (K:=K) rfl (jcp (pv 0) (pv 1) rfl))),?_⟩
 exact(jcq (jog T) ja1 ja1)
theorem ok_Qc:FnOk P w K mg base (CXE P w) 1 T.f_Qc T.fd_Qc ["self","bar"] (spZ (ct T) z_Qc):=by
 refine okZ2 (b:=b_Qc) T.H_Qc.F sc_Qc λcdv A outer s H E hr=> ?_
 have hu:=hr.units
 refine⟨_,(ja5 (jbv (K:=K) rfl (jcp (pv 0) (pv 1) rfl))),?_⟩
 exact(jcq (jog T) ja1 ja1)
theorem ok_Q0:FnOk P w K mg base (CXE P w) 1 T.f_Q0 T.fd_Q0 ["self","one","other"] (spZ (ct T) z_Q0):=by
 refine okZ2 (b:=b_Q0) T.H_Q0.F sc_Q0 λcdv A outer s H E hr=> ?_
 have hu:=hr.units
 refine⟨_,(ja4 (jbv (K:=K) rfl (jcp (pv 0) (pv 1) rfl))
   (ja5 (jbv (K:=K) rfl (jcp (pv 0) (pv 2) rfl)))),?_⟩
 exact(ja8 (jcq (jnl T) ja1 ja1)
   (jcq (jhb T) ja1 ja1))
theorem ok_Xm:FnOk P w K mg base (CXE P w) 3 T.f_Xm T.fd_Xm ["switch"] (spZ (ct T) z_Xm):=by
 refine okZ2 (b:=b_Xm) T.H_Xm.F sc_Xm λcdv A outer s H E hr=> ?_
 have hu:=hr.units
 refine⟨_,(ja4 (jax (i:=1) sc_Xm.nd rfl (by trivial) (ixq P w K hu (pv 0) ja9))
   (ja4 (jaz (jal (jb9 hu) (pv 1) jam (jat _)) (ja5 (jah (jjd (mOf T.C_Yj T.mt_Qc T.H_Qc (ok_Qc T)) (hm hr) jap (ja0 (ixq P w K hu (pv 0) ja9) ja7)))) jaf)
   (ja4 (jaz (jal (jb9 hu) (pv 1) jam (jat _)) (ja5 (jah (jjd (mOf T.C_Yf T.mt_Qa T.H_Qa (ok_Qa T)) (hm hr) jap (ja0 (ixq P w K hu (pv 0) ja9) ja7)))) jaf)
   (ja4 (jaz (jal (jb9 hu) (pv 1) jam (jat _)) (ja5 (jah (jjd (mOf T.C_Xx T.mt_Q2 T.H_Q2 (ok_Q2 T)) (hm hr) jap (ja0 (ixq P w K hu (pv 0) ja9) (ja0 (ixq P w K hu (pv 0) ja9) ja7))))) jaf)
   (ja5 (jah (jjd (mOf T.C_Xu T.mt_Q0 T.H_Q0 (ok_Q0 T)) (hm hr) jap (ja0 (ixq P w K hu (pv 0) ja9) (ja0 (ixq P w K hu (pv 0) ja9) ja7))))))))),?_⟩
 exact(ja8 (jau (s_ix ja1 jak) jad)
   (ja8 (jay (jaj (s_op jc4 ja1 jav)) (jai (jgw (jox T) (ja3 (s_ix ja1 jak) jab))) jag)
   (ja8 (jay (jaj (s_op jc4 ja1 jav)) (jai (jgw (jot T) (ja3 (s_ix ja1 jak) jab))) jag)
   (ja8 (jay (jaj (s_op jc4 ja1 jav)) (jai (jgw (jmo T) (ja3 (s_ix ja1 jak) (ja3 (s_ix ja1 jak) jab)))) jag)
   (jai (jgw (jmb T) (ja3 (s_ix ja1 jak) (ja3 (s_ix ja1 jak) jab))))))))
theorem jv6:FnOk P w K mg base (CXE P w) 4 T.f_Qw T.fd_Qw ["self","yard"] (spZ (ct T) z_Qw):=by
 refine okZ2 (b:=b_Qw) T.H_Qw.F sc_Qw λcdv A outer s H E hr=> ?_
 have hu:=hr.units
 refine⟨_,(ja5 (jbv (K:=K) rfl (jcp (pv 0) (jgc (CompOk.mk (tgs:=["switch"]) (cap:=[]) (idx:=[]) rfl rfl (by decide+kernel) (by decide+kernel) (List.forall_mem_nil _) rfl .nil) rfl (pi_K (K:=K) rfl (ixq P w K hu (pv 1) ja9)) (jbt (by decide)) (λ_ _ _ _=>(jb7 (i:=0) (show List.Nodup (α:=PySem.Str) ["switch"] by decide+kernel) rfl (by trivial))) (λ_ _ _ _=>jff) (λ_ _ _ _=>(pe_g (gOf T.H_Xm (ok_Xm T)) (hm hr) jhm (ja0 (pv 0) ja7)))) rfl))),?_⟩
 exact(jcq (je9 T) ja1 (jb3 (jda (si_V (s_ix ja1 jak)) jad jic (jaq (ja3 ja1 jab)))))
theorem ok_Q8:FnOk P w K mg base (CXE P w) 6 T.f_Q8 T.fd_Q8 ["self","yard"] (spZ (ct T) z_Q8):=by
 refine okZ2 (b:=b_Q8) T.H_Q8.F sc_Q8 λcdv A outer s H E hr=> ?_
 have hu:=hr.units
 refine⟨_,(ja4 (jbv (K:=K) rfl (jcp (pv 0) (jfd (ja0 (ixq P w K hu (pv 1) ja9) (ja0 (jbw (jii (K:=K) rfl) (by rfl) T.b_list jry (ja0 (ixq P w K hu (pv 1) ja9) ja7)) ja7))) rfl))
   (ja4 (jbv (K:=K) rfl (jcp (pv 0) (jjd (mOf T.C_Net T.mt_Qw T.H_Qw (jv6 T)) (hm hr) jap (ja0 (jaw (K:=K) rfl (jb2 (pv 0) rfl)) ja7)) rfl))
   (ja4 (jbv (K:=K) rfl (jcp (pv 0) ja9 rfl))
   (ja4 (jbv (K:=K) rfl (jcp (pv 0) ja9 rfl))
   (ja4 (jbv (K:=K) rfl (jcp (pv 0) jtu rfl))
   (ja5 (jbv (K:=K) rfl (jcp (pv 0) ja9 rfl)))))))),?_⟩
 exact(ja8 (jcq (jch T) ja1 (jig (ja3 (s_ix ja1 jak) (ja3 (jb3 (jwi (ja3 (s_ix ja1 jak) jab))) jab))))
   (ja8 (jcq (jx2 T) ja1 (jgw (jew T) (ja3 (jbl (jch T) ja1) jab)))
   (ja8 (jcq (jgj T) ja1 jak)
   (ja8 (jcq (jcu T) ja1 jak)
   (ja8 (jcq (jo9 T) ja1 s_dnew)
   (jcq (jid T) ja1 jak))))))
theorem ok_X4:FnOk P w K mg base (CXE P w) 8 T.f_X4 T.fd_X4 ["self","yard"] (spZ (ct T) z_X4):=by
 refine okZ2 (b:=b_X4) T.H_X4.F sc_X4 λcdv A outer s H E hr=> ?_
 have hu:=hr.units
 refine⟨_,(ja4 (jbv (K:=K) rfl (jcp (pv 0) (pv 1) rfl))
   (ja4 (jbv (K:=K) rfl (jcp (pv 0) (jjd (mOf T.C_Yb T.mt_Q8 T.H_Q8 (ok_Q8 T)) (hm hr) jap (ja0 (pv 1) ja7)) rfl))
   (ja5 (jah jam)))),?_⟩
 exact(ja8 (jcq (jch T) ja1 ja1)
   (ja8 (jcq (jcx T) ja1 (jqt (jfj T) (ja3 ja1 jab)))
   (jai jav)))
theorem jo7:jco (ct T) mg base 8 "begin" jg2:=by
 exact(mtc (jjq T) T.C_Yk.cl T.mt_X4 (ok_X4 T) (by decide) T.H_X4.B jca)
theorem ok_Q5:FnOk P w K mg base (CXE P w) 9 T.f_Q5 T.fd_Q5 ["self","row"] (spZ (ct T) z_Q5):=by
 refine okZ2 (b:=b_Q5) T.H_Q5.F jy4 λcdv A outer s H E hr=> ?_
 have hu:=hr.units
 refine⟨_,(ja4 (jax (i:=2) jy4.nd rfl (by trivial) (ixq P w K hu (jaw (K:=K) rfl (jb2 (pv 0) rfl)) ja9))
   (ja4 (jax (i:=3) jy4.nd rfl (by trivial) (ixq P w K hu (jaw (K:=K) rfl (jb2 (pv 0) rfl)) ja9))
   (ja5 (jah (mdq P w K mg base 8 (jd1 (pv 0) (hm hr) jap (ja0 (jfd (ja0 (pv 2) (ja0 (jb4 (jcw (K:=K) rfl) (pv 3) (jbx (ja0 (pe_g (gOf T.H_Xh (ok_Xh T)) (hm hr) jap (ja0 (pv 1) (ja0 (pv 2) (ja0 (jbm (jcg (P:=P) (w:=w) (K:=K) rfl rfl rfl) (by rfl) T.b_len jex (ja0 (pv 3) ja7)) ja7)))) ja7))) ja7))) ja7))))))),?_⟩
 exact(ja8 (jau (s_ix (jbl (jch T) ja1) jak) jad)
   (ja8 (jau (s_ix (jbl (jch T) ja1) jak) jad)
   (jai (jb8 (jo7 T) ja1 (ja3 (jig (ja3 ja1 (ja3 (s_op jdp ja1 (jb3 (jby (ja3 (jaq (ja3 ja1 (ja3 ja1 (ja3 (s_cb jem (ja3 ja1 jab)) jab)))) jab)))) jab))) jab)))))
theorem jg5:FnOk P w K mg base (CXE P w) 1 T.f_has T.fd_has ["some","number"] (spZ (ct T) jfq):=by
 refine okZ2 (b:=jxm) T.H_has.F sc_has λcdv A outer s H E hr=> ?_
 have hu:=hr.units
 refine⟨_,(ja5 (jah (jcz (jb9 hu) (jb4 jh3 (jb4 op_shr (pv 0) (pv 1)) ja9) ja9 (jat _)))),?_⟩
 exact(jai (s_op jc4 (s_op jh4 (s_op s2_shr ja1 ja1) jak) jak))
theorem ok_Q6:FnOk P w K mg base (CXE P w) 1 T.f_Q6 T.fd_Q6 ["self","number"] (spZ (ct T) z_Q6):=by
 exact jf2
theorem ju3:FnOk P w K mg base (CXE P w) 1 T.f_Qm T.fd_Qm ["yard","number"] (spZ (ct T) z_Qm):=by
 refine okZ2 (b:=b_Qm) T.H_Qm.F sc_Qm λcdv A outer s H E hr=> ?_
 have hu:=hr.units
 refine⟨_,(ja5 (jaz (jdz (jjf (jqe) (jy9) ja9 (pv 1) (jbm (jcg (P:=P) (w:=w) (K:=K) rfl rfl rfl) (by rfl) T.b_len jex (ja0 (ixq P w K hu (pv 0) ja9) ja7)))) (ja5 (jbc T.x_Xv jam (hr.mono (Nat.zero_le _)))) jaf)),?_⟩
 exact(jay (jdy (jaj (jmt jr0 jyn jak ja1 (s_cb jem (ja3 (s_ix ja1 jak) jab))))) (jba (jn2 T) jav) jag)
theorem jvg:FnOk P w K mg base (CXE P w) 1 T.f_Qv T.fd_Qv ["self"] (spZ (ct T) z_Qv):=by
 refine okZ2 (b:=b_Qv) T.H_Qv.F sc_Qv λcdv A outer s H E hr=> ?_
 have hu:=hr.units
 refine⟨_,(ja5 (jah ja9)),?_⟩
 exact(jai jak)
theorem ok_X9:FnOk P w K mg base (CXE P w) 1 T.f_X9 T.fd_X9 ["self"] (spZ (ct T) z_X9):=by
 refine okZ2 (b:=b_X9) T.H_X9.F sc_X9 λcdv A outer s H E hr=> ?_
 have hu:=hr.units
 refine⟨_,(ja5 (jah (jb4 jfg ja9 (jaw (K:=K) rfl (jb2 (pv 0) rfl))))),?_⟩
 exact(jai (s_op jfe jak (jbl (jog T) ja1)))
theorem jvw:FnOk P w K mg base (CXE P w) 1 T.f_Qj T.fd_Qj ["self"] (spZ (ct T) z_Qj):=by
 refine okZ2 (b:=b_Qj) T.H_Qj.F sc_Qj λcdv A outer s H E hr=> ?_
 have hu:=hr.units
 refine⟨_,(ja5 (jah jcv)),?_⟩
 exact(jai s_bl)
theorem ok_Q4:FnOk P w K mg base (CXE P w) 1 T.f_Q4 T.fd_Q4 ["self"] (spZ (ct T) z_Q4):=by
 refine okZ2 (b:=b_Q4) T.H_Q4.F sc_Q4 λcdv A outer s H E hr=> ?_
 have hu:=hr.units
 refine⟨_,(ja5 (jah jcv)),?_⟩
 exact(jai s_bl)
theorem jns:jco (ct T) mg base 1 "feeds" jd5:=by
 exact(mtc (jv0 T) T.C_Y5.cl T.mt_Qv (jvg T) (by decide) T.H_Qv.B (mtc (jox T) T.C_Yj.cl T.mt_X9 (ok_X9 T) (by decide) T.H_X9.B (mtc (jot T) T.C_Yf.cl T.mt_Earth_feeds (jvg T) (by decide) T.H_Qv.B (mtc (jmo T) T.C_Xx.cl T.mt_Breaker_feeds (jvg T) (by decide) T.H_Qv.B (mtc (jmb T) T.C_Xu.cl T.mt_Splitter_feeds (jvg T) (by decide) T.H_Qv.B jca)))))
theorem jkw:jco (ct T) mg base 1 "gentle" jcl:=by
 exact(mtc (jv0 T) T.C_Y5.cl T.mt_Qj (jvw T) (by decide) T.H_Qj.B (mtc (jox T) T.C_Yj.cl T.mt_Feed_gentle (jvw T) (by decide) T.H_Qj.B (mtc (jot T) T.C_Yf.cl T.mt_Earth_gentle (jvw T) (by decide) T.H_Qj.B (mtc (jmo T) T.C_Xx.cl T.mt_Breaker_gentle (jvw T) (by decide) T.H_Qj.B (mtc (jmb T) T.C_Xu.cl T.mt_Q4 (ok_Q4 T) (by decide) T.H_Q4.B jca)))))
theorem ok_Xw:FnOk P w K mg base (CXE P w) 2 T.f_Xw T.fd_Xw ["switch"] (spZ (ct T) z_Xw):=by
 refine okZ2 (b:=b_Xw) T.H_Xw.F sc_Xw λcdv A outer s H E hr=> ?_
 have hu:=hr.units
 refine⟨_,(ja5 (jah (pe_or (jcz (jct hu) (mdq P w K mg base 1 (je2 (pv 0) (hm hr) jap)) ja9 (jat _)) (jwc (mdq P w K mg base 1 (je2 (pv 0) (hm hr) jap)))))),?_⟩
 exact(jai (s_orV (s_op jea (jb8 (jns T) ja1 jab) jak) (jb8 (jkw T) ja1 jab)))
theorem ok_X3:FnOk P w K mg base (CXE P w) 3 T.f_X3 T.fd_X3 ["self","number"] (spZ (ct T) z_X3):=by
 refine okZ2 (b:=b_X3) T.H_X3.F sc_X3 λcdv A outer s H E hr=> ?_
 have hu:=hr.units
 refine⟨_,(ja4 (jdv (pe_g (gOf T.H_Qm (ju3 T)) (hm hr) jap (ja0 (jaw (K:=K) rfl (jb2 (pv 0) rfl)) (ja0 (pv 1) ja7))))
   (ja4 (jaz (jdz (jb1 (K:=K) rfl (pe_g (gOf T.H_Xw (ok_Xw T)) (hm hr) jap (ja0 (ixq P w K hu (jaw (K:=K) rfl (jb2 (jaw (K:=K) rfl (jb2 (pv 0) rfl)) rfl)) (pv 1)) ja7)) (λ_=>rfl))) (ja5 (jbc T.x_Y6 jam (hr.mono (Nat.zero_le _)))) jaf)
   (ja4 (jaz (jb1 (K:=K) rfl (pe_g (gOf T.H_has (jg5 T)) (hm hr) jap (ja0 (jaw (K:=K) rfl (jb2 (pv 0) rfl)) (ja0 (pv 1) ja7))) (λ_=>rfl)) (ja5 (jbc T.x_Y1 jam (hr.mono (Nat.zero_le _)))) jaf)
   (ja4 (jaz (jb1 (K:=K) rfl (pe_g (gOf T.H_has (jg5 T)) (hm hr) jap (ja0 (jaw (K:=K) rfl (jb2 (pv 0) rfl)) (ja0 (pv 1) ja7))) (λ_=>rfl)) (ja5 (jbc T.x_Y9 jam (hr.mono (Nat.zero_le _)))) jaf)
   (ja4 (jbv (K:=K) rfl (jcp (pv 0) (jb4 jmd (jaw (K:=K) rfl (jb2 (pv 0) rfl)) (jb4 jfg ja9 (pv 1))) rfl))
   (ja5 (jah (jaw (K:=K) rfl (jb2 (pv 0) rfl))))))))),?_⟩
 exact(ja8 (jfh (jaq (ja3 (jbl (jch T) ja1) (ja3 ja1 jab))))
   (ja8 (jay (jdy (jbk (jaq (ja3 (s_ix (jbl (je9 T) (jbl (jx2 T) ja1)) ja1) jab)))) (jba (jml T) jav) jag)
   (ja8 (jay (jbk (jaq (ja3 (jbl (jgj T) ja1) (ja3 ja1 jab)))) (jba (jms T) jav) jag)
   (ja8 (jay (jbk (jaq (ja3 (jbl (jcu T) ja1) (ja3 ja1 jab)))) (jba (jjz T) jav) jag)
   (ja8 (jcq (jcu T) ja1 (s_op jlv (jbl (jcu T) ja1) (s_op jfe jak ja1)))
   (jai (jbl (jcu T) ja1)))))))
theorem ok_Y8:FnOk P w K mg base (CXE P w) 1 T.f_Y8 T.fd_Y8 ["some"] (spZ (ct T) z_Y8):=by
 refine okZ2 (b:=b_Y8) T.H_Y8.F sc_Y8 λcdv A outer s H E hr=> ?_
 have hu:=hr.units
 refine⟨_,(ja5 (jah (jb4 jh3 (pv 0) (ju7 un_neg (pv 0))))),?_⟩
 exact(jai (s_op jh4 ja1 (s_un s1_neg ja1)))
theorem jz2:FnOk P w K mg base (CXE P w) 1 T.f_Qr T.fd_Qr ["self"] (spZ (ct T) z_Qr):=by
 refine okZ2 (b:=b_Qr) T.H_Qr.F sc_Qr λcdv A outer s H E hr=> ?_
 have hu:=hr.units
 refine⟨_,(ja5 (jah ja9)),?_⟩
 exact(jai jak)
theorem ok_Qh:FnOk P w K mg base (CXE P w) 1 T.f_Qh T.fd_Qh ["self"] (spZ (ct T) z_Qh):=by
 refine okZ2 (b:=b_Qh) T.H_Qh.F sc_Qh λcdv A outer s H E hr=> ?_
 have hu:=hr.units
 refine⟨_,(ja5 (jah (jb4 jmd (jb4 jfg ja9 (jaw (K:=K) rfl (jb2 (pv 0) rfl))) (jb4 jfg ja9 (jaw (K:=K) rfl (jb2 (pv 0) rfl)))))),?_⟩
 exact(jai (s_op jlv (s_op jfe jak (jbl (jnl T) ja1)) (s_op jfe jak (jbl (jhb T) ja1))))
theorem ok_Q9:FnOk P w K mg base (CXE P w) 1 T.f_Q9 T.fd_Q9 ["self"] (spZ (ct T) z_Q9):=by
 refine okZ2 (b:=b_Q9) T.H_Q9.F sc_Q9 λcdv A outer s H E hr=> ?_
 have hu:=hr.units
 refine⟨_,(ja5 (jah (jb4 jmd (jb4 jfg ja9 (jaw (K:=K) rfl (jb2 (pv 0) rfl))) (jb4 jfg ja9 (jaw (K:=K) rfl (jb2 (pv 0) rfl)))))),?_⟩
 exact(jai (s_op jlv (s_op jfe jak (jbl (jnl T) ja1)) (s_op jfe jak (jbl (jhb T) ja1))))
theorem ok_Qi:FnOk P w K mg base (CXE P w) 2 T.f_Qi T.fd_Qi ["self","standing"] (spZ (ct T) z_Qi):=by
 refine okZ2 (b:=b_Qi) T.H_Qi.F sc_Qi λcdv A outer s H E hr=> ?_
 have hu:=hr.units
 refine⟨_,(ja5 (jah (jgc (CompOk.mk (tgs:=["number","switch"]) (cap:=["standing"]) (idx:=[1]) rfl rfl (by decide+kernel) (by decide+kernel) (List.forall_mem_cons.mpr ⟨rfl,(List.forall_mem_nil _)⟩) rfl (.cons rfl (by trivial) (by trivial) rfl rfl .nil)) rfl (jvu (K:=K) rfl (jyy rfl T.b_enumerate (ja0 (jaw (K:=K) rfl (jb2 (pv 0) rfl)) ja7))) (jzl (jlb (by decide) (jlb (by decide) jud))) (λ_ _ _ _=>(jm1 (K:=K) rfl (jro (n:=2) rfl (jf3 (jb7 (i:=0) (show List.Nodup (α:=PySem.Str) ["number","switch","standing"] by decide+kernel) rfl (by trivial)) (jf3 (jb7 (i:=1) (show List.Nodup (α:=PySem.Str) ["number","switch","standing"] by decide+kernel) rfl (by trivial)) jm3))))) (λ_ _ _ _=>(ji8 (jb1 (K:=K) rfl (pe_g (gOf T.H_has (jg5 T)) (hm hr) jhm (ja0 (pv 2) (ja0 (pv 0) ja7))) (λ_=>rfl)))) (λ_ _ _ _=>(pv 1))))),?_⟩
 exact(jai (jb3 (jda (jy1 (ja3 (jbl (je9 T) ja1) jab)) (jr8 rfl (jfa (jfa jlt))) (jbk (jaq (ja3 ja1 (ja3 ja1 jab)))) ja1)))
theorem jnj:jco (ct T) mg base 1 "joins" jci:=by
 exact(mtc (jv0 T) T.C_Y5.cl T.mt_Qr (jz2 T) (by decide) T.H_Qr.B (mtc (jox T) T.C_Yj.cl T.mt_Feed_joins (jz2 T) (by decide) T.H_Qr.B (mtc (jot T) T.C_Yf.cl T.mt_Earth_joins (jz2 T) (by decide) T.H_Qr.B (mtc (jmo T) T.C_Xx.cl T.mt_Qh (ok_Qh T) (by decide) T.H_Qh.B (mtc (jmb T) T.C_Xu.cl T.mt_Q9 (ok_Q9 T) (by decide) T.H_Q9.B jca)))))
theorem jes:jco (ct T) mg base 2 "shut_ones" jbo:=by
 exact(mtc (jew T) T.C_Net.cl T.mt_Qi (ok_Qi T) (by decide) T.H_Qi.B jca)
theorem ok_Q7:FnOk P w K mg base (CXE P w) 3 T.f_Q7 T.fd_Q7 ["self","standing","some"] (spZ (ct T) z_Q7):=by
 refine okZ2 (b:=b_Q7) T.H_Q7.F jm5 λcdv A outer s H E hr=> ?_
 have hu:=hr.units
 refine⟨_,(ja4 (jhf (i:=3) jm5.nd rfl (by trivial) (CompOk.mk (tgs:=["switch"]) (cap:=[]) (idx:=[]) rfl rfl (by decide+kernel) (by decide+kernel) (List.forall_mem_nil _) rfl .nil) rfl (pi_K (K:=K) rfl (mdq P w K mg base 2 (jd1 (pv 0) (hm hr) jap (ja0 (pv 1) ja7)))) (jbt (by decide)) (λ_ _ _ _=>(jb7 (i:=0) (show List.Nodup (α:=PySem.Str) ["switch"] by decide+kernel) rfl (by trivial))) (λ_ _ _ _=>jff) (λ_ _ _ _=>(mdq P w K mg base 1 (je2 (pv 0) (hm hr) jhm))))
   (ja4 (jax (i:=4) jm5.nd rfl (by trivial) (pv 2))
   (ja4 (jax (i:=5) jm5.nd rfl (by trivial) jna)
   (ja4 (jn9 ownE (jal (jct hu) (pv 4) (pv 5) (jat _)) (ja4 (jax (i:=5) jm5.nd rfl (by trivial) (pv 4))
   (ja5 (jfu ownE rfl (pi_K (K:=K) rfl (pv 3)) (jb7 (i:=6) jm5.nd rfl (by trivial)) (ja5 (jaz (jb1 (K:=K) rfl (jb4 jh3 (pv 6) (pv 4)) (λ_=>rfl)) (ja5 (jax (i:=4) jm5.nd rfl (by trivial) (jb4 jmd (pv 4) (pv 6)))) jaf))))))
   (ja5 (jah (pv 4))))))),?_⟩
 exact(ja8 (jk3 (jb3 (jda (si_V (jb8 (jes T) ja1 (ja3 ja1 jab))) jad jic (jb8 (jnj T) ja1 jab))))
   (ja8 (jau ja1 jad)
   (ja8 (jau jvx jad)
   (ja8 (jo1 (jaj (s_op jea ja1 ja1)) (ja8 (jau ja1 jad)
   (jgo (si_V ja1) jad (jay (jbk (s_op jh4 ja1 ja1)) (jau (s_op jlv ja1 ja1) jad) jag))))
   (jai ja1)))))
theorem jdt:jco (ct T) mg base 3 "joined_bars" jbp:=by
 exact(mtc (jew T) T.C_Net.cl T.mt_Q7 (ok_Q7 T) (by decide) T.H_Q7.B jca)
theorem ok_Qe:FnOk P w K mg base (CXE P w) 4 T.f_Qe T.fd_Qe ["self","standing"] (spZ (ct T) z_Qe):=by
 refine okZ2 (b:=b_Qe) T.H_Qe.F jur λcdv A outer s H E hr=> ?_
 have hu:=hr.units
 refine⟨_,(ja4 (jax (i:=2) jur.nd rfl (by trivial) ja9)
   (ja4 (jfu ownE rfl (pi_K (K:=K) rfl (mdq P w K mg base 2 (jd1 (pv 0) (hm hr) jap (ja0 (pv 1) ja7)))) (jb7 (i:=3) jur.nd rfl (by trivial)) (ja5 (jax (i:=2) jur.nd rfl (by trivial) (jb4 jmd (pv 2) (mdq P w K mg base 1 (je2 (pv 3) (hm hr) jap))))))
   (ja5 (jah (mdq P w K mg base 3 (jd1 (pv 0) (hm hr) jap (ja0 (pv 1) (ja0 (pv 2) ja7)))))))),?_⟩
 exact(ja8 (jau jak jad)
   (ja8 (jgo (si_V (jb8 (jes T) ja1 (ja3 ja1 jab))) jad (jau (s_op jlv ja1 (jb8 (jns T) ja1 jab)) jad))
   (jai (jb8 (jdt T) ja1 (ja3 ja1 (ja3 ja1 jab))))))
theorem jer:jco (ct T) mg base 4 "live_bars" jce:=by
 exact(mtc (jew T) T.C_Net.cl T.mt_Qe (ok_Qe T) (by decide) T.H_Qe.B jca)
theorem ok_Yd:FnOk P w K mg base (CXE P w) 5 T.f_Yd T.fd_Yd ["net","standing","number"] (spZ (ct T) z_Yd):=by
 refine okZ2 (b:=b_Yd) T.H_Yd.F jtt λcdv A outer s H E hr=> ?_
 have hu:=hr.units
 refine⟨_,(ja4 (jax (i:=3) jtt.nd rfl (by trivial) (ixq P w K hu (jaw (K:=K) rfl (jb2 (pv 0) rfl)) (pv 2)))
   (ja4 (jaz (jdz (jb1 (K:=K) rfl (mdq P w K mg base 1 (je2 (pv 3) (hm hr) jap)) (λ_=>rfl))) (ja5 (jah jcv)) jaf)
   (ja4 (jax (i:=4) jtt.nd rfl (by trivial) (jb4 jh3 (pv 1) (ju7 jqn (jb4 jfg ja9 (pv 2)))))
   (ja4 (jax (i:=5) jtt.nd rfl (by trivial) (mdq P w K mg base 1 (je2 (pv 3) (hm hr) jap)))
   (ja4 (jaz (jdz (jb1 (K:=K) rfl (jb4 jh3 (pv 5) (mdq P w K mg base 4 (jd1 (pv 0) (hm hr) jap (ja0 (pv 4) ja7)))) (λ_=>rfl))) (ja5 (jah jcv)) jaf)
   (ja5 (jah (jcz (jct hu) (jb4 jh3 (pv 5) (ju7 jqn (mdq P w K mg base 3 (jd1 (pv 0) (hm hr) jap (ja0 (pv 4) (ja0 (pe_g (gOf T.H_Y8 (ok_Y8 T)) (hm hr) jap (ja0 (pv 5) ja7)) ja7)))))) ja9 (jat _))))))))),?_⟩
 exact(ja8 (jau (s_ix (jbl (je9 T) ja1) ja1) jad)
   (ja8 (jay (jdy (jbk (jb8 (jkw T) ja1 jab))) (jai s_bl) jag)
   (ja8 (jau (s_op jh4 ja1 (s_un jr4 (s_op jfe jak ja1))) jad)
   (ja8 (jau (jb8 (jnj T) ja1 jab) jad)
   (ja8 (jay (jdy (jbk (s_op jh4 ja1 (jb8 (jer T) ja1 (ja3 ja1 jab))))) (jai s_bl) jag)
   (jai (s_op jea (s_op jh4 ja1 (s_un jr4 (jb8 (jdt T) ja1 (ja3 ja1 (ja3 (jaq (ja3 ja1 jab)) jab))))) jak)))))))
theorem ok_Xa:FnOk P w K mg base (CXE P w) 1 T.f_Xa T.fd_Xa ["standing","number"] (spZ (ct T) z_Xa):=by
 refine okZ2 (b:=b_Xa) T.H_Xa.F sc_Xa λcdv A outer s H E hr=> ?_
 have hu:=hr.units
 refine⟨_,(ja5 (jah (jb4 op_xor (pv 0) (jb4 jfg ja9 (pv 1))))),?_⟩
 exact(jai (s_op s2_xor ja1 (s_op jfe jak ja1)))
theorem juf:FnOk P w K mg base (CXE P w) 1 T.f_Qg T.fd_Qg ["self"] (spZ (ct T) z_Qg):=by
 refine okZ2 (b:=b_Qg) T.H_Qg.F sc_Qg λcdv A outer s H E hr=> ?_
 have hu:=hr.units
 refine⟨_,(ja5 (jah ja9)),?_⟩
 exact(jai jak)
theorem ok_Qx:FnOk P w K mg base (CXE P w) 1 T.f_Qx T.fd_Qx ["self"] (spZ (ct T) z_Qx):=by
 refine okZ2 (b:=b_Qx) T.H_Qx.F sc_Qx λcdv A outer s H E hr=> ?_
 have hu:=hr.units
 refine⟨_,(ja5 (jah (jb4 jfg ja9 (jaw (K:=K) rfl (jb2 (pv 0) rfl))))),?_⟩
 exact(jai (s_op jfe jak (jbl (jog T) ja1)))
theorem jr2:jco (ct T) mg base 1 "earths" jd8:=by
 exact(mtc (jv0 T) T.C_Y5.cl T.mt_Qg (juf T) (by decide) T.H_Qg.B (mtc (jox T) T.C_Yj.cl T.mt_Feed_earths (juf T) (by decide) T.H_Qg.B (mtc (jot T) T.C_Yf.cl T.mt_Qx (ok_Qx T) (by decide) T.H_Qx.B (mtc (jmo T) T.C_Xx.cl T.mt_Breaker_earths (juf T) (by decide) T.H_Qg.B (mtc (jmb T) T.C_Xu.cl T.mt_Splitter_earths (juf T) (by decide) T.H_Qg.B jca)))))
theorem ok_Qt:FnOk P w K mg base (CXE P w) 3 T.f_Qt T.fd_Qt ["self","standing"] (spZ (ct T) z_Qt):=by
 refine okZ2 (b:=b_Qt) T.H_Qt.F jvi λcdv A outer s H E hr=> ?_
 have hu:=hr.units
 refine⟨_,(ja4 (jax (i:=2) jvi.nd rfl (by trivial) ja9)
   (ja4 (jfu ownE rfl (pi_K (K:=K) rfl (mdq P w K mg base 2 (jd1 (pv 0) (hm hr) jap (ja0 (pv 1) ja7)))) (jb7 (i:=3) jvi.nd rfl (by trivial)) (ja5 (jax (i:=2) jvi.nd rfl (by trivial) (jb4 jmd (pv 2) (mdq P w K mg base 1 (je2 (pv 3) (hm hr) jap))))))
   (ja5 (jah (pv 2))))),?_⟩
 exact(ja8 (jau jak jad)
   (ja8 (jgo (si_V (jb8 (jes T) ja1 (ja3 ja1 jab))) jad (jau (s_op jlv ja1 (jb8 (jr2 T) ja1 jab)) jad))
   (jai ja1)))
theorem jmx:jco (ct T) mg base 3 "led_bars" jdn:=by
 exact(mtc (jew T) T.C_Net.cl T.mt_Qt (ok_Qt T) (by decide) T.H_Qt.B jca)
theorem ok_Q3:FnOk P w K mg base (CXE P w) 4 T.f_Q3 T.fd_Q3 ["self","standing"] (spZ (ct T) z_Q3):=by
 refine okZ2 (b:=b_Q3) T.H_Q3.F sc_Q3 λcdv A outer s H E hr=> ?_
 have hu:=hr.units
 refine⟨_,(ja5 (jah (mdq P w K mg base 3 (jd1 (pv 0) (hm hr) jap (ja0 (pv 1) (ja0 (mdq P w K mg base 3 (jd1 (pv 0) (hm hr) jap (ja0 (pv 1) ja7))) ja7)))))),?_⟩
 exact(jai (jb8 (jdt T) ja1 (ja3 ja1 (ja3 (jb8 (jmx T) ja1 (ja3 ja1 jab)) jab))))
theorem jez:jco (ct T) mg base 4 "earthed_bars" jcf:=by
 exact(mtc (jew T) T.C_Net.cl T.mt_Q3 (ok_Q3 T) (by decide) T.H_Q3.B jca)
theorem ok_Qz:FnOk P w K mg base (CXE P w) 5 T.f_Qz T.fd_Qz ["self","standing"] (spZ (ct T) z_Qz):=by
 refine okZ2 (b:=b_Qz) T.H_Qz.F sc_Qz λcdv A outer s H E hr=> ?_
 have hu:=hr.units
 refine⟨_,(ja5 (jah (jcz (jb9 hu) (jb4 jh3 (mdq P w K mg base 4 (jd1 (pv 0) (hm hr) jap (ja0 (pv 1) ja7))) (mdq P w K mg base 4 (jd1 (pv 0) (hm hr) jap (ja0 (pv 1) ja7)))) ja9 (jat _)))),?_⟩
 exact(jai (s_op jc4 (s_op jh4 (jb8 (jer T) ja1 (ja3 ja1 jab)) (jb8 (jez T) ja1 (ja3 ja1 jab))) jak))
theorem jps:jco (ct T) mg base 5 "is_safe" jgg:=by
 exact(mtc (jew T) T.C_Net.cl T.mt_Qz (ok_Qz T) (by decide) T.H_Qz.B jca)
theorem ok_Y4:FnOk P w K mg base (CXE P w) 6 T.f_Y4 T.fd_Y4 ["net","standing","number"] (spZ (ct T) z_Y4):=by
 refine okZ2 (b:=b_Y4) T.H_Y4.F sc_Y4 λcdv A outer s H E hr=> ?_
 have hu:=hr.units
 refine⟨_,(ja5 (jah (js2 (K:=K) rfl (mdq P w K mg base 5 (jd1 (pv 0) (hm hr) jap (ja0 (pe_g (gOf T.H_Xa (ok_Xa T)) (hm hr) jap (ja0 (pv 1) (ja0 (pv 2) ja7))) ja7)))))),?_⟩
 exact(jai (jwv (jb8 (jps T) ja1 (ja3 (jaq (ja3 ja1 (ja3 ja1 jab))) jab))))
theorem ok_Y2:FnOk P w K mg base (CXE P w) 7 T.f_Y2 T.fd_Y2 ["yard","standing","number"] (spZ (ct T) z_Y2):=by
 refine okZ2 (b:=b_Y2) T.H_Y2.F sc_Y2 λcdv A outer s H E hr=> ?_
 have hu:=hr.units
 refine⟨_,(ja4 (jdv (pe_g (gOf T.H_Qm (ju3 T)) (hm hr) jap (ja0 (pv 0) (ja0 (pv 2) ja7))))
   (ja4 (jax (i:=3) sc_Y2.nd rfl (by trivial) (jjd (mOf T.C_Net T.mt_Qw T.H_Qw (jv6 T)) (hm hr) jap (ja0 (pv 0) ja7)))
   (ja4 (jaz (jb1 (K:=K) rfl (pe_g (gOf T.H_Yd (ok_Yd T)) (hm hr) jap (ja0 (pv 3) (ja0 (pv 1) (ja0 (pv 2) ja7)))) (λ_=>rfl)) (ja5 (jbc T.x_Y7 jam (hr.mono (Nat.zero_le _)))) jaf)
   (ja4 (jaz (jb1 (K:=K) rfl (pe_g (gOf T.H_Y4 (ok_Y4 T)) (hm hr) jap (ja0 (pv 3) (ja0 (pv 1) (ja0 (pv 2) ja7)))) (λ_=>rfl)) (ja5 (jbc T.x_Y0 jam (hr.mono (Nat.zero_le _)))) jaf)
   (ja5 (jah (pe_g (gOf T.H_Xa (ok_Xa T)) (hm hr) jap (ja0 (pv 1) (ja0 (pv 2) ja7))))))))),?_⟩
 exact(ja8 (jfh (jaq (ja3 ja1 (ja3 ja1 jab))))
   (ja8 (jau (jgw (jew T) (ja3 ja1 jab)) jad)
   (ja8 (jay (jbk (jaq (ja3 ja1 (ja3 ja1 (ja3 ja1 jab))))) (jba (jm4 T) jav) jag)
   (ja8 (jay (jbk (jaq (ja3 ja1 (ja3 ja1 (ja3 ja1 jab))))) (jba (jmw T) jav) jag)
   (jai (jaq (ja3 ja1 (ja3 ja1 jab))))))))
theorem ok_Xf:FnOk P w K mg base (CXE P w) 1 T.f_Xf T.fd_Xf ["self"] (spZ (ct T) z_Xf):=by
 refine okZ2 (b:=b_Xf) T.H_Xf.F ju2 λcdv A outer s H E hr=> ?_
 have hu:=hr.units
 refine⟨_,(ja4 (jax (i:=1) ju2.nd rfl (by trivial) ja9)
   (ja4 (jxh ownE rfl (jaw (K:=K) rfl (jb2 (pv 0) rfl)) (jb7 (i:=2) ju2.nd rfl (by trivial)) (ja5 (jax (i:=1) ju2.nd rfl (by trivial) (jb4 jmd (pv 1) (ixq P w K hu (pv 2) ja9)))))
   (ja5 (jah (pv 1))))),?_⟩
 exact(ja8 (jau jak jad)
   (ja8 (jxx (jbl (jo9 T) ja1) jad (jau (s_op jlv ja1 (s_ix ja1 jak)) jad))
   (jai ja1)))
theorem jqg:jco (ct T) mg base 1 "held" ji6:=by
 exact(mtc (jfj T) T.C_Yb.cl T.mt_Xf (ok_Xf T) (by decide) T.H_Xf.B jca)
theorem ok_Xc:FnOk P w K mg base (CXE P w) 8 T.f_Xc T.fd_Xc ["self","number"] (spZ (ct T) z_Xc):=by
 refine okZ2 (b:=b_Xc) T.H_Xc.F sc_Xc λcdv A outer s H E hr=> ?_
 have hu:=hr.units
 refine⟨_,(ja4 (jdv (pe_g (gOf T.H_Qm (ju3 T)) (hm hr) jap (ja0 (jaw (K:=K) rfl (jb2 (pv 0) rfl)) (ja0 (pv 1) ja7))))
   (ja4 (jaz (jb1 (K:=K) rfl (pe_g (gOf T.H_has (jg5 T)) (hm hr) jap (ja0 (jaw (K:=K) rfl (jb2 (pv 0) rfl)) (ja0 (pv 1) ja7))) (λ_=>rfl)) (ja5 (jbc T.x_Y9 jam (hr.mono (Nat.zero_le _)))) jaf)
   (ja4 (jaz (jb1 (K:=K) rfl (pe_g (gOf T.H_has (jg5 T)) (hm hr) jap (ja0 (mdq P w K mg base 1 (je2 (pv 0) (hm hr) jap)) (ja0 (pv 1) ja7))) (λ_=>rfl)) (ja5 (jbc T.x_Yh jam (hr.mono (Nat.zero_le _)))) jaf)
   (ja4 (jbv (K:=K) rfl (jcp (pv 0) (pe_g (gOf T.H_Y2 (ok_Y2 T)) (hm hr) jap (ja0 (jaw (K:=K) rfl (jb2 (pv 0) rfl)) (ja0 (jaw (K:=K) rfl (jb2 (pv 0) rfl)) (ja0 (pv 1) ja7)))) rfl))
   (ja5 (jah (jaw (K:=K) rfl (jb2 (pv 0) rfl)))))))),?_⟩
 exact(ja8 (jfh (jaq (ja3 (jbl (jch T) ja1) (ja3 ja1 jab))))
   (ja8 (jay (jbk (jaq (ja3 (jbl (jcu T) ja1) (ja3 ja1 jab)))) (jba (jjz T) jav) jag)
   (ja8 (jay (jbk (jaq (ja3 (jb8 (jqg T) ja1 jab) (ja3 ja1 jab)))) (jba (jl6 T) jav) jag)
   (ja8 (jcq (jgj T) ja1 (jaq (ja3 (jbl (jch T) ja1) (ja3 (jbl (jgj T) ja1) (ja3 ja1 jab)))))
   (jai (jbl (jgj T) ja1))))))
theorem ok_Qo:FnOk P w K mg base (CXE P w) 2 T.f_Qo T.fd_Qo ["self","number"] (spZ (ct T) z_Qo):=by
 refine okZ2 (b:=b_Qo) T.H_Qo.F sc_Qo λcdv A outer s H E hr=> ?_
 have hu:=hr.units
 refine⟨_,(ja4 (jdv (pe_g (gOf T.H_Qm (ju3 T)) (hm hr) jap (ja0 (jaw (K:=K) rfl (jb2 (pv 0) rfl)) (ja0 (pv 1) ja7))))
   (ja4 (jaz (jdz (jb1 (K:=K) rfl (pe_g (gOf T.H_has (jg5 T)) (hm hr) jap (ja0 (jaw (K:=K) rfl (jb2 (pv 0) rfl)) (ja0 (pv 1) ja7))) (λ_=>rfl))) (ja5 (jbc T.x_Xg jam (hr.mono (Nat.zero_le _)))) jaf)
   (ja4 (jaz (jb1 (K:=K) rfl (pe_g (gOf T.H_has (jg5 T)) (hm hr) jap (ja0 (mdq P w K mg base 1 (je2 (pv 0) (hm hr) jap)) (ja0 (pv 1) ja7))) (λ_=>rfl)) (ja5 (jbc T.x_Yh jam (hr.mono (Nat.zero_le _)))) jaf)
   (ja4 (jbv (K:=K) rfl (jcp (pv 0) (jb4 jh3 (jaw (K:=K) rfl (jb2 (pv 0) rfl)) (ju7 jqn (jb4 jfg ja9 (pv 1)))) rfl))
   (ja5 (jah (jaw (K:=K) rfl (jb2 (pv 0) rfl)))))))),?_⟩
 exact(ja8 (jfh (jaq (ja3 (jbl (jch T) ja1) (ja3 ja1 jab))))
   (ja8 (jay (jdy (jbk (jaq (ja3 (jbl (jcu T) ja1) (ja3 ja1 jab))))) (jba (jn0 T) jav) jag)
   (ja8 (jay (jbk (jaq (ja3 (jb8 (jqg T) ja1 jab) (ja3 ja1 jab)))) (jba (jl6 T) jav) jag)
   (ja8 (jcq (jcu T) ja1 (s_op jh4 (jbl (jcu T) ja1) (s_un jr4 (s_op jfe jak ja1))))
   (jai (jbl (jcu T) ja1))))))
theorem jjx:jco (ct T) mg base 1 "give_back" jgn:=by
 exact(mtc (jfj T) T.C_Yb.cl T.mt_Q6 (ok_Q6 T) (by decide) T.H_Q6.B jca)
theorem jzb:jco (ct T) mg base 3 "lock" jmy:=by
 exact(mtc (jfj T) T.C_Yb.cl T.mt_X3 (ok_X3 T) (by decide) T.H_X3.B jca)
theorem jxk:jco (ct T) mg base 8 "turn" jlx:=by
 exact(mtc (jfj T) T.C_Yb.cl T.mt_Xc (ok_Xc T) (by decide) T.H_Xc.B jca)
theorem jrv:jco (ct T) mg base 2 "unlock" jht:=by
 exact(mtc (jfj T) T.C_Yb.cl T.mt_Qo (ok_Qo T) (by decide) T.H_Qo.B jca)
theorem ok_Xl:FnOk P w K mg base (CXE P w) 9 T.f_Xl T.fd_Xl ["self","kind","number"] (spZ (ct T) z_Xl):=by
 refine okZ2 (b:=b_Xl) T.H_Xl.F sc_Xl λcdv A outer s H E hr=> ?_
 have hu:=hr.units
 refine⟨_,(ja4 (jaz (jal (jb9 hu) (pv 1) jam (jat _)) (ja5 (jah (juv (jb1 (K:=K) rfl (pe_g (gOf T.H_has (jg5 T)) (hm hr) jap (ja0 (mdq P w K mg base 8 (jd1 (jaw (K:=K) rfl (jb2 (pv 0) rfl)) (hm hr) jap (ja0 (pv 2) ja7))) (ja0 (pv 2) ja7))) (λ_=>rfl)) jam jam))) jaf)
   (ja4 (jaz (jal (jb9 hu) (pv 1) jam (jat _)) (ja5 (jdv (mdq P w K mg base 3 (jd1 (jaw (K:=K) rfl (jb2 (pv 0) rfl)) (hm hr) jap (ja0 (pv 2) ja7))))) jaf)
   (ja4 (jaz (jal (jb9 hu) (pv 1) jam (jat _)) (ja5 (jdv (mdq P w K mg base 2 (jd1 (jaw (K:=K) rfl (jb2 (pv 0) rfl)) (hm hr) jap (ja0 (pv 2) ja7))))) jaf)
   (ja4 (jaz (jal (jb9 hu) (pv 1) jam (jat _)) (ja5 (jdv (mdq P w K mg base 1 (jd1 (jaw (K:=K) rfl (jb2 (pv 0) rfl)) (hm hr) jap (ja0 (pv 2) ja7))))) jaf)
   (ja5 (jah jam)))))),?_⟩
 exact(ja8 (jay (jaj (s_op jc4 ja1 jav)) (jai (s_if (jbk (jaq (ja3 (jb8 (jxk T) (jbl (jcx T) ja1) (ja3 ja1 jab)) (ja3 ja1 jab)))) jav jav)) jag)
   (ja8 (jay (jaj (s_op jc4 ja1 jav)) (jfh (jb8 (jzb T) (jbl (jcx T) ja1) (ja3 ja1 jab))) jag)
   (ja8 (jay (jaj (s_op jc4 ja1 jav)) (jfh (jb8 (jrv T) (jbl (jcx T) ja1) (ja3 ja1 jab))) jag)
   (ja8 (jay (jaj (s_op jc4 ja1 jav)) (jfh (jb8 (jjx T) (jbl (jcx T) ja1) (ja3 ja1 jab))) jag)
   (jai jav)))))
theorem ok_Qp:FnOk P w K mg base (CXE P w) 1 T.f_Qp T.fd_Qp ["self","place"] (spZ (ct T) z_Qp):=by
 exact jf2
theorem ok_Xe:FnOk P w K mg base (CXE P w) 1 T.f_Xe T.fd_Xe ["self","words"] (spZ (ct T) z_Xe):=by
 exact jf2
theorem ok_Yc:FnOk P w K mg base (CXE P w) 1 T.f_Yc T.fd_Yc ["yard"] (spZ (ct T) z_Yc):=by
 exact jf2
theorem jw3:FnOk P w K mg base (CXE P w) 2 T.f_X7 T.fd_X7 ["some"] (spZ (ct T) z_X7):=by
 refine okZ2 (b:=b_X7) T.H_X7.F sc_X7 λcdv A outer s H E hr=> ?_
 have hu:=hr.units
 refine⟨_,(ja5 (jah (jgc (CompOk.mk (tgs:=["number"]) (cap:=["some"]) (idx:=[0]) rfl rfl (by decide+kernel) (by decide+kernel) (List.forall_mem_cons.mpr ⟨rfl,(List.forall_mem_nil _)⟩) rfl (.cons rfl (by trivial) (by trivial) rfl rfl .nil)) rfl (jg1 rfl T.b_range (ja0 (jzm (K:=K) rfl (pe_bm0 PySem.F.plainAttrs_int PySem.F.slot_int_bit_length PySem.F.type_int_bit_length jy3 (pv 0))) ja7)) (jbt (by decide)) (λ_ _ _ _=>(jb7 (i:=0) (show List.Nodup (α:=PySem.Str) ["number","some"] by decide+kernel) rfl (by trivial))) (λ_ _ _ _=>(ji8 (jb1 (K:=K) rfl (pe_g (gOf T.H_has (jg5 T)) (hm hr) jhm (ja0 (pv 1) (ja0 (pv 0) ja7))) (λ_=>rfl)))) (λ_ _ _ _=>(pv 0))))),?_⟩
 exact(jai (jb3 (jda (jjk (ja3 (s_bits ja1) jab)) jad (jbk (jaq (ja3 ja1 (ja3 ja1 jab)))) ja1)))
theorem ok_Yl:FnOk P w K mg base (CXE P w) 6 T.f_Yl T.fd_Yl ["yard","standing"] (spZ (ct T) z_Yl):=by
 refine okZ2 (b:=b_Yl) T.H_Yl.F sc_Yl λcdv A outer s H E hr=> ?_
 have hu:=hr.units
 refine⟨_,(ja5 (jah (mdq P w K mg base 4 (jd1 (jjd (mOf T.C_Net T.mt_Qw T.H_Qw (jv6 T)) (hm hr) jap (ja0 (pv 0) ja7)) (hm hr) jap (ja0 (pv 1) ja7))))),?_⟩
 exact(jai (jb8 (jer T) (jgw (jew T) (ja3 ja1 jab)) (ja3 ja1 jab)))
theorem ok_Xz:FnOk P w K mg base (CXE P w) 6 T.f_Xz T.fd_Xz ["yard","standing"] (spZ (ct T) z_Xz):=by
 refine okZ2 (b:=b_Xz) T.H_Xz.F sc_Xz λcdv A outer s H E hr=> ?_
 have hu:=hr.units
 refine⟨_,(ja5 (jah (mdq P w K mg base 4 (jd1 (jjd (mOf T.C_Net T.mt_Qw T.H_Qw (jv6 T)) (hm hr) jap (ja0 (pv 0) ja7)) (hm hr) jap (ja0 (pv 1) ja7))))),?_⟩
 exact(jai (jb8 (jez T) (jgw (jew T) (ja3 ja1 jab)) (ja3 ja1 jab)))
theorem ok_Qn:FnOk P w K mg base (CXE P w) 1 T.f_Qn T.fd_Qn ["self"] (spZ (ct T) z_Qn):=by
 refine okZ2 (b:=b_Qn) T.H_Qn.F sc_Qn λcdv A outer s H E hr=> ?_
 have hu:=hr.units
 refine⟨_,(ja5 (jah (jaw (K:=K) rfl (jb2 (pv 0) rfl)))),?_⟩
 exact(jai (jbl (jcu T) ja1))
theorem ok_Qb:FnOk P w K mg base (CXE P w) 1 T.f_Qb T.fd_Qb ["self"] (spZ (ct T) z_Qb):=by
 refine okZ2 (b:=b_Qb) T.H_Qb.F sc_Qb λcdv A outer s H E hr=> ?_
 have hu:=hr.units
 refine⟨_,(ja5 (jah (jaw (K:=K) rfl (jb2 (pv 0) rfl)))),?_⟩
 exact(jai (jbl (jgj T) ja1))
theorem jqh:jco (ct T) mg base 1 "locked" ji9:=by
 exact(mtc (jfj T) T.C_Yb.cl T.mt_Qn (ok_Qn T) (by decide) T.H_Qn.B jca)
theorem jfk:jco (ct T) mg base 1 "standing" jcn:=by
 exact(mtc (jfj T) T.C_Yb.cl T.mt_Qb (ok_Qb T) (by decide) T.H_Qb.B jca)
theorem ok_Xn:FnOk P w K mg base (CXE P w) 7 T.f_Xn T.fd_Xn ["self","kind"] (spZ (ct T) z_Xn):=by
 refine okZ2 (b:=b_Xn) T.H_Xn.F sc_Xn λcdv A outer s H E hr=> ?_
 have hu:=hr.units
 refine⟨_,(ja4 (jaz (jal (jb9 hu) (pv 1) jam (jat _)) (ja5 (jah (pe_g (gOf T.H_Q1 (jss T)) (hm hr) jap (ja0 (pe_g (gOf T.H_X7 (jw3 T)) (hm hr) jap (ja0 (pe_g (gOf T.H_Yl (ok_Yl T)) (hm hr) jap (ja0 (jaw (K:=K) rfl (jb2 (pv 0) rfl)) (ja0 (mdq P w K mg base 1 (je2 (jaw (K:=K) rfl (jb2 (pv 0) rfl)) (hm hr) jap)) ja7))) ja7)) ja7)))) jaf)
   (ja4 (jaz (jal (jb9 hu) (pv 1) jam (jat _)) (ja5 (jah (pe_g (gOf T.H_Q1 (jss T)) (hm hr) jap (ja0 (pe_g (gOf T.H_X7 (jw3 T)) (hm hr) jap (ja0 (pe_g (gOf T.H_Xz (ok_Xz T)) (hm hr) jap (ja0 (jaw (K:=K) rfl (jb2 (pv 0) rfl)) (ja0 (mdq P w K mg base 1 (je2 (jaw (K:=K) rfl (jb2 (pv 0) rfl)) (hm hr) jap)) ja7))) ja7)) ja7)))) jaf)
   (ja4 (jaz (jal (jb9 hu) (pv 1) jam (jat _)) (ja5 (jah (pe_g (gOf T.H_Q1 (jss T)) (hm hr) jap (ja0 (pe_g (gOf T.H_X7 (jw3 T)) (hm hr) jap (ja0 (mdq P w K mg base 1 (je2 (jaw (K:=K) rfl (jb2 (pv 0) rfl)) (hm hr) jap)) ja7)) ja7)))) jaf)
   (ja4 (jaz (jal (jb9 hu) (pv 1) jam (jat _)) (ja5 (jah (pe_g (gOf T.H_Q1 (jss T)) (hm hr) jap (ja0 (pe_g (gOf T.H_X7 (jw3 T)) (hm hr) jap (ja0 (mdq P w K mg base 1 (je2 (jaw (K:=K) rfl (jb2 (pv 0) rfl)) (hm hr) jap)) ja7)) ja7)))) jaf)
   (ja4 (jaz (jal (jb9 hu) (pv 1) jam (jat _)) (ja5 (jah (pe_g (gOf T.H_Yc (ok_Yc T)) (hm hr) jap (ja0 (jaw (K:=K) rfl (jb2 (pv 0) rfl)) ja7)))) jaf)
   (ja5 (jbc T.x_Yg jam (hr.mono (Nat.zero_le _))))))))),?_⟩
 exact(ja8 (jay (jaj (s_op jc4 ja1 jav)) (jai (jaq (ja3 (jaq (ja3 (jaq (ja3 (jbl (jch T) ja1) (ja3 (jb8 (jfk T) (jbl (jcx T) ja1) jab) jab))) jab)) jab))) jag)
   (ja8 (jay (jaj (s_op jc4 ja1 jav)) (jai (jaq (ja3 (jaq (ja3 (jaq (ja3 (jbl (jch T) ja1) (ja3 (jb8 (jfk T) (jbl (jcx T) ja1) jab) jab))) jab)) jab))) jag)
   (ja8 (jay (jaj (s_op jc4 ja1 jav)) (jai (jaq (ja3 (jaq (ja3 (jb8 (jqh T) (jbl (jcx T) ja1) jab) jab)) jab))) jag)
   (ja8 (jay (jaj (s_op jc4 ja1 jav)) (jai (jaq (ja3 (jaq (ja3 (jb8 (jfk T) (jbl (jcx T) ja1) jab) jab)) jab))) jag)
   (ja8 (jay (jaj (s_op jc4 ja1 jav)) (jai (jaq (ja3 (jbl (jch T) ja1) jab))) jag)
   (jba (jfl T) jav))))))
theorem jj8:jco (ct T) mg base 9 "add_switch" je8:=by
 exact(mtc (jjq T) T.C_Yk.cl T.mt_Q5 (ok_Q5 T) (by decide) T.H_Q5.B jca)
theorem jyf:jco (ct T) mg base 9 "done" jmh:=by
 exact(mtc (jjq T) T.C_Yk.cl T.mt_Xl (ok_Xl T) (by decide) T.H_Xl.B jca)
theorem jtd:jco (ct T) mg base 1 "permit" jkb:=by
 exact(mtc (jfj T) T.C_Yb.cl T.mt_Qp (ok_Qp T) (by decide) T.H_Qp.B jca)
theorem jui:jco (ct T) mg base 1 "reach" jny:=by
 exact(mtc (jjq T) T.C_Yk.cl T.mt_Xe (ok_Xe T) (by decide) T.H_Xe.B jca)
theorem jye:jco (ct T) mg base 7 "tell" jlp:=by
 exact(mtc (jjq T) T.C_Yk.cl T.mt_Xn (ok_Xn T) (by decide) T.H_Xn.B jca)
theorem ok_Xt:FnOk P w K mg base (CXE P w) 10 T.f_Xt T.fd_Xt ["self","row"] (spZ (ct T) z_Xt):=by
 refine okZ2 (b:=b_Xt) T.H_Xt.F juq λcdv A outer s H E hr=> ?_
 have hu:=hr.units
 refine⟨_,(ja4 (jax (i:=2) juq.nd rfl (by trivial) (jh2 (K:=K) rfl (jke PySem.F.plainAttrs_str PySem.F.slot_str_split PySem.F.type_str_split joc (pv 1) (ja0 jam ja7))))
   (ja4 (jax (i:=3) juq.nd rfl (by trivial) (ixq P w K hu (pv 2) ja9))
   (ja4 (jaz (jal (jb9 hu) (pv 3) jam (jat _)) (ja5 (jah (mdq P w K mg base 8 (jd1 (pv 0) (hm hr) jap (ja0 (jfd (ja0 (pe_g (gOf T.H_Xr (ok_Xr T)) (hm hr) jap (ja0 (pv 1) ja7)) (ja0 (jbx ja7) ja7))) ja7))))) jaf)
   (ja4 (jaz (jal (op_isB) (jaw (K:=K) rfl (jb2 (pv 0) rfl)) jna (jat _)) (ja5 (jbc T.x_Yg jam (hr.mono (Nat.zero_le _)))) jaf)
   (ja4 (jaz (jal (jdl (P:=P) (w:=w) (K:=K) rfl rfl rfl hu) (pv 3) (jfd (ja0 jam (ja0 jam (ja0 jam (ja0 jam ja7))))) (by with_unfolding_all rfl)) (ja5 (jah (mdq P w K mg base 9 (jd1 (pv 0) (hm hr) jap (ja0 (pv 1) ja7))))) jaf)
   (ja4 (jaz (jal (jdl (P:=P) (w:=w) (K:=K) rfl rfl rfl hu) (pv 3) (jfd (ja0 jam (ja0 jam (ja0 jam (ja0 jam ja7))))) (by with_unfolding_all rfl)) (ja5 (jah (mdq P w K mg base 9 (jd1 (pv 0) (hm hr) jap (ja0 (pv 3) (ja0 (pe_g (gOf T.H_Xb (ok_Xb T)) (hm hr) jap (ja0 (jds (sl_K (K:=K) rfl) (pv 2) (jeu ja9) jet) ja7)) ja7)))))) jaf)
   (ja4 (jaz (jal (jb9 hu) (pv 3) jam (jat _)) (ja4 (jax (i:=4) juq.nd rfl (by trivial) (mdq P w K mg base 1 (jd1 (jaw (K:=K) rfl (jb2 (pv 0) rfl)) (hm hr) jap (ja0 (pe_g (gOf T.H_X6 (ok_X6 T)) (hm hr) jap (ja0 (jds (sl_K (K:=K) rfl) (pv 2) (jeu ja9) jet) (ja0 (ixq P w K hu (jaw (K:=K) rfl (jb2 (pv 0) rfl)) ja9) ja7))) ja7))))
   (ja5 (jah (pe_js (jq4 jam (jq4 (pe_fmt (pv 4)) pj_nil)))))) jaf)
   (ja4 (jaz (jal (jb9 hu) (pv 3) jam (jat _)) (ja5 (jah (pe_g (gOf T.H_Q1 (jss T)) (hm hr) jap (ja0 (ixq P w K hu (pe_g (gOf T.H_Ql (ok_Ql T)) (hm hr) jap (ja0 (jaw (K:=K) rfl (jb2 (pv 0) rfl)) (ja0 (pe_g (gOf T.H_X6 (ok_X6 T)) (hm hr) jap (ja0 (jds (sl_K (K:=K) rfl) (pv 2) (jeu ja9) jet) (ja0 (ixq P w K hu (jaw (K:=K) rfl (jb2 (pv 0) rfl)) ja9) ja7))) ja7))) ja9) ja7)))) jaf)
   (ja4 (jaz (jal (jb9 hu) (pv 3) jam (jat _)) (ja5 (jah (mdq P w K mg base 1 (jd1 (pv 0) (hm hr) jap (ja0 (jds (sl_K (K:=K) rfl) (pv 2) (jeu ja9) jet) ja7))))) jaf)
   (ja4 (jaz (jal (jct hu) (jbm (jcg (P:=P) (w:=w) (K:=K) rfl rfl rfl) (by rfl) T.b_len jex (ja0 (pv 2) ja7)) ja9 (jat _)) (ja5 (jbc T.x_Yg jam (hr.mono (Nat.zero_le _)))) jaf)
   (ja5 (jah (mdq P w K mg base 7 (jd1 (pv 0) (hm hr) jap (ja0 (pv 3) ja7))))))))))))))),?_⟩
 exact(ja8 (jau (jb3 (jq5 ja1 (ja3 jav jab))) jad)
   (ja8 (jau (s_ix ja1 jak) jad)
   (ja8 (jay (jaj (s_op jc4 ja1 jav)) (jai (jb8 (jo7 T) ja1 (ja3 (jig (ja3 (jaq (ja3 ja1 jab)) (ja3 (jb3 (jby jab)) jab))) jab))) jag)
   (ja8 (jay (jaj (s_op s2_is (jbl (jch T) ja1) jvx)) (jba (jfl T) jav) jag)
   (ja8 (jay (jaj (s_op je0 ja1 (jig (ja3 jav (ja3 jav (ja3 jav (ja3 jav jab))))))) (jai (jb8 (jj8 T) ja1 (ja3 ja1 jab))) jag)
   (ja8 (jay (jaj (s_op je0 ja1 (jig (ja3 jav (ja3 jav (ja3 jav (ja3 jav jab))))))) (jai (jb8 (jyf T) ja1 (ja3 ja1 (ja3 (jaq (ja3 (s_sl ja1 (jk8 jak) jjs) jab)) jab)))) jag)
   (ja8 (jay (jaj (s_op jc4 ja1 jav)) (ja8 (jau (jb8 (jtd T) (jbl (jcx T) ja1) (ja3 (jaq (ja3 (s_sl ja1 (jk8 jak) jjs) (ja3 (s_ix (jbl (jch T) ja1) jak) jab))) jab)) jad)
   (jai (s_js (jrz jav (jrz (s_fmt ja1) sj_nil))))) jag)
   (ja8 (jay (jaj (s_op jc4 ja1 jav)) (jai (jaq (ja3 (s_ix (jaq (ja3 (jbl (jch T) ja1) (ja3 (jaq (ja3 (s_sl ja1 (jk8 jak) jjs) (ja3 (s_ix (jbl (jch T) ja1) jak) jab))) jab))) jak) jab))) jag)
   (ja8 (jay (jaj (s_op jc4 ja1 jav)) (jai (jb8 (jui T) ja1 (ja3 (s_sl ja1 (jk8 jak) jjs) jab))) jag)
   (ja8 (jay (jaj (s_op jea (s_cb jem (ja3 ja1 jab)) jak)) (jba (jfl T) jav) jag)
   (jai (jb8 (jye T) ja1 (ja3 ja1 jab)))))))))))))
theorem jnv:jco (ct T) mg base 10 "say" jgp:=by
 exact(mtc (jjq T) T.C_Yk.cl T.mt_Xt (ok_Xt T) (by decide) T.H_Xt.B jca)
theorem ok_Xo:FnOk P w K mg base (CXE P w) 11 T.f_Xo T.fd_Xo ["desk","switches","shut","locks","turn"] (spZ (ct T) z_Xo):=by
 refine okZ2 (b:=b_Xo) T.H_Xo.F jl4 λcdv A outer s H E hr=> ?_
 have hu:=hr.units
 refine⟨_,(ja4 (jax (i:=5) jl4.nd rfl (by trivial) (pe_g (gOf T.H_X5 (jsk T)) (hm hr) jap (ja0 (pv 1) (ja0 (pv 2) (ja0 jam ja7)))))
   (ja4 (jax (i:=6) jl4.nd rfl (by trivial) (pe_g (gOf T.H_X5 (jsk T)) (hm hr) jap (ja0 (pv 1) (ja0 (pv 2) (ja0 jam ja7)))))
   (ja4 (jax (i:=7) jl4.nd rfl (by trivial) (jbx (ja0 (jfd (ja0 jam (ja0 (pv 2) ja7))) (ja0 (jfd (ja0 jam (ja0 (pv 3) ja7))) (ja0 (jfd (ja0 jam (ja0 (pv 5) ja7))) (ja0 (jfd (ja0 jam (ja0 (pv 6) ja7))) ja7))))))
   (ja4 (jfu ownE rfl (jg1 rfl T.b_range (ja0 ja9 ja7)) (jb7 (i:=8) jl4.nd rfl (by trivial)) (ja4 (jgz (ixq P w K hu (pv 7) (jb4 jdj (jb4 (jcw (K:=K) rfl) (jb4 jz8 (pv 8) (ixq P w K hu (jbx (ja0 ja9 (ja0 ja9 ja7))) (jb4 jdj (pv 4) ja9))) (jb4 jdm (pv 4) ja9)) ja9)) (jm1 (K:=K) rfl (jro (n:=2) rfl (jf3 (jb7 (i:=9) jl4.nd rfl (by trivial)) (jf3 (jb7 (i:=10) jl4.nd rfl (by trivial)) jm3)))))
   (ja4 (jax (i:=11) jl4.nd rfl (by trivial) (mdq P w K mg base 10 (jd1 (pv 0) (hm hr) jap (ja0 (pv 9) ja7))))
   (ja5 (jaz (PW.pt (jv2 (jdz (jb1 (K:=K) rfl (jbm (jq0 (K:=K) rfl) (by rfl) T.b_isinstance jj4 (ja0 (pv 11) (ja0 (pe_ty T.b_str jis) ja7))) (λ_=>rfl))) (job (jal (jct hu) (pv 11) (pe_g (gOf T.H_Xq (ok_Xq T)) (hm hr) jap (ja0 (pv 10) ja7)) (jat _))))) (ja5 (jah jcv)) jaf)))))
   (ja5 (jah (jcz (jb9 hu) (jgc (CompOk.mk (tgs:=["bar"]) (cap:=["cold"]) (idx:=[6]) rfl rfl (by decide+kernel) (by decide+kernel) (List.forall_mem_cons.mpr ⟨rfl,(List.forall_mem_nil _)⟩) rfl (.cons rfl (by trivial) (by trivial) rfl rfl .nil)) rfl (pi_K (K:=K) rfl (pv 5)) (jbt (by decide)) (λ_ _ _ _=>(jb7 (i:=0) (show List.Nodup (α:=PySem.Str) ["bar","cold"] by decide+kernel) rfl (by trivial))) (λ_ _ _ _=>(ji8 (jal (jdl (P:=P) (w:=w) (K:=K) rfl rfl rfl hu) (pv 0) (pv 1) (by with_unfolding_all rfl)))) (λ_ _ _ _=>(pv 0))) (jbx ja7) (jat _)))))))),?_⟩
 exact(ja8 (jau (jaq (ja3 ja1 (ja3 ja1 (ja3 jav jab)))) jad)
   (ja8 (jau (jaq (ja3 ja1 (ja3 ja1 (ja3 jav jab)))) jad)
   (ja8 (jau (jb3 (jby (ja3 (jig (ja3 jav (ja3 ja1 jab))) (ja3 (jig (ja3 jav (ja3 ja1 jab))) (ja3 (jig (ja3 jav (ja3 ja1 jab))) (ja3 (jig (ja3 jav (ja3 ja1 jab))) jab)))))) jad)
   (ja8 (jgo (jjk (ja3 jak jab)) jad (ja8 (jau (s_ix ja1 (s_op jdi (s_op jdp (s_op s2_mul ja1 (s_ix (jb3 (jby (ja3 jak (ja3 jak jab)))) (s_op jdi ja1 jak))) (s_op jf1 ja1 jak)) jak)) (jr8 rfl (jfa (jfa jlt))))
   (ja8 (jau (jb8 (jnv T) ja1 (ja3 ja1 jab)) jad)
   (jay (jvk (jdy (jbk (s_cb sl_isi (ja3 ja1 (ja3 s_ty jab))))) (jaj (s_op jea ja1 (jaq (ja3 ja1 jab))))) (jai s_bl) jag))))
   (jai (s_op jc4 (jb3 (jda (si_V ja1) jad (jaj (s_op je0 ja1 ja1)) ja1)) (jb3 (jby jab))))))))
theorem ok_X0:FnOk P w K mg base (CXE P w) 1 T.f_X0 T.fd_X0 ["cell","bars"] (spZ (ct T) z_X0):=by
 refine okZ2 (b:=b_X0) T.H_X0.F jxr λcdv A outer s H E hr=> ?_
 have hu:=hr.units
 refine⟨_,(ja4 (jax (i:=2) jxr.nd rfl (by trivial) (jb4 jdj (jb4 jdm (pv 0) ja9) (pv 1)))
   (ja4 (jaz (PW.pt (jv2 (jal (jb9 hu) (jb4 jdj (pv 0) ja9) ja9 (jat _)) (job (PW.pt (jgx (jal (jb9 hu) (pv 1) ja9 (jat _)) (jei (jal (jb9 hu) (jb4 jdj (pv 0) ja9) ja9 (jat _)))))))) (ja5 (jah (jbx (ja0 jam (ja0 (pv 2) ja7))))) jaf)
   (ja4 (jaz (PW.pt (jv2 (jal (jb9 hu) (jb4 jdj (pv 0) ja9) ja9 (jat _)) (job (jal (jb9 hu) (pv 1) ja9 (jat _))))) (ja5 (jah (jbx (ja0 jam (ja0 (pv 2) ja7))))) jaf)
   (ja4 (jax (i:=3) jxr.nd rfl (by trivial) (jb4 jdj (jb4 (jcw (K:=K) rfl) (jb4 (jcw (K:=K) rfl) (pv 2) ja9) (jb4 jdj (jb4 jdm (jb4 jdm (pv 0) ja9) (pv 1)) (jb4 op_sub (pv 1) ja9))) (pv 1)))
   (ja5 (jah (jbx (ja0 (ixq P w K hu (jbx (ja0 jam (ja0 jam ja7))) (jb4 jdj (pv 0) ja9)) (ja0 (pv 2) (ja0 (pv 3) ja7)))))))))),?_⟩
 exact(ja8 (jau (s_op jdi (s_op jf1 ja1 jak) ja1) jad)
   (ja8 (jay (jvk (jaj (s_op jc4 (s_op jdi ja1 jak) jak)) (jgr (jaj (s_op jc4 ja1 jak)) (jaj (s_op jc4 (s_op jdi ja1 jak) jak)))) (jai (jb3 (jby (ja3 jav (ja3 ja1 jab))))) jag)
   (ja8 (jay (jvk (jaj (s_op jc4 (s_op jdi ja1 jak) jak)) (jaj (s_op jc4 ja1 jak))) (jai (jb3 (jby (ja3 jav (ja3 ja1 jab))))) jag)
   (ja8 (jau (s_op jdi (s_op jdp (s_op jdp ja1 jak) (s_op jdi (s_op jf1 (s_op jf1 ja1 jak) ja1) (s_op s2_sub ja1 jak))) ja1) jad)
   (jai (jb3 (jby (ja3 (s_ix (jb3 (jby (ja3 jav (ja3 jav jab)))) (s_op jdi ja1 jak)) (ja3 ja1 (ja3 ja1 jab))))))))))
theorem ok_X8:FnOk P w K mg base (CXE P w) 11 T.f_X8 T.fd_X8 ["desk","bars","switches"] (spZ (ct T) z_X8):=by
 refine okZ2 (b:=b_X8) T.H_X8.F sc_X8 λcdv A outer s H E hr=> ?_
 have hu:=hr.units
 refine⟨_,(ja4 (jaz (jal (jct hu) (mdq P w K mg base 10 (jd1 (pv 0) (hm hr) jap (ja0 (jb4 (jcw (K:=K) rfl) jam (jbw (jev) (by rfl) T.b_str jis (ja0 (pv 1) ja7))) ja7))) jam (jat _)) (ja5 (jah jcv)) jaf)
   (ja4 (jfu ownE rfl (pi_K (K:=K) rfl (pv 2)) (jb7 (i:=3) sc_X8.nd rfl (by trivial)) (ja5 (jaz (jal (jct hu) (mdq P w K mg base 10 (jd1 (pv 0) (hm hr) jap (ja0 (jh2 (K:=K) rfl (jke PySem.F.plainAttrs_str PySem.F.slot_str_join PySem.F.type_str_join (jj2 (K:=K) rfl) jam (ja0 (jb4 (jcw (K:=K) rfl) (jbx (ja0 (ixq P w K hu (pv 3) ja9) ja7)) (jgc (CompOk.mk (tgs:=["bar"]) (cap:=[]) (idx:=[]) rfl rfl (by decide+kernel) (by decide+kernel) (List.forall_mem_nil _) rfl .nil) rfl (pi_K (K:=K) rfl (jds (sl_K (K:=K) rfl) (pv 3) (jeu ja9) jet)) (jbt (by decide)) (λ_ _ _ _=>(jb7 (i:=0) (show List.Nodup (α:=PySem.Str) ["bar"] by decide+kernel) rfl (by trivial))) (λ_ _ _ _=>jff) (λ_ _ _ _=>(jbw (jev) (by rfl) T.b_str jis (ja0 (pv 0) ja7))))) ja7))) ja7))) jam (jat _)) (ja5 (jah jcv)) jaf)))
   (ja5 (jah jcv)))),?_⟩
 exact(ja8 (jay (jaj (s_op jea (jb8 (jnv T) ja1 (ja3 (s_op jdp jav (s_cb jkq (ja3 ja1 jab))) jab)) jav)) (jai s_bl) jag)
   (ja8 (jgo (si_V ja1) jad (jay (jaj (s_op jea (jb8 (jnv T) ja1 (ja3 (s_sm jma jav (ja3 (s_op jdp (jb3 (jby (ja3 (s_ix ja1 jak) jab))) (jb3 (jda (si_V (s_sl ja1 (jk8 jak) jjs)) jad jic (s_cb jkq (ja3 ja1 jab))))) jab)) jab)) jav)) (jai s_bl) jag))
   (jai s_bl)))
theorem ok_X2:FnOk P w K mg base (CXE P w) 3 T.f_X2 T.fd_X2 ["switches","shut","at"] (spZ (ct T) z_X2):=by
 refine okZ2 (b:=b_X2) T.H_X2.F jql λcdv A outer s H E hr=> ?_
 have hu:=hr.units
 refine⟨_,(ja4 (jaz (jal (jct hu) (ixq P w K hu (ixq P w K hu (pv 0) (pv 2)) ja9) jam (jat _)) (ja5 (jah jcv)) jaf)
   (ja4 (jhf (i:=3) jql.nd rfl (by trivial) (CompOk.mk (tgs:=["k"]) (cap:=["at"]) (idx:=[2]) rfl rfl (by decide+kernel) (by decide+kernel) (List.forall_mem_cons.mpr ⟨rfl,(List.forall_mem_nil _)⟩) rfl (.cons rfl (by trivial) (by trivial) rfl rfl .nil)) rfl (pi_K (K:=K) rfl (pv 1)) (jbt (by decide)) (λ_ _ _ _=>(jb7 (i:=0) (show List.Nodup (α:=PySem.Str) ["k","at"] by decide+kernel) rfl (by trivial))) (λ_ _ _ _=>(ji8 (jal (jct hu) (pv 0) (pv 1) (jat _)))) (λ_ _ _ _=>(pv 0)))
   (ja4 (jax (i:=4) jql.nd rfl (by trivial) (ixq P w K hu (ixq P w K hu (pv 0) (pv 2)) ja9))
   (ja4 (jax (i:=5) jql.nd rfl (by trivial) (ixq P w K hu (ixq P w K hu (pv 0) (pv 2)) ja9))
   (ja4 (jaz (jal (jdl (P:=P) (w:=w) (K:=K) rfl rfl rfl hu) (pv 5) (pe_g (gOf T.H_X1 (ok_X1 T)) (hm hr) jap (ja0 (pv 0) (ja0 (pv 3) (ja0 (jbx (ja0 (pv 4) ja7)) ja7)))) (by with_unfolding_all rfl)) (ja5 (jah jcv)) jaf)
   (ja4 (jax (i:=6) jql.nd rfl (by trivial) (pe_g (gOf T.H_X5 (jsk T)) (hm hr) jap (ja0 (pv 0) (ja0 (pv 3) (ja0 jam ja7)))))
   (ja5 (jah (pe_or (jcz (jdl (P:=P) (w:=w) (K:=K) rfl rfl rfl hu) (pv 4) (pv 6) (by with_unfolding_all rfl)) (jwc (jcz (jdl (P:=P) (w:=w) (K:=K) rfl rfl rfl hu) (pv 5) (pv 6) (by with_unfolding_all rfl)))))))))))),?_⟩
 exact(ja8 (jay (jaj (s_op jea (s_ix (s_ix ja1 ja1) jak) jav)) (jai s_bl) jag)
   (ja8 (jk3 (jb3 (jda (si_V ja1) jad (jaj (s_op jea ja1 ja1)) ja1)))
   (ja8 (jau (s_ix (s_ix ja1 ja1) jak) jad)
   (ja8 (jau (s_ix (s_ix ja1 ja1) jak) jad)
   (ja8 (jay (jaj (s_op je0 ja1 (jaq (ja3 ja1 (ja3 ja1 (ja3 (jb3 (jby (ja3 ja1 jab))) jab)))))) (jai s_bl) jag)
   (ja8 (jau (jaq (ja3 ja1 (ja3 ja1 (ja3 jav jab)))) jad)
   (jai (s_orV (s_op je0 ja1 ja1) (s_op je0 ja1 ja1)))))))))
theorem ok_Qu:FnOk P w K mg base (CXE P w) 3 T.f_Qu T.fd_Qu ["switches","shut"] (spZ (ct T) z_Qu):=by
 refine okZ2 (b:=b_Qu) T.H_Qu.F sc_Qu λcdv A outer s H E hr=> ?_
 have hu:=hr.units
 refine⟨_,(ja4 (jax (i:=2) sc_Qu.nd rfl (by trivial) (pe_g (gOf T.H_X5 (jsk T)) (hm hr) jap (ja0 (pv 0) (ja0 (pv 1) (ja0 jam ja7)))))
   (ja5 (jah (jcz (jct hu) (jgc (CompOk.mk (tgs:=["bar"]) (cap:=["cold"]) (idx:=[2]) rfl rfl (by decide+kernel) (by decide+kernel) (List.forall_mem_cons.mpr ⟨rfl,(List.forall_mem_nil _)⟩) rfl (.cons rfl (by trivial) (by trivial) rfl rfl .nil)) rfl (pi_K (K:=K) rfl (pe_g (gOf T.H_X5 (jsk T)) (hm hr) jap (ja0 (pv 0) (ja0 (pv 1) (ja0 jam ja7))))) (jbt (by decide)) (λ_ _ _ _=>(jb7 (i:=0) (show List.Nodup (α:=PySem.Str) ["bar","cold"] by decide+kernel) rfl (by trivial))) (λ_ _ _ _=>(ji8 (jal (jdl (P:=P) (w:=w) (K:=K) rfl rfl rfl hu) (pv 0) (pv 1) (by with_unfolding_all rfl)))) (λ_ _ _ _=>(pv 0))) (jbx ja7) (jat _))))),?_⟩
 exact(ja8 (jau (jaq (ja3 ja1 (ja3 ja1 (ja3 jav jab)))) jad)
   (jai (s_op jea (jb3 (jda (si_V (jaq (ja3 ja1 (ja3 ja1 (ja3 jav jab))))) jad (jaj (s_op je0 ja1 ja1)) ja1)) (jb3 (jby jab)))))
theorem jzp:FnOk P w K mg base (CXE P w) 1 T.f_Qy T.fd_Qy ["shut","at"] (spZ (ct T) z_Qy):=by
 refine okZ2 (b:=b_Qy) T.H_Qy.F sc_Qy λcdv A outer s H E hr=> ?_
 have hu:=hr.units
 refine⟨_,(ja4 (jaz (jal (jdl (P:=P) (w:=w) (K:=K) rfl rfl rfl hu) (pv 1) (pv 0) (by with_unfolding_all rfl)) (ja5 (jah (jgc (CompOk.mk (tgs:=["k"]) (cap:=["at"]) (idx:=[1]) rfl rfl (by decide+kernel) (by decide+kernel) (List.forall_mem_cons.mpr ⟨rfl,(List.forall_mem_nil _)⟩) rfl (.cons rfl (by trivial) (by trivial) rfl rfl .nil)) rfl (pi_K (K:=K) rfl (pv 0)) (jbt (by decide)) (λ_ _ _ _=>(jb7 (i:=0) (show List.Nodup (α:=PySem.Str) ["k","at"] by decide+kernel) rfl (by trivial))) (λ_ _ _ _=>(ji8 (jal (jct hu) (pv 0) (pv 1) (jat _)))) (λ_ _ _ _=>(pv 0))))) jaf)
   (ja5 (jah (jbm (jgs (K:=K) rfl) (by rfl) T.b_sorted jk5 (ja0 (jb4 (jcw (K:=K) rfl) (pv 0) (jbx (ja0 (pv 1) ja7))) ja7))))),?_⟩
 exact(ja8 (jay (jaj (s_op je0 ja1 ja1)) (jai (jb3 (jda (si_V ja1) jad (jaj (s_op jea ja1 ja1)) ja1))) jag)
   (jai (jb3 (jnt (ja3 (s_op jdp ja1 (jb3 (jby (ja3 ja1 jab)))) jab)))))
theorem ok_Qk:FnOk P w K mg base (CXE P w) 4 T.f_Qk T.fd_Qk ["switches","shut","locks","at"] (spZ (ct T) z_Qk):=by
 refine okZ2 (b:=b_Qk) T.H_Qk.F sc_Qk λcdv A outer s H E hr=> ?_
 have hu:=hr.units
 refine⟨_,(ja4 (jaz (jal (jdl (P:=P) (w:=w) (K:=K) rfl rfl rfl hu) (pv 3) (pv 2) (by with_unfolding_all rfl)) (ja5 (jah ja9)) jaf)
   (ja4 (jaz (jb1 (K:=K) rfl (pe_g (gOf T.H_X2 (ok_X2 T)) (hm hr) jap (ja0 (pv 0) (ja0 (pv 1) (ja0 (pv 3) ja7)))) (λ_=>rfl)) (ja5 (jah ja9)) jaf)
   (ja4 (jaz (jb1 (K:=K) rfl (pe_g (gOf T.H_Qu (ok_Qu T)) (hm hr) jap (ja0 (pv 0) (ja0 (pe_g (gOf T.H_Qy (jzp T)) (hm hr) jap (ja0 (pv 1) (ja0 (pv 3) ja7))) ja7))) (λ_=>rfl)) (ja5 (jah ja9)) jaf)
   (ja5 (jah ja9))))),?_⟩
 exact(ja8 (jay (jaj (s_op je0 ja1 ja1)) (jai jak) jag)
   (ja8 (jay (jbk (jaq (ja3 ja1 (ja3 ja1 (ja3 ja1 jab))))) (jai jak) jag)
   (ja8 (jay (jbk (jaq (ja3 ja1 (ja3 (jaq (ja3 ja1 (ja3 ja1 jab))) jab)))) (jai jak) jag)
   (jai jak))))
theorem ok_Xj:FnOk P w K mg base (CXE P w) 11 T.f_Xj T.fd_Xj ["desk","row"] (spZ (ct T) z_Xj):=by
 refine okZ2 (b:=b_Xj) T.H_Xj.F ju6 λcdv A outer s H E hr=> ?_
 have hu:=hr.units
 refine⟨_,(ja4 (jax (i:=2) ju6.nd rfl (by trivial) (jbx (ja0 jcv (ja0 jcv (ja0 jcv (ja0 jcv (ja0 jcv (ja0 jcv ja7))))))))
   (ja4 (jax (i:=3) ju6.nd rfl (by trivial) jam)
   (ja4 (ps_try rfl rfl (jth (jy0 (i:=3) ju6.nd rfl (by trivial) (jxs (P:=P) (w:=w) (K:=K) (mg:=mg) (base:=base) rfl rfl rfl rfl rfl (pex_md (k:=10) (pv 0) (hm hr) (ja0 (pv 1) ja7)))) juk) (jf9 (K:=K) rfl (jge rfl T.x_Y9.mg_ T.w_Y9 (λea=>(ja5 (jgz jcv (jim (pv 2) ja9 jf7)))) (jf9 (K:=K) rfl (jge rfl T.x_Y7.mg_ T.w_Y7 (λea=>(ja5 (jgz jcv (jim (pv 2) ja9 jf7)))) (jf9 (K:=K) rfl (jge rfl T.x_Y0.mg_ T.w_Y0 (λea=>(ja5 (jgz jcv (jim (pv 2) ja9 jf7)))) (jf9 (K:=K) rfl (jge rfl T.x_Y6.mg_ T.w_Y6 (λea=>(ja5 (jgz jcv (jim (pv 2) ja9 jf7)))) (jf9 (K:=K) rfl (jge rfl T.x_Xg.mg_ T.w_Xg (λea=>(ja5 (jgz jcv (jim (pv 2) ja9 jf7)))) (jf9 (K:=K) rfl (jge rfl T.x_Y1.mg_ T.w_Y1 (λea=>(ja5 (jgz jcv (jim (pv 2) ja9 jf7)))) ph_nil)))))))))))))
   (ja5 (jah (jfd (ja0 (pv 2) (ja0 (pv 3) ja7)))))))),?_⟩
 exact(ja8 (jau (jri (jby (ja3 s_bl (ja3 s_bl (ja3 s_bl (ja3 s_bl (ja3 s_bl (ja3 s_bl jab)))))))) jad)
   (ja8 (jau jav jad)
   (ja8 (ss_try (sx_one (sx_set (i:=3) (jty (jnv T) (λ_=>ja1) (ja3 ja1 jab)))) (jgd (sub_Y9 T) (jau s_bl (jij ja1 jak)) (jgd (sub_Y7 T) (jau s_bl (jij ja1 jak)) (jgd (sub_Y0 T) (jau s_bl (jij ja1 jak)) (jgd (sub_Y6 T) (jau s_bl (jij ja1 jak)) (jgd (sub_Xg T) (jau s_bl (jij ja1 jak)) (jgd (sub_Y1 T) (jau s_bl (jij ja1 jak)) (λc=>sh_nil))))))))
   (ji1 (i:=2) (jai (jig (ja3 ja1 (ja3 ja1 jab))))))))
theorem jvr:FnOk P w K mg base (CXE P w) 1 T.f_Qq T.fd_Qq ["script","k"] (spZ (ct T) z_Qq):=by
 refine okZ2 (b:=b_Qq) T.H_Qq.F sc_Qq λcdv A outer s H E hr=> ?_
 have hu:=hr.units
 refine⟨_,(ja4 (jaz (jal (jy9) (pv 1) (jbm (jcg (P:=P) (w:=w) (K:=K) rfl rfl rfl) (by rfl) T.b_len jex (ja0 (pv 0) ja7)) (jat _)) (ja5 (jah (ixq P w K hu (pv 0) (pv 1)))) jaf)
   (ja5 (jah ja9))),?_⟩
 exact(ja8 (jay (jaj (s_op jyn ja1 (s_cb jem (ja3 ja1 jab)))) (jai (s_ix ja1 ja1)) jag)
   (jai jak))
theorem ok_Qd:FnOk P w K mg base (CXE P w) 1 T.f_Qd T.fd_Qd ["switches","shut","locks","at","put"] (spZ (ct T) z_Qd):=by
 refine okZ2 (b:=b_Qd) T.H_Qd.F sc_Qd λcdv A outer s H E hr=> ?_
 have hu:=hr.units
 refine⟨_,(ja4 (jaz (jdz (jb1 (K:=K) rfl (pv 4) (λ_=>rfl))) (ja5 (jah (ixq P w K hu (jbx (ja0 ja9 (ja0 ja9 ja7))) (jbw (jek) (by rfl) T.b_int jk2 (ja0 (jcz (jdl (P:=P) (w:=w) (K:=K) rfl rfl rfl hu) (pv 3) (pv 2) (by with_unfolding_all rfl)) ja7))))) jaf)
   (ja4 (jaz (jal (jdl (P:=P) (w:=w) (K:=K) rfl rfl rfl hu) (ixq P w K hu (ixq P w K hu (pv 0) (pv 3)) ja9) (jbx (ja0 jam (ja0 jam ja7))) (by with_unfolding_all rfl)) (ja5 (jah ja9)) jaf)
   (ja4 (jaz (jal (jdl (P:=P) (w:=w) (K:=K) rfl rfl rfl hu) (pv 3) (pv 1) (by with_unfolding_all rfl)) (ja5 (jah ja9)) jaf)
   (ja5 (jah (ixq P w K hu (jbx (ja0 ja9 (ja0 ja9 ja7))) (jbw (jek) (by rfl) T.b_int jk2 (ja0 (jcz (jdl (P:=P) (w:=w) (K:=K) rfl rfl rfl hu) (pv 3) (pv 2) (by with_unfolding_all rfl)) ja7)))))))),?_⟩
 exact(ja8 (jay (jdy (jbk ja1)) (jai (s_ix (jb3 (jby (ja3 jak (ja3 jak jab)))) (s_cb jka (ja3 (s_op je0 ja1 ja1) jab)))) jag)
   (ja8 (jay (jaj (s_op je0 (s_ix (s_ix ja1 ja1) jak) (jb3 (jby (ja3 jav (ja3 jav jab)))))) (jai jak) jag)
   (ja8 (jay (jaj (s_op je0 ja1 ja1)) (jai jak) jag)
   (jai (s_ix (jb3 (jby (ja3 jak (ja3 jak jab)))) (s_cb jka (ja3 (s_op je0 ja1 ja1) jab)))))))
theorem ok_Qf:FnOk P w K mg base (CXE P w) 1 T.f_Qf T.fd_Qf ["self"] (spZ (ct T) z_Qf):=by
 refine okZ2 (b:=b_Qf) T.H_Qf.F sc_Qf λcdv A outer s H E hr=> ?_
 have hu:=hr.units
 refine⟨_,(ja4 (jbv (K:=K) rfl (jcp (pv 0) jna rfl))
   (ja5 (jbv (K:=K) rfl (jcp (pv 0) jna rfl)))),?_⟩
 exact(ja8 (jcq (jch T) ja1 jvx)
   (jcq (jcx T) ja1 jvx))
theorem ok_law:FnOk P w K mg base (CXE P w) 12 T.f_law T.fd_law ["script"] (spZ (ct T) jy6):=by
 refine okZ2 (b:=js7) T.H_law.F jd0 λcdv A outer s H E hr=> ?_
 have hu:=hr.units
 refine⟨_,(ja4 (jax (i:=1) jd0.nd rfl (by trivial) (jb4 (jcw (K:=K) rfl) ja9 (jb4 jdj (pe_g (gOf T.H_Qq (jvr T)) (hm hr) jap (ja0 (pv 0) (ja0 ja9 ja7))) ja9)))
   (ja4 (jax (i:=2) jd0.nd rfl (by trivial) (jb4 jdj (jb4 jdm (pe_g (gOf T.H_Qq (jvr T)) (hm hr) jap (ja0 (pv 0) (ja0 ja9 ja7))) ja9) (ixq P w K hu (jbx (ja0 ja9 (ja0 ja9 (ja0 ja9 ja7)))) (jb4 jdj (jb4 jdm (pe_g (gOf T.H_Qq (jvr T)) (hm hr) jap (ja0 (pv 0) (ja0 ja9 ja7))) ja9) ja9))))
   (ja4 (jhf (i:=3) jd0.nd rfl (by trivial) (CompOk.mk (tgs:=["k"]) (cap:=["bars","script"]) (idx:=[1,0]) rfl rfl (by decide+kernel) (by decide+kernel) (List.forall_mem_cons.mpr ⟨rfl,(List.forall_mem_cons.mpr ⟨rfl,(List.forall_mem_nil _)⟩)⟩) rfl (.cons rfl (by trivial) (by trivial) rfl rfl (.cons rfl (by trivial) (by trivial) rfl rfl .nil))) rfl (jg1 rfl T.b_range (ja0 (pv 2) ja7)) (jbt (by decide)) (λ_ _ _ _=>(jb7 (i:=0) (show List.Nodup (α:=PySem.Str) ["k","bars","script"] by decide+kernel) rfl (by trivial))) (λ_ _ _ _=>jff) (λ_ _ _ _=>(pe_g (gOf T.H_X0 (ok_X0 T)) (hm hr) jhm (ja0 (jb4 jdm (pe_g (gOf T.H_Qq (jvr T)) (hm hr) jhm (ja0 (pv 2) (ja0 (jb4 (jcw (K:=K) rfl) ja9 (pv 0)) ja7))) ja9) (ja0 (pv 1) ja7)))))
   (ja4 (jax (i:=4) jd0.nd rfl (by trivial) (pe_mk0 (mOf T.C_Yk T.mt_Qf T.H_Qf (ok_Qf T)) (hm hr) jap))
   (ja4 (jaz (jdz (jb1 (K:=K) rfl (pe_g (gOf T.H_X8 (ok_X8 T)) (hm hr) jap (ja0 (pv 4) (ja0 (pv 1) (ja0 (pv 3) ja7)))) (λ_=>rfl))) (ja5 (jah jcv)) jaf)
   (ja4 (jax (i:=5) jd0.nd rfl (by trivial) (jbx ja7))
   (ja4 (jax (i:=6) jd0.nd rfl (by trivial) (jbx ja7))
   (ja4 (jfu ownE rfl (pi_K (K:=K) rfl (jds (sl_K (K:=K) rfl) (pv 0) jet (jeu ja9))) (jb7 (i:=7) jd0.nd rfl (by trivial)) (ja4 (jaz (jal (jb9 hu) (pv 2) ja9 (jat _)) (ja5 jn5) jaf)
   (ja4 (jax (i:=8) jd0.nd rfl (by trivial) (jb4 jdj (jb4 jdm (pv 7) ja9) (pv 2)))
   (ja4 (jax (i:=9) jd0.nd rfl (by trivial) (jcz (jel (P:=P) (w:=w) (K:=K) rfl rfl rfl hu) (pv 8) (pv 6) (by with_unfolding_all rfl)))
   (ja4 (jaz (jal (jb9 hu) (jb4 jdj (jb4 jdm (jb4 jdm (pv 7) ja9) (pv 2)) ja9) ja9 (jat _)) (ja5 (jax (i:=9) jd0.nd rfl (by trivial) (js2 (K:=K) rfl (pv 9)))) jaf)
   (ja4 (jax (i:=10) jd0.nd rfl (by trivial) (ixq P w K hu (jbx (ja0 jam (ja0 jam (ja0 (ixq P w K hu (jbx (ja0 jam (ja0 jam ja7))) (jbw (jek) (by rfl) T.b_int jk2 (ja0 (pv 9) ja7))) ja7)))) (jb4 jdj (pv 7) ja9)))
   (ja4 (jax (i:=11) jd0.nd rfl (by trivial) (pe_g (gOf T.H_Qk (ok_Qk T)) (hm hr) jap (ja0 (pv 3) (ja0 (pv 5) (ja0 (pv 6) (ja0 (pv 8) ja7))))))
   (ja4 (jaz (jal (jct hu) (pv 10) jam (jat _)) (ja5 (jax (i:=11) jd0.nd rfl (by trivial) (pe_g (gOf T.H_Qd (ok_Qd T)) (hm hr) jap (ja0 (pv 3) (ja0 (pv 5) (ja0 (pv 6) (ja0 (pv 8) (ja0 (pv 9) ja7)))))))) jaf)
   (ja4 (jgz (pe_g (gOf T.H_Xj (ok_Xj T)) (hm hr) jap (ja0 (pv 4) (ja0 (jb4 (jcw (K:=K) rfl) (jb4 (jcw (K:=K) rfl) (pv 10) jam) (jbw (jev) (by rfl) T.b_str jis (ja0 (pv 8) ja7))) ja7))) (jm1 (K:=K) rfl (jro (n:=2) rfl (jf3 (jb7 (i:=12) jd0.nd rfl (by trivial)) (jf3 (jb7 (i:=13) jd0.nd rfl (by trivial)) jm3)))))
   (ja4 (jaz (jal (jct hu) (pv 12) (jgc (CompOk.mk (tgs:=["k"]) (cap:=["due"]) (idx:=[11]) rfl rfl (by decide+kernel) (by decide+kernel) (List.forall_mem_cons.mpr ⟨rfl,(List.forall_mem_nil _)⟩) rfl (.cons rfl (by trivial) (by trivial) rfl rfl .nil)) rfl (jg1 rfl T.b_range (ja0 ja9 ja7)) (jbt (by decide)) (λ_ _ _ _=>(jb7 (i:=0) (show List.Nodup (α:=PySem.Str) ["k","due"] by decide+kernel) rfl (by trivial))) (λ_ _ _ _=>jff) (λ_ _ _ _=>(jcz (jb9 hu) (pv 1) (pv 0) (jat _)))) (jat _)) (ja5 (jah jcv)) jaf)
   (ja4 (jaz (PW.pt (jgx (jal (jb9 hu) (pv 11) ja9 (jat _)) (jei (jal (jb9 hu) (pv 10) jam (jat _))))) (ja4 (jax (i:=5) jd0.nd rfl (by trivial) (pe_g (gOf T.H_Qy (jzp T)) (hm hr) jap (ja0 (pv 5) (ja0 (pv 8) ja7))))
   (ja5 (jaz (jal (jct hu) (pv 13) (ixq P w K hu (jbx (ja0 jam (ja0 jam ja7))) (jbw (jek) (by rfl) T.b_int jk2 (ja0 (jcz (jdl (P:=P) (w:=w) (K:=K) rfl rfl rfl hu) (pv 8) (pv 5) (by with_unfolding_all rfl)) ja7))) (jat _)) (ja5 (jah jcv)) jaf))) jaf)
   (ja4 (jaz (PW.pt (jgx (jal (jb9 hu) (pv 11) ja9 (jat _)) (jei (jal (jct hu) (pv 10) jam (jat _))))) (ja4 (jax (i:=6) jd0.nd rfl (by trivial) (pe_g (gOf T.H_Qy (jzp T)) (hm hr) jap (ja0 (pv 6) (ja0 (pv 8) ja7))))
   (ja5 (jaz (jal (jct hu) (pv 13) jam (jat _)) (ja5 (jah jcv)) jaf))) jaf)
   (ja5 (jaz (jdz (jb1 (K:=K) rfl (pe_g (gOf T.H_Xo (ok_Xo T)) (hm hr) jap (ja0 (pv 4) (ja0 (pv 3) (ja0 (pv 5) (ja0 (pv 6) (ja0 (jb4 jdm (pv 7) ja9) ja7)))))) (λ_=>rfl))) (ja5 (jah jcv)) jaf))))))))))))))
   (ja5 (jah (pe_g (gOf T.H_Xo (ok_Xo T)) (hm hr) jap (ja0 (pv 4) (ja0 (pv 3) (ja0 (pv 5) (ja0 (pv 6) (ja0 ja9 ja7)))))))))))))))),?_⟩
 exact(ja8 (jau (s_op jdp jak (s_op jdi (jaq (ja3 ja1 (ja3 jak jab))) jak)) jad)
   (ja8 (jau (s_op jdi (s_op jf1 (jaq (ja3 ja1 (ja3 jak jab))) jak) (s_ix (jb3 (jby (ja3 jak (ja3 jak (ja3 jak jab))))) (s_op jdi (s_op jf1 (jaq (ja3 ja1 (ja3 jak jab))) jak) jak))) jad)
   (ja8 (jk3 (jb3 (jda (jjk (ja3 ja1 jab)) jad jic (jaq (ja3 (s_op jf1 (jaq (ja3 ja1 (ja3 (s_op jdp jak ja1) jab))) jak) (ja3 ja1 jab))))))
   (ja8 (jau (jqt (jjq T) jab) jad)
   (ja8 (jay (jdy (jbk (jaq (ja3 ja1 (ja3 ja1 (ja3 ja1 jab)))))) (jai s_bl) jag)
   (ja8 (jau (jb3 (jby jab)) jad)
   (ja8 (jau (jb3 (jby jab)) jad)
   (ja8 (jgo (si_V (s_sl ja1 jjs (jk8 jak))) jad (ja8 (jay (jaj (s_op jc4 ja1 jak)) jyw jag)
   (ja8 (jau (s_op jdi (s_op jf1 ja1 jak) ja1) jad)
   (ja8 (jau (s_op je0 ja1 ja1) jad)
   (ja8 (jay (jaj (s_op jc4 (s_op jdi (s_op jf1 (s_op jf1 ja1 jak) ja1) jak) jak)) (jau (jwv ja1) jad) jag)
   (ja8 (jau (s_ix (jb3 (jby (ja3 jav (ja3 jav (ja3 (s_ix (jb3 (jby (ja3 jav (ja3 jav jab)))) (s_cb jka (ja3 ja1 jab))) jab))))) (s_op jdi ja1 jak)) jad)
   (ja8 (jau (jaq (ja3 ja1 (ja3 ja1 (ja3 ja1 (ja3 ja1 jab))))) jad)
   (ja8 (jay (jaj (s_op jea ja1 jav)) (jau (jaq (ja3 ja1 (ja3 ja1 (ja3 ja1 (ja3 ja1 (ja3 ja1 jab)))))) jad) jag)
   (ja8 (jau (jaq (ja3 ja1 (ja3 (s_op jdp (s_op jdp ja1 jav) (s_cb jkq (ja3 ja1 jab))) jab))) (jr8 rfl (jfa (jfa jlt))))
   (ja8 (jay (jaj (s_op jea ja1 (jb3 (jda (jjk (ja3 jak jab)) jad jic (s_op jc4 ja1 ja1))))) (jai s_bl) jag)
   (ja8 (jay (jgr (jaj (s_op jc4 ja1 jak)) (jaj (s_op jc4 ja1 jav))) (ja8 (jau (jaq (ja3 ja1 (ja3 ja1 jab))) jad)
   (jay (jaj (s_op jea ja1 (s_ix (jb3 (jby (ja3 jav (ja3 jav jab)))) (s_cb jka (ja3 (s_op je0 ja1 ja1) jab))))) (jai s_bl) jag)) jag)
   (ja8 (jay (jgr (jaj (s_op jc4 ja1 jak)) (jaj (s_op jea ja1 jav))) (ja8 (jau (jaq (ja3 ja1 (ja3 ja1 jab))) jad)
   (jay (jaj (s_op jea ja1 jav)) (jai s_bl) jag)) jag)
   (jay (jdy (jbk (jaq (ja3 ja1 (ja3 ja1 (ja3 ja1 (ja3 ja1 (ja3 (s_op jf1 ja1 jak) jab)))))))) (jai s_bl) jag)))))))))))))
   (jai (jaq (ja3 ja1 (ja3 ja1 (ja3 ja1 (ja3 ja1 (ja3 jak jab)))))))))))))))
end
end My
local macro_rules | `(tactic| k_head) => do
 let hw:=Lean.mkIdent `hw
 let hc:=Lean.mkIdent `hc
 `(tactic| refine PySem.W.holds_open (q:=My.vw) (loose:=[(PySem.Str.ofString "NUMBERS_BEHIND")]) (Xt:=(λs=>PySem.W.xlAt My.vw [] s&&PySem.W.recOk (PySem.Challenge.rw_earthward_k42_whole_never_live_and_earth).row.records s)) (XP:=PySem.W.XL My.vw []) (Yf:=PySem.W.Hook.obs (PySem.W.kHook My.pre.heap_39 My.wAl My.wHk)) (Ya:=PySem.W.Hook.val (PySem.W.kHook My.pre.heap_39 My.wAl My.wHk)) (YP:=PySem.W.Hook.says (PySem.W.kHook My.pre.heap_39 My.wAl My.wHk)) (N:=9536) My.left (PySem.W.Hook.of (PySem.W.kHook My.pre.heap_39 My.wAl My.wHk)) (PySem.W.Hook.keeps (PySem.W.kHook My.pre.heap_39 My.wAl My.wHk)) (λs e=>PySem.W.xl_of s (Bool.and_eq_true_iff.mp e).1) PySem.W.XL.keeps (by rfl) (by rfl) (by rfl) (λs e=>PySem.W.recFacts_of (Bool.and_eq_true_iff.mp e).2) (by rfl) (by first | assumption | decide+kernel) (by decide+kernel) ⟨rfl,rfl,rfl,rfl,rfl,by decide+kernel⟩ ?$hw ?$hc)
set_option maxRecDepth 100000 in
set_option maxHeartbeats 0 in
theorem PySem.Challenge.cw_earthward_k42_whole_never_live_and_earth_holds : PySem.Challenge.rw_earthward_k42_whole_never_live_and_earth.Holds := by
 w_on;o_law;k_head;(case hw=>w_witness2)
 k_fill
 refine L2.walk_ofE (l:=PySem.Challenge.rw_earthward_k42_whole_never_live_and_earth) (n:=63) (k:=12) (x:="script") (CX:=λw=>L2.CXE (PySem.Challenge.rw_earthward_k42_whole_never_live_and_earth).prog w) (sp:=L2.spL) rfl (by decide) rfl ⟨rfl,by decide,by decide⟩ (λw h Y=>PySem.W.kIn_of Y) ?F ?S ?C
 case F=>
  intro w mg fa h KX G hmg
  have T:Nonempty (My.Txt (PySem.Challenge.rw_earthward_k42_whole_never_live_and_earth).prog w (L2.KOf KX) mg):=by
   dsimp only[L2.KOf]
   open L2 in refine' ⟨⟨_,clm KX G ?_ ?_ ?_ ?_ ?_ ?_ ?_,_,_,⟨?_,?_,?_⟩,fnm ?_ ?_ ?_,_,_,⟨?_,?_,?_⟩,fnm ?_ ?_ ?_,_,_,⟨?_,?_,?_⟩,fnm ?_ ?_ ?_,_,_,⟨?_,?_,?_⟩,fnm ?_ ?_ ?_,_,clm KX G ?_ ?_ ?_ ?_ ?_ ?_ ?_,_,_,⟨?_,?_,?_⟩,fnm ?_ ?_ ?_,_,_,⟨?_,?_,?_⟩,fnm ?_ ?_ ?_,⟨?_,?_,?_⟩,⟨?_,?_,?_⟩,⟨?_,?_,?_⟩,naOf ?_,_,clm KX G ?_ ?_ ?_ ?_ ?_ ?_ ?_,_,_,⟨?_,?_,?_⟩,fnm ?_ ?_ ?_,_,_,⟨?_,?_,?_⟩,fnm ?_ ?_ ?_,⟨?_,?_,?_⟩,⟨?_,?_,?_⟩,⟨?_,?_,?_⟩,naOf ?_,_,clm KX G ?_ ?_ ?_ ?_ ?_ ?_ ?_,_,_,⟨?_,?_,?_⟩,fnm ?_ ?_ ?_,_,_,⟨?_,?_,?_⟩,fnm ?_ ?_ ?_,⟨?_,?_,?_⟩,⟨?_,?_,?_⟩,⟨?_,?_,?_⟩,naOf ?_,naOf ?_,_,clm KX G ?_ ?_ ?_ ?_ ?_ ?_ ?_,_,_,⟨?_,?_,?_⟩,fnm ?_ ?_ ?_,_,_,⟨?_,?_,?_⟩,fnm ?_ ?_ ?_,_,_,⟨?_,?_,?_⟩,fnm ?_ ?_ ?_,⟨?_,?_,?_⟩,⟨?_,?_,?_⟩,naOf ?_,naOf ?_,_,clm KX G ?_ ?_ ?_ ?_ ?_ ?_ ?_,_,_,⟨?_,?_,?_⟩,fnm ?_ ?_ ?_,_,_,⟨?_,?_,?_⟩,fnm ?_ ?_ ?_,_,_,⟨?_,?_,?_⟩,fnm ?_ ?_ ?_,_,_,⟨?_,?_,?_⟩,fnm ?_ ?_ ?_,_,_,⟨?_,?_,?_⟩,fnm ?_ ?_ ?_,_,_,⟨?_,?_,?_⟩,fnm ?_ ?_ ?_,_,_,⟨?_,?_,?_⟩,fnm ?_ ?_ ?_,naOf ?_,_,clm KX G ?_ ?_ ?_ ?_ ?_ ?_ ?_,naOf ?_,naOf ?_,naOf ?_,naOf ?_,naOf ?_,naOf ?_,naOf ?_,_,clm KX G ?_ ?_ ?_ ?_ ?_ ?_ ?_,_,_,⟨?_,?_,?_⟩,fnm ?_ ?_ ?_,_,_,⟨?_,?_,?_⟩,fnm ?_ ?_ ?_,_,_,⟨?_,?_,?_⟩,fnm ?_ ?_ ?_,_,_,⟨?_,?_,?_⟩,fnm ?_ ?_ ?_,_,_,⟨?_,?_,?_⟩,fnm ?_ ?_ ?_,_,_,⟨?_,?_,?_⟩,fnm ?_ ?_ ?_,_,_,⟨?_,?_,?_⟩,fnm ?_ ?_ ?_,_,_,⟨?_,?_,?_⟩,fnm ?_ ?_ ?_,_,_,⟨?_,?_,?_⟩,fnm ?_ ?_ ?_,naOf ?_,naOf ?_,naOf ?_,naOf ?_,naOf ?_,naOf ?_,_,clm KX G ?_ ?_ ?_ ?_ ?_ ?_ ?_,_,_,⟨?_,?_,?_⟩,fnm ?_ ?_ ?_,_,_,⟨?_,?_,?_⟩,fnm ?_ ?_ ?_,_,_,⟨?_,?_,?_⟩,fnm ?_ ?_ ?_,_,_,⟨?_,?_,?_⟩,fnm ?_ ?_ ?_,_,_,⟨?_,?_,?_⟩,fnm ?_ ?_ ?_,_,_,⟨?_,?_,?_⟩,fnm ?_ ?_ ?_,_,_,⟨?_,?_,?_⟩,fnm ?_ ?_ ?_,naOf ?_,naOf ?_,140,?_,?_,PySem.W.mg_of KX G ?_,_,?_,?_,PySem.W.mg_of KX G ?_,_,?_,?_,PySem.W.mg_of KX G ?_,68,?_,?_,PySem.W.mg_of KX G ?_,_,?_,?_,PySem.W.mg_of KX G ?_,56,?_,?_,PySem.W.mg_of KX G ?_,212,?_,?_,PySem.W.mg_of KX G ?_,44,?_,?_,PySem.W.mg_of KX G ?_,92,?_,?_,PySem.W.mg_of KX G ?_,200,?_,?_,PySem.W.mg_of KX G ?_,188,?_,?_,PySem.W.mg_of KX G ?_,_,?_,?_,PySem.W.mg_of KX G ?_,_,?_,?_,PySem.W.mg_of KX G ?_,80,?_,?_,PySem.W.mg_of KX G ?_,_,?_,?_,PySem.W.mg_of KX G ?_,31,?_,?_,PySem.W.mg_of KX G ?_,_,_,fnt KX G ?_ (fnm ?_ ?_ ?_),_,_,fnt KX G ?_ (fnm ?_ ?_ ?_),_,_,fnt KX G ?_ (fnm ?_ ?_ ?_),_,_,fnt KX G ?_ (fnm ?_ ?_ ?_),_,_,fnt KX G ?_ (fnm ?_ ?_ ?_),_,_,fnt KX G ?_ (fnm ?_ ?_ ?_),_,_,fnt KX G ?_ (fnm ?_ ?_ ?_),_,_,fnt KX G ?_ (fnm ?_ ?_ ?_),_,_,fnt KX G ?_ (fnm ?_ ?_ ?_),_,_,fnt KX G ?_ (fnm ?_ ?_ ?_),_,_,fnt KX G ?_ (fnm ?_ ?_ ?_),_,_,fnt KX G ?_ (fnm ?_ ?_ ?_),_,_,fnt KX G ?_ (fnm ?_ ?_ ?_),_,_,fnt KX G ?_ (fnm ?_ ?_ ?_),_,_,fnt KX G ?_ (fnm ?_ ?_ ?_),_,_,fnt KX G ?_ (fnm ?_ ?_ ?_),_,_,fnt KX G ?_ (fnm ?_ ?_ ?_),_,_,fnt KX G ?_ (fnm ?_ ?_ ?_),_,_,fnt KX G ?_ (fnm ?_ ?_ ?_),_,_,fnt KX G ?_ (fnm ?_ ?_ ?_),_,_,fnt KX G ?_ (fnm ?_ ?_ ?_),_,_,fnt KX G ?_ (fnm ?_ ?_ ?_),_,_,fnt KX G ?_ (fnm ?_ ?_ ?_),_,_,fnt KX G ?_ (fnm ?_ ?_ ?_),_,_,fnt KX G ?_ (fnm ?_ ?_ ?_),_,_,fnt KX G ?_ (fnm ?_ ?_ ?_),_,_,fnt KX G ?_ (fnm ?_ ?_ ?_),_,_,fnt KX G ?_ (fnm ?_ ?_ ?_),_,_,fnt KX G ?_ (fnm ?_ ?_ ?_),_,_,fnt KX G ?_ (fnm ?_ ?_ ?_),_,_,fnt KX G ?_ (fnm ?_ ?_ ?_),_,_,fnt KX G ?_ (fnm ?_ ?_ ?_),_,_,fnt KX G ?_ (fnm ?_ ?_ ?_),_,_,fnt KX G ?_ (fnm ?_ ?_ ?_),_,_,fnt KX G ?_ (fnm ?_ ?_ ?_),_,_,fnt KX G ?_ (fnm ?_ ?_ ?_),PySem.W.mg_none_of KX G ?_,PySem.W.mg_none_of KX G ?_,PySem.W.mg_none_of KX G ?_,PySem.W.mg_none_of KX G ?_,PySem.W.mg_none_of KX G ?_,PySem.W.mg_none_of KX G ?_,PySem.W.mg_none_of KX G ?_,PySem.W.mg_none_of KX G ?_,PySem.W.mg_none_of KX G ?_,PySem.W.mg_none_of KX G ?_,PySem.W.mg_none_of KX G ?_,PySem.W.mg_none_of KX G ?_,PySem.W.mg_none_of KX G ?_,PySem.W.mg_none_of KX G ?_,PySem.W.mg_none_of KX G ?_,PySem.W.mg_none_of KX G ?_,PySem.W.mg_none_of KX G ?_,_,⟨_,PySem.W.mg_of KX G ?_,rfl⟩,⟨_,PySem.W.mg_of KX G ?_,_,rfl⟩,⟨_,PySem.W.mg_of KX G ?_,_,rfl⟩,⟨_,PySem.W.mg_of KX G ?_,_,rfl⟩,⟨_,PySem.W.mg_of KX G ?_,_,rfl⟩,⟨?_,?_,?_⟩,?_,?_,?_,?_,?_,?_,?_,?_,?_,?_,?_,?_,?_,?_,?_,⟨?_,?_,?_⟩,?_,?_,?_,?_,?_,?_,?_,?_,?_,?_,?_,?_,?_,?_,?_,⟨?_,?_,?_⟩,?_,?_,?_,?_,?_,?_,?_,?_,?_,?_,?_,?_,?_,?_,?_,⟨?_,?_,?_⟩,?_,?_,?_,?_,?_,?_,?_,?_,?_,?_,?_,?_,?_,?_,?_,⟨?_,?_,?_⟩,?_,?_,?_,?_,?_,?_,?_,?_,?_,?_,?_,?_,?_,?_,?_,⟨?_,?_,?_⟩,?_,?_,?_,?_,?_,?_,?_,?_,?_,?_,?_,?_,?_,?_,?_,kdict_of ?_ ?_ ?_ ?_ (by decide+kernel),?_⟩⟩
   all_goals try first | (k_is;done) | (k_exc;done) | (rfl;done) | (k_keys;done) | ((repeat (first | exact True.intro | refine And.intro ⟨_,_,rfl,rfl⟩ (And.intro ⟨_,rfl⟩ ?_)));done) | (intro s u;exact .of_eq rfl;done)
  obtain⟨T⟩:=T
  have e0:=hmg.symm.trans T.H_law.m
  cases e0
  exact⟨_,T.Bl,λbase kb nb=>L2.law_ok (C:=My.ct T) (My.ok_law T) My.law_true⟩
 case S=>exact L2.spL_of
 case C=>exact λ_ _ _ _ _ z=>L2.cxe_out z
#print axioms PySem.Challenge.cw_earthward_k42_whole_never_live_and_earth_holds
