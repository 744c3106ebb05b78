import PyProof.Rows.All
import Wide.All
import OpenK.AllK
import Wide.FinOn
import Lean
import PyProof.EqAt
import PyProof.EqKinds
import PyProof.TupleCall
import PyProof.StrBlockL
import PyProof.Lay0
import KE.IntText
import PyProof.SliceList
import PyProof.StrLawsReplace
import PyProof.StrLawsIn
import KE.IntTextLaws
import KE.KIntText
import KE.KPairComp
import PyProof.Rows.StrMul
import PyProof.Rows.BitMore
import PyProof.ZipIter
import PySem.Challenge.RW_earthward_k43_whole_reach_from_text
set_option Elab.async false
set_option linter.all false
set_option bootstrap.genMatcherCode false
set_option genSizeOf false
set_option compiler.extract_closed false
set_option maxRecDepth 100000
def PySem.W.Fast.tw6278542629362873508:=0
noncomputable section
local macro_rules | `(⋯) => `(by first|decide+kernel|lia)
local macro_rules | `(⇑$x) => `(some $x)
set_option genSizeOf false
set_option maxHeartbeats 4000000
section
local macro_rules | `(tactic| o_head $H) => `(tactic| exact False.elim (by assumption))
set_option maxHeartbeats 0 in
theorem My.pre(hF:False):PySem.Challenge.rw_earthward_k43_whole_reach_from_text.Holds:=by
 w_on;o_law;k_head
end
abbrev q8:=@List.mem_cons_of_mem
abbrev q9:=@List.getElem?_eq_some_iff
abbrev qa:=@List.mem_cons_self
abbrev qb:=@PySem.Heap.get?_push_of_some
abbrev qd:=@Nat.le_refl
abbrev qe:=@PySem.Heap.lt_size
abbrev qf:=@List.length_map
abbrev qg:=@List.mem_cons
abbrev qh:=@List.getElem?_set_ne
abbrev qi:=@Option.map_eq_some_iff
abbrev qj:=@List.getElem?_set_self
abbrev qk:=@List.getElem?_eq_getElem
abbrev ql:=@List.size_toArray
abbrev qm:=@List.mem_of_getElem?
abbrev qo:=@Nat.ne_of_lt
abbrev qq:=@PySem.Heap.get?_push_size
abbrev qr:=@List.getElem?_append_left
abbrev qt:=@Nat.lt_of_lt_of_le
abbrev qu:=@Bool.false_eq_true
abbrev qv:=@List.mem_append
abbrev qw:=@List.length_cons
abbrev qx:=@Bool.false_ne_true
abbrev qy:=@List.getElem?_cons_zero
abbrev qz:=@List.mem_map
abbrev z4:=@Bool.and_eq_true
abbrev z5:=@List.getElem?_cons_succ
abbrev z6:=@List.mem_singleton
abbrev z7:=@Option.bind_eq_some_iff
abbrev z9:=@List.getElem?_map
abbrev za:=@List.mem_append_right
abbrev zb:=@List.set_cons_zero
abbrev zd:=@List.set_cons_succ
abbrev ze:=@List.getElem?_append_right
abbrev zf:=@List.pairwise_append
abbrev zg:=@Nat.lt_of_le_of_lt
abbrev zh:=@List.length_append
abbrev zi:=@Nat.le_trans
abbrev zj:=@Array.toList_append
abbrev zk:=@List.length_set
abbrev zl:=@List.drop_eq_getElem_cons
abbrev zm:=@List.append_nil
abbrev zn:=@List.length_nil
abbrev zo:=@List.map_nil
abbrev zp:=@List.mem_append_left
abbrev zq:=@Nat.pow_lt_pow_right
abbrev zr:=@List.mem_filter
abbrev zt:=@List.find?_cons
abbrev zu:=@Nat.two_pow_pos
abbrev zv:=@List.not_mem_nil
abbrev zw:=@List.append_assoc
abbrev zx:=@List.mem_of_mem_take
abbrev zy:=@Nat.eq_of_testBit_eq
abbrev zz:=@List.any_cons
abbrev w5:=@List.mem_range
abbrev w6:=@Nat.zero_le
abbrev w9:=@List.map_append
abbrev wa:=@Nat.lt_succ_self
abbrev wb:=@Nat.log2_le_self
abbrev wd:=@Nat.lt_irrefl
abbrev we:=@Option.isSome_iff_exists
abbrev wg:=@List.getElem?_replicate
abbrev wj:=@Nat.ne_of_gt
abbrev wk:=@List.take_of_length_le
abbrev wm:=@List.all_cons
abbrev wn:=@Int.le_refl
abbrev wp:=@List.length_take
abbrev wq:=@PySem.Heap.size_push
abbrev wt:=@Int.emod_lt_of_pos
abbrev wu:=@List.take_append_drop
abbrev wv:=@List.getElem?_eq_none
abbrev ww:=@Nat.testBit_and
abbrev wx:=@List.mem_iff_getElem
abbrev wy:=@List.mem_of_mem_drop
abbrev wz:=@List.cons_append
abbrev k6:=@Nat.le_succ
abbrev k9:=@List.eq_nil_of_length_eq_zero
abbrev ke:=@Nat.le_of_eq
abbrev kg:=@Bool.eq_iff_iff
abbrev kh:=@Int.emod_nonneg
abbrev ki:=@Bool.true_and
abbrev kj:=@Bool.and_true
abbrev km:=@Nat.lt_succ_of_lt
abbrev ko:=@Nat.testBit_or
abbrev kq:=@Bool.and_eq_true_iff
abbrev kr:=@List.length_drop
abbrev kt:=@List.getElem_mem
abbrev ku:=@Nat.testBit_two_pow
abbrev kz:=@List.getElem?_take_of_lt
abbrev g7:=@List.nodup_cons
abbrev g8:=@List.nil_append
abbrev g9:=@Option.map_some
abbrev gf:=@Nat.testBit_xor
abbrev gg:=@List.ext_getElem?
abbrev gi:=@Nat.or_lt_two_pow
abbrev gj:=@Nat.le_of_ble_eq_true
abbrev gl:=@List.length_replicate
abbrev gm:=@Nat.le_add_right
abbrev gn:=@Bool.not_true
abbrev gp:=@List.sum_cons
abbrev gq:=@List.all_append
abbrev gr:=@List.take_left'
abbrev gt:=@List.filterMap_cons
abbrev gu:=@List.getElem_of_mem
abbrev gx:=@List.mem_filterMap
abbrev gy:=@List.getElem?_take
abbrev u0:=@Option.isSome_map
abbrev u4:=@List.lookup_cons
abbrev u5:=@List.any_eq_true
abbrev u6:=@Nat.zero_add
abbrev u7:=@List.all_nil
abbrev u8:=@List.of_mem_zip
abbrev u9:=@Nat.not_lt_zero
namespace My
section
open PySem PySem.W
theorem Wb{Xt:Shared->Bool}{α:Type}{Yf:Shared->α}{Ya:World->α}{N:Nat}(row:String)(e:opening p=plainProg p.main.scope.names)(hN:Nat.ble 600 N=true)(f:∀s,fenceModules? p s=some s)
  (h1:∀(w:World) (os:OsState),(topFrom treeTable p (w.withFollow row false) N ⟨boot_heap (w.withFollow row false).params,Array.mk [],boot_drawn,boot_toks,os⟩).map (λs=>(openSeen q loose (importedModules p.main.body) Xt g0 s,Yf s))=some (openGood q loose,Ya (w.withFollow row false)))
  (h2:∀(w:World) (os:OsState),(topFrom treeTable p (w.withFollow row true) N ⟨boot_heap (w.withFollow row true).params,Array.mk [],boot_drawn,boot_toks,os⟩).map (λs=>(openSeen q loose (importedModules p.main.body) Xt g0 s,Yf s))=some (openGood q loose,Ya (w.withFollow row true))):LeftO p q loose Xt Yf Ya N g0:=by
 refine LeftO.of_split row λw=> ?_;obtain⟨⟨hh,gs,d,k,os⟩,e1,e2⟩:=qi.mp (boot_open e hN f w);simp only[Prod.mk.injEq]at e2;obtain⟨rfl,rfl,rfl,rfl⟩:=e2;rw[e1];exact congrArg some (Prod.ext (h1 w os) (h2 w os))
abbrev WZ{β:Type}(p:Program)(w:World)(m₀:Nat)(ann:Option Value)(env:Env)(qp pb pf:Pos)(n3 n4:Nat)(Sb:SharedT)(l:List Stmt)(F:Shared->β)(v:β):Prop:=
  (segRunT treeTable p w m₀ ann 1 n3 Sb (piecesOf l env (.body (behindTheImports p) env) pb [topFrame qp])).bind (λr=>(topRun treeTable p w m₀ ann n4 r.2.1.abs ⟨doneF .next,.body (behindTheImports p) env,pf,[topFrame qp]⟩).bind λs₁=>some ((r.1,r.2.2.1,r.2.2.2),F s₁))=some ((.next,.body (behindTheImports p) env,pf),v)
noncomputable abbrev chkA(p:Program)(w:World){α:Type}(Yf:Shared->α)(s₁:Shared):Bool×α:=(staticsOk (importedModules p.main.body) (boot_heap w.params) s₁.heap&&namesBound p s₁.heap&&gensDone s₁&&laidKept (boot_heap w.params) s₁.heap,Yf s₁)
def Ends(p q:Program)(loose:List Str)(Xt:Shared->Bool){α:Type}(Yf:Shared->α)(Ya:World->α)(g0:Bool)(w:World)(m₀:Nat)(ann:Option Value)(env:Env)(qp pb:Pos)(n:Nat)(Sb:SharedT)(l:List Stmt):Prop:=
  ∃s₁,topRun treeTable p w m₀ ann n Sb.abs (restOf l env (.body (behindTheImports p) env) pb [topFrame qp])=some s₁/\(staticsOk (importedModules p.main.body) (boot_heap w.params) s₁.heap&&namesBound p s₁.heap&&gensDone s₁&&laidKept (boot_heap w.params) s₁.heap)=true/\openSeen q loose (importedModules p.main.body) Xt g0 s₁=openGood q loose/\Yf s₁=Ya w
section
variable {p q : Program} {loose : List Str} {Xt : Shared -> Bool} {α : Type} {Yf : Shared -> α} {Ya : World -> α} {g0 : Bool} {w : World} {m₀ : Nat} {ann : Option Value} {env : Env} {qp pb : Pos} {Sb : SharedT} {l : List Stmt}
theorem VH(r1:WZ p w m₀ ann env qp pb pf n3 n4 Sb l (chkA p w Yf) (true,Ya w))(r2:WZ p w m₀ ann env qp pb pf n3 n4 Sb l (λs=>(openSeen q loose (importedModules p.main.body) Xt g0 s).1) (openGood q loose).1)(r5:WZ p w m₀ ann env qp pb pf n3 n4 Sb l (λs=>(openSeen q loose (importedModules p.main.body) Xt g0 s).2.1) (openGood q loose).2.1)(r4:WZ p w m₀ ann env qp pb pf n3 n4 Sb l (λs=>(openSeen q loose (importedModules p.main.body) Xt g0 s).2.2.1) (openGood q loose).2.2.1)(r3:WZ p w m₀ ann env qp pb pf n3 n4 Sb l (λs=>(openSeen q loose (importedModules p.main.body) Xt g0 s).2.2.2) (openGood q loose).2.2.2):Ends p q loose Xt Yf Ya g0 w m₀ ann env qp pb (n3+n4) Sb l:=by
 obtain⟨⟨f,s2,c2,p2⟩,hr,h⟩:=z7.mp r1;obtain⟨s₁,hs,h⟩:=z7.mp h;simp only[Option.some.injEq,Prod.mk.injEq]at h;obtain⟨⟨rfl,rfl,rfl⟩,l1,l3⟩:=h;obtain⟨r',Ur,h'⟩:=z7.mp r2;rw[hr]at Ur;cases Ur;obtain⟨s₂,SF,h'⟩:=z7.mp h';rw[hs]at SF;cases SF;obtain⟨r',Ur,h3⟩:=z7.mp r3;rw[hr]at Ur;cases Ur;obtain⟨s₂,SF,h3⟩:=z7.mp h3;rw[hs]at SF;cases SF;obtain⟨r',Ur,h4⟩:=z7.mp r4;rw[hr]at Ur;cases Ur;obtain⟨s₂,SF,h4⟩:=z7.mp h4;rw[hs]at SF;cases SF;obtain⟨r',Ur,h5⟩:=z7.mp r5;rw[hr]at Ur;cases Ur;obtain⟨s₂,SF,h5⟩:=z7.mp h5;rw[hs]at SF;cases SF;simp only[Option.some.injEq,Prod.mk.injEq]at h' h3 h4 h5;have k3:=piece_app (rest:=[]) (segRun_of hr) (piece_nil hs);rw[zm]at k3;exact⟨s₁,k3,l1,Prod.ext h'.2 (Prod.ext h5.2 (Prod.ext h4.2 h3.2)),l3⟩
theorem Ug(run:segRunT treeTable p w m₀ ann 1 na Sb (piecesOf (l.take j) env (.body (behindTheImports p) env) pb [topFrame qp])=some (.next,Sm,.body (behindTheImports p) env,pm))(h:Ends p q loose Xt Yf Ya g0 w m₀ ann env qp pm n Sm (l.drop j)):Ends p q loose Xt Yf Ya g0 w m₀ ann env qp pb (na+n) Sb l:=by
 obtain⟨s₁,k,r⟩:=h;have:=piece_app (segRun_of run) k;rw[wu]at this;exact⟨s₁,this,r⟩
end
theorem Vv{Xt:Shared->Bool}{α:Type}{Yf:Shared->α}{Ya:World->α}{N:Nat}{os:OsState}
  (size:((boot_heap w.params).isNs mainGlobals&&(Array.mk []:Array GenState).size==0,(boot_heap w.params).objs.size,(boot_heap w.params).nsMap mainGlobals "__annotations__")=(true,m₀,ann))
  (pre:topGo treeTable p w m₀ ann n1 ⟨boot_heap w.params,Array.mk [],boot_drawn,boot_toks,os⟩ (topStub p)=some (Sa,⟨denote treeTable (.body (behindTheImports p) env),.body (behindTheImports p) env,pp,[topFrame qp]⟩))
  (block:segRun treeTable p w m₀ ann 1 n2 Sa (blockOf (behindTheImports p) env (.body (behindTheImports p) env) pp [topFrame qp])=some (.next,Sb.abs,.body (behindTheImports p) env,pb))
  (run:Ends p q loose Xt Yf Ya g0 w m₀ ann env qp pb n3 Sb (behindTheImports p))
  (le:Nat.ble (n1+(n2+n3)) N=true):
  (topFrom treeTable p w N ⟨boot_heap w.params,Array.mk [],boot_drawn,boot_toks,os⟩).map (λs=>(openSeen q loose (importedModules p.main.body) Xt g0 s,Yf s))=some (openGood q loose,Ya w):=by
 obtain⟨s₁,k3,l1,l2,l3⟩:=run;have k1:=go_top pre (piece_block block k3);have r:=topRun_mono (N - (n1+(n2+n3))) _ _ _ _ k1;rw[show n1+(n2+n3)+(N - (n1+(n2+n3)))=N by have:=gj le;omega]at r;obtain⟨z1,z2,z3⟩:_/\_/\_:=by simpa only[Prod.mk.injEq]using size
 have t:topFrom treeTable p w N ⟨boot_heap w.params,Array.mk [],boot_drawn,boot_toks,os⟩=some s₁:=by
  unfold topFrom;dsimp only;rw[z1,z2,z3,r];show(match staticsOk (importedModules p.main.body) (boot_heap w.params) s₁.heap&&namesBound p s₁.heap&&gensDone s₁&&laidKept (boot_heap w.params) s₁.heap with|true=>_|false=>_)=_;rw[l1]
 rw[t];exact congrArg some (Prod.ext l2 l3)
end
noncomputable def o0:=PySem.W.boot_o_0
noncomputable def o1:=PySem.W.boot_o_1
noncomputable def o2:=PySem.W.boot_o_2
noncomputable def o3:=PySem.W.boot_o_3
noncomputable def o4:=PySem.W.boot_o_4
noncomputable def o5:=PySem.W.boot_o_5
noncomputable def o6:=PySem.W.boot_o_6
noncomputable def o7:=PySem.W.boot_o_7
noncomputable def o8:=PySem.W.boot_o_8
noncomputable def o9:=PySem.W.boot_o_9
noncomputable def o10:=PySem.W.boot_o_10
noncomputable def o11(_:PySem.Params):PySem.Obj:=.mk (.type "tuple") none (.seq #[]) #[]
noncomputable def o12(_:PySem.Params):PySem.Obj:=.mk .none none (.fields #[]) #[]
noncomputable def o13(_:PySem.Params):PySem.Obj:=.mk (.type "code") none (.fields #[.str (PySem.Str.ofString "<module>") 182,.str (PySem.Str.ofString "<module>") 183,.str (PySem.Str.ofString "/claim/cut.py") 184,.int 1 0,.int 0 0,.int 0 0,.int 0 0,.int 0 0,.ref 11,.bool false,.int 181 0,.ref 12,.none,.none,.none,.none,.int 185 0,.int 1 0,.str (PySem.Str.ofString "/claim/cut.py") 186]) #[]
noncomputable def o14(_:PySem.Params):PySem.Obj:=.mk (.type "frame") none .plain #[some (.ref 13),some (.ref 3),some (.ref 3),none,some (.str (PySem.Str.ofString "__main__") 164),none,some (.ref 0)]
def Sa(w:PySem.World)(os:PySem.OsState):PySem.Shared:=let P:=w.params;⟨⟨⟨[o0 P,o1 P,o2 P,o3 P,o4 P,o5 P,o6 P,o7 P,o8 P,o9 P,o10 P,o11 P,o12 P,o13 P,o14 P]⟩,{}⟩,Array.mk [],{},187,os⟩
def bt(P:PySem.Params):PySem.W.BT:=(.node (o0 P) (.node (o1 P) (.node (o3 P) (.node (o7 P) .nil .nil) (.node (o11 P) .nil .nil)) (.node (o5 P) (.node (o9 P) .nil .nil) (.node (o13 P) .nil .nil))) (.node (o2 P) (.node (o4 P) (.node (o8 P) .nil .nil) (.node (o12 P) .nil .nil)) (.node (o6 P) (.node (o10 P) .nil .nil) (.node (o14 P) .nil .nil))))
def Sb(w:PySem.World)(os:PySem.OsState):PySem.W.SharedT:=⟨bt w.params,15,{},Array.mk [],{},187,os⟩
noncomputable def WO:PySem.Env:={scope:=PySem.Challenge.pw_earthward_k43_whole_reach_from_text.main.scope,locals:=PySem.mainNs,globals:=PySem.mainNs,cells:=[],code:=.ref 13,frame:=some 14}
noncomputable def vw:PySem.Program:={PySem.Challenge.pw_earthward_k43_whole_reach_from_text with main:={PySem.Challenge.pw_earthward_k43_whole_reach_from_text.main with body:=[0,2,3,4,5,6,7,8,9,10,11,12,13,14,15,16,17,19,20,21,22,23,24,26,27,28,29,30,31,32,33,34,36,37,38,39,40,42,43,44,45,46,48,49,51,52,53,54,55,57,58,59,60,61,62,63,64,65,66,67,68,70,71,72,73,74,76,77,78,79,80,81,82,83,84,85].filterMap λi=>PySem.Challenge.pw_earthward_k43_whole_reach_from_text.main.body[i]?}}
end My
set_option maxRecDepth 100000
set_option maxHeartbeats 0
namespace My
noncomputable abbrev wAl:List PySem.Addr:=[2,3,15,17,18,20,21,22,29,30,31,32,35,42,43,44,47,54,55,56,59,66,67,68,71,78,79,80,83,90,91,92,95,102,103,104,107,114,115,116,119,126,127,128,131,138,139,140,143,150,151,152,155,162,163,164,167,174,175,176,179,186,187,188,191,198,199,200,203,210,211,212,222,224,225,227,228,229,231,232,234,235,236,238,239,241,242,243,245,246,248,249,250,251,252,253,254,257,264,266,267,269,270,271,273,274,276,277,278,279,280,283,290,292,293,295,296,297,299,300,302,303,304,305,306,309,316,318,319,321,322,323,325,326,328,329,330,331,332,335,342,344,345,347,348,349,351,352,354,355,356,358,359,361,362,363,364,365,368,370,371,373,374,375,377,378,380,381,389,392,393,394,397,398,399,402,403,404,406,407,409,410,411,413,414,416,417,418,420,421,423,424,425,427,428,430,431,432,433,434,435,436,439,441,442,444,445,446,448,449,451,452,453,455,456,458,459,460,463,464,465,467,468,470,471,472,474,475,477,478,479,481,482,484,485,486,488,489,491,492,493,495,496,498,499,500,502,503,505,506,507,509,510,512,513,514,516,517,519,520,521,523,524,526,527,528,530,531,533,534,535,537,538,540,541,549,551,552,554,555,556,558,559,561,562,563,565,566,568,569,570,572,573,575,576,577,579,580,582,583,584,586,587,589,590,591,593,594,596,597,598,601,602,603,605,606,608,609,610,612,613,615,616,617,619,620,622,623,624,625,626,627,628,631,634,635,636,639,640,648,650,651,653,654,655,657,658,660,661,662,664,665,667,668,669,671,672,674,675,676,678,679,681,682,683,685,686,688,689,690,692,693,695,696,697,699,700,702,703,704,706,707,709,710,711,713,714,716,717,718,719,720,721,722,725,728,729,730,732,733,735,736,737,739,740,742,743,744,746,747,749,750,751,753,754,756,757,758,759,762,763,764,767,768,769,771,772,774,775,776,778,779,781,782,783,785,786,788,789,790,793,794,795,798,799,800,803,804,805,807,808,810,811,812,815,816,817,819,820,822,823,831,833,834,836,837,838,840,841,843,844,845,847,848,850,851,852,854,855,857,858,859,861,862,864,865,866,869,870,871,873,874,876,877,878,879,880,881,882,885,887,888,890,891,892,894,895,897,898,899,901,902,904,905,906,908,909,911,912,913,915,916,918,919,920,923,924,925,927,928,930,931,932,934,935,937,938,939,941,942,944,945,946,949,950]
theorem wHk(P:PySem.Params):wAl=(My.pre.heap_39 P).map (·.1):=by kernel_rfl
noncomputable abbrev sS:=PySem.Str.ofString
abbrev dE(P:PySem.Params)(x:String)(t:Nat)(v:PySem.Value):PySem.DictEntry:=.mk (PySem.PyData.keyHash P (sS x)) (.str (sS x) t) v
def kO(P:PySem.Params)(j:Nat):PySem.Obj:=match(My.pre.heap_39 P).drop j with|x::_=>x.2|[]=>o0 P
noncomputable def S9:List PySem.Stmt:=PySem.Challenge.pw_earthward_k43_whole_reach_from_text.main.body
noncomputable def Sn(k:Nat):List PySem.Stmt:=match S9.drop k with|.ClassDef _ _ _ b _ _ _ _ _ _ _::_=>b|_=>[]
def R6(l:List PySem.Stmt)(k:Nat)(q:String):PySem.Obj:=match l.drop k with|.FunctionDef n a b _ _ _ c _ _ _::_=>.mk .none none (.func (.mk n (sS q) a (.stmts b) c 0 [] .none .none .none .none none .none .none 0)) #[]|_=>.mk .none none (.fields #[]) #[]
def m3(P:PySem.Params):PySem.Obj:=.mk (.type "dict") none (.dict #[dE P "__name__" 165 (.str (sS "earthward.switches") 454),dE P "__doc__" 166 .none,dE P "__package__" 167 .none,dE P "__loader__" 168 (.builtin "__main__.__loader__#opaque"),dE P "__spec__" 169 .none,dE P "__annotations__" 170 (.ref 6),dE P "__builtins__" 171 (.ref 4),dE P "__file__" 173 (.str (sS "/claim/cut.py") 172),dE P "__cached__" 174 .none,dE P "_wall" 193 (.ref 21),dE P "WardError" 213 (.ref 31),dE P "NoRow" 229 (.ref 44),dE P "NoMeasure" 245 (.ref 56),dE P "NoBar" 261 (.ref 68),dE P "Same" 277 (.ref 80),dE P "NoSwitch" 293 (.ref 92),dE P "Loaded" 309 (.ref 104),dE P "Shorted" 325 (.ref 116),dE P "Locked" 341 (.ref 128),dE P "Held" 357 (.ref 140),dE P "NoLock" 373 (.ref 152),dE P "NotOpen" 389 (.ref 164),dE P "NotLocked" 405 (.ref 176),dE P "NotEarthed" 421 (.ref 188),dE P "NotDead" 437 (.ref 200),dE P "NoPermit" 453 (.ref 212),dE P "Switch" 503 (.ref 252),dE P "Feed" 535 (.ref 280),dE P "Earth" 567 (.ref 306)] 29) #[]
noncomputable def U6:PySem.Obj:=.mk (.type "tuple") none (.seq #[]) #[]
noncomputable def m12:PySem.Obj:=.mk .none none (.fields #[.int 1 0,.int 0 0,.ref 20,.int 5 0,.int 0 0,.ref 27,.int 7 0,.int 0 0,.ref 40,.int 9 0,.int 0 0,.ref 52,.int 11 0,.int 0 0,.ref 64,.int 13 0,.int 0 0,.ref 76,.int 15 0,.int 0 0,.ref 88,.int 17 0,.int 0 0,.ref 100,.int 19 0,.int 0 0,.ref 112,.int 21 0,.int 0 0,.ref 124,.int 23 0,.int 0 0,.ref 136,.int 25 0,.int 0 0,.ref 148,.int 27 0,.int 0 0,.ref 160,.int 29 0,.int 0 0,.ref 172,.int 31 0,.int 0 0,.ref 184,.int 33 0,.int 0 0,.ref 196,.int 35 0,.int 0 0,.ref 208,.int 38 0,.int 0 0,.ref 220,.int 51 0,.int 0 0,.ref 262,.int 58 0,.int 0 0,.ref 288]) #[]
def Vc(x0:String)(x1:Nat)(x2:Nat)(x3:Nat):PySem.Obj:=.mk (.type "code") none (.fields #[.str (sS x0) x1,.str (sS x0) (x1+1),.str (sS "/claim/cut.py") (x1+2),.int x2 0,.int 0 0,.int 0 0,.int 0 0,.int 0 0,.ref x3,.bool false,.int 181 0,.ref (x3+1),.none,.none,.none,.none,.int (x1+3) 0,.int x2 0,.str (sS "/claim/cut.py") (x1+4)]) #[]
def Vb(x0:Nat)(x1:Nat)(x2:String)(x3:Nat):PySem.Obj:=.mk (.type "frame") none .plain #[some (.ref x0),some (.ref 3),some (.ref x1),none,some (.str (sS x2) x3),none,some (.ref 0)]
noncomputable def Uy:PySem.Obj:=.mk .none none (.fields #[]) #[]
noncomputable def Vn:PySem.Obj:=.mk (.type "builtin_function_or_method") none (.fields #[.builtin "type.__prepare__",.type "type"]) #[]
def VU(P:PySem.Params)(x0:Nat)(x1:String)(x2:Nat)(x3:Nat):PySem.Obj:=.mk (.type "dict") none (.dict #[dE P "__module__" x0 (.str (sS "earthward.errors") 194),dE P "__qualname__" (x0+2) (.str (sS x1) (x0+1)),dE P "__firstlineno__" (x0+4) (.int x2 (x0+3)),dE P "__static_attributes__" (x0+5) (.ref x3)] 4) #[]
noncomputable def Vm(x0:Nat):PySem.Obj:=.mk (.type "super") none (.fields #[.ref x0,.ref x0,.ref x0]) #[]
noncomputable def Vl(x0:Nat):PySem.Obj:=.mk (.type "builtin_function_or_method") none (.fields #[.builtin "object.__init_subclass__",.ref x0]) #[]
def m217(P:PySem.Params):PySem.Obj:=.mk (.type "dict") none (.dict #[dE P "__module__" 463 (.str (sS "earthward.switches") 454),dE P "__qualname__" 465 (.str (sS "Switch") 464),dE P "__firstlineno__" 467 (.int 38 466),dE P "feeds" 474 (.ref 228),dE P "earths" 481 (.ref 235),dE P "joins" 488 (.ref 242),dE P "gentle" 495 (.ref 249),dE P "__static_attributes__" 496 (.ref 250)] 8) #[]
noncomputable def m219:PySem.Obj:=.mk .none none (.fields #[.int 40 0,.int 4 0,.ref 227,.int 43 0,.int 4 0,.ref 234,.int 46 0,.int 4 0,.ref 241,.int 49 0,.int 4 0,.ref 248]) #[]
def m252:PySem.Obj:=.mk (.type "type") none (.cls (PySem.ClassData.mk (sS "Switch") [.type "object"] [.ref 252,.type "object"] 251 (sS "Switch") true [] [.ref 280,.ref 306] false none false)) #[none,none,some (.str (sS "Switch") 456),some (.str (sS "Switch") 464),some (.builtin "object.__new__"),some (.bool true)]
def mk8(P:PySem.Params)(x0:Nat)(x1:String)(x2:Nat)(x3:Nat)(x4:String):PySem.Obj:=.mk (.type "dict") none (.dict #[dE P "__module__" x0 (.str (sS "earthward.switches") 454),dE P "__qualname__" (x0+2) (.str (sS x1) (x0+1)),dE P "__firstlineno__" (x0+4) (.int x2 (x0+3)),dE P "__init__" (x0+12) (.ref x3),dE P x4 (x0+19) (.ref (x3+7)),dE P "__static_attributes__" (x0+21) (.ref (x3+8))] 6) #[]
noncomputable def mk9(x0:Nat)(x1:Nat):PySem.Obj:=.mk .none none (.fields #[.int x0 0,.int 4 0,.ref x1,.int (x0+3) 0,.int 4 0,.ref (x1+7)]) #[]
noncomputable def wEv:List PySem.Obj->List PySem.Obj
 | []=>[]
 | [a]=>[a]
 | a::_::l=>a::wEv l
def wTr:Nat->List PySem.Obj->PySem.W.BT
 | 0,_=>.nil
 | _,[]=>.nil
 | n+1,a::l=>.node a (wTr n (wEv l)) (wTr n (wEv (l.drop 1)))
def mt(P:PySem.Params):PySem.W.BT:=wTr 12 [PySem.W.boot_o_0 P,PySem.W.boot_o_1 P,PySem.W.boot_o_2 P,m3 P,PySem.W.boot_o_4 P,PySem.W.boot_o_5 P,PySem.W.boot_o_6 P,PySem.W.boot_o_7 P,PySem.W.boot_o_8 P,PySem.W.boot_o_9 P,PySem.W.boot_o_10 P,U6,m12,Vc "<module>" 182 1 11,Vb 13 3 "__main__" 164,kO P 2,Uy,kO P 3,kO P 4,R6 S9 0 "_wall",kO P 5,kO P 6,kO P 7,Vn,VU P 203 "WardError" 5 29,U6,Uy,Vc "WardError" 198 5 25,Vb 27 24 "earthward.errors" 194,kO P 8,kO P 9,kO P 10,kO P 11,Vm 31,Vl 31,kO P 12,Vn,VU P 221 "NoRow" 7 42,U6,Uy,Vc "NoRow" 216 7 38,Vb 40 37 "earthward.errors" 194,kO P 13,kO P 14,kO P 15,Vm 44,Vl 44,kO P 16,Vn,VU P 237 "NoMeasure" 9 54,U6,Uy,Vc "NoMeasure" 232 9 50,Vb 52 49 "earthward.errors" 194,kO P 17,kO P 18,kO P 19,Vm 56,Vl 56,kO P 20,Vn,VU P 253 "NoBar" 11 66,U6,Uy,Vc "NoBar" 248 11 62,Vb 64 61 "earthward.errors" 194,kO P 21,kO P 22,kO P 23,Vm 68,Vl 68,kO P 24,Vn,VU P 269 "Same" 13 78,U6,Uy,Vc "Same" 264 13 74,Vb 76 73 "earthward.errors" 194,kO P 25,kO P 26,kO P 27,Vm 80,Vl 80,kO P 28,Vn,VU P 285 "NoSwitch" 15 90,U6,Uy,Vc "NoSwitch" 280 15 86,Vb 88 85 "earthward.errors" 194,kO P 29,kO P 30,kO P 31,Vm 92,Vl 92,kO P 32,Vn,VU P 301 "Loaded" 17 102,U6,Uy,Vc "Loaded" 296 17 98,Vb 100 97 "earthward.errors" 194,kO P 33,kO P 34,kO P 35,Vm 104,Vl 104,kO P 36,Vn,VU P 317 "Shorted" 19 114,U6,Uy,Vc "Shorted" 312 19 110,Vb 112 109 "earthward.errors" 194,kO P 37,kO P 38,kO P 39,Vm 116,Vl 116,kO P 40,Vn,VU P 333 "Locked" 21 126,U6,Uy,Vc "Locked" 328 21 122,Vb 124 121 "earthward.errors" 194,kO P 41,kO P 42,kO P 43,Vm 128,Vl 128,kO P 44,Vn,VU P 349 "Held" 23 138,U6,Uy,Vc "Held" 344 23 134,Vb 136 133 "earthward.errors" 194,kO P 45,kO P 46,kO P 47,Vm 140,Vl 140,kO P 48,Vn,VU P 365 "NoLock" 25 150,U6,Uy,Vc "NoLock" 360 25 146,Vb 148 145 "earthward.errors" 194,kO P 49,kO P 50,kO P 51,Vm 152,Vl 152,kO P 52,Vn,VU P 381 "NotOpen" 27 162,U6,Uy,Vc "NotOpen" 376 27 158,Vb 160 157 "earthward.errors" 194,kO P 53,kO P 54,kO P 55,Vm 164,Vl 164,kO P 56,Vn,VU P 397 "NotLocked" 29 174,U6,Uy,Vc "NotLocked" 392 29 170,Vb 172 169 "earthward.errors" 194,kO P 57,kO P 58,kO P 59,Vm 176,Vl 176,kO P 60,Vn,VU P 413 "NotEarthed" 31 186,U6,Uy,Vc "NotEarthed" 408 31 182,Vb 184 181 "earthward.errors" 194,kO P 61,kO P 62,kO P 63,Vm 188,Vl 188,kO P 64,Vn,VU P 429 "NotDead" 33 198,U6,Uy,Vc "NotDead" 424 33 194,Vb 196 193 "earthward.errors" 194,kO P 65,kO P 66,kO P 67,Vm 200,Vl 200,kO P 68,Vn,VU P 445 "NoPermit" 35 210,U6,Uy,Vc "NoPermit" 440 35 206,Vb 208 205 "earthward.errors" 194,kO P 69,kO P 70,kO P 71,Vm 212,Vl 212,U6,Vn,m217 P,U6,m219,Vc "Switch" 458 38 218,Vb 220 217 "earthward.switches" 454,kO P 72,Uy,kO P 73,kO P 74,R6 (Sn 19) 0 "Switch.feeds",kO P 75,kO P 76,kO P 77,Uy,kO P 78,kO P 79,R6 (Sn 19) 1 "Switch.earths",kO P 80,kO P 81,kO P 82,Uy,kO P 83,kO P 84,R6 (Sn 19) 2 "Switch.joins",kO P 85,kO P 86,kO P 87,Uy,kO P 88,kO P 89,R6 (Sn 19) 3 "Switch.gentle",kO P 90,kO P 91,kO P 92,kO P 93,m252,kO P 95,kO P 96,Vm 252,Vl 252,kO P 97,Vn,mk8 P 511 "Feed" 51 270 "feeds",U6,mk9 53 269,Vc "Feed" 506 51 260,Vb 262 259 "earthward.switches" 454,kO P 98,Uy,kO P 99,kO P 100,R6 (Sn 20) 0 "Feed.__init__",kO P 101,kO P 102,kO P 103,Uy,kO P 104,kO P 105,R6 (Sn 20) 1 "Feed.feeds",kO P 106,kO P 107,kO P 108,kO P 109,kO P 110,Vm 280,Vl 280,kO P 111,Vn,mk8 P 543 "Earth" 58 296 "earths",U6,mk9 60 295,Vc "Earth" 538 58 286,Vb 288 285 "earthward.switches" 454,kO P 112,Uy,kO P 113,kO P 114,R6 (Sn 21) 0 "Earth.__init__",kO P 115,kO P 116,kO P 117,Uy,kO P 118,kO P 119,R6 (Sn 21) 1 "Earth.earths",kO P 120,kO P 121,kO P 122,kO P 123,kO P 124,Vm 306,Vl 306]
def Sm(w:PySem.World)(os:PySem.OsState):PySem.W.SharedT:=⟨mt w.params,309,PySem.Life.mk [] [] [] 0 [] [] false #[] [] 0 false false false 0 [2000,10,10] false 0 true [] [] 0 false,Array.mk [],PySem.Drawn.mk 0 0 0 0,568,os⟩
def m3b(P:PySem.Params):PySem.Obj:=.mk (.type "dict") none (.dict #[dE P "__name__" 165 (.str (sS "law_earthward_k43_whole_reach_from_text") 1375),dE P "__doc__" 166 .none,dE P "__package__" 167 .none,dE P "__loader__" 168 (.builtin "__main__.__loader__#opaque"),dE P "__spec__" 169 .none,dE P "__annotations__" 170 (.ref 6),dE P "__builtins__" 171 (.ref 4),dE P "__file__" 173 (.str (sS "/claim/cut.py") 172),dE P "__cached__" 174 .none,dE P "_wall" 193 (.ref 21),dE P "WardError" 213 (.ref 31),dE P "NoRow" 229 (.ref 44),dE P "NoMeasure" 245 (.ref 56),dE P "NoBar" 261 (.ref 68),dE P "Same" 277 (.ref 80),dE P "NoSwitch" 293 (.ref 92),dE P "Loaded" 309 (.ref 104),dE P "Shorted" 325 (.ref 116),dE P "Locked" 341 (.ref 128),dE P "Held" 357 (.ref 140),dE P "NoLock" 373 (.ref 152),dE P "NotOpen" 389 (.ref 164),dE P "NotLocked" 405 (.ref 176),dE P "NotEarthed" 421 (.ref 188),dE P "NotDead" 437 (.ref 200),dE P "NoPermit" 453 (.ref 212),dE P "Switch" 503 (.ref 252),dE P "Feed" 535 (.ref 280),dE P "Earth" 567 (.ref 306),dE P "Breaker" 601 (.ref 332),dE P "Splitter" 642 (.ref 365),dE P "switch_of" 650 (.ref 374),dE P "has" 660 (.ref 381),dE P "Net" 735 (.ref 434),dE P "live" 743 (.ref 445),dE P "earthed" 751 (.ref 452),dE P "lowest" 758 (.ref 459),dE P "numbers_in" 764 (.ref 464),dE P "steps_from" 778 (.ref 471),dE P "numbers_back" 789 (.ref 478),dE P "way" 804 (.ref 485),dE P "check_switch" 814 (.ref 492),dE P "after_turn" 822 (.ref 499),dE P "loads" 834 (.ref 506),dE P "shorts" 843 (.ref 513),dE P "turned" 853 (.ref 520),dE P "can_lock" 862 (.ref 527),dE P "all_switches" 869 (.ref 534),dE P "keeps_dead" 878 (.ref 541),dE P "Bundle" 1011 (.ref 626),dE P "fewest_locks" 1017 (.ref 635),dE P "own_earths" 1025 (.ref 640),dE P "Board" 1129 (.ref 720),dE P "free_switches" 1137 (.ref 729),dE P "layer_behind" 1151 (.ref 736),dE P "meets" 1162 (.ref 743),dE P "deeds_to" 1172 (.ref 750),dE P "plan" 1187 (.ref 757),dE P "MOST_BARS" 1191 (.int 10 1190),dE P "MOST_SWITCHES" 1193 (.int 12 1192),dE P "MOST_FIGURES" 1195 (.int 9 1194),dE P "FIGURES" 1197 (.str (sS "0123456789") 1196),dE P "NUMBERS_BEHIND" 1213 (.ref 758),dE P "is_number" 1219 (.ref 763),dE P "numbers_told" 1225 (.ref 768),dE P "parted" 1234 (.ref 775),dE P "count_in" 1242 (.ref 782),dE P "switch_in" 1252 (.ref 789),dE P "row_of" 1258 (.ref 794),dE P "shown" 1264 (.ref 799),dE P "joined_by_blanks" 1272 (.ref 804),dE P "one_number" 1279 (.ref 811),dE P "place_told" 1285 (.ref 816),dE P "wish_for" 1293 (.ref 823),dE P "Desk" 1374 (.ref 880),dE P "_law_cell_at" 1384 (.ref 891),dE P "_law_switch" 1394 (.ref 898)] 77) #[]
noncomputable def Sj:PySem.Obj:=.mk (.type "tuple") none (.seq #[]) #[]
noncomputable def m12b:PySem.Obj:=.mk .none none (.fields #[.int 1 0,.int 0 0,.ref 20,.int 5 0,.int 0 0,.ref 27,.int 7 0,.int 0 0,.ref 40,.int 9 0,.int 0 0,.ref 52,.int 11 0,.int 0 0,.ref 64,.int 13 0,.int 0 0,.ref 76,.int 15 0,.int 0 0,.ref 88,.int 17 0,.int 0 0,.ref 100,.int 19 0,.int 0 0,.ref 112,.int 21 0,.int 0 0,.ref 124,.int 23 0,.int 0 0,.ref 136,.int 25 0,.int 0 0,.ref 148,.int 27 0,.int 0 0,.ref 160,.int 29 0,.int 0 0,.ref 172,.int 31 0,.int 0 0,.ref 184,.int 33 0,.int 0 0,.ref 196,.int 35 0,.int 0 0,.ref 208,.int 38 0,.int 0 0,.ref 220,.int 51 0,.int 0 0,.ref 262,.int 58 0,.int 0 0,.ref 288,.int 65 0,.int 0 0,.ref 314,.int 73 0,.int 0 0,.ref 340,.int 84 0,.int 0 0,.ref 373,.int 94 0,.int 0 0,.ref 380,.int 96 0,.int 0 0,.ref 387,.int 132 0,.int 0 0,.ref 444,.int 134 0,.int 0 0,.ref 451,.int 136 0,.int 0 0,.ref 458,.int 138 0,.int 0 0,.ref 463,.int 140 0,.int 0 0,.ref 470,.int 147 0,.int 0 0,.ref 477,.int 154 0,.int 0 0,.ref 484,.int 168 0,.int 0 0,.ref 491,.int 171 0,.int 0 0,.ref 498,.int 173 0,.int 0 0,.ref 505,.int 182 0,.int 0 0,.ref 512,.int 184 0,.int 0 0,.ref 519,.int 193 0,.int 0 0,.ref 526,.int 195 0,.int 0 0,.ref 533,.int 197 0,.int 0 0,.ref 540,.int 199 0,.int 0 0,.ref 547,.int 287 0,.int 0 0,.ref 634,.int 295 0,.int 0 0,.ref 639,.int 298 0,.int 0 0,.ref 646,.int 369 0,.int 0 0,.ref 728,.int 371 0,.int 0 0,.ref 735,.int 380 0,.int 0 0,.ref 742,.int 384 0,.int 0 0,.ref 749,.int 391 0,.int 0 0,.ref 756,.int 408 0,.int 0 0,.ref 762,.int 414 0,.int 0 0,.ref 767,.int 418 0,.int 0 0,.ref 774,.int 424 0,.int 0 0,.ref 781,.int 431 0,.int 0 0,.ref 788,.int 442 0,.int 0 0,.ref 793,.int 444 0,.int 0 0,.ref 798,.int 448 0,.int 0 0,.ref 803,.int 452 0,.int 0 0,.ref 810,.int 456 0,.int 0 0,.ref 815,.int 463 0,.int 0 0,.ref 822,.int 469 0,.int 0 0,.ref 829,.int 540 0,.int 0 0,.ref 890,.int 544 0,.int 0 0,.ref 897]) #[]
def Ss(x0:String)(x1:Nat)(x2:Nat)(x3:Nat):PySem.Obj:=.mk (.type "code") none (.fields #[.str (sS x0) x1,.str (sS x0) (x1+1),.str (sS "/claim/cut.py") (x1+2),.int x2 0,.int 0 0,.int 0 0,.int 0 0,.int 0 0,.ref x3,.bool false,.int 181 0,.ref (x3+1),.none,.none,.none,.none,.int (x1+3) 0,.int x2 0,.str (sS "/claim/cut.py") (x1+4)]) #[]
def Sr(x0:Nat)(x1:Nat)(x2:String)(x3:Nat):PySem.Obj:=.mk (.type "frame") none .plain #[some (.ref x0),some (.ref 3),some (.ref x1),none,some (.str (sS x2) x3),none,some (.ref 0)]
noncomputable def RP:PySem.Obj:=.mk .none none (.fields #[]) #[]
noncomputable def Sx:PySem.Obj:=.mk (.type "builtin_function_or_method") none (.fields #[.builtin "type.__prepare__",.type "type"]) #[]
def Tz(P:PySem.Params)(x0:Nat)(x1:String)(x2:Nat)(x3:Nat):PySem.Obj:=.mk (.type "dict") none (.dict #[dE P "__module__" x0 (.str (sS "earthward.errors") 194),dE P "__qualname__" (x0+2) (.str (sS x1) (x0+1)),dE P "__firstlineno__" (x0+4) (.int x2 (x0+3)),dE P "__static_attributes__" (x0+5) (.ref x3)] 4) #[]
noncomputable def Sv(x0:Nat):PySem.Obj:=.mk (.type "super") none (.fields #[.ref x0,.ref x0,.ref x0]) #[]
noncomputable def Su(x0:Nat):PySem.Obj:=.mk (.type "builtin_function_or_method") none (.fields #[.builtin "object.__init_subclass__",.ref x0]) #[]
def m217b(P:PySem.Params):PySem.Obj:=.mk (.type "dict") none (.dict #[dE P "__module__" 463 (.str (sS "earthward.switches") 454),dE P "__qualname__" 465 (.str (sS "Switch") 464),dE P "__firstlineno__" 467 (.int 38 466),dE P "feeds" 474 (.ref 228),dE P "earths" 481 (.ref 235),dE P "joins" 488 (.ref 242),dE P "gentle" 495 (.ref 249),dE P "__static_attributes__" 496 (.ref 250)] 8) #[]
noncomputable def m219b:PySem.Obj:=.mk .none none (.fields #[.int 40 0,.int 4 0,.ref 227,.int 43 0,.int 4 0,.ref 234,.int 46 0,.int 4 0,.ref 241,.int 49 0,.int 4 0,.ref 248]) #[]
def YC(P:PySem.Params)(x0:Nat)(x1:String)(x2:Nat)(x3:Nat)(x4:Nat)(x5:String)(x6:Nat):PySem.Obj:=.mk (.type "dict") none (.dict #[dE P "__module__" x0 (.str (sS "earthward.switches") 454),dE P "__qualname__" (x0+2) (.str (sS x1) (x0+1)),dE P "__firstlineno__" (x0+4) (.int x2 (x0+3)),dE P "__init__" x3 (.ref x4),dE P x5 (x3+7) (.ref (x4+7)),dE P "__static_attributes__" x6 (.ref (x4+8))] 6) #[]
noncomputable def YB(x0:Nat)(x1:Nat)(x2:Nat):PySem.Obj:=.mk .none none (.fields #[.int x0 0,.int 4 0,.ref x1,.int x2 0,.int 4 0,.ref (x1+7)]) #[]
def m337b(P:PySem.Params):PySem.Obj:=.mk (.type "dict") none (.dict #[dE P "__module__" 609 (.str (sS "earthward.switches") 454),dE P "__qualname__" 611 (.str (sS "Splitter") 610),dE P "__firstlineno__" 613 (.int 73 612),dE P "__init__" 622 (.ref 348),dE P "joins" 629 (.ref 355),dE P "gentle" 636 (.ref 362),dE P "__static_attributes__" 639 (.ref 363)] 7) #[]
noncomputable def m339b:PySem.Obj:=.mk .none none (.fields #[.int 75 0,.int 4 0,.ref 347,.int 79 0,.int 4 0,.ref 354,.int 82 0,.int 4 0,.ref 361]) #[]
def Yh(P:PySem.Params)(x0:Nat)(x1:String)(x2:Nat)(x3:String)(x4:Nat)(x5:Nat)(x6:Nat)(x7:String)(x8:Nat)(x9:Nat)(x10:String)(V2:Nat)(Xf:Nat)(XN:String)(x14:String)(x15:Nat)(x16:String)(x17:Nat)(x18:String):PySem.Obj:=.mk (.type "dict") none (.dict #[dE P "__module__" x0 (.str (sS x1) x2),dE P "__qualname__" (x0+2) (.str (sS x3) (x0+1)),dE P "__firstlineno__" (x0+4) (.int x4 (x0+3)),dE P "__init__" x5 (.ref x6),dE P x7 x8 (.ref x9),dE P x10 V2 (.ref Xf),dE P XN (V2+10) (.ref (Xf+7)),dE P x14 x15 (.ref (Xf+14)),dE P x16 x17 (.ref (x9+26)),dE P x18 (x17+8) (.ref (x9+33)),dE P "__static_attributes__" (x8+44) (.ref (x9+34))] 11) #[]
noncomputable def Yg(x0:Nat)(x1:Nat)(x2:Nat)(x3:Nat)(x4:Nat)(x5:Nat)(x6:Nat)(x7:Nat)(x8:Nat)(x9:Nat):PySem.Obj:=.mk .none none (.fields #[.int x0 0,.int 4 0,.ref x1,.int x2 0,.int 4 0,.ref x3,.int x4 0,.int 4 0,.ref x5,.int x6 0,.int 4 0,.ref (x5+7),.int x7 0,.int 4 0,.ref (x5+14),.int x8 0,.int 4 0,.ref (x3+26),.int x9 0,.int 4 0,.ref (x3+33)]) #[]
def m544b(P:PySem.Params):PySem.Obj:=.mk (.type "dict") none (.dict #[dE P "__module__" 886 (.str (sS "earthward.locks") 854),dE P "__qualname__" 888 (.str (sS "Bundle") 887),dE P "__firstlineno__" 890 (.int 199 889),dE P "__init__" 902 (.ref 555),dE P "pair_of" 910 (.ref 562),dE P "joined_in_common" 918 (.ref 569),dE P "steps_by" 931 (.ref 576),dE P "row_in" 942 (.ref 583),dE P "steps_left" 950 (.ref 590),dE P "widen" 959 (.ref 597),dE P "rim" 965 (.ref 602),dE P "row_of_a_way" 975 (.ref 609),dE P "way_by" 986 (.ref 616),dE P "take_ways" 996 (.ref 623),dE P "__static_attributes__" 1004 (.ref 624)] 15) #[]
noncomputable def m546b:PySem.Obj:=.mk .none none (.fields #[.int 201 0,.int 4 0,.ref 554,.int 212 0,.int 4 0,.ref 561,.int 217 0,.int 4 0,.ref 568,.int 220 0,.int 4 0,.ref 575,.int 233 0,.int 4 0,.ref 582,.int 242 0,.int 4 0,.ref 589,.int 247 0,.int 4 0,.ref 596,.int 256 0,.int 4 0,.ref 601,.int 262 0,.int 4 0,.ref 608,.int 268 0,.int 4 0,.ref 615,.int 278 0,.int 4 0,.ref 622]) #[]
def m643b(P:PySem.Params):PySem.Obj:=.mk (.type "dict") none (.dict #[dE P "__module__" 1033 (.str (sS "earthward.board") 1018),dE P "__qualname__" 1035 (.str (sS "Board") 1034),dE P "__firstlineno__" 1037 (.int 298 1036),dE P "__init__" 1045 (.ref 654),dE P "standing" 1052 (.ref 661),dE P "locked" 1059 (.ref 668),dE P "held" 1068 (.ref 675),dE P "permits" 1075 (.ref 682),dE P "turn" 1083 (.ref 689),dE P "lock" 1091 (.ref 696),dE P "unlock" 1099 (.ref 703),dE P "permit" 1107 (.ref 710),dE P "give_back" 1115 (.ref 717),dE P "__static_attributes__" 1122 (.ref 718)] 14) #[]
noncomputable def m645b:PySem.Obj:=.mk .none none (.fields #[.int 300 0,.int 4 0,.ref 653,.int 308 0,.int 4 0,.ref 660,.int 311 0,.int 4 0,.ref 667,.int 314 0,.int 4 0,.ref 674,.int 320 0,.int 4 0,.ref 681,.int 323 0,.int 4 0,.ref 688,.int 332 0,.int 4 0,.ref 695,.int 343 0,.int 4 0,.ref 702,.int 352 0,.int 4 0,.ref 709,.int 363 0,.int 4 0,.ref 716]) #[]
def mtb(P:PySem.Params):PySem.W.BT:=wTr 12 [PySem.W.boot_o_0 P,PySem.W.boot_o_1 P,PySem.W.boot_o_2 P,m3b P,PySem.W.boot_o_4 P,PySem.W.boot_o_5 P,PySem.W.boot_o_6 P,PySem.W.boot_o_7 P,PySem.W.boot_o_8 P,PySem.W.boot_o_9 P,PySem.W.boot_o_10 P,Sj,m12b,Ss "<module>" 182 1 11,Sr 13 3 "__main__" 164,kO P 2,RP,kO P 3,kO P 4,R6 S9 0 "_wall",kO P 5,kO P 6,kO P 7,Sx,Tz P 203 "WardError" 5 29,Sj,RP,Ss "WardError" 198 5 25,Sr 27 24 "earthward.errors" 194,kO P 8,kO P 9,kO P 10,kO P 11,Sv 31,Su 31,kO P 12,Sx,Tz P 221 "NoRow" 7 42,Sj,RP,Ss "NoRow" 216 7 38,Sr 40 37 "earthward.errors" 194,kO P 13,kO P 14,kO P 15,Sv 44,Su 44,kO P 16,Sx,Tz P 237 "NoMeasure" 9 54,Sj,RP,Ss "NoMeasure" 232 9 50,Sr 52 49 "earthward.errors" 194,kO P 17,kO P 18,kO P 19,Sv 56,Su 56,kO P 20,Sx,Tz P 253 "NoBar" 11 66,Sj,RP,Ss "NoBar" 248 11 62,Sr 64 61 "earthward.errors" 194,kO P 21,kO P 22,kO P 23,Sv 68,Su 68,kO P 24,Sx,Tz P 269 "Same" 13 78,Sj,RP,Ss "Same" 264 13 74,Sr 76 73 "earthward.errors" 194,kO P 25,kO P 26,kO P 27,Sv 80,Su 80,kO P 28,Sx,Tz P 285 "NoSwitch" 15 90,Sj,RP,Ss "NoSwitch" 280 15 86,Sr 88 85 "earthward.errors" 194,kO P 29,kO P 30,kO P 31,Sv 92,Su 92,kO P 32,Sx,Tz P 301 "Loaded" 17 102,Sj,RP,Ss "Loaded" 296 17 98,Sr 100 97 "earthward.errors" 194,kO P 33,kO P 34,kO P 35,Sv 104,Su 104,kO P 36,Sx,Tz P 317 "Shorted" 19 114,Sj,RP,Ss "Shorted" 312 19 110,Sr 112 109 "earthward.errors" 194,kO P 37,kO P 38,kO P 39,Sv 116,Su 116,kO P 40,Sx,Tz P 333 "Locked" 21 126,Sj,RP,Ss "Locked" 328 21 122,Sr 124 121 "earthward.errors" 194,kO P 41,kO P 42,kO P 43,Sv 128,Su 128,kO P 44,Sx,Tz P 349 "Held" 23 138,Sj,RP,Ss "Held" 344 23 134,Sr 136 133 "earthward.errors" 194,kO P 45,kO P 46,kO P 47,Sv 140,Su 140,kO P 48,Sx,Tz P 365 "NoLock" 25 150,Sj,RP,Ss "NoLock" 360 25 146,Sr 148 145 "earthward.errors" 194,kO P 49,kO P 50,kO P 51,Sv 152,Su 152,kO P 52,Sx,Tz P 381 "NotOpen" 27 162,Sj,RP,Ss "NotOpen" 376 27 158,Sr 160 157 "earthward.errors" 194,kO P 53,kO P 54,kO P 55,Sv 164,Su 164,kO P 56,Sx,Tz P 397 "NotLocked" 29 174,Sj,RP,Ss "NotLocked" 392 29 170,Sr 172 169 "earthward.errors" 194,kO P 57,kO P 58,kO P 59,Sv 176,Su 176,kO P 60,Sx,Tz P 413 "NotEarthed" 31 186,Sj,RP,Ss "NotEarthed" 408 31 182,Sr 184 181 "earthward.errors" 194,kO P 61,kO P 62,kO P 63,Sv 188,Su 188,kO P 64,Sx,Tz P 429 "NotDead" 33 198,Sj,RP,Ss "NotDead" 424 33 194,Sr 196 193 "earthward.errors" 194,kO P 65,kO P 66,kO P 67,Sv 200,Su 200,kO P 68,Sx,Tz P 445 "NoPermit" 35 210,Sj,RP,Ss "NoPermit" 440 35 206,Sr 208 205 "earthward.errors" 194,kO P 69,kO P 70,kO P 71,Sv 212,Su 212,Sj,Sx,m217b P,Sj,m219b,Ss "Switch" 458 38 218,Sr 220 217 "earthward.switches" 454,kO P 72,RP,kO P 73,kO P 74,R6 (Sn 19) 0 "Switch.feeds",kO P 75,kO P 76,kO P 77,RP,kO P 78,kO P 79,R6 (Sn 19) 1 "Switch.earths",kO P 80,kO P 81,kO P 82,RP,kO P 83,kO P 84,R6 (Sn 19) 2 "Switch.joins",kO P 85,kO P 86,kO P 87,RP,kO P 88,kO P 89,R6 (Sn 19) 3 "Switch.gentle",kO P 90,kO P 91,kO P 92,kO P 93,kO P 94,kO P 95,kO P 96,Sv 252,Su 252,kO P 97,Sx,YC P 511 "Feed" 51 523 270 "feeds" 532,Sj,YB 53 269 56,Ss "Feed" 506 51 260,Sr 262 259 "earthward.switches" 454,kO P 98,RP,kO P 99,kO P 100,R6 (Sn 20) 0 "Feed.__init__",kO P 101,kO P 102,kO P 103,RP,kO P 104,kO P 105,R6 (Sn 20) 1 "Feed.feeds",kO P 106,kO P 107,kO P 108,kO P 109,kO P 110,Sv 280,Su 280,kO P 111,Sx,YC P 543 "Earth" 58 555 296 "earths" 564,Sj,YB 60 295 63,Ss "Earth" 538 58 286,Sr 288 285 "earthward.switches" 454,kO P 112,RP,kO P 113,kO P 114,R6 (Sn 21) 0 "Earth.__init__",kO P 115,kO P 116,kO P 117,RP,kO P 118,kO P 119,R6 (Sn 21) 1 "Earth.earths",kO P 120,kO P 121,kO P 122,kO P 123,kO P 124,Sv 306,Su 306,kO P 125,Sx,YC P 575 "Breaker" 65 588 322 "joins" 598,Sj,YB 67 321 71,Ss "Breaker" 570 65 312,Sr 314 311 "earthward.switches" 454,kO P 126,RP,kO P 127,kO P 128,R6 (Sn 22) 0 "Breaker.__init__",kO P 129,kO P 130,kO P 131,RP,kO P 132,kO P 133,R6 (Sn 22) 1 "Breaker.joins",kO P 134,kO P 135,kO P 136,kO P 137,kO P 138,Sv 332,Su 332,kO P 139,Sx,m337b P,Sj,m339b,Ss "Splitter" 604 73 338,Sr 340 337 "earthward.switches" 454,kO P 140,RP,kO P 141,kO P 142,R6 (Sn 23) 0 "Splitter.__init__",kO P 143,kO P 144,kO P 145,RP,kO P 146,kO P 147,R6 (Sn 23) 1 "Splitter.joins",kO P 148,kO P 149,kO P 150,RP,kO P 151,kO P 152,R6 (Sn 23) 2 "Splitter.gentle",kO P 153,kO P 154,kO P 155,kO P 156,kO P 157,Sv 365,Su 365,kO P 158,RP,kO P 159,kO P 160,R6 S9 24 "switch_of",kO P 161,kO P 162,kO P 163,RP,kO P 164,kO P 165,R6 S9 26 "has",kO P 166,kO P 167,Sj,Sx,Yh P 668 "earthward.reach" 651 "Net" 96 678 393 "shut_ones" 684 398 "joined_bars" 690 403 "live_bars" "led_bars" 710 "earthed_bars" 718 "is_safe",Sj,Yg 98 392 101 397 104 402 115 121 127 130,Ss "Net" 663 96 385,Sr 387 384 "earthward.reach" 651,kO P 168,RP,R6 (Sn 27) 0 "Net.__init__",kO P 169,kO P 170,kO P 171,RP,R6 (Sn 27) 1 "Net.shut_ones",kO P 172,kO P 173,kO P 174,RP,R6 (Sn 27) 2 "Net.joined_bars",kO P 175,kO P 176,kO P 177,RP,kO P 178,kO P 179,R6 (Sn 27) 3 "Net.live_bars",kO P 180,kO P 181,kO P 182,RP,kO P 183,kO P 184,R6 (Sn 27) 4 "Net.led_bars",kO P 185,kO P 186,kO P 187,RP,kO P 188,kO P 189,R6 (Sn 27) 5 "Net.earthed_bars",kO P 190,kO P 191,kO P 192,RP,kO P 193,kO P 194,R6 (Sn 27) 6 "Net.is_safe",kO P 195,kO P 196,kO P 197,kO P 198,kO P 199,kO P 200,kO P 201,Sv 434,Su 434,kO P 202,RP,kO P 203,kO P 204,R6 S9 28 "live",kO P 205,kO P 206,kO P 207,RP,kO P 208,kO P 209,R6 S9 29 "earthed",kO P 210,kO P 211,kO P 212,RP,kO P 213,kO P 214,R6 S9 30 "lowest",kO P 215,kO P 216,kO P 217,RP,R6 S9 31 "numbers_in",kO P 218,kO P 219,kO P 220,RP,kO P 221,kO P 222,R6 S9 32 "steps_from",kO P 223,kO P 224,kO P 225,RP,kO P 226,kO P 227,R6 S9 33 "numbers_back",kO P 228,kO P 229,kO P 230,RP,kO P 231,kO P 232,R6 S9 34 "way",kO P 233,kO P 234,kO P 235,RP,kO P 236,kO P 237,R6 S9 36 "check_switch",kO P 238,kO P 239,kO P 240,RP,kO P 241,kO P 242,R6 S9 37 "after_turn",kO P 243,kO P 244,kO P 245,RP,kO P 246,kO P 247,R6 S9 38 "loads",kO P 248,kO P 249,kO P 250,RP,kO P 251,kO P 252,R6 S9 39 "shorts",kO P 253,kO P 254,kO P 255,RP,kO P 256,kO P 257,R6 S9 40 "turned",kO P 258,kO P 259,kO P 260,RP,kO P 261,kO P 262,R6 S9 42 "can_lock",kO P 263,kO P 264,kO P 265,RP,kO P 266,kO P 267,R6 S9 43 "all_switches",kO P 268,kO P 269,kO P 270,RP,kO P 271,kO P 272,R6 S9 44 "keeps_dead",kO P 273,kO P 274,Sj,Sx,m544b P,Sj,m546b,Ss "Bundle" 881 199 545,Sr 547 544 "earthward.locks" 854,kO P 275,RP,kO P 276,kO P 277,R6 (Sn 45) 0 "Bundle.__init__",kO P 278,kO P 279,kO P 280,RP,kO P 281,kO P 282,R6 (Sn 45) 1 "Bundle.pair_of",kO P 283,kO P 284,kO P 285,RP,kO P 286,kO P 287,R6 (Sn 45) 2 "Bundle.joined_in_common",kO P 288,kO P 289,kO P 290,RP,kO P 291,kO P 292,R6 (Sn 45) 3 "Bundle.steps_by",kO P 293,kO P 294,kO P 295,RP,kO P 296,kO P 297,R6 (Sn 45) 4 "Bundle.row_in",kO P 298,kO P 299,kO P 300,RP,kO P 301,kO P 302,R6 (Sn 45) 5 "Bundle.steps_left",kO P 303,kO P 304,kO P 305,RP,kO P 306,kO P 307,R6 (Sn 45) 6 "Bundle.widen",kO P 308,kO P 309,kO P 310,RP,R6 (Sn 45) 7 "Bundle.rim",kO P 311,kO P 312,kO P 313,RP,kO P 314,kO P 315,R6 (Sn 45) 8 "Bundle.row_of_a_way",kO P 316,kO P 317,kO P 318,RP,kO P 319,kO P 320,R6 (Sn 45) 9 "Bundle.way_by",kO P 321,kO P 322,kO P 323,RP,kO P 324,kO P 325,R6 (Sn 45) 10 "Bundle.take_ways",kO P 326,kO P 327,kO P 328,kO P 329,kO P 330,kO P 331,kO P 332,Sv 626,Su 626,kO P 333,RP,R6 S9 46 "fewest_locks",kO P 334,kO P 335,kO P 336,RP,R6 S9 48 "own_earths",kO P 337,kO P 338,Sj,Sx,m643b P,Sj,m645b,Ss "Board" 1028 298 644,Sr 646 643 "earthward.board" 1018,kO P 339,RP,kO P 340,kO P 341,R6 (Sn 49) 0 "Board.__init__",kO P 342,kO P 343,kO P 344,RP,kO P 345,kO P 346,R6 (Sn 49) 1 "Board.standing",kO P 347,kO P 348,kO P 349,RP,kO P 350,kO P 351,R6 (Sn 49) 2 "Board.locked",kO P 352,kO P 353,kO P 354,RP,kO P 355,kO P 356,R6 (Sn 49) 3 "Board.held",kO P 357,kO P 358,kO P 359,RP,kO P 360,kO P 361,R6 (Sn 49) 4 "Board.permits",kO P 362,kO P 363,kO P 364,RP,kO P 365,kO P 366,R6 (Sn 49) 5 "Board.turn",kO P 367,kO P 368,kO P 369,RP,kO P 370,kO P 371,R6 (Sn 49) 6 "Board.lock",kO P 372,kO P 373,kO P 374,RP,kO P 375,kO P 376,R6 (Sn 49) 7 "Board.unlock",kO P 377,kO P 378,kO P 379,RP,kO P 380,kO P 381,R6 (Sn 49) 8 "Board.permit",kO P 382,kO P 383,kO P 384,RP,kO P 385,kO P 386,R6 (Sn 49) 9 "Board.give_back",kO P 387,kO P 388,kO P 389,kO P 390,kO P 391,kO P 392,kO P 393,Sv 720,Su 720,kO P 394,RP,R6 S9 51 "free_switches",kO P 395,kO P 396,kO P 397,RP,kO P 398,kO P 399,R6 S9 52 "layer_behind",kO P 400,kO P 401,kO P 402,RP,kO P 403,kO P 404,R6 S9 53 "meets",kO P 405,kO P 406,kO P 407,RP,kO P 408,kO P 409,R6 S9 54 "deeds_to",kO P 410,kO P 411,kO P 412,RP,kO P 413,kO P 414,R6 S9 55 "plan",kO P 415,kO P 416,kO P 417,kO P 418,RP,R6 S9 62 "is_number",kO P 419,kO P 420,kO P 421,RP,R6 S9 63 "numbers_told",kO P 422,kO P 423,kO P 424,RP,kO P 425,kO P 426,R6 S9 64 "parted",kO P 427,kO P 428,kO P 429,RP,kO P 430,kO P 431,R6 S9 65 "count_in",kO P 432,kO P 433,kO P 434,RP,kO P 435,kO P 436,R6 S9 66 "switch_in",kO P 437,kO P 438,kO P 439,RP,R6 S9 67 "row_of",kO P 440,kO P 441,kO P 442,RP,R6 S9 68 "shown",kO P 443,kO P 444,kO P 445,RP,R6 S9 70 "joined_by_blanks",kO P 446,kO P 447,kO P 448,RP,kO P 449,kO P 450,R6 S9 71 "one_number",kO P 451,kO P 452,kO P 453,RP,R6 S9 72 "place_told",kO P 454,kO P 455,kO P 456,RP,kO P 457,kO P 458,R6 S9 73 "wish_for",kO P 459,kO P 460,Sj,Sx,Yh P 1301 "earthward.desk" 1265 "Desk" 469 1312 837 "say" 1323 844 "begin" 1331 851 "add_switch" "done" 1350 "reach" 1356 "tell",Sj,Yg 471 836 475 843 497 850 502 507 518 527,Ss "Desk" 1296 469 827,Sr 829 826 "earthward.desk" 1265,kO P 461,RP,kO P 462,kO P 463,R6 (Sn 74) 0 "Desk.__init__",kO P 464,kO P 465,kO P 466,RP,kO P 467,kO P 468,R6 (Sn 74) 1 "Desk.say",kO P 469,kO P 470,kO P 471,RP,kO P 472,kO P 473,R6 (Sn 74) 2 "Desk.begin",kO P 474,kO P 475,kO P 476,RP,kO P 477,kO P 478,R6 (Sn 74) 3 "Desk.add_switch",kO P 479,kO P 480,kO P 481,RP,kO P 482,kO P 483,R6 (Sn 74) 4 "Desk.done",kO P 484,kO P 485,kO P 486,RP,R6 (Sn 74) 5 "Desk.reach",kO P 487,kO P 488,kO P 489,RP,kO P 490,kO P 491,R6 (Sn 74) 6 "Desk.tell",kO P 492,kO P 493,kO P 494,kO P 495,kO P 496,kO P 497,kO P 498,Sv 880,Su 880,kO P 499,RP,kO P 500,kO P 501,R6 S9 76 "_law_cell_at",kO P 502,kO P 503,kO P 504,RP,kO P 505,kO P 506,R6 S9 77 "_law_switch",kO P 507,kO P 508]
def Smb(w:PySem.World)(os:PySem.OsState):PySem.W.SharedT:=⟨mtb w.params,899,PySem.Life.mk [] [] [] 0 [] [] false #[] [] 0 false false false 0 [2000,10,10] false 0 true [] [] 0 false,Array.mk [],PySem.Drawn.mk 0 0 0 0,1395,os⟩
abbrev wS(w:PySem.World)(n:Nat)(S:PySem.W.SharedT)(l:List PySem.Stmt)(p:PySem.Pos)(S1:PySem.W.SharedT)(q:PySem.Pos):Prop:=PySem.W.segRunT PySem.treeTable PySem.Challenge.pw_earthward_k43_whole_reach_from_text w 11 (some (.ref 6)) 1 n S (PySem.W.piecesOf l My.WO (.body (PySem.W.behindTheImports PySem.Challenge.pw_earthward_k43_whole_reach_from_text) My.WO) p [PySem.W.topFrame ⟨0,0,0,0⟩])=some (.next,S1,.body (PySem.W.behindTheImports PySem.Challenge.pw_earthward_k43_whole_reach_from_text) My.WO,q)
abbrev wS0(w:PySem.World)(os:PySem.OsState):Prop:=wS w 4353 (My.Sb w os) ((PySem.W.behindTheImports PySem.Challenge.pw_earthward_k43_whole_reach_from_text).take 22) ⟨0,0,0,0⟩ (My.Sm w os) ⟨58,0,64,28⟩
theorem run0a(w:PySem.World)(os:PySem.OsState):wS0 (PySem.World.withFollow w "special-get-raises" false) os:=by kernel_rfl
abbrev wS1(w:PySem.World)(os:PySem.OsState):Prop:=wS w 3852 (My.Sm w os) (((PySem.W.behindTheImports PySem.Challenge.pw_earthward_k43_whole_reach_from_text).drop 22).take 56) ⟨58,0,64,28⟩ (My.Smb w os) ⟨544,0,551,58⟩
theorem run0b(w:PySem.World)(os:PySem.OsState):wS1 (PySem.World.withFollow w "special-get-raises" false) os:=by kernel_rfl
abbrev wR(w:PySem.World)(os:PySem.OsState){β:Type}(F:PySem.Shared->β)(v:β):Prop:=WZ PySem.Challenge.pw_earthward_k43_whole_reach_from_text w 11 (some (.ref 6)) My.WO ⟨0,0,0,0⟩ ⟨544,0,551,58⟩ ⟨597,0,623,53⟩ 658 5 (My.Smb w os) (((PySem.W.behindTheImports PySem.Challenge.pw_earthward_k43_whole_reach_from_text).drop 22).drop 56) F v
abbrev wRx(w:PySem.World)(os:PySem.OsState):Prop:=wR w os (chkA PySem.Challenge.pw_earthward_k43_whole_reach_from_text w (PySem.W.Hook.obs (PySem.W.kHook My.pre.heap_39 My.wAl My.wHk))) (true,PySem.W.Hook.val (PySem.W.kHook My.pre.heap_39 My.wAl My.wHk) w)
noncomputable abbrev X7(s:PySem.Shared):=PySem.W.openSeen My.vw [(PySem.Str.ofString "NUMBERS_BEHIND")] (PySem.importedModules PySem.Challenge.pw_earthward_k43_whole_reach_from_text.main.body) (λs=>PySem.W.xlAt My.vw [] s&&PySem.W.recOk (PySem.Challenge.rw_earthward_k43_whole_reach_from_text).row.records s) true s
noncomputable abbrev X8:=PySem.W.openGood My.vw [(PySem.Str.ofString "NUMBERS_BEHIND")]
theorem run0x(w:PySem.World)(os:PySem.OsState):wRx (PySem.World.withFollow w "special-get-raises" false) os:=by kernel_rfl
theorem run0y(w:PySem.World)(os:PySem.OsState):wR (PySem.World.withFollow w "special-get-raises" false) os (λs=>(X7 s).1) X8.1:=by kernel_rfl
theorem run0u(w:PySem.World)(os:PySem.OsState):wR (PySem.World.withFollow w "special-get-raises" false) os (λs=>(X7 s).2.1) X8.2.1:=by kernel_rfl
theorem run0v(w:PySem.World)(os:PySem.OsState):wR (PySem.World.withFollow w "special-get-raises" false) os (λs=>(X7 s).2.2.1) X8.2.2.1:=by kernel_rfl
theorem run0z(w:PySem.World)(os:PySem.OsState):wR (PySem.World.withFollow w "special-get-raises" false) os (λs=>(X7 s).2.2.2) X8.2.2.2:=by kernel_rfl
theorem run1a(w:PySem.World)(os:PySem.OsState):wS0 (PySem.World.withFollow w "special-get-raises" true) os:=by kernel_rfl
theorem run1b(w:PySem.World)(os:PySem.OsState):wS1 (PySem.World.withFollow w "special-get-raises" true) os:=by kernel_rfl
theorem run1x(w:PySem.World)(os:PySem.OsState):wRx (PySem.World.withFollow w "special-get-raises" true) os:=by kernel_rfl
theorem run1y(w:PySem.World)(os:PySem.OsState):wR (PySem.World.withFollow w "special-get-raises" true) os (λs=>(X7 s).1) X8.1:=by kernel_rfl
theorem run1u(w:PySem.World)(os:PySem.OsState):wR (PySem.World.withFollow w "special-get-raises" true) os (λs=>(X7 s).2.1) X8.2.1:=by kernel_rfl
theorem run1v(w:PySem.World)(os:PySem.OsState):wR (PySem.World.withFollow w "special-get-raises" true) os (λs=>(X7 s).2.2.1) X8.2.2.1:=by kernel_rfl
theorem run1z(w:PySem.World)(os:PySem.OsState):wR (PySem.World.withFollow w "special-get-raises" true) os (λs=>(X7 s).2.2.2) X8.2.2.2:=by kernel_rfl
theorem left:PySem.W.LeftO PySem.Challenge.pw_earthward_k43_whole_reach_from_text My.vw [(PySem.Str.ofString "NUMBERS_BEHIND")] (λs=>PySem.W.xlAt My.vw [] s&&PySem.W.recOk (PySem.Challenge.rw_earthward_k43_whole_reach_from_text).row.records s) (PySem.W.Hook.obs (PySem.W.kHook My.pre.heap_39 My.wAl My.wHk)) (PySem.W.Hook.val (PySem.W.kHook My.pre.heap_39 My.wAl My.wHk)) 9443 true:=My.Wb "special-get-raises" (by kernel_rfl) (by kernel_rfl) (λs=>rfl) (λw os=>My.Vv (os:=os) (m₀:=11) (ann:=some (.ref 6)) (env:=My.WO) (qp:=⟨0,0,0,0⟩) (pp:=⟨0,0,0,0⟩) (pb:=⟨0,0,0,0⟩) (n1:=12) (n2:=1) (n3:=8868) (Sa:=My.Sa (PySem.World.withFollow w "special-get-raises" false) os) (Sb:=My.Sb (PySem.World.withFollow w "special-get-raises" false) os) (by kernel_rfl) (by kernel_rfl) (by kernel_rfl) (My.Ug (j:=22) (My.run0a w os) (My.Ug (j:=56) (My.run0b w os) (My.VH (My.run0x w os) (My.run0y w os) (My.run0u w os) (My.run0v w os) (My.run0z w os)))) (by kernel_rfl)) (λw os=>My.Vv (os:=os) (m₀:=11) (ann:=some (.ref 6)) (env:=My.WO) (qp:=⟨0,0,0,0⟩) (pp:=⟨0,0,0,0⟩) (pb:=⟨0,0,0,0⟩) (n1:=12) (n2:=1) (n3:=8868) (Sa:=My.Sa (PySem.World.withFollow w "special-get-raises" true) os) (Sb:=My.Sb (PySem.World.withFollow w "special-get-raises" true) os) (by kernel_rfl) (by kernel_rfl) (by kernel_rfl) (My.Ug (j:=22) (My.run1a w os) (My.Ug (j:=56) (My.run1b w os) (My.VH (My.run1x w os) (My.run1y w os) (My.run1u w os) (My.run1v w os) (My.run1z w os)))) (by kernel_rfl))
end My
set_option maxHeartbeats 4000000
namespace L2
open PySem PySem.Spec PyProof.Rows
abbrev aW:=Sum Int Str
noncomputable def oF:aW->Value->Bool
 | .inl k,v=>Value.isInt k v
 | .inr x,v=>Value.isStrOf x v
noncomputable def DE(w:World):aW->Int
 | .inl k=>hashInt k
 | .inr x=>hashStr w x
theorem jD:∀{k:aW} {v:Value},oF k v=true->(∃i t,k=Sum.inl i/\v=Value.int i t)\/(∃x t,k=Sum.inr x/\v=Value.str x t)
 | .inl i,v,h=>by
  obtain⟨t,e⟩:=Value.isInt_shape (k:=i) (v:=v) h;exact .inl ⟨i,t,rfl,e⟩
 | .inr x,v,h=>by
  obtain⟨t,e⟩:=Value.isStrOf_shape (x:=x) (v:=v) h;exact .inr ⟨x,t,rfl,e⟩
theorem Lk(i:Int)(t:Tok):oF (.inl i) (.int i t)=true:=by simp[oF,Value.isInt]
theorem Pd(x:Str)(t:Tok):oF (.inr x) (.str x t)=true:=by simp[oF,Value.isStrOf]
theorem sv(a b:Int):decide ((Sum.inl a:aW)=Sum.inl b)=(a==b):=by
 by_cases e:a=b
 ·subst e;simp
 ·have h:¬(Sum.inl a:aW)=Sum.inl b:=λq=>e (Sum.inl.inj q)
  rw[decide_eq_false h];exact(beq_eq_false_iff_ne.mpr e).symm
theorem qQ(a b:Str):decide ((Sum.inr a:aW)=Sum.inr b)=decide (a=b):=by
 by_cases e:a=b
 ·subst e;simp
 ·have h:¬(Sum.inr a:aW)=Sum.inr b:=λq=>e (Sum.inr.inj q)
  rw[decide_eq_false h,decide_eq_false e]
theorem sr(a:Int)(b:Str):decide ((Sum.inl a:aW)=Sum.inr b)=false:=decide_eq_false (λq=>nomatch q)
theorem oY(a:Str)(b:Int):decide ((Sum.inr a:aW)=Sum.inl b)=false:=decide_eq_false (λq=>nomatch q)
def cV(prog:Program)(w:World):PySem.KeyKind prog w aW where
 is:=oF
 hash:=DE w
 inj:=λv a b ha hb=>by
  rcases jD ha with⟨i,t,rfl,rfl⟩|⟨x,t,rfl,rfl⟩
  ·rcases jD hb with⟨j,u,rfl,e⟩|⟨y,u,rfl,e⟩
   ·injection e with e1 _;rw[e1]
   ·exact nomatch e
  ·rcases jD hb with⟨j,u,rfl,e⟩|⟨y,u,rfl,e⟩
   ·exact nomatch e
   ·injection e with e1 _;rw[e1]
 byValue:=λk v h=>by
  rcases jD h with⟨i,t,rfl,rfl⟩|⟨x,t,rfl,rfl⟩<;>rfl
 pyHash:=λhv h=>by
  rcases jD hv with⟨i,t,rfl,rfl⟩|⟨x,t,rfl,rfl⟩
  ·exact wpAny_pyHash_int h
  ·exact wpAny_pyHash_str h
 eqBool:=λhu hv h=>by
  rcases jD hu with⟨i,t,rfl,rfl⟩|⟨x,t,rfl,rfl⟩
  ·rcases jD hv with⟨j,u,rfl,rfl⟩|⟨y,u,rfl,rfl⟩
   ·rw[sv]at h;exact wpAny_eqBool_int h
   ·rw[sr]at h;exact SeqAt.EqAt.int_str i t y u _ _ _ _ h
  ·rcases jD hv with⟨j,u,rfl,rfl⟩|⟨y,u,rfl,rfl⟩
   ·rw[oY]at h;exact SeqAt.EqAt.str_int x t j u _ _ _ _ h
   ·rw[qQ]at h;exact wpAny_eqBool_str h
 «strs»:=λk x t v h=>by
  rcases jD h with⟨i,u,rfl,e⟩|⟨y,u,rfl,e⟩
  ·exact nomatch e
  ·injection e with e1 _
   subst e1;cases v<;>rfl
theorem NV(prog:Program)(w:World)(i:Int)(t:Tok):(cV prog w).is (.inl i) (.int i t)=true:=Lk i t
theorem Gb(prog:Program)(w:World)(x:Str)(t:Tok):(cV prog w).is (.inr x) (.str x t)=true:=Pd x t
inductive V where
 | RY|bl (b:Bool)|int (i:Int)|str (x:Str)|WK (b:Array UInt8)|YV (b:UInt64)|ref (a:Addr)|ty (n:String)
 deriving DecidableEq
def RelV:V->Value->Prop
 | .RY,u=>u=Value.none
 | .bl b,u=>u=Value.bool b
 | .int i,u=>∃t,u=Value.int i t
 | .str x,u=>∃t,u=Value.str x t
 | .WK b,u=>∃t,u=Value.bytes b t
 | .YV b,u=>∃t,u=Value.float b t
 | .ref a,u=>u=Value.ref a
 | .ty n,u=>u=Value.type n
abbrev Vals:List V->List Value->Prop:=Paired RelV
theorem Vals.length(r:Vals xs us):xs.length=us.length:=Paired.length r
theorem Vals.get:∀{xs:List V} {us:List Value} {i:Nat} {x:V},Vals xs us->xs[i]?=⇑x->∃u,us[i]?=⇑u/\RelV x u
 | _,_,_,_,.nil,e=>by simp at e
 | _,_,0,_,.cons r _,e=>by simp at e;subst e;exact⟨_,rfl,r⟩
 | _,_,i+1,x,.cons _ t,e=>by
  obtain⟨u,h1,h2⟩:=Vals.get (i:=i) (x:=x) t (by simpa using e);exact⟨u,by simpa using h1,h2⟩
theorem Vals.append:∀{xs ys:List V} {us ws:List Value},Vals xs us->Vals ys ws->Vals (xs++ys) (us++ws)
 | _,_,_,_,.nil,s=>s
 | _,_,_,_,.cons r t,s=>.cons r (Vals.append t s)
theorem Vals.take:∀{xs:List V} {us:List Value} (n:Nat),Vals xs us->Vals (xs.take n) (us.take n)
 | _,_,0,_=>.nil
 | _,_,_+1,.nil=>.nil
 | _,_,n+1,.cons r t=>.cons r (Vals.take n t)
theorem Vals.drop:∀{xs:List V} {us:List Value} (n:Nat),Vals xs us->Vals (xs.drop n) (us.drop n)
 | _,_,0,r=>r
 | _,_,_+1,.nil=>.nil
 | _,_,n+1,.cons _ t=>Vals.drop n t
def To:Option V->Option Value->Prop
 | some v,⇑u=>RelV v u
 | none,none=>True
 | _,_=>False
def KV{κ:Type}:List (κ×V)->List (κ×Value)->Prop:=Paired λ(p:κ×V) (q:κ×Value)=>p.1=q.1/\RelV p.2 q.2
noncomputable def kV:aW->V
 | .inl i=>.int i
 | .inr x=>.str x
inductive HO where
 | lst (xs:List V)
 | tup (xs:List V)
 | dK (kvs:List (aW×V))|dT (kvs:List (List aW×V))
 | set (S:Int->Bool) (n:Nat)
 | ins (C dx:Addr) (fs:List (Str×V))
 | own (x:Addr)
 | xd (fs:List (Str×V))
 | met (f x:Addr)
 | Vx (lo hi:Int)
 | SY (o:Obj) (u:HO)
 | X9 (ps:Array Value)
 | ext (φ:Heap->Prop)
abbrev Hp:=Addr->Option HO
noncomputable def az(H:Hp)(a:Addr)(o:HO):Hp:=λb=>if b=a then some o else H b
theorem b7:az H a o a=⇑o:=by unfold az;rw[if_pos rfl]
theorem aE(h:b≠a):az H a o b=H b:=by unfold az;rw[if_neg h]
theorem xt{H:Hp}(h:H a=⇑o)(h':H b=⇑u)(d:o≠u):a≠b:=by
 intro e;subst e;rw[h]at h';exact d (Option.some.inj h')
theorem eU{H:Hp}(h:H a=⇑o)(h':H b=none):a≠b:=by
 intro e;subst e;rw[h]at h';cases h'
section
variable (P : Program) (w : World)
def Tt(H:Hp)(h:Heap)(a:Addr):HO->Prop
 | .lst xs=>xs.length<=sizeLine/\∃(RX:List Value) (n:Nat),Vals xs RX/\h.get? a=some {cls:=.type "list",data:=.seq RX.toArray n}
 | .tup xs=>xs.length<=sizeLine/\∃RX:List Value,Vals xs RX/\IsTup h a RX.toArray
 | .dK kvs=>kvs.length<=sizeLine/\(a==sysModules)=false/\∃vs,KV kvs vs/\h.DictOf (cV P w) a vs
 | .dT kvs=>kvs.length<=sizeLine/\(a==sysModules)=false/\∃xs:List (List aW×Addr×Value),
   Paired (λ(p:List aW×V) (q:List aW×Addr×Value)=>p.1=q.1/\H q.2.1=⇑(.tup (p.1.map kV))/\RelV p.2 q.2.2) kvs xs/\
   ∃o es ep,h.get? a=⇑o/\o.ExactDict/\o.data=.dict es ep/\es.toList=xs.map (entryOfKey (tupleKind (cV P w)))/\(xs.map (·.1)).Nodup
 | .set S n=>h.SetOf (intKind P w) a S n
 | .ins C dx fs=>H dx=⇑(.own a)/\fs.length<=1000/\dx≠a/\h.get? a=⇑(W.instObj C dx)/\
   ∃mA,h.Ns1 dx mA/\(∀f,To (fs.lookup f) (mA f))/\PySem.Within mA (fs.map (·.1))
 | .own _=>∃o,h.get? a=⇑o
 | .xd fs=>∃mA,h.Ns1 a mA/\∀f,To (fs.lookup f) (mA f)
 | .Vx lo hi=>∃t u v,h.get? a=some {cls:=.type "range",data:=.fields #[.int lo t,.int hi u,.int 1 v]}
 | .SY o u=>h.get? a=⇑o/\Tt H h a u
 | .X9 ps=>h.get? a=some {cls:=.none,data:=.fields ps}
 | .met f x=>h.get? a=⇑(W.methodObj (.ref f) (.ref x))
 | .ext φ=>φ h/\(∃o,h.get? a=⇑o)/\∀h1 h2:Heap,φ h1->(∀o,h1.get? a=⇑o->h2.get? a=⇑o)->φ h2
def SW(H:Hp)(h:Heap):Prop:=∀a o,H a=⇑o->Tt P w H h a o
end
section
variable {P : Program} {w : World} {H H' : Hp} {h h' : Heap} {a : Addr} {o : HO}
theorem Tt.lt(x:Tt P w H h a o):a<h.objs.size:=by
 cases o with
 | lst xs=>obtain⟨_,_,_,_,e⟩:=x;exact qe e
 | tup xs=>obtain⟨_,_,_,p⟩:=x;exact p.lt
 | dK kvs=>obtain⟨_,_,_,_,o,_,_,e,_⟩:=x;exact qe e
 | dT kvs=>obtain⟨_,_,_,_,o,_,_,e,_⟩:=x;exact qe e
 | set S n=>obtain⟨o,_,_,_,e,_⟩:=x;exact qe e
 | ins C dx fs=>obtain⟨_,_,_,e,_⟩:=x;exact qe e
 | own y=>obtain⟨_,e⟩:=x;exact qe e
 | xd fs=>obtain⟨_,⟨_,_,_,e,_⟩,_⟩:=x;exact qe e
 | Vx lo hi=>obtain⟨_,_,_,e⟩:=x;exact qe e
 | SY ob u=>obtain⟨e,_⟩:=x;exact qe e
 | X9 ps=>exact qe (show h.get? a=⇑_ from x)
 | met f y=>exact qe (show h.get? a=⇑_ from x)
 | ext φ=>obtain⟨_,⟨_,e⟩,_⟩:=x;exact qe e
theorem Paired.YD{α β:Type}{F G:α->β->Prop}:∀{l₁:List α} {l₂:List β},Paired F l₁ l₂->(∀a b,F a b->G a b)->Paired G l₁ l₂
 | _,_,.nil,_=>.nil
 | _,_,.cons r t,f=>.cons (f _ _ r) (Paired.YD t f)
theorem Tt.UD(x:Tt P w H h a o)(k:∀b u,(b=a\/H b=⇑(.own a))->h.get? b=⇑u->h'.get? b=⇑u)
  (ho:∀b,H b=⇑(.own a)->H' b=⇑(.own a)) (ht:∀b xs,H b=⇑(.tup xs)->H' b=⇑(.tup xs)):Tt P w H' h' a o:=by
 induction o with
 | lst xs=>obtain⟨z,RX,n,r,e⟩:=x;exact⟨z,RX,n,r,k _ _ (.inl rfl) e⟩
 | tup xs=>obtain⟨z,RX,r,ob,e,c⟩:=x;exact⟨z,RX,r,ob,k _ _ (.inl rfl) e,c⟩
 | dK kvs=>obtain⟨z,y,vs,r,ob,es,ep,e,c⟩:=x;exact⟨z,y,vs,r,ob,es,ep,k _ _ (.inl rfl) e,c⟩
 | dT kvs=>
  obtain⟨z,y,xs,r,ob,es,ep,e,c⟩:=x;exact⟨z,y,xs,Paired.YD r λp q z=>⟨z.1,ht _ _ z.2.1,z.2.2⟩,ob,es,ep,k _ _ (.inl rfl) e,c⟩
 | set S n=>obtain⟨ob,es,ep,t,e,c⟩:=x;exact⟨ob,es,ep,t,k _ _ (.inl rfl) e,c⟩
 | ins C dx fs=>
  obtain⟨d,z,ne,e,mA,⟨od,es,ep,e2,c⟩,r⟩:=x;exact⟨ho _ d,z,ne,k _ _ (.inl rfl) e,mA,⟨od,es,ep,k _ _ (.inr d) e2,c⟩,r⟩
 | own y=>obtain⟨ob,e⟩:=x;exact⟨ob,k _ _ (.inl rfl) e⟩
 | xd fs=>obtain⟨mA,⟨od,es,ep,e,c⟩,r⟩:=x;exact⟨mA,⟨od,es,ep,k _ _ (.inl rfl) e,c⟩,r⟩
 | Vx lo hi=>obtain⟨t,u,v,e⟩:=x;exact⟨t,u,v,k _ _ (.inl rfl) e⟩
 | SY ob u ih=>obtain⟨e,q⟩:=x;exact⟨k _ _ (.inl rfl) e,ih q⟩
 | X9 ps=>
  have e:h.get? a=some {cls:=.none,data:=.fields ps}:=x;show h'.get? a=some {cls:=.none,data:=.fields ps};exact k a _ (.inl rfl) e
 | met f y=>
  have e:h.get? a=⇑(W.methodObj (.ref f) (.ref y)):=x;show h'.get? a=⇑(W.methodObj (.ref f) (.ref y));exact k a _ (.inl rfl) e
 | ext φ=>obtain⟨p,⟨o,e⟩,st⟩:=x;exact⟨st _ _ p λo q=>k _ _ (.inl rfl) q,⟨o,k _ _ (.inl rfl) e⟩,st⟩
theorem SW.lt(x:SW P w H h)(e:H a=⇑o):a<h.objs.size:=(x a o e).lt
theorem SW.fresh(x:SW P w H h)(e:h.objs.size<=a):H a=none:=by
 cases q:H a with
 | none=>rfl
 | some u=>exact absurd (qt (x.lt q) e) (wd _)
theorem SW.kept(x:SW P w H h)(k:∀b u,h.get? b=⇑u->h'.get? b=⇑u):SW P w H h':=λa o e=>
 (x a o e).UD (λb u _ q=>k b u q) (λ_ q=>q) λ_ _ q=>q
theorem SW.laid(x:SW P w H h)(k:∀b u,h.get? b=⇑u->h'.get? b=⇑u)(hp:h.objs.size<=a)(new:Tt P w (az H a o) h' a o):SW P w (az H a o) h':=λb u e=>by
 have hn:=x.fresh hp;by_cases hb:b=a
 ·subst hb;rw[b7]at e;cases e;exact new
 ·rw[aE hb]at e
  exact(x b u e).UD (λc v _ q=>k c v q) (λc q=>by rw[aE (eU q hn)];exact q) λc xs q=>by rw[aE (eU q hn)];exact q
end
def Rd(H:Hp)(a:Addr)(u:HO):Prop:=H a=⇑u\/∃o,H a=⇑(.SY o u)
theorem Rd.ok(r:Rd H a u)(x:SW P w H h):Tt P w H h a u:=by
 rcases r with r|⟨o,r⟩
 ·exact x a u r
 ·obtain⟨_,q⟩:=x a _ r
  exact q
def vP:Option HO->Prop
 | some (.lst _)=>True
 | some (.dK _)=>True
 | some (.dT _)=>True
 | some (.set _ _)=>True
 | some (.ins _ _ _)=>True
 | some (.ext _)=>True
 | _=>False
section
variable {P : Program} {w : World} {H : Hp} {h h' : Heap} {x e : Addr} {o' : HO}
theorem SW.write(ok:SW P w H h)(mu:vP (H x))(he:e=x\/H e=⇑(.own x))(k:∀b u,b≠e->h.get? b=⇑u->h'.get? b=⇑u)(XG:∃u,h'.get? e=⇑u)
  (new:Tt P w (az H x o') h' x o'):SW P w (az H x o') h':=λb u q=>by
 have nown:∀c y,H c=⇑(.own y)->c≠x:=λc y r z=>by subst z;rw[r]at mu;exact mu
 have ntup:∀c xs,H c=⇑(.tup xs)->c≠x:=λc xs r z=>by subst z;rw[r]at mu;exact mu
 by_cases hb:b=x
 ·subst hb;rw[b7]at q;cases q;exact new
 ·rw[aE hb]at q
  by_cases YS:b=e
  ·have q':H b=⇑(.own x):=by
    rcases he with z|z
    ·exact absurd (YS.trans z) hb
    ·rw[YS];exact z
   rw[q]at q';cases q';obtain⟨v,hv⟩:=XG;exact⟨v,by rw[YS];exact hv⟩
  ·refine(ok b u q).UD (λc v hc r=>k c v ?_ r) (λc r=>by rw[aE (nown c b r)];exact r) λc xs r=>by rw[aE (ntup c xs r)];exact r
   rcases hc with rfl|hc
   ·exact YS
   ·rintro rfl
    rcases he with z|z
    ·exact nown c b hc z
    ·rw[hc]at z;cases z;exact hb rfl
end
structure Un (fs ex:List Addr) (H H':Hp) (h h':Heap):Prop where
 keep:∀b o,h.get? b=⇑o->H b=none->b∉fs->b∉ex->h'.get? b=⇑o
 slot:∀b o,h.get? b=⇑o->H b=none->b∈fs->b∉ex->∃sl,h'.get? b=some {o with slots:=sl}
 free:∀b o,h.get? b=⇑o->H b=none->b∉ex->H' b=none
 there:∀b o,h.get? b=⇑o->b∉ex->∃o',h'.get? b=⇑o'
 tups:∀b xs,H b=⇑(.tup xs)->H' b=⇑(.tup xs)
 TF:∀b o u,H b=⇑(.SY o u)->H' b=⇑(.SY o u)
 T5:∀b ps,H b=⇑(.X9 ps)->∃more,H' b=⇑(.X9 (ps++more))
section
variable {fs fs' ex ex' : List Addr} {H H1 H2 : Hp} {h h1 h2 h' : Heap} {a x e : Addr} {o : HO}
theorem Un.any(u:Un fs ex H H1 h h1)(q:h.get? b=⇑ob)(n:H b=none)(hx:b∉ex):∃sl,h1.get? b=some {ob with slots:=sl}:=by
 by_cases hb:b∈fs
 ·exact u.slot b ob q n hb hx
 ·exact⟨ob.slots,u.keep b ob q n hb hx⟩
theorem Un.kept(k:∀b u,h.get? b=⇑u->h'.get? b=⇑u):Un fs ex H H h h':=
 ⟨λb ob q _ _ _=>k b ob q,λb ob q _ _ _=>⟨ob.slots,k b ob q⟩,λ_ _ _ n _=>n,λb ob q _=>⟨ob,k b ob q⟩,λ_ _ q=>q,λ_ _ _ q=>q,λ_ ps q=>⟨#[],by rw[q];simp⟩⟩
theorem Un.refl:Un fs ex H H h h:=Un.kept λ_ _ q=>q
theorem Un.laid(k:∀b u,h.get? b=⇑u->h'.get? b=⇑u)(hp:h.objs.size<=a)(hn:H a=none):Un fs ex H (az H a o) h h' where
 keep:=λb u q _ _ _=>k b u q
 slot:=λb u q _ _ _=>⟨u.slots,k b u q⟩
 free:=λb u q n _=>by rw[aE (qo (qt (qe q) hp))];exact n
 there:=λb u q _=>⟨u,k b u q⟩
 tups:=λb xs q=>by rw[aE (eU q hn)];exact q
 TF:=λb u xs q=>by rw[aE (eU q hn)];exact q
 T5:=λb ps q=>⟨#[],by rw[aE (eU q hn),q];simp⟩
theorem Un.write(mu:vP (H x))(he:e=x\/H e=⇑(.own x))(k:∀b u,b≠e->h.get? b=⇑u->h'.get? b=⇑u)(XG:∃u,h'.get? e=⇑u):Un fs ex H (az H x o) h h':=by
 have hx:∀b,H b=none->b≠x:=λb n z=>by subst z;rw[n]at mu;exact mu
 have hb:∀b,H b=none->b≠e:=λb n z=>by
  subst z;rcases he with r|r
  ·exact hx b n r
  ·rw[n]at r;cases r
 have hm:∀b u,H b=⇑u->¬vP ⇑u->b≠x:=λb u q nm z=>by subst z;rw[q]at mu;exact nm mu
 refine⟨λb u q n _ _=>k b u (hb b n) q,λb u q n _ _=>⟨u.slots,k b u (hb b n) q⟩,λb u q n _=>by rw[aE (hx b n)];exact n,λb u q _=> ?_,
  λb xs q=>by rw[aE (hm b _ q λz=>z)];exact q,λb u xs q=>by rw[aE (hm b _ q λz=>z)];exact q,λb ps q=>⟨#[],by rw[aE (hm b _ q λz=>z),q];simp⟩⟩
 by_cases YS:b=e
 ·subst YS;exact XG
 ·exact⟨u,k b u YS q⟩
end
noncomputable def BX(h:Heap)(H:Hp):List Addr:=(List.range h.objs.size).filter λa=>(H a).isSome
def dq(h:Heap)(H:Hp):Heap:=W.hideAll h (BX h H)
theorem PN(h:Heap)(H:Hp):(dq h H).objs.size=h.objs.size:=W.hideAll_size _ _
theorem NG(e:h.get? b=⇑o)(n:H b=none):(dq h H).get? b=⇑o:=
 W.hideAll_get _ e λhm=>by
  have q:(H b).isSome=true:=(zr.mp hm).2;rw[n]at q;simp at q
theorem MD(e:(dq h H).get? b=⇑o):h.get? b=⇑o/\H b=none:=by
 have e':h.get? b=⇑o:=W.of_hideAll (BX h H) e;refine⟨e',?_⟩;cases q:H b with
 | none=>rfl
 | some x=>
  have hm:b∈BX h H:=zr.mpr ⟨w5.mpr (qe e'),by simp[q]⟩;have z:(dq h H).get? b=none:=W.hideAll_none (BX h H) hm;rw[z]at e;cases e
structure Mod (K:W.Frag) (mg:Str->Option Value) (base:Heap):Prop where
 YK:K.In base
 glob:base.Ns mainGlobals mg
 blt:∃mb,base.Ns builtinsNs mb/\∀x:Str,x≠"__name__"->mb x=bootBuiltins x
 nolimit:base.NoLimit
structure Cx where
 prog:Program
 w:World
 K:W.Frag
 mg:Str->Option Value
 base:Heap
 A:Around
 N:List Str
 s₀:Shared
 H₀:Hp
 env:Env
 outer:List Env
 stack:List Env
 ex:List Addr
 fn:Str->Bool
 calm:Bool
 pn:List (Addr×Obj)
 xe:Value->Shared->Prop
noncomputable def bp(l:List Env):List Addr:=l.filterMap (·.frame)
abbrev Cx.fs(X:Cx):List Addr:=bp X.outer
def EO(sc:Scope)(x:Str):Prop:=sc.names.lookup x=⇑.local\/sc.names.lookup x=⇑.cell\/sc.names.lookup x=⇑.free
def vg(sc:Scope)(x:Str):Prop:=sc.names.lookup x=⇑.local\/sc.names.lookup x=⇑.cell
def CK(env:Env)(h:Heap)(m:Str->Option Value)(x:Str)(u:Value):Prop:=
 (env.kindOf x=⇑.local/\m x=⇑u)\/((env.kindOf x=⇑.cell\/env.kindOf x=⇑.free)/\∃c,env.cells.lookup x=⇑c/\h.IsCell c ⇑u)
structure Cx.Ok (X:Cx):Prop where
 mod:Mod X.K X.mg X.base
 kind:X.env.scope.kind=.function
 glob:X.env.globals=mainGlobals
 blt:X.env.builtins=builtinsNs
 above:X.s₀.heap.objs.size<=X.env.locals
 inj:∀x y c,X.env.cells.lookup x=⇑c->X.env.cells.lookup y=⇑c->x=y
 has:∀x,(X.env.kindOf x=⇑.cell\/X.env.kindOf x=⇑.free)->∃c,X.env.cells.lookup x=⇑c
 cab:∀x c,X.fn x=true->X.env.cells.lookup x=⇑c->X.s₀.heap.objs.size<=c
 hd:X.calm=true->X.A.handled=none
 frames:X.A.frames=⇑X.stack
 stk:X.stack=X.outer\/(X.stack=X.env::X.outer/\X.env.frame=⇑X.env.locals)
 exf:∀b∈X.ex,b≠X.env.locals/\∀x c,X.env.cells.lookup x=⇑c->c≠b
 bs:∀b o,X.base.get? b=⇑o->X.s₀.heap.get? b=⇑o/\X.H₀ b=none
 XI:X.base.objs.size<=X.s₀.heap.objs.size
 WQ:∀b o,X.base.get? b=⇑o->b∉X.ex
 WW:∀b∈X.ex,b∉X.fs
 Um:X.s₀.heap.FunFrames X.base X.outer
 Yn:∀b∈X.fs,X.H₀ b=none
structure Inv (X:Cx) (pins:List (Addr×Obj)) (σ:List (Option V)) (H:Hp) (s:Shared):Prop where
 ok:X.Ok
 os:s.os=X.s₀.os
 bare:AllBare s.gens
 base:Un X.fs X.ex X.H₀ H X.s₀.heap s.heap
 loc:∃m,s.heap.Ns X.env.locals m/\∀(i:Nat) (x:Str) (v:V),X.N[i]?=⇑x->σ[i]?=⇑⇑v->EO X.env.scope x->∃u,RelV v u/\CK X.env s.heap m x u
 cell:∀x c,X.env.cells.lookup x=⇑c->∃v,s.heap.IsCell c v
 free:H X.env.locals=none
 SK:∀x c,X.env.cells.lookup x=⇑c->H c=none
 pin:∀p∈X.pn++pins,s.heap.get? p.1=⇑p.2/\H p.1=none/\p.1≠X.env.locals/\p.1∉X.fs/\∀v,p.2.data≠ .cell v
 RZ:SW X.prog X.w H s.heap
 len:σ.length=X.N.length
section
variable {X : Cx} {pins : List (Addr × Obj)} {σ : List (Option V)} {H H' : Hp} {s : Shared} {h' : Heap}
theorem Cx.Ok.nofr(ok:X.Ok)(e:X.base.get? b=⇑o):b∉X.fs:=λhb=>by
 have:=(ok.Um.mem hb).1;rw[e]at this;cases this
theorem Inv.bs(I:Inv X pins σ H s):∀b o,X.base.get? b=⇑o->s.heap.get? b=⇑o/\H b=none:=λb o e=>
 ⟨I.base.keep b o (I.ok.bs b o e).1 (I.ok.bs b o e).2 (I.ok.nofr e) (I.ok.WQ b o e),I.base.free b o (I.ok.bs b o e).1 (I.ok.bs b o e).2 (I.ok.WQ b o e)⟩
theorem Inv.bk(I:Inv X pins σ H s):∀b o,X.base.get? b=⇑o->s.heap.get? b=⇑o:=λb o e=>(I.bs b o e).1
theorem Inv.mod(I:Inv X pins σ H s):Mod X.K X.mg X.base:=I.ok.mod
theorem Inv.TK(I:Inv X pins σ H s):X.K.In s.heap:=I.ok.mod.YK.keeps I.bk
theorem Inv.lt(I:Inv X pins σ H s):X.env.locals<s.heap.objs.size:=let ⟨_,hn,_⟩:=I.loc;hn.lt
theorem Inv.sz(I:Inv X pins σ H s):X.s₀.heap.objs.size<=s.heap.objs.size:=zi I.ok.above (Nat.le_of_lt I.lt)
theorem Inv.nofs(I:Inv X pins σ H s){a:Addr}(h:s.heap.objs.size<=a):a∉X.fs:=λhb=>by
 obtain⟨_,o,ho,_⟩:=I.ok.Um.mem hb;exact absurd (qt (qe ho) (zi I.sz h)) (wd _)
theorem Inv.Y1(I:Inv X pins σ H s):∀x c,X.env.cells.lookup x=⇑c->c≠X.env.locals:=λx c e z=>by
 obtain⟨v,o,ho,hd⟩:=I.cell x c e;obtain⟨m,⟨o',es,ep,Vu,hd',_⟩,_⟩:=I.loc;rw[z,Vu]at ho;cases ho;rw[hd']at hd;cases hd
theorem Inv.Um(I:Inv X pins σ H s):s.heap.FunFrames X.base X.outer:=by
 have all:∀(l:List Env),(∀b∈bp l,b∈X.fs)->X.s₀.heap.FunFrames X.base l->s.heap.FunFrames X.base l:=by
  intro l
  induction l with
  | nil=>intro _ _;trivial
  | cons env r ih=>
   intro hs hl;obtain⟨hk,⟨L,o,hf,hn,ho,hd⟩,hr⟩:=hl;have hL:L∈X.fs:=hs L (by unfold bp;rw[gt,hf];exact qa);obtain⟨sl,e⟩:=I.base.slot L o ho (I.ok.Yn L hL) hL λz=>I.ok.WW L z hL;exact⟨hk,⟨L,_,hf,hn,e,hd⟩,ih (λb hb=>hs b (by unfold bp;rw[gt,hf];exact q8 _ hb)) hr⟩
 exact all X.outer (λ_ hb=>hb) I.ok.Um
theorem Inv.stack(I:Inv X pins σ H s):s.heap.FunFrames X.base X.stack:=by
 rcases I.ok.stk with e|⟨e,hf⟩
 ·rw[e];exact I.Um
 ·rw[e]
  obtain⟨m,hn,_⟩:=I.loc;refine .cons (by rw[I.ok.kind];decide) hf hn ?_ I.Um;exact Heap.get?_none_of_le (zi I.ok.XI I.ok.above)
theorem Inv.V4(I:Inv X pins σ H s):∀b∈bp X.stack,b∈X.env.locals::X.fs:=λb hb=>by
 rcases I.ok.stk with e|⟨e,hf⟩
 ·rw[e]at hb;exact q8 _ hb
 ·rw[e]at hb
  unfold bp at hb;rw[gt,hf]at hb;exact hb
theorem Inv.Vg(I:Inv X pins σ H s):∀b∈bp X.stack,H b=none:=λb hb=>by
 rcases qg.mp (I.V4 b hb)with e|hb
 ·rw[e];exact I.free
 ·obtain⟨_,o,ho,_⟩:=I.ok.Um.mem hb
  exact I.base.free b o ho (I.ok.Yn b hb) λz=>I.ok.WW b z hb
theorem Inv.step{ch:List Addr}(I:Inv X pins σ H s)
  (XH:∀b∈ch,(b∈X.ex\/X.s₀.heap.objs.size<=b)/\b≠X.env.locals/\(∀x c,X.env.cells.lookup x=⇑c->c≠b)/\∀p∈X.pn++pins,p.1≠b)
  (keep:∀b o,b≠X.env.locals->b∉X.fs->b∉ch->s.heap.get? b=⇑o->H b=none->h'.get? b=⇑o)
  (slot:∀b o,b≠X.env.locals->b∈X.fs->b∉ch->s.heap.get? b=⇑o->H b=none->∃sl,h'.get? b=some {o with slots:=sl}) (free:∀b o,b∉ch->s.heap.get? b=⇑o->H b=none->H' b=none)
  (there:∀b o,b∉ch->s.heap.get? b=⇑o->∃o',h'.get? b=⇑o')
  (tups:∀b xs,H b=⇑(.tup xs)->H' b=⇑(.tup xs)) (TF:∀b o u,H b=⇑(.SY o u)->H' b=⇑(.SY o u)) (T5:∀b ps,H b=⇑(.X9 ps)->∃more,H' b=⇑(.X9 (ps++more)))
  (ns:∀m,s.heap.Ns X.env.locals m->h'.Ns X.env.locals m) (RZ:SW X.prog X.w H' h') (hg:AllBare g'):
  Inv X pins σ H' {s with heap:=h',gens:=g',drawn:=d',toks:=t'}:=by
 have neL:∀b o,X.s₀.heap.get? b=⇑o->b≠X.env.locals:=λb o e=>qo (qt (qe e) I.ok.above);have neC:∀b o,X.s₀.heap.get? b=⇑o->b∉X.ex->b∉ch:=λb o e hx hb=>by
  rcases(XH b hb).1 with z|z
  ·exact hx z
  ·exact absurd (qt (qe e) z) (wd _)
 have cellK:∀x c,X.env.cells.lookup x=⇑c->∀v,s.heap.IsCell c v->h'.IsCell c v:=λx c e v ⟨o,ho,hd⟩=>by
  have nch:c∉ch:=λz=>(XH c z).2.2.1 x c e rfl;by_cases hc:c∈X.fs
  ·obtain⟨sl,q⟩:=slot c o (I.Y1 x c e) hc nch ho (I.SK x c e)
   exact⟨_,q,hd⟩
  ·exact⟨o,keep c o (I.Y1 x c e) hc nch ho (I.SK x c e),hd⟩
 refine⟨I.ok,I.os,hg,⟨λb o e n hb hx=> ?_,λb o e n hb hx=> ?_,λb o e n hx=> ?_,λb o e hx=> ?_,λb xs e=>tups b xs (I.base.tups b xs e),λb o xs e=>TF b o xs (I.base.TF b o xs e),λb ps e=> ?_⟩,?_,λx c e=> ?_,?_,λx c e=> ?_,λp hp=> ?_,RZ,I.len⟩
 ·exact keep b o (neL b o e) hb (neC b o e hx) (I.base.keep b o e n hb hx) (I.base.free b o e n hx)
 ·obtain⟨sl,e1⟩:=I.base.slot b o e n hb hx
  obtain⟨sl',e2⟩:=slot b _ (neL b o e) hb (neC b o e hx) e1 (I.base.free b o e n hx);exact⟨sl',e2⟩
 ·obtain⟨o',e1⟩:=I.base.there b o e hx
  exact free b o' (neC b o e hx) e1 (I.base.free b o e n hx)
 ·obtain⟨o',e1⟩:=I.base.there b o e hx
  exact there b o' (neC b o e hx) e1
 ·obtain⟨m1,e1⟩:=I.base.T5 b ps e
  obtain⟨m2,e2⟩:=T5 b _ e1;exact⟨m1++m2,by rw[e2,Array.append_assoc]⟩
 ·obtain⟨m,hn,hl⟩:=I.loc
  refine⟨m,ns m hn,λi x v e1 e2 e3=> ?_⟩;obtain⟨u,r,l⟩:=hl i x v e1 e2 e3;refine⟨u,r,?_⟩;rcases l with l|⟨k,c,e,z⟩
  ·exact .inl l
  ·exact .inr ⟨k,c,e,cellK x c e _ z⟩
 ·obtain⟨v,z⟩:=I.cell x c e
  exact⟨v,cellK x c e v z⟩
 ·obtain⟨m,⟨o,_,_,ho,_⟩,_⟩:=I.loc
  exact free _ o (λz=>(XH _ z).2.1 rfl) ho I.free
 ·obtain⟨v,o,ho,hd⟩:=I.cell x c e
  exact free c o (λz=>(XH c z).2.2.1 x c e rfl) ho (I.SK x c e)
 ·obtain⟨e,n,ne,nf,d⟩:=I.pin p hp
  have nch:p.1∉ch:=λz=>(XH p.1 z).2.2.2 p hp rfl;exact⟨keep p.1 p.2 ne nf nch e n,free p.1 p.2 nch e n,ne,nf,d⟩
theorem Inv.un(I:Inv X pins σ H s)(u:Un X.fs [] H H' s.heap h')(RZ:SW X.prog X.w H' h'):Inv X pins σ H' {s with heap:=h',toks:=t'}:=by
 obtain⟨m,⟨o,es,ep,ho,r⟩,_⟩:=id I.loc;obtain⟨sl,hL⟩:=u.any ho I.free (by simp);exact I.step (g':=s.gens) (d':=s.drawn) (ch:=[]) (λ_ z=>nomatch z) (λb o _ hb _ e n=>u.keep b o e n hb (by simp)) (λb o _ hb _ e n=>u.slot b o e n hb (by simp)) (λb o _ e n=>u.free b o e n (by simp)) (λb o _ e=>u.there b o e (by simp)) u.tups u.TF u.T5 (λm' hm=>by
  obtain⟨o',Z_,ep',Vu,r'⟩:=hm;rw[ho]at Vu;cases Vu;exact⟨_,Z_,ep',hL,r'⟩) RZ I.bare
theorem Inv.call(I:Inv X pins σ H s)(u:Un (bp X.stack) ch H H' s.heap h')(RZ:SW X.prog X.w H' h')(hg:AllBare g')
  (XH:∀b∈ch,(b∈X.ex\/X.s₀.heap.objs.size<=b)/\b≠X.env.locals/\(∀x c,X.env.cells.lookup x=⇑c->c≠b)/\∀p∈X.pn++pins,p.1≠b):
  Inv X pins σ H' {s with heap:=h',gens:=g',drawn:=d',toks:=t'}:=by
 obtain⟨m,⟨o,es,ep,ho,r⟩,_⟩:=id I.loc;obtain⟨sl,hL⟩:=u.any ho I.free λz=>(XH _ z).2.1 rfl;exact I.step (ch:=ch) XH (λb o hL hb hc e n=>u.keep b o e n (λz=>(qg.mp (I.V4 b z)).elim hL hb) hc) (λb o _ _ hc e n=>u.any e n hc) (λb o hc e n=>u.free b o e n hc) (λb o hc e=>u.there b o e hc) u.tups u.TF u.T5 (λm' hm=>by
  obtain⟨o',Z_,ep',Vu,r'⟩:=hm;rw[ho]at Vu;cases Vu;exact⟨_,Z_,ep',hL,r'⟩) RZ hg
theorem Inv.turned(I:Inv X pins σ H s)(k:∀b o,b≠it->s.heap.get? b=⇑o->h'.get? b=⇑o)(hn:H it=none)(hL:it≠X.env.locals)
  (h1:it∈X.ex\/X.s₀.heap.objs.size<=it) (h2:∀x c,X.env.cells.lookup x=⇑c->c≠it) (h3:∀p∈X.pn++pins,p.1≠it):Inv X pins σ H {s with heap:=h',toks:=t'}:=by
 have nit:∀b u,H b=⇑u->b≠it:=λb u e z=>by rw[z,hn]at e;cases e
 refine I.step (g':=s.gens) (d':=s.drawn) (ch:=[it]) (λb hb=> ?_) (λb o _ _ hc e _=>k b o (λz=>hc (by simp[z])) e) (λb o _ _ hc e _=>⟨o.slots,k b o (λz=>hc (by simp[z])) e⟩) (λ_ _ _ _ n=>n)
  (λb o hc e=>⟨o,k b o (λz=>hc (by simp[z])) e⟩) (λ_ _ e=>e) (λ_ _ _ e=>e) (λb ps e=>⟨#[],by rw[e];simp⟩) (λm hm=> ?_) (λb u e=> ?_) I.bare
 ·have e:b=it:=by simpa using hb
  subst e;exact⟨h1,hL,h2,h3⟩
 ·obtain⟨o,es,ep,ho,r⟩:=hm
  exact⟨o,es,ep,k _ o (Ne.symm hL) ho,r⟩
 ·refine(I.RZ b u e).UD (λc v hc q=>k c v ?_ q) (λ_ q=>q) λ_ _ q=>q
  rcases hc with z|z
  ·rw[z];exact nit b u e
  ·exact nit c _ z
theorem Inv.tok(I:Inv X pins σ H s)(t:Nat):Inv X pins σ H {s with toks:=t}:=I.un (h':=s.heap) (t':=t) Un.refl I.RZ
theorem Inv.kept(I:Inv X pins σ H s)(k:∀b u,s.heap.get? b=⇑u->h'.get? b=⇑u):Inv X pins σ H {s with heap:=h',toks:=t'}:=I.un (Un.kept k) (I.RZ.kept k)
theorem Inv.laid{a:Addr}(I:Inv X pins σ H s)(k:∀b u,s.heap.get? b=⇑u->h'.get? b=⇑u)(hp:s.heap.objs.size<=a)(new:Tt X.prog X.w (az H a o) h' a o):
  Inv X pins σ (az H a o) {s with heap:=h',toks:=t'}:=I.un (Un.laid k hp (I.RZ.fresh hp)) (I.RZ.laid k hp new)
theorem Inv.write(I:Inv X pins σ H s)(mu:vP (H x))(he:e=x\/H e=⇑(.own x))(k:∀b u,b≠e->s.heap.get? b=⇑u->h'.get? b=⇑u)(XG:∃u,h'.get? e=⇑u)
  (new:Tt X.prog X.w (az H x o) h' x o):Inv X pins σ (az H x o) {s with heap:=h',toks:=t'}:=I.un (Un.write mu he k XG) (I.RZ.write mu he k XG new)
theorem Inv.weak(I:Inv X pins σ H s)(hl:σ'.length=σ.length)(w:∀(i:Nat) v,σ'[i]?=⇑⇑v->σ[i]?=⇑⇑v):Inv X pins σ' H s:=
 ⟨I.ok,I.os,I.bare,I.base,let ⟨m,hn,hl'⟩:=I.loc;⟨m,hn,λi x v e1 e2 e3=>hl' i x v e1 (w i v e2) e3⟩,I.cell,I.free,I.SK,I.pin,I.RZ,hl.trans I.len⟩
theorem Inv.WD(I:Inv X pins σ H s)(h:∀p∈pins',s.heap.get? p.1=⇑p.2/\H p.1=none/\p.1≠X.env.locals/\p.1∉X.fs/\∀v,p.2.data≠ .cell v):Inv X pins' σ H s:=
 ⟨I.ok,I.os,I.bare,I.base,I.loc,I.cell,I.free,I.SK,λp hp=>(qv.mp hp).elim (λz=>I.pin p (zp _ z)) (h p),I.RZ,I.len⟩
theorem IT{N:List Str}(hN:N.Nodup){i j:Nat}(a:N[i]?=⇑x)(b:N[j]?=⇑x):i=j:=by
 obtain⟨h1,e1⟩:=q9.mp a;obtain⟨h2,e2⟩:=q9.mp b;exact(List.getElem_inj hN).mp (e1.trans e2.symm)
theorem JZ{M:Model}{A:Around}{E:Value->Shared->Prop}{i:Nat}{x:Str}{v:V}{u:Value}{Q:Unit->Shared->Prop}(I:Inv X pins σ H s)(hN:X.N.Nodup)(hi:X.N[i]?=⇑x)(hx:vg X.env.scope x)(r:RelV v u)
  (h:∀s',Inv X pins (σ.set i ⇑v) H s'->(∃a,Heap.SameBut a s.heap s'.heap/\(a=X.env.locals\/X.env.cells.lookup x=⇑a))->Q () s') (hf:X.fn x=true\/X.env.scope.names.lookup x=⇑.local:=by first|exact .inl rfl|exact .inr rfl|assumption):wpAny M A (storeName X.env x u) Q E s:=by
 obtain⟨m,hn,hl⟩:=id I.loc;have hcls:(X.env.scope.kind== .class||(X.env.scope.kind== .module&&X.env.locals !=X.env.globals))=false:=by rw[I.ok.kind];rfl
 have hiσ:i<σ.length:=by rw[I.len];exact(q9.mp hi).1
 have Y1:=I.Y1;have tracked:∀{a:Addr} {h':Heap},(∃o,s.heap.get? a=⇑o/\H a=none)->Heap.SameBut a s.heap h'->SW X.prog X.w H h':=fun{a h'} ha hs b ob e=>by
  obtain⟨_,_,Yk⟩:=ha;refine(I.RZ b ob e).UD (λc w' hc q=>(hs.2 c ?_).trans q) (λ_ q=>q) λ_ _ q=>q;rintro rfl;rcases hc with rfl|hc
  ·rw[Yk]at e;cases e
  ·rw[Yk]at hc;cases hc
 rcases hx with hk|hk
 ·refine wpAny_storeName_local hk hn (λh' Z4 hs=> ?_) hcls
  obtain⟨oL,_,_,hoL,_⟩:=id hn;refine h _ ⟨I.ok,I.os,I.bare,⟨λb o e n hb hx=> ?_,λb o e n hb hx=> ?_,I.base.free,λb o e hx=> ?_,I.base.tups,I.base.TF,I.base.T5⟩,⟨_,Z4,λj y v' e1 e2 e3=> ?_⟩,λy c e=> ?_,I.free,I.SK,λp hp=> ?_,tracked ⟨oL,hoL,I.free⟩ hs,by simpa using I.len⟩ ⟨_,hs,.inl rfl⟩
  ·exact(hs.2 b (qo (qt (qe e) I.ok.above))).trans (I.base.keep b o e n hb hx)
  ·obtain⟨sl,e1⟩:=I.base.slot b o e n hb hx
   exact⟨sl,(hs.2 b (qo (qt (qe e) I.ok.above))).trans e1⟩
  ·obtain⟨o',e1⟩:=I.base.there b o e hx
   exact⟨o',(hs.2 b (qo (qt (qe e) I.ok.above))).trans e1⟩
  ·by_cases hj:j=i
   ·subst hj
    rw[hi]at e1;cases e1;rw[qj hiσ]at e2;cases e2;exact⟨u,r,.inl ⟨hk,by simp⟩⟩
   ·rw[qh (Ne.symm hj)]at e2
    obtain⟨u',r',q⟩:=hl j y v' e1 e2 e3;refine⟨u',r',?_⟩;rcases q with⟨k,e⟩|⟨k,c,e,z⟩
    ·refine .inl ⟨k,?_⟩
     have:y≠x:=λe=>hj (IT hN e1 (e▸hi));simp[this,e]
    ·exact .inr ⟨k,c,e,z.sameBut hs (Y1 y c e)⟩
  ·obtain⟨w',z⟩:=I.cell y c e
   exact⟨w',z.sameBut hs (Y1 y c e)⟩
  ·obtain⟨e,n,ne,nf,d⟩:=I.pin p hp
   exact⟨(hs.2 p.1 ne).trans e,n,ne,nf,d⟩
 ·have hfn:X.fn x=true:=by
   rcases hf with z|z
   ·exact z
   ·rw[z]at hk;cases hk
  obtain⟨c,hc⟩:=I.ok.has x (.inl hk);obtain⟨w',z⟩:=I.cell x c hc;refine wpAny_storeName_cell I.ok.kind hk hc z (λh' hc' hs=> ?_);obtain⟨oc,hoc,hocd⟩:=id z;refine h {s with heap:=h'} ⟨I.ok,I.os,I.bare,⟨λb o e n hb hx=> ?_,λb o e n hb hx=> ?_,I.base.free,λb o e hx=> ?_,I.base.tups,I.base.TF,I.base.T5⟩,⟨m,hn.sameBut hs (Ne.symm (Y1 x c hc)),λj y v' e1 e2 e3=> ?_⟩,λy c' e=> ?_,I.free,I.SK,λp hp=> ?_,tracked ⟨oc,hoc,I.SK x c hc⟩ hs,by simpa using I.len⟩ ⟨c,hs,.inr hc⟩
  ·exact(hs.2 b (qo (qt (qe e) (I.ok.cab x c hfn hc)))).trans (I.base.keep b o e n hb hx)
  ·obtain⟨sl,e1⟩:=I.base.slot b o e n hb hx
   exact⟨sl,(hs.2 b (qo (qt (qe e) (I.ok.cab x c hfn hc)))).trans e1⟩
  ·obtain⟨o',e1⟩:=I.base.there b o e hx
   exact⟨o',(hs.2 b (qo (qt (qe e) (I.ok.cab x c hfn hc)))).trans e1⟩
  ·by_cases hj:j=i
   ·subst hj
    rw[hi]at e1;cases e1;rw[qj hiσ]at e2;cases e2;exact⟨u,r,.inr ⟨.inl hk,c,hc,hc'⟩⟩
   ·rw[qh (Ne.symm hj)]at e2
    obtain⟨u',r',q⟩:=hl j y v' e1 e2 e3;refine⟨u',r',?_⟩;rcases q with q|⟨k,c',e,z'⟩
    ·exact .inl q
    ·refine .inr ⟨k,c',e,z'.sameBut hs ?_⟩
     rintro rfl;exact hj (IT hN e1 (I.ok.inj _ _ _ e hc▸hi))
  ·by_cases WJ:c'=c
   ·subst WJ;exact⟨_,hc'⟩
   ·obtain⟨w2,z2⟩:=I.cell y c' e
    exact⟨w2,z2.sameBut hs WJ⟩
  ·obtain⟨e,n,ne,nf,d⟩:=I.pin p hp
   refine⟨(hs.2 p.1 ?_).trans e,n,ne,nf,d⟩;intro q;rw[q,hoc]at e;have q':oc=p.2:=Option.some.inj e;exact d w' (by rw[<-q'];exact hocd)
theorem HW{M:Model}{A:Around}{E:Value->Shared->Prop}{i:Nat}{x:Str}{v:V}{u:Value}{Q:Unit->Shared->Prop}(I:Inv X pins σ H s)(hN:X.N.Nodup)(hi:X.N[i]?=⇑x)(hx:vg X.env.scope x)(r:RelV v u)
  (h:∀s',Inv X pins (σ.set i ⇑v) H s'->Q () s') (hf:X.fn x=true\/X.env.scope.names.lookup x=⇑.local:=by first|exact .inl rfl|exact .inr rfl|assumption):wpAny M A (storeName X.env x u) Q E s:=
 JZ I hN hi hx r (λs' I' _=>h s' I') hf
theorem Inv.Vd(I:Inv X pins σ H s)(ho:s'.os=s.os)(u:Un (bp X.stack) ch H H' s.heap s'.heap)(RZ:SW X.prog X.w H' s'.heap)(hg:AllBare s'.gens)
  (XH:∀b∈ch,(b∈X.ex\/X.s₀.heap.objs.size<=b)/\b≠X.env.locals/\(∀x c,X.env.cells.lookup x=⇑c->c≠b)/\∀p∈X.pn++pins,p.1≠b):Inv X pins σ H' s':=by
 obtain⟨h',g',d',t',o'⟩:=s';have e:o'=s.os:=ho;subst e;exact I.call (g':=g') (t':=t') (d':=d') u RZ hg XH
end
abbrev XK:=Value->Option Addr->Hp->Prop
noncomputable abbrev St:=List (Option V)
abbrev VK:=V->Hp->Prop
abbrev TE:=St->Hp->VK->Prop
abbrev TT:=St->Hp->(Bool->Hp->Prop)->Prop
abbrev TA:=St->Hp->(List V->Hp->Prop)->Prop
structure Ends where
 nx:St->Hp->Prop
 rt:VK
 bk:St->Hp->Prop:=λ_ _=>False
 ct:St->Hp->Prop:=λ_ _=>False
abbrev TS:=Ends->St->Hp->Prop
def EP(X:Cx)(pins:List (Addr×Obj))(σ:St)(Q:VK)(u:Value)(s':Shared):Prop:=∃v H',Inv X pins σ H' s'/\RelV v u/\Q v H'
def TP(X:Cx)(pins:List (Addr×Obj))(σ:St)(Q:Bool->Hp->Prop)(b:Bool)(s':Shared):Prop:=∃H',Inv X pins σ H' s'/\Q b H'
def AP(X:Cx)(pins:List (Addr×Obj))(σ:St)(Q:List V->Hp->Prop)(us:List Value)(s':Shared):Prop:=∃vs H',Inv X pins σ H' s'/\Vals vs us/\Q vs H'
def SP(X:Cx)(pins:List (Addr×Obj))(D:Ends)(f:Flow)(s':Shared):Prop:=
 match f with
 | .next=>∃σ' H',Inv X pins σ' H' s'/\D.nx σ' H'
 | .brk=>∃σ' H',Inv X pins σ' H' s'/\D.bk σ' H'
 | .cont=>∃σ' H',Inv X pins σ' H' s'/\D.ct σ' H'
 | .ret u=>∃v σ' H',Inv X pins σ' H' s'/\RelV v u/\D.rt v H'
def PE(X:Cx)(e:Expr)(t:TE):Prop:=
 ∀(pins:List (Addr×Obj)) (s:Shared) (σ:St) (H:Hp) (Q:VK),Inv X pins σ H s->t σ H Q->wpAny (model X.prog X.w) X.A (eval e X.env) (EP X pins σ Q) X.xe s
def PT(X:Cx)(e:Expr)(t:TT):Prop:=
 ∀(pins:List (Addr×Obj)) (s:Shared) (σ:St) (H:Hp) (Q:Bool->Hp->Prop),Inv X pins σ H s->t σ H Q->wpAny (model X.prog X.w) X.A (isTrue e X.env (eval e X.env)) (TP X pins σ Q) X.xe s
def PW(X:Cx)(e:Expr)(t:TT):Prop:=
 ∀(whole:Sem Value) (pins:List (Addr×Obj)) (s:Shared) (σ:St) (H:Hp) (Q:Bool->Hp->Prop),Inv X pins σ H s->t σ H Q->wpAny (model X.prog X.w) X.A (isTrue e X.env whole) (TP X pins σ Q) X.xe s
theorem PW.pt(h:PW X e t):PT X e t:=h _
def PA(X:Cx)(es:List Expr)(t:TA):Prop:=
 ∀(pos:Pos) (pins:List (Addr×Obj)) (s:Shared) (σ:St) (H:Hp) (Q:List V->Hp->Prop),Inv X pins σ H s->t σ H Q->wpAny (model X.prog X.w) X.A (spliced (backTo pos (starEach es X.env))) (AP X pins σ Q) X.xe s
def PS(X:Cx)(st:Stmt)(t:TS):Prop:=
 ∀(pins:List (Addr×Obj)) (s:Shared) (σ:St) (H:Hp) (D:Ends),Inv X pins σ H s->t D σ H->wpAny (model X.prog X.w) X.A (exec st X.env) (SP X pins D) X.xe s
def VP(X:Cx)(st:List Stmt)(t:TS):Prop:=
 ∀(pins:List (Addr×Obj)) (s:Shared) (σ:St) (H:Hp) (D:Ends),Inv X pins σ H s->t D σ H->wpAny (model X.prog X.w) X.A (execs st X.env) (SP X pins D) X.xe s
theorem aJ{α:Type}{t:Sem α}{Q Q':α->Shared->Prop}{E:Value->Shared->Prop}(h:wpAny M A t Q E s)(hQ:∀a s,Q a s->Q' a s):wpAny M A t Q' E s:=wpAny_mono h hQ λ_ _ x=>x
section
variable {X : Cx}
noncomputable def p6(i:Nat):TE:=λσ H Q=>∃v,σ[i]?=⇑⇑v/\Q v H
noncomputable def tC(v:V):TE:=λ_ H Q=>Q v H
theorem n8{i:Nat}{x:Str}{pos:Pos}(hN:X.N[i]?=⇑x)(hv:EO X.env.scope x)(hd:(x==("__debug__":Str))=false:=by decide)(Xq:(x==("__classdict__":Str))=false:=by decide):PE X (.Name x pos) (p6 i):=by
 intro pins s σ H Q I h;obtain⟨v,e,h⟩:=h;obtain⟨m,hn,hl⟩:=I.loc;obtain⟨u,r,l⟩:=hl i x v hN e hv;have fin:EP X pins σ Q u s:=⟨v,H,I,r,h⟩;rcases l with⟨hk,hm⟩|⟨hk,c,hc,Yl⟩
 ·exact wpAny_Name (wpAny_loadName_local I.ok.kind hk hn hm fin) hd
 ·rcases hk with hk|hk
  ·exact wpAny_Name (wpAny_loadName_cell I.ok.kind hk hc Yl fin) hd
  ·exact wpAny_Name (wpAny_loadName_free I.ok.kind hk hc Yl fin Xq) hd
theorem ic{i j pos}:PE X (.Constant (.int i) j pos) (tC (.int i)):=λ_ _ _ H _ I h=>wpAny_Constant_int ⟨.int i,H,I.tok _,⟨_,rfl⟩,h⟩
theorem GR{b j pos}:PE X (.Constant (.bool b) j pos) (tC (.bl b)):=λ_ _ _ H _ I h=>Constant_bool ⟨.bl b,H,I,rfl,h⟩
theorem Gm{j pos}:PE X (.Constant .none j pos) (tC .RY):=λ_ _ _ H _ I h=>Constant_none ⟨.RY,H,I,rfl,h⟩
theorem xA{x j pos}:PE X (.Constant (.str x) j pos) (tC (.str x)):=λ_ _ _ H _ I h=>Calls.Constant_str ⟨.str x,H,I.tok _,⟨_,rfl⟩,h⟩
def Gl(X:Cx)(x:Str):Prop:=X.env.kindOf x=⇑.globalImplicit
theorem tD{E:Value->Shared->Prop}{pins:List (Addr×Obj)}{s:Shared}{σ:St}{H:Hp}{x:Str}{u:Value}{pos:Pos}{Q:Value->Shared->Prop}(I:Inv X pins σ H s)(hg:Gl X x)(hm:X.mg x=⇑u)(h:Q u s)
  (hd:(x==("__debug__":Str))=false:=by decide):wpAny (model X.prog X.w) X.A (eval (.Name x pos) X.env) Q E s:=
 Calls.Name_function_global I.ok.kind hg (Calls.loadGlobal_global (by rw[I.ok.glob];exact I.mod.glob.keeps I.bk) hm h) hd
theorem nD{E:Value->Shared->Prop}{pins:List (Addr×Obj)}{s:Shared}{σ:St}{H:Hp}{x:Str}{u:Value}{pos:Pos}{Q:Value->Shared->Prop}(I:Inv X pins σ H s)(hg:Gl X x)(hm:X.mg x=none)(hv:bootBuiltins x=⇑u)(h:Q u s)
  (hn:x≠"__name__":=by decide) (hd:(x==("__debug__":Str))=false:=by decide):wpAny (model X.prog X.w) X.A (eval (.Name x pos) X.env) Q E s:=by
 obtain⟨mb,h1,h2⟩:=I.mod.blt;exact Calls.Name_function_global I.ok.kind hg (Calls.loadGlobal_builtin (by rw[I.ok.glob];exact I.mod.glob.keeps I.bk) hm (by rw[I.ok.blt];exact h1.keeps I.bk) ((h2 x hn).trans hv) h) hd
theorem OF{x:Str}{v:V}{u:Value}{pos:Pos}(hg:Gl X x)(hm:X.mg x=⇑u)(r:RelV v u)(hd:(x==("__debug__":Str))=false:=by decide):PE X (.Name x pos) (tC v):=
 λ_ _ _ H _ I h=>tD I hg hm ⟨v,H,I,r,h⟩ hd
theorem OD{x:Str}{v:V}{u:Value}{pos:Pos}(hg:Gl X x)(hm:X.mg x=none)(hv:bootBuiltins x=⇑u)(r:RelV v u)(hn:x≠"__name__":=by decide)(hd:(x==("__debug__":Str))=false:=by decide):PE X (.Name x pos) (tC v):=
 λ_ _ _ H _ I h=>nD I hg hm hv ⟨v,H,I,r,h⟩ hn hd
variable {a b : Expr} {ta tb : TE} {pos : Pos}
noncomputable def tB(t:TE):TT:=λσ H Q=>t σ H λx H1=>∃c,x=.bl c/\Q c H1
variable {tA tB' : TT} {rest : List Expr}
noncomputable def bW(t u:TT):TT:=λσ H Q=>t σ H λc H1=>if c=true then u σ H1 Q else Q false H1
noncomputable def dZ(t u:TT):TT:=λσ H Q=>t σ H λc H1=>if c=true then Q true H1 else u σ H1 Q
noncomputable def aY(t:TT):TT:=λσ H Q=>t σ H λc H1=>Q (!c) H1
theorem G_(ha:PT X a tA):PW X (.BoolOp .And [a] pos) tA:=by
 intro wh pins s σ H Q I h;refine isTrue_and (aJ (ha pins s σ H Q I h) λc s1 e=> ?_);cases c with
 | true=>exact isTrue_and_nil e
 | false=>exact e
theorem Io(ha:PT X a tA):PW X (.BoolOp .Or [a] pos) tA:=by
 intro wh pins s σ H Q I h;refine isTrue_or (aJ (ha pins s σ H Q I h) λc s1 e=> ?_);cases c with
 | false=>exact isTrue_or_nil e
 | true=>exact e
theorem FZ(ha:PT X a tA)(hb:PW X (.BoolOp .And (b::rest) pos) tB'):PW X (.BoolOp .And (a::b::rest) pos) (bW tA tB'):=by
 intro wh pins s σ H Q I h;refine isTrue_and (aJ (ha pins s σ H _ I h) λc s1 ⟨H1,I1,q1⟩=> ?_);cases c with
 | true=>exact hb wh pins s1 σ H1 Q I1 q1
 | false=>exact⟨H1,I1,q1⟩
theorem nq(ha:PT X a tA)(hb:PW X (.BoolOp .Or (b::rest) pos) tB'):PW X (.BoolOp .Or (a::b::rest) pos) (dZ tA tB'):=by
 intro wh pins s σ H Q I h;refine isTrue_or (aJ (ha pins s σ H _ I h) λc s1 ⟨H1,I1,q1⟩=> ?_);cases c with
 | true=>exact⟨H1,I1,q1⟩
 | false=>exact hb wh pins s1 σ H1 Q I1 q1
theorem Ek(ha:PT X a tA):PT X (.UnaryOp .Not a pos) (aY tA):=by
 intro pins s σ H Q I h;exact isTrue_not (ha pins s σ H (λc H1=>Q (!c) H1) I h)
noncomputable def mO(ta tb:TE):TE:=λσ H Q=>ta σ H λx H1=>∃c,x=.bl c/\if c=true then tb σ H1 Q else Q (.bl false) H1
noncomputable def xw(ta tb:TE):TE:=λσ H Q=>ta σ H λx H1=>∃c,x=.bl c/\if c=true then Q (.bl true) H1 else tb σ H1 Q
theorem rj{op}(h:PE X a t):PE X (.BoolOp op [a] pos) t:=λpins s σ H Q I hw=>BoolOp_one (h pins s σ H Q I hw)
theorem nF(ha:PE X a ta)(hb:PE X (.BoolOp .And (b::rest) pos) tb):PE X (.BoolOp .And (a::b::rest) pos) (mO ta tb):=by
 intro pins s σ H Q I h;refine BoolOp_and (aJ (ha pins s σ H _ I h) λv s1 hh=> ?_);obtain⟨x,H1,I1,r1,q1⟩:=hh;obtain⟨c,rfl,q1⟩:=q1;cases r1;refine wpAny_truthy_bool ?_;cases c with
 | true=>exact hb pins s1 σ H1 Q I1 q1
 | false=>exact⟨.bl false,H1,I1,rfl,q1⟩
theorem y_(ha:PE X a ta)(hb:PE X (.BoolOp .Or (b::rest) pos) tb):PE X (.BoolOp .Or (a::b::rest) pos) (xw ta tb):=by
 intro pins s σ H Q I h;refine BoolOp_or (aJ (ha pins s σ H _ I h) λv s1 hh=> ?_);obtain⟨x,H1,I1,r1,q1⟩:=hh;obtain⟨c,rfl,q1⟩:=q1;cases r1;refine wpAny_truthy_bool ?_;cases c with
 | false=>exact hb pins s1 σ H1 Q I1 q1
 | true=>exact⟨.bl true,H1,I1,rfl,q1⟩
noncomputable def KR(t:TT)(ta tb:TE):TE:=λσ H Q=>t σ H λc H1=>if c=true then ta σ H1 Q else tb σ H1 Q
theorem QK(hc:PT X c tA)(ha:PE X a ta)(hb:PE X b tb):PE X (.IfExp c a b pos) (KR tA ta tb):=by
 intro pins s σ H Q I h;refine wpAny_IfExp (aJ (hc pins s σ H _ I h) λd s1 ⟨H1,I1,q1⟩=> ?_);cases d with
 | true=>exact ha pins s1 σ H1 Q I1 q1
 | false=>exact hb pins s1 σ H1 Q I1 q1
end
def R8(K:W.Frag)(H:Hp)(a:Addr)(xs:List V):Prop:=
 Rd H a (.lst xs)\/
  ∃(o:Obj) (RX:Array Value) (n:Nat),K.lookup a=⇑o/\o.cls=.type "list"/\o.dict=none/\o.data=.seq RX n/\RX.size<=sizeLine/\Vals xs RX.toList
def S7(K:W.Frag)(H:Hp)(a:Addr)(xs:List V):Prop:=
 Rd H a (.tup xs)\/
  ∃(o:Obj) (RX:Array Value) (n:Nat),K.lookup a=⇑o/\o.cls=.type "tuple"/\o.data=.seq RX n/\RX.size<=sizeLine/\Vals xs RX.toList
noncomputable def DG:Value->Option V
 | .none=>⇑.RY
 | .bool b=>⇑(.bl b)
 | .int i _=>⇑(.int i)
 | .str x _=>⇑(.str x)
 | .bytes b _=>⇑(.WK b)
 | .float b _=>⇑(.YV b)
 | .ref a=>⇑(.ref a)
 | .type n=>⇑(.ty n)
 | _=>none
theorem RelV.abs(r:RelV x u):DG u=⇑x:=by
 cases x with
 | RY=>cases r;rfl
 | bl _=>cases r;rfl
 | int _=>obtain⟨t,rfl⟩:=r;rfl
 | str _=>obtain⟨t,rfl⟩:=r;rfl
 | WK _=>obtain⟨t,rfl⟩:=r;rfl
 | YV _=>obtain⟨t,rfl⟩:=r;rfl
 | ref _=>cases r;rfl
 | ty _=>cases r;rfl
theorem RelV.inj(r:RelV x u)(q:RelV y u):x=y:=Option.some.inj (r.abs.symm.trans q.abs)
theorem Vals.inj:∀{xs ys:List V} {us:List Value},Vals xs us->Vals ys us->xs=ys
 | _,_,_,.nil,.nil=>rfl
 | _,_,_,.cons r t,.cons r' t'=>by rw[r.inj r',Vals.inj t t']
section
variable {X : Cx} {pins : List (Addr × Obj)} {σ : St} {H : Hp} {s : Shared} {a : Addr} {xs ys : List V}
theorem R8.of{K:W.Frag}(h:H a=⇑(.lst xs)):R8 K H a xs:=.inl (.inl h)
theorem S7.of{K:W.Frag}(h:H a=⇑(.tup xs)):S7 K H a xs:=.inl (.inl h)
theorem Inv.list(I:Inv X pins σ H s)(h:R8 X.K H a xs):∃RX:List Value,Vals xs RX/\PlainL s.heap a RX.toArray/\xs.length<=sizeLine:=by
 rcases h with h|⟨o,RX,n,hk,hc,hd,hs,hz,r⟩
 ·obtain⟨z,RX,n,r,e⟩:=h.ok I.RZ
  exact⟨RX,r,⟨_,n,e,rfl,rfl,rfl⟩,z⟩
 ·refine⟨RX.toList,r,⟨o,n,I.TK a o hk,hc,hd,by simpa using hs⟩,?_⟩
  have e:=r.length;simp only[Array.length_toList]at e
  lia
theorem Inv.tuple(I:Inv X pins σ H s)(h:S7 X.K H a xs):∃RX:List Value,Vals xs RX/\IsTup s.heap a RX.toArray/\xs.length<=sizeLine:=by
 rcases h with h|⟨o,RX,n,hk,hc,hs,hz,r⟩
 ·obtain⟨z,RX,r,p⟩:=h.ok I.RZ
  exact⟨RX,r,p,z⟩
 ·refine⟨RX.toList,r,⟨o,I.TK a o hk,hc,n,by simpa using hs⟩,?_⟩
  have e:=r.length;simp only[Array.length_toList]at e
  lia
theorem Inv.Ud(I:Inv X pins σ H s)(h:R8 X.K H a xs)(h':R8 X.K H a ys):xs=ys:=by
 obtain⟨RX,r,⟨o,n,e,_,_,d⟩,_⟩:=I.list h;obtain⟨its',r',⟨o',n',e',_,_,d'⟩,_⟩:=I.list h';rw[e]at e';cases e';rw[d]at d';injection d' with d1 _;have:RX=its':=by simpa using congrArg Array.toList d1
 subst this;exact r.inj r'
theorem Inv.WN(I:Inv X pins σ H s)(h:S7 X.K H a xs)(h':S7 X.K H a ys):xs=ys:=by
 obtain⟨RX,r,⟨o,e,_,n,d⟩,_⟩:=I.tuple h;obtain⟨its',r',⟨o',e',_,n',d'⟩,_⟩:=I.tuple h';rw[e]at e';cases e';rw[d]at d';injection d' with d1 _;have:RX=its':=by simpa using congrArg Array.toList d1
 subst this;exact r.inj r'
end
noncomputable abbrev Cx.Ve(X:Cx)(E:Value->Shared->Prop):Cx:={X with xe:=E}
noncomputable abbrev Cx.nox(X:Cx):Cx:=X.Ve λ_ _=>False
theorem Cx.Ok.Ve{X:Cx}(ok:X.Ok)(E:Value->Shared->Prop):(X.Ve E).Ok:=
 ⟨ok.mod,ok.kind,ok.glob,ok.blt,ok.above,ok.inj,ok.has,ok.cab,ok.hd,ok.frames,ok.stk,ok.exf,ok.bs,ok.XI,ok.WQ,ok.WW,ok.Um,ok.Yn⟩
theorem Cx.Ok.Vf{X:Cx}{E:Value->Shared->Prop}(ok:(X.Ve E).Ok):X.Ok:=
 ⟨ok.mod,ok.kind,ok.glob,ok.blt,ok.above,ok.inj,ok.has,ok.cab,ok.hd,ok.frames,ok.stk,ok.exf,ok.bs,ok.XI,ok.WQ,ok.WW,ok.Um,ok.Yn⟩
section
variable {X : Cx} {pins : List (Addr × Obj)} {σ : St} {H : Hp} {s : Shared} {E : Value -> Shared -> Prop}
theorem Inv.Ve(I:Inv X pins σ H s)(E:Value->Shared->Prop):Inv (X.Ve E) pins σ H s:=⟨I.ok.Ve E,I.os,I.bare,I.base,I.loc,I.cell,I.free,I.SK,I.pin,I.RZ,I.len⟩
theorem Inv.Vf(I:Inv (X.Ve E) pins σ H s):Inv X pins σ H s:=⟨I.ok.Vf,I.os,I.bare,I.base,I.loc,I.cell,I.free,I.SK,I.pin,I.RZ,I.len⟩
end
section
variable {X : Cx} {st : Stmt} {rest : List Stmt} {t u : TS} {e : Expr} {te : TE} {pos : Pos}
noncomputable def AU:TS:=λD σ H=>D.nx σ H
noncomputable def ud(t u:TS):TS:=λD σ H=>t {D with nx:=u D} σ H
theorem BM:VP X [] AU:=λ_ _ σ H _ I h=>wpAny_execs_nil ⟨σ,H,I,h⟩
theorem cC(h1:PS X st t)(h2:VP X rest u):VP X (st::rest) (ud t u):=by
 intro pins s σ H D I h;refine wpAny_execs_cons (aJ (h1 pins s σ H {D with nx:=u D} I h) λf s1 q=> ?_);cases f with
 | next=>
  obtain⟨σ',H',I',q⟩:=q;exact h2 pins s1 σ' H' D I' q
 | ret v=>exact q
 | brk=>exact q
 | cont=>exact q
theorem dM(h1:PS X st t):VP X [st] t:=by
 intro pins s σ H D I h;refine wpAny_execs_cons (aJ (h1 pins s σ H D I h) λf s1 q=> ?_);cases f with
 | next=>exact wpAny_execs_nil q
 | ret v=>exact q
 | brk=>exact q
 | cont=>exact q
theorem Inv.quiet{σ:St}(I:Inv X pins σ H s):interactive X.env=false:=by simp[interactive,I.ok.kind]
noncomputable def FP(te:TE):TS:=λD σ H=>te σ H λ_ H1=>D.nx σ H1
theorem EM(he:PE X e te)(hs:swapsWith e none pos.line X.env=pure false:=by rfl):PS X (.Expr e pos) (FP te):=by
 intro pins s σ H D I h;exact wpAny_Expr_any (aJ (he pins s σ H _ I h) λv s1 ⟨x,H1,I1,r1,q1⟩=>⟨σ,H1,I1,q1⟩) I.quiet hs
noncomputable def tT(te:TE):TS:=λD σ H=>te σ H D.rt
theorem mL(he:PE X e te):PS X (.Return ⇑e pos) (tT te):=by
 intro pins s σ H D I h;exact wpAny_Return_some (aJ (he pins s σ H _ I h) λv s1 ⟨x,H1,I1,r1,q1⟩=>⟨x,σ,H1,I1,r1,q1⟩)
noncomputable def Ae(c:TT)(t u:TS):TS:=λD σ H=>c σ H λb H1=>if b=true then t D σ H1 else u D σ H1
theorem BW(hc:PT X c tc)(ha:VP X a t)(hb:VP X b u):PS X (.If c a b pos) (Ae tc t u):=by
 intro pins s σ H D I h;refine wpAny_If (aJ (hc pins s σ H _ I h) λd s1 ⟨H1,I1,q1⟩=> ?_);cases d with
 | true=>exact ha pins s1 σ H1 D I1 q1
 | false=>exact hb pins s1 σ H1 D I1 q1
end
abbrev TG:=V->St->Hp->(St->Hp->Prop)->Prop
abbrev hV:=List V->St->Hp->(St->Hp->Prop)->Prop
def PG(X:Cx)(target:Expr)(t:TG):Prop:=
 ∀(pins:List (Addr×Obj)) (s:Shared) (σ:St) (H:Hp) (v:V) (u:Value) (Q:St->Hp->Prop),Inv X pins σ H s->RelV v u->t v σ H Q->
  wpAny (model X.prog X.w) X.A (assign target X.env u) (λ_ s'=>∃σ' H',Inv X pins σ' H' s'/\Q σ' H') X.xe s
def tq(X:Cx)(ts:List Expr)(t:hV):Prop:=
 ∀(pins:List (Addr×Obj)) (s:Shared) (σ:St) (H:Hp) (vs:List V) (us:List Value) (Q:St->Hp->Prop),Inv X pins σ H s->Vals vs us->t vs σ H Q->
  wpAny (model X.prog X.w) X.A (assignInOrder ((assignEach ts X.env).map (·.2)) us) (λ_ s'=>∃σ' H',Inv X pins σ' H' s'/\Q σ' H') X.xe s
section
variable {X : Cx} {pos : Pos}
noncomputable def ak(i:Nat):TG:=λv σ H Q=>Q (σ.set i ⇑v) H
theorem uA{i:Nat}{x:Str}(hN:X.N.Nodup)(hi:X.N[i]?=⇑x)(hx:vg X.env.scope x)(hf:X.fn x=true\/X.env.scope.names.lookup x=⇑.local:=by first|exact .inl rfl|exact .inr rfl|assumption):PG X (.Name x pos) (ak i):=by
 intro pins s σ H v u Q I r h;exact wpAny_assign_Name (HW I hN hi hx r (λs' I'=>⟨_,H,I',h⟩) hf)
noncomputable def qI:hV:=λvs σ H Q=>vs=[]/\Q σ H
noncomputable def Gu(t:TG)(u:hV):hV:=λvs σ H Q=>∃v r,vs=v::r/\t v σ H λσ' H'=>u r σ' H' Q
theorem Pl:tq X [] qI:=by
 intro pins s σ H vs us Q I r h;obtain⟨e,h⟩:=h;subst e;cases r;exact assignInOrder_nil ⟨σ,H,I,h⟩
theorem P8{e:Expr}{es:List Expr}{t:TG}{u:hV}(h1:PG X e t)(h2:tq X es u)
  (hs:(assignEach (e::es) X.env).map (·.2)=assign e X.env::(assignEach es X.env).map (·.2):=by rfl):tq X (e::es) (Gu t u):=by
 intro pins s σ H vs us Q I r h;obtain⟨v,vr,e1,h⟩:=h;subst e1;cases r with
 | cons r rr=>
  rw[hs];refine assignInOrder_cons (aJ (h1 pins s σ H _ _ _ I r h) λ_ s1 hh=> ?_);obtain⟨σ1,H1,I1,q1⟩:=hh;exact h2 pins s1 σ1 H1 _ _ Q I1 rr q1
noncomputable def fY(K:W.Frag)(n:Nat)(t:hV):TG:=λv σ H Q=>∃a xs,v=.ref a/\S7 K H a xs/\xs.length=n/\t xs σ H Q
theorem ot{es:List Expr}{k:Nat}{t:hV}{n:Nat}(hc:X.calm=true)(h:tq X es t)
  (hn:(assignEach es X.env).length=n:=by rfl) (Tg:(assignEach es X.env).findIdx? (·.1)=none:=by rfl):PG X (.Tuple es k pos) (fY X.K n t):=by
 intro pins s σ H v u Q I r hw;obtain⟨a,xs,e1,hq,hl,hw⟩:=hw;subst e1;cases r;obtain⟨RX,rv,ht,hz⟩:=I.tuple hq;refine assign_Tuple_tuple (I.ok.hd hc) ht (by simp[hn,<-hl,rv.length]) Tg λh' hx=> ?_;have I1:Inv X pins σ H {s with heap:=h'}:=I.kept (t':=s.toks) λb o e=>hx b o (qo (qe e)) e;exact h pins _ σ H xs _ Q I1 (by simpa using rv) hw
noncomputable def y2(te:TE)(g:TG):TS:=λD σ H=>te σ H λx H1=>g x σ H1 D.nx
theorem eA{i:Nat}{x:Str}{e:Expr}{te:TE}{pos':Pos}(hN:X.N.Nodup)(hi:X.N[i]?=⇑x)(hx:vg X.env.scope x)(he:PE X e te)(hs:swapsWith e ⇑(.Name x pos') pos.line X.env=pure false:=by rfl)(hf:X.fn x=true\/X.env.scope.names.lookup x=⇑.local:=by first|exact .inl rfl|exact .inr rfl|assumption):
  PS X (.Assign [.Name x pos'] e pos) (y2 te (ak i)):=by
 intro pins s σ H D I h;refine wpAny_Assign_Name (aJ (he pins s σ H _ I h) λv s1 ⟨y,H1,I1,r1,q1⟩=> ?_) hs;exact HW I1 hN hi hx r1 (λs2 I2=>⟨_,H1,I2,q1⟩) hf
end
section
variable {X : Cx} {pos : Pos}
def JU(c:TT)(tb:TS):TS:=λD σ H=>∃W:Nat->St->Hp->Prop,(∃m,W m σ H)/\∀m σ H,W m σ H->
 c σ H λb H1=>if b=true then ∃N:St->Hp->Prop,(∀σ' H',N σ' H'->∃m',m'<m/\W m' σ' H')/\tb {D with nx:=N,ct:=N,bk:=D.nx} σ H1 else D.nx σ H1
theorem EB(hp:PassesOwn (model X.prog X.w) X.A X.env X.xe)(hc:PT X c tc)(hb:VP X body tb):PS X (.While c body [] pos) (JU tc tb):=by
 intro pins s σ H D I h;obtain⟨W,⟨m0,w0⟩,turn⟩:=h;refine wpAny_While (codeAny_whileLoop (λn s'=>∃σ' H',Inv X pins σ' H' s'/\W n σ' H') ?_ m0 ⟨σ,H,I,w0⟩);rintro n s1 ⟨σ1,H1,I1,w1⟩;refine wpAny_passesOwn hp (aJ (hc pins s1 σ1 H1 _ I1 (turn n σ1 H1 w1)) λb s2 ⟨H2,I2,q2⟩=> ?_);cases b with
 | true=>
  obtain⟨N,hN,q2⟩:=q2;rw[if_pos rfl];refine wpAny_passesOwn hp (aJ (hb pins s2 σ1 H2 _ I2 q2) λf s3 q3=> ?_);cases f with
  | next=>
   obtain⟨σ3,H3,I3,n3⟩:=q3;obtain⟨m',hm,w3⟩:=hN σ3 H3 n3;exact⟨m',hm,σ3,H3,I3,w3⟩
  | cont=>
   obtain⟨σ3,H3,I3,n3⟩:=q3;obtain⟨m',hm,w3⟩:=hN σ3 H3 n3;exact⟨m',hm,σ3,H3,I3,w3⟩
  | brk=>exact q3
  | ret v=>exact q3
 | false=>
  rw[if_neg qx];exact wpAny_execs_nil ⟨σ1,H2,I2,q2⟩
end
structure It where
 go:Nat->Hp->Prop
 Yr:Nat->Hp->V->Hp->Prop
 stop:Nat->Hp->Prop
def cR(X:Cx)(pins:List (Addr×Obj))(H:Hp)(b:Addr):Prop:=
 H b=none/\b≠X.env.locals/\b∉X.fs/\(b∈X.ex\/X.s₀.heap.objs.size<=b)/\(∀x c,X.env.cells.lookup x=⇑c->c≠b)/\∀p∈X.pn++pins,p.1≠b
theorem Inv.Xv{σ:St}{b:Addr}(I:Inv X pins σ H s)(hb:s.heap.objs.size<=b)(hn:H' b=none):cR X pins H' b:=by
 refine⟨hn,wj (qt I.lt hb),I.nofs hb,.inr (zi I.sz hb),λx c e z=> ?_,λp hp z=> ?_⟩
 ·obtain⟨v,q⟩:=I.cell x c e
  exact absurd (qt q.lt (by rw[z];exact hb)) (wd _)
 ·exact absurd (qt (qe (I.pin p hp).1) (by rw[z];exact hb)) (wd _)
structure Turn (P:Program) (w:World) (K:W.Frag) (tg:Expr) (J:It) (fp:List Addr) (it:Addr) (tn:Nat->Heap->Prop):Prop where
 mem:it∈fp
 obj:∀i h,tn i h->∀b∈fp,∃o,h.get? b=⇑o/\∀v,o.data≠ .cell v
 keep:∀i h h',tn i h->(∀b∈fp,∀o,h.get? b=⇑o->h'.get? b=⇑o)->tn i h'
 item:∀(X:Cx),X.prog=P->X.w=w->X.K=K->X.calm=true->∀(i:Nat) (pins:List (Addr×Obj)) (s:Shared) (σ:St) (H:Hp) (E:Value->Shared->Prop),Inv X pins σ H s->(∀b∈fp,cR X pins H b)->tn i s.heap->J.go i H->
  wpAny (model P w) X.A (pyNext (.ref it)) (λr s1=>∃u,r=⇑u/\
   wpAny (model P w) X.A (letOwnedTupleGo tg (.ref it) u) (λ_ s2=>∃x H',Inv X pins σ H' s2/\RelV x u/\J.Yr i H x H'/\tn (i+1) s2.heap/\∀b∈fp,H' b=none) E s1) E s
 done:∀(X:Cx),X.prog=P->X.w=w->X.K=K->X.calm=true->∀(i:Nat) (pins:List (Addr×Obj)) (s:Shared) (σ:St) (H:Hp) (E:Value->Shared->Prop),Inv X pins σ H s->(∀b∈fp,cR X pins H b)->tn i s.heap->J.stop i H->
  wpAny (model P w) X.A (pyNext (.ref it)) (λr s1=>r=none/\Inv X pins σ H s1) E s
 self:∀(A:Around) (i:Nat) (s:Shared) (Q:Value->Shared->Prop) (E:Value->Shared->Prop),tn i s.heap->Q (.ref it) s->wpAny (model P w) A (pyIter (.ref it)) Q E s
abbrev TI:=St->Hp->(It->Hp->Prop)->Prop
def Ef(X:Cx)(pins:List (Addr×Obj))(σ:St)(tg:Expr)(R:It->Hp->Prop)(itv:Value)(s2:Shared):Prop:=
 ∃(it:Addr) (fp:List Addr) (tn:Nat->Heap->Prop) (J:It) (H':Hp),itv=.ref it/\Inv X pins σ H' s2/\Turn X.prog X.w X.K tg J fp it tn/\tn 0 s2.heap/\(∀b∈fp,cR X pins H' b)/\R J H'
def PI(X:Cx)(tg iter:Expr)(wi:TI):Prop:=
 ∀(pins:List (Addr×Obj)) (s:Shared) (σ:St) (H:Hp) (R:It->Hp->Prop),Inv X pins σ H s->wi σ H R->
  wpAny (model X.prog X.w) X.A (eval iter X.env) (λv s1=>wpAny (model X.prog X.w) X.A (pyIter v) (Ef X pins σ tg R) X.xe s1) X.xe s
theorem sR{E:Value->Shared->Prop}{Q:Unit->Shared->Prop}(ho:s.heap.get? it=⇑o)(hc:o.cls=.type n)(hd:o.data=.fields vs)
    (hn:["enumerate","zip","dict_itemiterator","dict_reverseitemiterator","odict_iterator","itertools.zip_longest","itertools.pairwise"].contains n=false) (hQ:Q () s):wpAny M A (letOwnedTupleGo tg (.ref it) u) Q E s:=by
  unfold letOwnedTupleGo;cases tg<;>first
    | exact wpAny_pure hQ
    | (cases u<;>first
        | exact wpAny_pure hQ
        | (refine wpAny_bind (wpAny_load ho ?_)
           rw[hc,hd];show wpAny M A (if(["enumerate","zip","dict_itemiterator","dict_reverseitemiterator","odict_iterator","itertools.zip_longest","itertools.pairwise"].contains n&&vs[0]?==⇑(rawInt _))=true then _ else _) Q E s;rw[if_neg (by intro h;rw[hn,Bool.false_and]at h;cases h)];exact wpAny_pure hQ))
noncomputable def Gy(K:W.Frag)(a:Addr):It:=
 ⟨λi H=>∃xs x,R8 K H a xs/\xs[i]?=⇑x,λi H x H'=>H'=H/\∀xs,R8 K H a xs->xs[i]?=⇑x,λi H=>∃xs,R8 K H a xs/\xs.length<=i⟩
noncomputable def CM(K:W.Frag)(a:Addr):It:=
 ⟨λi H=>∃xs x,S7 K H a xs/\xs[i]?=⇑x,λi H x H'=>H'=H/\∀xs,S7 K H a xs->xs[i]?=⇑x,λi H=>∃xs,S7 K H a xs/\xs.length<=i⟩
noncomputable def AO(lo:Int)(n:Nat):It:=⟨λi _=>i<n,λi H x H'=>H'=H/\x=.int (lo+i),λi _=>n<=i⟩
theorem OJ{K:W.Frag}(a it:Addr):Turn P w K tg (Gy K a) [it] it (λi h=>h.IsListIter it a i)where
 mem:=by simp
 obj:=λi h st b hb=>by
  have e:b=it:=by simpa using hb
  subst e;obtain⟨o,e,c,d⟩:=st;exact⟨o,e,λv z=>by rw[d]at z;cases z⟩
 keep:=λi h h' st k=>st.at λo e=>k it (by simp) o e
 item:=by
  intro X hP hw hK hc i pins s σ H E I hf st hg;subst hP hw hK;obtain⟨xs,x,hq,hx⟩:=hg;obtain⟨RX,rv,p,hz⟩:=I.list hq;obtain⟨u,hu,ru⟩:=rv.get hx;obtain⟨f0,f1,f2,f3,f4,f5⟩:=hf it (by simp);refine wpAny_pyNext_list_item st p.isList (x:=u) (by simpa using hu) λh' st' sb=> ?_;have I1:Inv X pins σ H {s with heap:=h'}:=I.turned (t':=s.toks) (λb o hb e=>(sb.2 b hb).trans e) f0 f1 f3 f4 f5;obtain⟨o,e,c,d⟩:=id st';exact⟨u,rfl,sR (s:={s with heap:=h'}) e c d ⋯ ⟨x,H,I1,ru,⟨rfl,λys hy=>by rw[I.Ud hy hq];exact hx⟩,st',λb hb=>(hf b hb).1⟩⟩
 done:=by
  intro X hP hw hK hc i pins s σ H E I hf st hg;subst hP hw hK;obtain⟨xs,hq,hx⟩:=hg;obtain⟨RX,rv,p,hz⟩:=I.list hq;obtain⟨f0,f1,f2,f3,f4,f5⟩:=hf it (by simp);have hl:=rv.length;exact wpAny_pyNext_list_end (I.ok.hd hc) st p.isList (by simp;lia) λh' eb=>⟨rfl,I.turned (t':=s.toks) (λb o hb e=>eb b o hb e) f0 f1 f3 f4 f5⟩
 self:=λ_ _ _ _ _ st h=>wpAny_pyIter_listiter st h
theorem O4{K:W.Frag}(a it:Addr):Turn P w K tg (CM K a) [it] it (λi h=>h.IsTupleIter it a i)where
 mem:=by simp
 obj:=λi h st b hb=>by
  have e:b=it:=by simpa using hb
  subst e;obtain⟨o,e,c,d⟩:=st;exact⟨o,e,λv z=>by rw[d]at z;cases z⟩
 keep:=λi h h' st k=>st.at λo e=>k it (by simp) o e
 item:=by
  intro X hP hw hK hc i pins s σ H E I hf st hg;subst hP hw hK;obtain⟨xs,x,hq,hx⟩:=hg;obtain⟨RX,rv,p,hz⟩:=I.tuple hq;obtain⟨u,hu,ru⟩:=rv.get hx;obtain⟨f0,f1,f2,f3,f4,f5⟩:=hf it (by simp);refine wpAny_pyNext_tuple_item st (show s.heap.IsTuple a RX.toArray from p) (x:=u) (by simpa using hu) λh' st' sb=> ?_;have I1:Inv X pins σ H {s with heap:=h'}:=I.turned (t':=s.toks) (λb o hb e=>(sb.2 b hb).trans e) f0 f1 f3 f4 f5;obtain⟨o,e,c,d⟩:=id st';exact⟨u,rfl,sR (s:={s with heap:=h'}) e c d ⋯ ⟨x,H,I1,ru,⟨rfl,λys hy=>by rw[I.WN hy hq];exact hx⟩,st',λb hb=>(hf b hb).1⟩⟩
 done:=by
  intro X hP hw hK hc i pins s σ H E I hf st hg;subst hP hw hK;obtain⟨xs,hq,hx⟩:=hg;obtain⟨RX,rv,p,hz⟩:=I.tuple hq;obtain⟨f0,f1,f2,f3,f4,f5⟩:=hf it (by simp);have hl:=rv.length;exact wpAny_pyNext_tuple_end (I.ok.hd hc) st (show s.heap.IsTuple a RX.toArray from p) (by simp;lia) λh' eb=>⟨rfl,I.turned (t':=s.toks) (λb o hb e=>eb b o hb e) f0 f1 f3 f4 f5⟩
 self:=λ_ _ _ _ _ st h=>wpAny_pyIter_tupleiter st h
theorem Qn{K:PySem.W.Frag}(it:Addr)(lo:Int)(n:Nat):Turn P w K tg (AO lo n) [it] it (λi h=>IsRangeIter h it (lo+(i:Nat)*1) ((n:Int) - (i:Nat)) 1)where
 mem:=by simp
 obj:=λi h st b hb=>by
  have e:b=it:=by simpa using hb
  subst e;exact⟨_,st,λv z=>by
   have z':Data.fields _=Data.cell v:=z;cases z'⟩
 keep:=λi h h' st k=>k it (by simp) _ st
 item:=by
  intro X hP hw hK hc i pins s σ H E I hf st hg;subst hP hw hK;obtain⟨f0,f1,f2,f3,f4,f5⟩:=hf it (by simp);have W:=Walks.range (prog:=X.prog) (w:=X.w) (I.ok.hd hc) it lo 1 n;refine W.item i s _ _ hg st λv h' tk hv st' kk=> ?_;obtain⟨t,rfl⟩:=hv;have I1:Inv X pins σ H {s with heap:=h',toks:=tk}:=I.turned (λb o hb e=>kk b o (by simpa using hb) e) f0 f1 f3 f4 f5;refine⟨_,rfl,sR (s:={s with heap:=h',toks:=tk}) (n:="range_iterator") st' rfl rfl ⋯ ⟨.int (lo+i),H,I1,⟨t,?_⟩,⟨rfl,rfl⟩,st',λb hb=>(hf b hb).1⟩⟩;rw[Int.mul_one]
 done:=by
  intro X hP hw hK hc i pins s σ H E I hf st hg;subst hP hw hK;obtain⟨f0,f1,f2,f3,f4,f5⟩:=hf it (by simp);exact wpAny_pyNext_range_end (I.ok.hd hc) st (by have:n<=i:=hg;lia) λh' eb=>⟨rfl,I.turned (t':=s.toks) (λb o hb e=>eb b o hb e) f0 f1 f3 f4 f5⟩
 self:=λ_ _ _ _ _ st h=>wpAny_pyIter_rangeiter st h
section
variable {X : Cx} {tg : Expr}
theorem LY{σ:St}{R:It->Hp->Prop}{E:Value->Shared->Prop}{lo hi:Int}(I:Inv X pins σ H s)(h1: -(2^62)<=lo)(h2:lo<2^62)(h3: -(2^62)<=hi)(h4:hi<2^62)
  (q:R (AO lo (hi - lo).toNat) H):wpAny (model X.prog X.w) X.A (pyIter (.ref s.heap.objs.size)) (Ef X pins σ tg R) E {s with heap:=s.heap.push {cls:=.type "range",data:=.fields #[.int lo t,.int hi u,.int 1 v]},toks:=tk}:=by
 refine wpAny_pyIter_range (IsRange.new ..) (small_one h1 h2 h3 h4) ?_;have I1:Inv X pins σ H {s with heap:=s.heap.push {cls:=.type "range",data:=.fields #[.int lo t,.int hi u,.int 1 v]},toks:=tk}:=I.kept λb o e=>qb _ e;refine⟨(s.heap.push {cls:=.type "range",data:=.fields #[.int lo t,.int hi u,.int 1 v]}).objs.size,[(s.heap.push {cls:=.type "range",data:=.fields #[.int lo t,.int hi u,.int 1 v]}).objs.size],_,_,H,rfl,
  I1.kept (t':=tk) λb o e=>qb _ e,Qn _ lo (hi - lo).toNat,?_,λb hb=> ?_,q⟩
 ·have e1:lo+((0:Nat):Int)*1=lo:=by simp
  have e2:(((hi - lo).toNat:Nat):Int) - ((0:Nat):Int)=Builtin.Range.rangeSize lo hi 1:=by rw[rangeSize_one];split<;>lia
  show IsRangeIter _ _ (lo+((0:Nat):Int)*1) ((((hi - lo).toNat:Nat):Int) - ((0:Nat):Int)) 1;rw[e1,e2];exact qq _ rfl
 ·have e:b=(s.heap.push {cls:=.type "range",data:=.fields #[.int lo t,.int hi u,.int 1 v]}).objs.size:=by simpa using hb
  subst e;exact I1.Xv (qd _) (I1.RZ.fresh (qd _))
def m_(ta:TA):TI:=λσ H R=>ta σ H λvs H1=>∃j:Int,vs=[.int j]/\ -(2^62)<=j/\j<2^62/\R (AO 0 j.toNat) H1
theorem Oh{a:Expr}{ta:TA}{p pos:Pos}(hg:Gl X "range")(hm:X.mg "range"=none)(ha:PA X [a] ta)(hs:starEach [a] X.env=[(false,eval a X.env)]:=by rfl):PI X tg (.Call (.Name "range" p) [a] [] pos) (m_ ta):=by
 intro pins s σ H R I h;refine Call_ (nD I hg hm boot_range (PyProof.Rows.callWith_type1 (aJ (ha pos pins s σ H _ I h) λus s1 ⟨vs,H1,I1,r1,q1⟩=> ?_) hs rfl));obtain⟨j,e,q1,q2,q⟩:=q1;subst e;cases r1 with
 | cons r rr=>
  cases rr
  obtain⟨t,rfl⟩:=r;exact call_range_1 (LY I1 ⋯ ⋯ q1 q2 (by simpa using q))
def oG(wi:TI)(g:TG)(tb:TS):TS:=λD σ H=>wi σ H λJ H1=>∃W:Nat->Nat->St->Hp->Prop,(∃m,W 0 m σ H1)/\∀i m σ H,W i m σ H->
 (J.stop i H/\D.nx σ H)\/(J.go i H/\∃N:St->Hp->Prop,(∀σ' H',N σ' H'->∃m',m'<m/\W (i+1) m' σ' H')/\∀x H',J.Yr i H x H'->g x σ H' λσ2 H2=>tb {D with nx:=N,ct:=N,bk:=D.nx} σ2 H2)
noncomputable def vj(fp:List Addr)(h:Heap):List (Addr×Obj):=fp.filterMap λb=>(h.get? b).map λo=>(b,o)
theorem Bw(hb:b∈fp)(e:h.get? b=⇑o):(b,o)∈vj fp h:=gx.mpr ⟨b,hb,by rw[e];rfl⟩
theorem Oi(hp:p∈vj fp h):p.1∈fp/\h.get? p.1=⇑p.2:=by
 obtain⟨b,hb,e⟩:=gx.mp hp;cases q:h.get? b with
 | none=>rw[q]at e;cases e
 | some o=>
  rw[q]at e;have e':(b,o)=p:=Option.some.inj e;subst e';exact⟨hb,q⟩
theorem Inv.pinned{σ:St}(I:Inv X pins σ H s)(hf:∀b∈fp,cR X pins H b)(ho:∀b∈fp,∃o,s.heap.get? b=⇑o/\∀v,o.data≠ .cell v):Inv X (pins++vj fp s.heap) σ H s:=
 I.WD λp hp=>(qv.mp hp).elim (λz=>I.pin p (za _ z)) λz=>by
  obtain⟨hb,e⟩:=Oi z;obtain⟨f0,f1,f2,_⟩:=hf p.1 hb;obtain⟨o,e',d⟩:=ho p.1 hb;rw[e]at e';cases e';exact⟨e,f0,f1,f2,d⟩
theorem Inv.T4{σ:St}(I:Inv X (pins++pl) σ H s):Inv X pins σ H s:=I.WD λp hp=>I.pin p (za _ (zp _ hp))
theorem y9{iter:Expr}{body:List Stmt}{wi:TI}{g:TG}{tb:TS}{pos:Pos}(hp:PassesOwn (model X.prog X.w) X.A X.env X.xe)(hc:X.calm=true)(hi:PI X tg iter wi)(hg:PG X tg g)(hb:VP X body tb)
  (hs:∀x,foldedSetIterable iter X.env x=pure x:=by intro _;rfl):PS X (.For tg iter body [] pos) (oG wi g tb):=by
 intro pins s σ H D I h;refine wpAny_For (aJ (hi pins s σ H _ I h) λv s1 h1=>aJ h1 λitv s2 h2=> ?_) hs;obtain⟨it,fp,tn,J,H2,e,I2,T,st2,f2,W,⟨m0,w0⟩,turn⟩:=h2;subst e;have V5:∀{H':Hp},(∀b∈fp,H' b=none)->∀b∈fp,cR X pins H' b:=λhn b hb=>⟨hn b hb,(f2 b hb).2⟩;refine codeAny_forLoop_any (λn s'=>∃i σ' H',Inv X pins σ' H' s'/\tn i s'.heap/\(∀b∈fp,H' b=none)/\W i n σ' H') ?_ m0 ⟨0,σ,H2,I2,st2,λb hb=>(f2 b hb).1,w0⟩;rintro n s3 ⟨i,σ3,H3,I3,Xh,fr3,w3⟩;rcases turn i n σ3 H3 w3 with⟨stop,qn⟩|⟨go,N,hN,step⟩
 ·refine wpAny_passesOwn hp (aJ (T.done X rfl rfl rfl hc i pins s3 σ3 H3 X.xe I3 (V5 fr3) Xh stop) λr s4 ⟨hr,I4⟩=> ?_)
  subst hr;exact wpAny_execs_nil ⟨σ3,H3,I4,qn⟩
 ·refine wpAny_passesOwn hp (aJ (T.item X rfl rfl rfl hc i pins s3 σ3 H3 X.xe I3 (V5 fr3) Xh go) λr s4 ⟨u,hr,h4⟩=> ?_)
  subst hr;refine wpAny_passesOwn hp (aJ h4 λ_ s5 hh=> ?_);obtain⟨x,H5,I5,r5,y5,Yv,fr5⟩:=hh;have I5':=I5.pinned (V5 fr5) (T.obj _ _ Yv);refine wpAny_passesOwn hp (aJ (hg _ s5 σ3 H5 x u _ I5' r5 (step x H5 y5)) λ_ s6 hh=> ?_);obtain⟨σ6,H6,I6,q6⟩:=hh;refine wpAny_passesOwn hp (aJ (hb _ s6 σ6 H6 _ I6 q6) λf s7 q7=> ?_);have again:∀{σ7:St} {H7:Hp},Inv X (pins++vj fp s5.heap) σ7 H7 s7->N σ7 H7->∃m,m<n/\∃i σ' H',Inv X pins σ' H' s7/\tn i s7.heap/\(∀b∈fp,H' b=none)/\W i m σ' H':=fun{σ7 H7} I7 n7=>by
   obtain⟨m',hm,w7⟩:=hN σ7 H7 n7;refine⟨m',hm,i+1,σ7,H7,I7.T4,T.keep _ _ _ Yv λb hb o e=>(I7.pin (b,o) (za _ (za _ (Bw hb e)))).1,λb hb=> ?_,w7⟩;obtain⟨o,e,d⟩:=T.obj _ _ Yv b hb;exact(I7.pin (b,o) (za _ (za _ (Bw hb e)))).2.1
  cases f with
  | next=>obtain⟨σ7,H7,I7,n7⟩:=q7;exact again I7 n7
  | cont=>obtain⟨σ7,H7,I7,n7⟩:=q7;exact again I7 n7
  | brk=>obtain⟨σ7,H7,I7,q7⟩:=q7;exact⟨σ7,H7,I7.T4,q7⟩
  | ret v=>obtain⟨x7,σ7,H7,I7,r7,q7⟩:=q7;exact⟨x7,σ7,H7,I7.T4,r7,q7⟩
end
abbrev R2:=V->V->Hp->VK->Prop
def bA(X:Cx)(f:Value->Value->Sem Value)(r:R2):Prop:=
 ∀(pins:List (Addr×Obj)) (s:Shared) (σ:St) (H:Hp) (x y:V) (v u:Value) (Q:VK),Inv X pins σ H s->RelV x v->RelV y u->r x y H Q->
  wpAny (model X.prog X.w) X.A (f v u) (EP X pins σ Q) X.xe s
def AK(X:Cx)(f:Value->Sem Value)(r:V->Hp->VK->Prop):Prop:=
 ∀(pins:List (Addr×Obj)) (s:Shared) (σ:St) (H:Hp) (x:V) (v:Value) (Q:VK),Inv X pins σ H s->RelV x v->r x H Q->
  wpAny (model X.prog X.w) X.A (f v) (EP X pins σ Q) X.xe s
def S3(X:Cx)(f:Value)(r:List V->Hp->VK->Prop):Prop:=
 ∀(pins:List (Addr×Obj)) (s:Shared) (σ:St) (H:Hp) (xs:List V) (us:List Value) (Q:VK),Inv X pins σ H s->Vals xs us->r xs H Q->
  wpAny (model X.prog X.w) X.A (call f us) (EP X pins σ Q) X.xe s
def Ey(X:Cx)(r:V->Hp->(Bool->Hp->Prop)->Prop):Prop:=
 ∀(pins:List (Addr×Obj)) (s:Shared) (σ:St) (H:Hp) (x:V) (v:Value) (Q:Bool->Hp->Prop),Inv X pins σ H s->RelV x v->r x H Q->
  wpAny (model X.prog X.w) X.A (truthy v) (TP X pins σ Q) X.xe s
noncomputable def oa(r:R2)(ta tb:TE):TE:=λσ H Q=>ta σ H λx H1=>tb σ H1 λy H2=>r x y H2 Q
noncomputable def JE(r:V->Hp->VK->Prop)(ta:TE):TE:=λσ H Q=>ta σ H λx H1=>r x H1 Q
noncomputable def rI(C:Int->Int->Prop)(g:Int->Int->V):R2:=λx y H Q=>∃i j,x=.int i/\y=.int j/\C i j/\Q (g i j) H
noncomputable def dc(g:Int->Int->V):R2:=λx y H Q=>∃i j,x=.int i/\y=.int j/\Q (g i j) H
def rU(g:Int->V):V->Hp->VK->Prop:=λx H Q=>∃i,x=.int i/\Q (g i) H
section
variable {X : Cx} {a b c : Expr} {ta tb tc : TE} {pos : Pos}
theorem qL(ha:PE X a ta)(hb:PE X b tb){σ:St}{R:V->V->Hp->Prop}(I:Inv X pins σ H s)
  (h:ta σ H λx H1=>tb σ H1 λy H2=>R x y H2) {Q:Value->Shared->Prop} {f:Value->Value->Sem Value}
  (hf:∀v u s2 x y H2,Inv X pins σ H2 s2->RelV x v->RelV y u->R x y H2->wpAny (model X.prog X.w) X.A (f v u) Q X.xe s2):
  wpAny (model X.prog X.w) X.A (eval a X.env) (λv s₁=>wpAny (model X.prog X.w) X.A (eval b X.env) (λu s₂=>wpAny (model X.prog X.w) X.A (f v u) Q X.xe s₂) X.xe s₁) X.xe s:=by
 refine aJ (ha pins s σ H _ I h) λv s1 hh=> ?_;obtain⟨x,H1,I1,r1,q1⟩:=hh;refine aJ (hb pins s1 σ H1 _ I1 q1) λu s2 hh=> ?_;obtain⟨y,H2,I2,r2,q2⟩:=hh;exact hf v u s2 x y H2 I2 r1 r2 q2
theorem Am(ho:bA X (binaryOp op) r)(ha:PE X a ta)(hb:PE X b tb):PE X (.BinOp a op b pos) (oa r ta tb):=by
 intro pins s σ H Q I h;exact wpAny_BinOp (qL ha hb I h λv u s2 x y H2 I2 rx ry q=>ho pins s2 σ H2 x y v u Q I2 rx ry q)
theorem yu{r:V->Hp->VK->Prop}(ho:AK X (unaryOp op) r)(ha:PE X a ta):PE X (.UnaryOp op a pos) (JE r ta):=by
 intro pins s σ H Q I h;exact UnaryOp_ (aJ (ha pins s σ H _ I h) λv s1 ⟨x,H1,I1,r1,q1⟩=>ho pins s1 σ H1 x v Q I1 r1 q1)
theorem BA{f:Value->Value->Sem Value}{C:Int->Int->Prop}{g:Int->Int->Int}
  (rule:∀(i j:Int) (t u:Tok) (s:Shared) (Q:Value->Shared->Prop) (E:Value->Shared->Prop),C i j->Q (.int (g i j) s.toks) {s with toks:=s.toks+1}->wpAny (model X.prog X.w) X.A (f (.int i t) (.int j u)) Q E s):
  bA X f (rI C λi j=>.int (g i j)):=by
 intro pins s σ H x y v u Q I rx ry h;obtain⟨i,j,rfl,rfl,hc,q⟩:=h;obtain⟨t,rfl⟩:=rx;obtain⟨t',rfl⟩:=ry;exact rule i j t t' s _ _ hc ⟨.int (g i j),H,I.tok _,⟨_,rfl⟩,q⟩
theorem ig{f:Value->Value->Sem Value}{g:Int->Int->Int}
  (rule:∀(i j:Int) (t u:Tok) (s:Shared) (Q:Value->Shared->Prop) (E:Value->Shared->Prop),Q (.int (g i j) s.toks) {s with toks:=s.toks+1}->wpAny (model X.prog X.w) X.A (f (.int i t) (.int j u)) Q E s):
  bA X f (dc λi j=>.int (g i j)):=by
 intro pins s σ H x y v u Q I rx ry h;obtain⟨i,j,rfl,rfl,q⟩:=h;obtain⟨t,rfl⟩:=rx;obtain⟨t',rfl⟩:=ry;exact rule i j t t' s _ _ ⟨.int (g i j),H,I.tok _,⟨_,rfl⟩,q⟩
theorem jv{f:Value->Value->Sem Value}{g:Int->Int->Bool}
  (rule:∀(i j:Int) (t u:Tok) (s:Shared) (Q:Value->Shared->Prop) (E:Value->Shared->Prop),Q (.bool (g i j)) s->wpAny (model X.prog X.w) X.A (f (.int i t) (.int j u)) Q E s):
  bA X f (dc λi j=>.bl (g i j)):=by
 intro pins s σ H x y v u Q I rx ry h;obtain⟨i,j,rfl,rfl,q⟩:=h;obtain⟨t,rfl⟩:=rx;obtain⟨t',rfl⟩:=ry;exact rule i j t t' s _ _ ⟨.bl (g i j),H,I,rfl,q⟩
def vM(i j:Int):Prop:=0<j/\j<1073741824
def jI(i j:Int):Prop:=0<=j/\j<=1000000/\i.natAbs<2^64
theorem PC(k:Nat):(0:Int)<=2^k:=by
 rw[two_pow_cast];exact Int.natCast_nonneg _
theorem qE:bA X (binaryOp .Add) (dc λi j=>.int (i+j)):=ig λ_ _ _ _ _ _ _ q=>add_int q
theorem n_:bA X (binaryOp .Sub) (dc λi j=>.int (i - j)):=ig λ_ _ _ _ _ _ _ q=>sub_int q
theorem O9:bA X (binaryOp .FloorDiv) (rI vM λi j=>.int (i / j)):=BA λi j _ _ _ _ _ hc q=>by
 have h1:(0:Int)<j:=hc.1;have h2:j<1073741824:=hc.2;exact floordiv_int ⋯ (by rw[Int.fdiv_eq_ediv_of_nonneg i ⋯];exact q) (.inl (PyProof.noPylong_small ⋯))
theorem qJ:bA X (binaryOp .Mod) (rI (λ_ j=>0<j) λi j=>.int (i % j)):=BA λi j _ _ _ _ _ hc q=>by
 have h1:(0:Int)<j:=hc;exact mod_int' ⋯ (by rw[Int.fmod_eq_emod_of_nonneg i ⋯];exact q)
theorem qV:bA X (binaryOp .LShift) (rI jI λi j=>.int (i*2^j.toNat)):=BA λ_ _ _ _ _ _ _ hc q=>lshift_int_small hc.1 hc.2.1 hc.2.2 q
theorem pe:bA X (binaryOp .RShift) (rI (λ_ j=>0<=j) λi j=>.int (i / 2^j.toNat)):=BA λi j _ _ _ _ _ hc q=>
 rshift_int hc (by rw[Int.fdiv_eq_ediv_of_nonneg i (PC _)];exact q)
theorem qM:bA X (binaryOp .BitAnd) (dc λi j=>.int (Builtin.bitAnd i j)):=ig λ_ _ _ _ _ _ _ q=>and_int q
theorem l8:bA X (binaryOp .BitOr) (dc λi j=>.int (Builtin.bitOr i j)):=ig λ_ _ _ _ _ _ _ q=>or_int q
theorem oh:bA X (binaryOp .BitXor) (dc λi j=>.int (Builtin.bitXor i j)):=ig λ_ _ _ _ _ _ _ q=>xor_int q
theorem Ji{f:Value->Sem Value}{g:Int->Int}
  (rule:∀(i:Int) (t:Tok) (s:Shared) (Q:Value->Shared->Prop) (E:Value->Shared->Prop),Q (.int (g i) s.toks) {s with toks:=s.toks+1}->wpAny (model X.prog X.w) X.A (f (.int i t)) Q E s):
  AK X f (rU λi=>.int (g i)):=by
 intro pins s σ H x v Q I rx h;obtain⟨i,rfl,q⟩:=h;obtain⟨t,rfl⟩:=rx;exact rule i t s _ _ ⟨.int (g i),H,I.tok _,⟨_,rfl⟩,q⟩
theorem oB:AK X (unaryOp .USub) (rU λi=>.int (-i)):=Ji λ_ _ _ _ _ q=>neg_int q
theorem qG:AK X (unaryOp .Invert) (rU λi=>.int (Builtin.bitNot i)):=Ji λ_ _ _ _ _ q=>invert_int q
end
noncomputable def gX:V->V->Bool
 | .RY,.RY=>true|.RY,.int _=>true|.int _,.RY=>true|.RY,.bl _=>true|.bl _,.RY=>true|.RY,.str _=>true|.str _,.RY=>true
 | .int _,.int _=>true|.bl _,.bl _=>true|.str _,.str _=>true|.WK _,.WK _=>true
 | .int _,.str _=>true|.str _,.int _=>true|.bl _,.str _=>true|.str _,.bl _=>true
 | _,_=>false
def N8:R2:=λx y H Q=>gX x y=true/\Q (.bl (decide (x=y))) H
def Ot:R2:=λx y H Q=>gX x y=true/\Q (.bl (!decide (x=y))) H
theorem G9:decide (V.int i=V.int j)=(i==j):=by
 rw[kg];simp
theorem CD:decide (V.bl i=V.bl j)=(i==j):=by
 rw[kg];simp
theorem JK:decide (V.str i=V.str j)=(i==j):=by
 rw[kg];simp
theorem JL:decide (V.WK i=V.WK j)=(i.toList==j.toList):=by
 rw[kg];cases i;cases j;simp
section
variable {X : Cx} {a b c : Expr} {ta tb tc : TE} {pos : Pos}
theorem bS{σ:St}(I:Inv X pins σ H s)(q:Q (.bl k) H)(e:k=k'):EP X pins σ Q (.bool k') s:=by
 subst e;exact⟨.bl k,H,I,rfl,q⟩
theorem tU:bA X (compareOp .Eq) N8:=by
 intro pins s σ H x y v u Q I rx ry h;obtain⟨hs,q⟩:=h;cases x with
 | RY=>
  cases rx
  cases y with
  | RY=>cases ry;exact PySem.EqNone.eq_none_none (bS I q (by simp))
  | bl j=>cases ry;exact PySem.EqNone.eq_none_bool (bS I q (by simp))
  | int j=>obtain⟨t',rfl⟩:=ry;exact PySem.EqNone.eq_none_int (bS I q (by simp))
  | str j=>obtain⟨t',rfl⟩:=ry;exact PySem.EqNone.eq_none_str (bS I q (by simp))
  | _=>exact absurd (show false=true from hs) qx
 | bl i=>
  cases rx
  cases y with
  | RY=>cases ry;exact PySem.EqNone.eq_bool_none (bS I q (by simp))
  | bl j=>cases ry;exact eq_bool (bS I q CD)
  | str j=>obtain⟨t',rfl⟩:=ry;exact PySem.EqMixed.eq_bool_str (bS I q (by simp))
  | _=>exact absurd (show false=true from hs) qx
 | int i=>
  obtain⟨t,rfl⟩:=rx;cases y with
  | RY=>cases ry;exact PySem.EqNone.eq_int_none (bS I q (by simp))
  | int j=>obtain⟨t',rfl⟩:=ry;exact eq_int (bS I q G9)
  | str j=>obtain⟨t',rfl⟩:=ry;exact PySem.EqMixed.eq_int_str (bS I q (by simp))
  | _=>exact absurd (show false=true from hs) qx
 | str i=>
  obtain⟨t,rfl⟩:=rx;cases y with
  | RY=>cases ry;exact PySem.EqNone.eq_str_none (bS I q (by simp))
  | bl j=>cases ry;exact PySem.EqMixed.eq_str_bool (bS I q (by simp))
  | int j=>obtain⟨t',rfl⟩:=ry;exact PySem.EqMixed.eq_str_int (bS I q (by simp))
  | str j=>obtain⟨t',rfl⟩:=ry;exact eq_str (bS I q JK)
  | _=>exact absurd (show false=true from hs) qx
 | WK i=>
  obtain⟨t,rfl⟩:=rx;cases y with
  | WK j=>obtain⟨t',rfl⟩:=ry;exact W.eq_bytes (bS I q JL)
  | _=>exact absurd (show false=true from hs) qx
 | _=>cases y<;>exact absurd (show false=true from hs) qx
theorem xD:bA X (compareOp .NotEq) Ot:=by
 intro pins s σ H x y v u Q I rx ry h;obtain⟨hs,q⟩:=h;cases x with
 | RY=>
  cases rx
  cases y with
  | RY=>cases ry;exact PySem.EqNone.ne_none_none (bS I q (by simp))
  | bl j=>cases ry;exact PySem.EqNone.ne_none_bool (bS I q (by simp))
  | int j=>obtain⟨t',rfl⟩:=ry;exact PySem.EqNone.ne_none_int (bS I q (by simp))
  | str j=>obtain⟨t',rfl⟩:=ry;exact PySem.EqNone.ne_none_str (bS I q (by simp))
  | _=>exact absurd (show false=true from hs) qx
 | bl i=>
  cases rx
  cases y with
  | RY=>cases ry;exact PySem.EqNone.ne_bool_none (bS I q (by simp))
  | bl j=>cases ry;exact ne_bool (bS I q (congrArg not CD))
  | str j=>obtain⟨t',rfl⟩:=ry;exact PySem.EqMixed.ne_bool_str (bS I q (by simp))
  | _=>exact absurd (show false=true from hs) qx
 | int i=>
  obtain⟨t,rfl⟩:=rx;cases y with
  | RY=>cases ry;exact PySem.EqNone.ne_int_none (bS I q (by simp))
  | int j=>obtain⟨t',rfl⟩:=ry;exact ne_int (bS I q (congrArg not G9))
  | str j=>obtain⟨t',rfl⟩:=ry;exact PySem.EqMixed.ne_int_str (bS I q (by simp))
  | _=>exact absurd (show false=true from hs) qx
 | str i=>
  obtain⟨t,rfl⟩:=rx;cases y with
  | RY=>cases ry;exact PySem.EqNone.ne_str_none (bS I q (by simp))
  | bl j=>cases ry;exact PySem.EqMixed.ne_str_bool (bS I q (by simp))
  | int j=>obtain⟨t',rfl⟩:=ry;exact PySem.EqMixed.ne_str_int (bS I q (by simp))
  | str j=>obtain⟨t',rfl⟩:=ry;exact ne_str (bS I q (congrArg not JK))
  | _=>exact absurd (show false=true from hs) qx
 | WK i=>
  obtain⟨t,rfl⟩:=rx;cases y with
  | WK j=>obtain⟨t',rfl⟩:=ry;exact W.ne_bytes (bS I q (congrArg not JL))
  | _=>exact absurd (show false=true from hs) qx
 | _=>cases y<;>exact absurd (show false=true from hs) qx
theorem yV:bA X (compareOp .Lt) (dc λi j=>.bl (decide (i<j))):=jv λ_ _ _ _ _ _ _ q=>lt_int q
theorem vh:bA X (compareOp .LtE) (dc λi j=>.bl (decide (i<=j))):=jv λ_ _ _ _ _ _ _ q=>le_int q
theorem zK:bA X (compareOp .Gt) (dc λi j=>.bl (decide (j<i))):=jv λ_ _ _ _ _ _ _ q=>gt_int q
theorem wC:bA X (compareOp .GtE) (dc λi j=>.bl (decide (j<=i))):=jv λ_ _ _ _ _ _ _ q=>ge_int q
theorem Oe:bA X (compareOp .In) (λx y H Q=>∃i j,x=.str i/\y=.str j/\Q (.bl (!(Builtin.Str.occurrences j i 0 j.length 1).isEmpty)) H):=by
 intro pins s σ H x y v u Q I rx ry h;obtain⟨i,j,rfl,rfl,q⟩:=h;obtain⟨t,rfl⟩:=rx;obtain⟨t',rfl⟩:=ry;exact in_str (bS I q rfl)
theorem nI:bA X (compareOp .Is) (λx y H Q=>y=.RY/\Q (.bl (decide (x=.RY))) H):=by
  intro pins s σ H x y v u Q I rx ry h;obtain⟨rfl,q⟩:=h;cases ry;refine is_none_gen (bS I q ?_);cases x<;>first
    | (cases rx;rfl)
    | (obtain⟨t,rfl⟩:=rx;rfl)
theorem Pe:bA X (compareOp .IsNot) (λx y H Q=>y=.RY/\Q (.bl (!decide (x=.RY))) H):=by
  intro pins s σ H x y v u Q I rx ry h;obtain⟨rfl,q⟩:=h;cases ry;refine isnot_none_gen (bS I q ?_);cases x<;>first
    | (cases rx;rfl)
    | (obtain⟨t,rfl⟩:=rx;rfl)
theorem Bu(b:Expr){op:CmpOp}(h:op≠ .In:=by decide)(h2:op≠ .NotIn:=by decide):behindInMarks op b=false:=by
 have e1:(op==CmpOp.In)=false:=by cases op<;>first|rfl|exact absurd rfl h
 have e2:(op==CmpOp.NotIn)=false:=by cases op<;>first|rfl|exact absurd rfl h2
 cases b<;>simp[behindInMarks,e1,e2]
theorem Pw(ho:bA X (compareOp op) r)(ha:PE X a ta)(hb:PE X b tb)(hm:behindInMarks op b=false):PE X (.Compare a [op] [b] pos) (oa r ta tb):=by
 intro pins s σ H Q I h;exact wpAny_Compare1 (qL ha hb I h λv u s2 x y H2 I2 rx ry q=>ho pins s2 σ H2 x y v u Q I2 rx ry q) hm
noncomputable def ER(t:TE):TT:=λσ H Q=>t σ H λx H'=>∃k,x=.bl k/\Q k H'
theorem yT(ho:bA X (compareOp op) r)(ha:PE X a ta)(hb:PE X b tb)(hm:behindInMarks op b=false):PT X (.Compare a [op] [b] pos) (ER (oa r ta tb)):=by
 intro pins s σ H Q I h;refine wpAny_isTrue_Compare1 (aJ (ha pins s σ H _ I h) λv s1 ⟨x,H1,I1,r1,q1⟩=>aJ (hb pins s1 σ H1 _ I1 q1) λu s2 ⟨y,H2,I2,r2,q2⟩=>
  aJ (ho pins s2 σ H2 x y v u _ I2 r1 r2 q2) λc s3 ⟨z,H3,I3,r3,k,e,q3⟩=> ?_) hm
 subst e;cases r3;exact wpAny_truthy_bool ⟨H3,I3,q3⟩
noncomputable def Iy(r r':R2)(ta tb tc:TE):TE:=λσ H Q=>ta σ H λx H1=>tb σ H1 λy H2=>r x y H2 λz H3=>∃k,z=.bl k/\
 (if k=true then tc σ H3 λw' H4=>r' y w' H4 Q else Q (.bl false) H3)
theorem Ng{op op':CmpOp}{r r':R2}(ho:bA X (compareOp op) r)(Vu:bA X (compareOp op') r')(ha:PE X a ta)(hb:PE X b tb)(hc:PE X c tc)
  (hm:lastMarks [op,op'] [b,c]=false:=by with_unfolding_all rfl):PT X (.Compare a [op,op'] [b,c] pos) (ER (Iy r r' ta tb tc)):=by
 intro pins s σ H Q I h;refine isTrue_chain (aJ (ha pins s σ H _ I h) λv s1 ⟨x,H1,I1,r1,q1⟩=>test_link (aJ (hb pins s1 σ H1 _ I1 q1) λu s2 ⟨y,H2,I2,r2,q2⟩=>
  aJ (ho pins s2 σ H2 x y v u _ I2 r1 r2 q2) λd s3 ⟨z,H3,I3,r3,k,e,q3⟩=> ?_)) hm
 subst e;cases r3;refine wpAny_truthy_bool ?_;cases k with
 | false=>
  obtain⟨k',e',q'⟩:=q3;cases e';exact ite_ff ⟨H3,I3,q'⟩
 | true=>
  refine ite_tt (test_last (aJ (hc pins s3 σ H3 _ I3 q3) λw' s4 ⟨z',H4,I4,r4,q4⟩=>aJ (Vu pins s4 σ H4 y z' u w' _ I4 r2 r4 q4) λd' s5 hh=> ?_));obtain⟨z2,H5,I5,r5,k2,e2,q5⟩:=hh;subst e2;cases r5;exact wpAny_truthy_bool ⟨H5,I5,q5⟩
def dB(K:W.Frag)(x:V)(H:Hp)(k:Bool):Prop:=
 match x with
 | .RY=>k=false
 | .bl b=>k=b
 | .int i=>k=(i !=0)
 | .str y=>y.length<=sizeLine/\k=((y.length:Int)!=0)
 | .WK y=>y.size<=sizeLine/\k=((y.size:Int)!=0)
 | .ref p=>(∃xs,R8 K H p xs/\k= !xs.isEmpty)\/(∃xs,S7 K H p xs/\k= !xs.isEmpty)\/∃kvs,H p=⇑(.dK kvs)/\k= !kvs.isEmpty
 | _=>False
theorem OE{κ:Type}{kvs:List (κ×V)}{vs:List (κ×Value)}(r:KV kvs vs):(!vs.isEmpty)= !kvs.isEmpty:=by
 cases r<;>rfl
theorem JG(r:Vals xs RX):(!RX.toArray.isEmpty)= !xs.isEmpty:=by
 cases r<;>simp
theorem sT:(sizeLine:Nat)<2^63:=by rw[sizeLine_eq];decide
theorem K2:Ey X (λx H Q=>∃k,dB X.K x H k/\Q k H):=by
 intro pins s σ H x v Q I rx h;obtain⟨k,e,q⟩:=h;have hl:=sT;have hs:sizeLine=16777216:=sizeLine_eq;cases x with
 | RY=>
  cases rx
  have e':k=false:=e;subst e';exact truthy_none ⟨H,I,q⟩
 | bl b=>
  cases rx
  have e':k=b:=e;subst e';exact wpAny_truthy_bool ⟨H,I,q⟩
 | int i=>
  obtain⟨t,rfl⟩:=rx;have e':k=(i !=0):=e;subst e';exact PySem.P.truthy_int ⟨H,I,q⟩
 | str y=>
  obtain⟨t,rfl⟩:=rx;obtain⟨hy,e'⟩:y.length<=sizeLine/\k=((y.length:Int)!=0):=e;subst e';exact PySem.P.truthy_str ⋯ ⟨H,I.tok _,q⟩
 | WK y=>
  obtain⟨t,rfl⟩:=rx;obtain⟨hy,e'⟩:y.size<=sizeLine/\k=((y.size:Int)!=0):=e;subst e';exact W.truthy_bytes ⋯ ⟨H,I.tok _,q⟩
 | ref p=>
  cases rx
  have e':(∃xs,R8 X.K H p xs/\k= !xs.isEmpty)\/(∃xs,S7 X.K H p xs/\k= !xs.isEmpty)\/∃kvs,H p=⇑(.dK kvs)/\k= !kvs.isEmpty:=e;rcases e' with⟨xs,hx,e'⟩|⟨xs,hx,e'⟩|⟨kvs,hx,e'⟩
  ·subst e'
   obtain⟨RX,r,pl,hz⟩:=I.list hx;have hlen:=r.length;exact wpAny_truthy_list pl.isList (by simp only[ql];lia) ⟨H,I.tok _,by rw[JG r];exact q⟩
  ·subst e'
   obtain⟨RX,r,pl,hz⟩:=I.tuple hx;have hlen:=r.length;exact truthy_tuple pl (by simp only[ql];lia) ⟨H,I.tok _,by rw[JG r];exact q⟩
  ·subst e'
   obtain⟨hz,hS,vs,r,m⟩:kvs.length<=sizeLine/\(p==sysModules)=false/\∃vs,KV kvs vs/\s.heap.DictOf (cV X.prog X.w) p vs:=I.RZ p _ hx;have hlen:kvs.length=vs.length:=Paired.length r;exact wpAny_truthy_dict hS m ⋯ ⟨H,I.tok _,by rw[OE r];exact q⟩
 | _=>exact(show False from e).elim
theorem QJ(ha:PE X a ta)(he:∀whole,isTrue a X.env whole=(do let v<-whole;standAt a.pos;holding [v] (truthy v))):
  PT X a (λσ H Q=>ta σ H λx H'=>∃k,dB X.K x H' k/\Q k H'):=by
 intro pins s σ H Q I h;exact isTrue_plain (aJ (ha pins s σ H _ I h) λv s1 ⟨x,H1,I1,r1,q1⟩=>K2 pins s1 σ H1 x v Q I1 r1 q1) (he _)
theorem O8:bA X (binaryOp .Add) (λx y H Q=>∃i j,x=.str i/\y=.str j/\i.length+j.length<=sizeLine/\Q (.str (i++j)) H):=by
 intro pins s σ H x y v u Q I rx ry h;obtain⟨i,j,rfl,rfl,hz,q⟩:=h;obtain⟨t,rfl⟩:=rx;obtain⟨t',rfl⟩:=ry;exact add_str (λt' tk=>⟨.str (i++j),H,I.tok _,⟨_,rfl⟩,q⟩) hz
theorem eR(r:Vals [x] us):∃u,us=[u]/\RelV x u:=by
 cases r with
 | cons r1 r2=>cases r2;exact⟨_,rfl,r1⟩
theorem ly(r:Vals [x,y] us):∃u w',us=[u,w']/\RelV x u/\RelV y w':=by
 cases r with
 | cons r1 r2=>
  cases r2 with
  | cons r3 r4=>cases r4;exact⟨_,_,rfl,r1,r3⟩
theorem Rc(hc:X.calm=true):S3 X (.builtin "max") (λxs H Q=>∃i j,xs=[.int i,.int j]/\Q (.int (if j>i then j else i)) H):=by
 intro pins s σ H xs us Q I r h;obtain⟨i,j,rfl,q⟩:=h;obtain⟨u,w',rfl,⟨t,rfl⟩,⟨t',rfl⟩⟩:=ly r;refine max_two_ints (I.ok.hd hc) λh' tk k=>⟨_,H,I.kept k,?_,q⟩;by_cases hj:j>i
 ·rw[if_pos hj,if_pos hj];exact⟨_,rfl⟩
 ·rw[if_neg hj,if_neg hj];exact⟨_,rfl⟩
theorem Ou:S3 X (.type "int") (λxs H Q=>(∃i,xs=[.int i]/\Q (.int i) H)\/∃k,xs=[.bl k]/\Q (.int (if k then 1 else 0)) H):=by
 intro pins s σ H xs us Q I r h;rcases h with⟨i,rfl,q⟩|⟨k,rfl,q⟩
 ·obtain⟨u,rfl,t,rfl⟩:=eR r
  exact call_int_int ⟨.int i,H,I,⟨_,rfl⟩,q⟩
 ·obtain⟨u,rfl,r1⟩:=eR r
  cases r1
  exact call_int_bool ⟨.int (if k then 1 else 0),H,I.tok _,⟨_,rfl⟩,q⟩
theorem LR:S3 X (.type "str") (λxs H Q=>∃i,xs=[.int i]/\i.natAbs.log2<1920/\Q (.str (toString i)) H):=by
 intro pins s σ H xs us Q I r h;obtain⟨i,rfl,hz,q⟩:=h;obtain⟨u,rfl,t,rfl⟩:=eR r;exact PySem.P.str_of_int hz ⟨.str _,H,I.tok _,⟨_,rfl⟩,q⟩
end
structure Wy (h:Heap) (x dx C:Addr) (mA:Str->Option Value):Prop where
 obj:h.get? x=⇑(W.instObj C dx)
 ns:h.Ns1 dx mA
 ne:dx≠x
theorem Mo{h:Heap}{mA:Str->Option Value}(n:h.Ns1 dx mA):∃od,h.get? dx=⇑od/\∀name,W.lookIn name od=⇑(mA name):=by
 obtain⟨o,es,ep,ho,hd,hk,_,hm⟩:=n;refine⟨o,ho,λname=> ?_⟩;have e:=hm name;unfold nsFind findBy at e;rw[<-Array.find?_toList]at e;unfold W.lookIn;rw[hd];dsimp only;split
 ·rename_i y q
  rw[q]at e;exact congrArg some e
 ·rename_i q
  rw[q]at e;have a:es.toList.any (·.refKey)=false:=by
   rw[List.any_eq_false];intro y hy;obtain⟨z,t,WT⟩:=hk y (Array.mem_toList_iff.mp hy);simp[DictEntry.refKey,WT]
  have a':¬es.toList.any (·.refKey)=true:=by rw[a];exact qx
  rw[if_neg a'];exact congrArg some e
theorem Wy.look{mA:Str->Option Value}(I:Wy h x dx C mA):∃od,W.InstAt h x (W.instObj C dx) C ⇑od/\∀name,W.lookIn name od=⇑(mA name):=
 let ⟨od,ho,hl⟩:=Mo I.ns
 ⟨od,⟨I.obj,rfl,rfl,ho⟩,hl⟩
section
variable {prog : Program} {w : World} {A : Around} {E : Value -> Shared -> Prop} {s : Shared} {K : W.Frag} {x dx C f : Addr} {mA : Str -> Option Value} {name : Str} {v : Value}
theorem NN{Q:Value->Shared->Prop}(X:K.In s.heap)(I:Wy s.heap x dx C mA)(hg:W.plainGet K C name=true)(hh:W.hasDictIn K C=true)
  (ha:W.findIn K (.ref C) name=⇑none) (hv:mA name=⇑v) (hv':W.handedIn v=true) (h:Q v {s with toks:=s.toks+1}):
  wpAny (model prog w) A (getAttr (.ref x) name expr) Q E s:=by
 obtain⟨od,J,hl⟩:=I.look;exact W.get_value X J (W.plainGet_of hg).1 (W.findObj_own hh ha rfl (by rw[hl,hv])) hv' h
theorem Ra{Q:Value×List Value->Shared->Prop}(X:K.In s.heap)(I:Wy s.heap x dx C mA)(hg:W.plainGet K C name=true)
  (hf:W.findIn K (.ref C) name=⇑⇑(.ref f)) (ht:W.isFn K (.ref f)=true) (hv:mA name=none) (h:Q (.ref f,[.ref x]) s):
  wpAny (model prog w) A (getMethod (.ref x) name pl) Q E s:=by
 obtain⟨od,J,hl⟩:=I.look;exact W.method_fn X J (W.plainGet_of hg).1 (W.plainGet_of hg).2 hf (beq_iff_eq.mp ht) (by show(W.lookIn name od).map (·.isSome)=⇑false;rw[hl,hv];rfl) h
theorem Ms{Q:Unit->Shared->Prop}(X:K.In s.heap)(I:Wy s.heap x dx C mA)
  (hs:W.findIn K (.ref C) "__setattr__"=⇑⇑(.builtin "object.__setattr__")) (hp:W.plainOver K C=true) (ht:W.takerIn K C name=⇑none) (hh:W.hasDictIn K C=true)
  (hw:PySem.Within mA ns) (hsz:ns.length<=sizeLine)
  (h:∀h',Wy h' x dx C (λy=>if y=name then some v else mA y)->Heap.SameBut dx s.heap h'->Q () {s with heap:=h',toks:=s.toks+2}):
  wpAny (model prog w) A (setAttr (.ref x) name v) Q E s:=by
 obtain⟨od,J,hl⟩:=I.look;refine W.set_plain X J hs (W.osa_open (s:={s with toks:=s.toks+1}) (r:=none) X J hp ht λb=> ?_);obtain⟨cd,hc,hd'⟩:=W.any_some hh;have hx:s.heap.get? x=⇑⟨.ref C,⇑dx,.plain,#[]⟩:=I.obj;refine wpAny_bind (wpAny_pure (wpAny_bind (wpAny_bind (wpAny_loadPart hx (wpAny_bind (W.Looks.here (s:={s with toks:=s.toks+1}) (W.looks_clsIn X hc) ?_))))));rw[hd'];refine wpAny_pure (a:=⇑dx) (wpAny_bind (wpAny_pure (wpAny_bind ?_)));refine wpAny_nsSet1 (s:={s with toks:=s.toks+1}) I.ns λh' Xb XT=> ?_;obtain⟨oD,esD,epD,hoD,hdD,hcD⟩:=Xb.count (PySem.Within.cons name v hw);refine wpAny_bind (wpAny_lookBehind hoD (by rw[hdD];exact pastItsLine_dict (zi hcD (by rw[qw];lia))) ?_);exact wpAny_pure (h _ ⟨(XT.2 _ (Ne.symm I.ne)).trans I.obj,Xb,I.ne⟩ XT)
theorem QC{R:Result->Shared->Prop}(X:K.In s.heap)(hm:W.makesIn K C=true)
    (hi:W.findIn K (.ref C) "__init__"=⇑⇑(.ref f)) (hf:W.typeIn K (.ref f)=⇑(.type "function"))
    (h:codeAny (model prog w) (A.under (.builtin "type.__call__" ⟨.ref C::vs,kw⟩)) (.call (.ref f) ⟨.ref (s.heap.objs.size+1)::vs,kw⟩) (W.InitBack (s.heap.objs.size+1) R)
      {s with heap:=(s.heap.push W.emptyDict).push (W.instObj C s.heap.objs.size)}):
    codeAny (model prog w) A (.call (.ref C) ⟨vs,kw⟩) R s:=by
  obtain⟨hh,g,d,t,os⟩:=s;exact W.make_core (W.makes_of X hm) (W.looks_findIn X hi) (λself=>W.bind_fn X self hf) (.inl rfl) h
end
noncomputable def aI(f:Str)(v:V):List (Str×V)->List (Str×V)
  | []=>[(f,v)]
  | (g,x)::r=>if g=f then(g,v)::r else(g,x)::aI f v r
theorem IY(f g:Str)(v:V):∀fs:List (Str×V),(aI f v fs).lookup g=if g=f then some v else fs.lookup g
  | []=>by
    show List.lookup g [(f,v)]=_;by_cases h:g=f
    · have hb:(g==f)=true:=beq_iff_eq.mpr h
      simp only[List.lookup,hb,if_pos h]
    · have hb:(g==f)=false:=beq_eq_false_iff_ne.mpr h
      simp only[List.lookup,hb,if_neg h]
  | (k,x)::r=>by
    have ih:=IY f g v r;rw[show aI f v ((k,x)::r)=(if k=f then(k,v)::r else(k,x)::aI f v r)from rfl];by_cases hk:k=f
    · rw[if_pos hk]
      by_cases h:g=k
      · have hb:(g==k)=true:=beq_iff_eq.mpr h
        simp only[List.lookup,hb,if_pos (h.trans hk)]
      · have hb:(g==k)=false:=beq_eq_false_iff_ne.mpr h
        simp only[List.lookup,hb,if_neg (λe:g=f=>h (e.trans hk.symm))]
    · rw[if_neg hk]
      by_cases h:g=k
      · have hb:(g==k)=true:=beq_iff_eq.mpr h
        simp only[List.lookup,hb,if_neg (λe:g=f=>hk (h.symm.trans e))]
      · have hb:(g==k)=false:=beq_eq_false_iff_ne.mpr h
        simp only[List.lookup,hb];exact ih
theorem Gr(f:Str)(v:V):∀fs:List (Str×V),f∈(aI f v fs).map (·.1)/\∀g,g∈fs.map (·.1)->g∈(aI f v fs).map (·.1)
  | []=>⟨by simp[aI],λg h=>by simp at h⟩
  | (k,x)::r=>by
    obtain⟨i1,i2⟩:=Gr f v r;rw[show aI f v ((k,x)::r)=(if k=f then(k,v)::r else(k,x)::aI f v r)from rfl];by_cases hk:k=f
    · rw[if_pos hk]
      subst hk;exact⟨by simp,λg h=>by simpa using h⟩
    · rw[if_neg hk]
      refine⟨?_,λg h=> ?_⟩
      · rw[List.map_cons]
        exact q8 _ i1
      · rw[List.map_cons]at h ⊢
        rcases qg.mp h with e|e
        · exact qg.mpr (.inl e)
        · exact q8 _ (i2 g e)
theorem Jk(f:Str)(v:V):∀fs:List (Str×V),(aI f v fs).length<=fs.length+1
  | []=>by simp[aI]
  | (k,x)::r=>by
    have ih:=Jk f v r;rw[show aI f v ((k,x)::r)=(if k=f then(k,v)::r else(k,x)::aI f v r)from rfl];by_cases hk:k=f
    · rw[if_pos hk,qw,qw];lia
    · rw[if_neg hk,qw,qw];lia
theorem To.some_of(r:To ⇑v o):∃u,o=⇑u/\RelV v u:=by
 cases o with
 | none=>exact(show False from r).elim
 | some u=>exact⟨u,rfl,r⟩
theorem To.none_of(r:To none o):o=none:=by
 cases o with
 | none=>rfl
 | some u=>exact(show False from r).elim
theorem Mw(r:RelV v u):W.handedIn u=true:=by
 cases v with
 | RY=>cases(show u=Value.none from r);rfl
 | bl b=>cases(show u=Value.bool b from r);rfl
 | int i=>obtain⟨t,e⟩:=(show ∃t,u=Value.int i t from r);cases e;rfl
 | str x=>obtain⟨t,e⟩:=(show ∃t,u=Value.str x t from r);cases e;rfl
 | WK b=>obtain⟨t,e⟩:=(show ∃t,u=Value.bytes b t from r);cases e;rfl
 | YV b=>obtain⟨t,e⟩:=(show ∃t,u=Value.float b t from r);cases e;rfl
 | ref a=>cases(show u=Value.ref a from r);rfl
 | ty n=>cases(show u=Value.type n from r);rfl
section
variable {P : Program} {w : World} {H H' : Hp} {h h' : Heap} {a C dx : Addr} {fs fs' : List (Str × V)}
theorem BR(RZ:SW P w H h)(e:H a=⇑(.ins C dx fs)):∃mA,Wy h a dx C mA/\(∀f,To (fs.lookup f) (mA f))/\PySem.Within mA (fs.map (·.1))/\fs.length<=1000/\H dx=⇑(.own a):=by
 obtain⟨d,z,ne,ob,mA,n,r,q⟩:=(show Tt P w H h a (.ins C dx fs)from RZ a _ e);exact⟨mA,⟨ob,n,ne⟩,r,q,z,d⟩
end
structure V1 (K:W.Frag) (C:Addr):Prop where
 pg:W.plainGet K C Str.empty=true
 hd:W.hasDictIn K C=true
 po:W.plainOver K C=true
 sa:W.findIn K (.ref C) "__setattr__"=⇑⇑(.builtin "object.__setattr__")
theorem V1.get{K:W.Frag}(c:V1 K C)(f:Str):W.plainGet K C f=true:=c.pg
def TL(K:W.Frag)(C:Addr)(f:Str):Prop:=W.findIn K (.ref C) f=⇑none
theorem TL.taker{K:W.Frag}(n:TL K C f):W.takerIn K C f=⇑none:=by
 unfold W.takerIn;rw[show W.findIn K (.ref C) f=⇑none from n];rfl
structure Meth (K:W.Frag) (C:Addr) (m:Str) (f:Addr):Prop where
 at_:W.findIn K (.ref C) m=⇑⇑(.ref f)
 fn:W.isFn K (.ref f)=true
 kp:W.keepIn K (.ref f)=true
section
variable {X : Cx} {pins : List (Addr × Obj)} {σ : St} {H : Hp} {s : Shared} {a C dx : Addr} {fs : List (Str × V)} {f : Str} {v : V} {A : Around} {E : Value -> Shared -> Prop}
theorem MP{Q:Value->Shared->Prop}(I:Inv X pins σ H s)(e:H a=⇑(.ins C dx fs))(c:V1 X.K C)(n:TL X.K C f)(l:fs.lookup f=⇑v)
  (h:∀u s',Inv X pins σ H s'->RelV v u->Q u s'):wpAny (model X.prog X.w) A (getAttr (.ref a) f b) Q E s:=by
 obtain⟨mA,O,r,_,_,_⟩:=BR I.RZ e;obtain⟨u,hu,ru⟩:=To.some_of (v:=v) (o:=mA f) (by rw[<-l];exact r f);exact NN I.TK O (c.get f) c.hd n hu (Mw ru) (h u _ (I.tok _) ru)
theorem Dp{Q:Value×List Value->Shared->Prop}(I:Inv X pins σ H s)(e:H a=⇑(.ins C dx fs))(c:V1 X.K C)(k:Meth X.K C m g)(l:fs.lookup m=none)
  (h:Q (.ref g,[.ref a]) s):wpAny (model X.prog X.w) A (getMethod (.ref a) m pl) Q E s:=by
 obtain⟨mA,O,r,_,_,_⟩:=BR I.RZ e;have hn:mA m=none:=To.none_of (by rw[<-l];exact r m);exact Ra I.TK O (c.get m) k.at_ k.fn hn h
theorem QH{Q:Unit->Shared->Prop}(I:Inv X pins σ H s)(e:H a=⇑(.ins C dx fs))(c:V1 X.K C)(n:TL X.K C f)(hl:fs.length<1000)(ry:RelV y u)
  (h:∀s',Inv X pins σ (az H a (.ins C dx (aI f y fs))) s'->Q () s'):wpAny (model X.prog X.w) A (setAttr (.ref a) f u) Q E s:=by
 obtain⟨mA,O,r,wi,_,ho⟩:=BR I.RZ e;have hz:(fs.map (·.1)).length<=sizeLine:=by rw[qf,sizeLine_eq];lia
 refine Ms I.TK O c.sa c.po n.taker c.hd wi hz λh' O' sb=>h _ ?_;have hd:∃o,h'.get? dx=⇑o:=let ⟨o,_,_,e',_⟩:=O'.ns;⟨o,e'⟩;refine I.write (x:=a) (e:=dx) (by rw[e];exact True.intro) (.inr ho) (λb q hb z=>(sb.2 b hb).trans z) hd ?_;refine⟨by rw[aE O.ne];exact ho,?_,O.ne,O'.obj,_,O'.ns,λg=> ?_,λg hg=> ?_⟩
 ·have:=Jk f y fs;lia
 ·show To ((aI f y fs).lookup g) (if g=f then some u else mA g)
  rw[IY];by_cases q:g=f
  ·rw[if_pos q,if_pos q];exact ry
  ·rw[if_neg q,if_neg q];exact r g
 ·by_cases q:g=f
  ·rw[q];exact(Gr f y fs).1
  ·refine(Gr f y fs).2 g (wi g λz=>hg ?_)
   show(if g=f then some u else mA g)=none;rw[if_neg q];exact z
theorem Inv.made(I:Inv X pins σ H s):Inv X pins σ (az (az H s.heap.objs.size (.own (s.heap.objs.size+1))) (s.heap.objs.size+1) (.ins C s.heap.objs.size []))
    {s with heap:=(s.heap.push W.emptyDict).push (W.instObj C s.heap.objs.size)}:=by
  have e1:(s.heap.push W.emptyDict).get? s.heap.objs.size=⇑W.emptyDict:=qq s.heap rfl;have e2:((s.heap.push W.emptyDict).push (W.instObj C s.heap.objs.size)).get? (s.heap.objs.size+1)=⇑(W.instObj C s.heap.objs.size):=by
    have:=qq (s.heap.push W.emptyDict) (o:=W.instObj C s.heap.objs.size) rfl
    rwa [wq]at this
  have e3:(s.heap.push W.emptyDict).Ns s.heap.objs.size (λ_=>none):=⟨W.emptyDict,#[],_,e1,rfl,(λe he=>absurd he (by simp)),λ_=>rfl⟩;have I1:=I.laid (a:=s.heap.objs.size) (o:=.own (s.heap.objs.size+1)) (h':=s.heap.push W.emptyDict) (t':=s.toks) (λb u q=>qb _ q) (qd _) ⟨_,e1⟩;refine I1.laid (a:=s.heap.objs.size+1) (o:=.ins C s.heap.objs.size []) (t':=s.toks) (λb u q=>qb _ q) (ke (wq _ _)) ?_;have ne:s.heap.objs.size≠s.heap.objs.size+1:=qo (wa _);refine⟨by rw[aE ne,b7],w6 _,ne,e2,λ_=>none,(Heap.Ns1.of_empty e3).at λo q=>qb _ q,λ_=>True.intro,λy hy=>absurd rfl hy⟩
theorem MA{Q:Value->Shared->Prop}(hb:attributeBase e f env (eval e env)=eval e env)
  (h:wpAny (model prog w) A (eval e env) (λo s₁=>wpAny (model prog w) A (getAttr o f true) Q E s₁) E s):wpAny (model prog w) A (eval (.Attribute e f pos) env) Q E s:=
 Attribute_any_ h (by rw[arm_eval_Attribute,hb])
end
noncomputable def jH(K:W.Frag)(ta:TE)(f:Str):TE:=λσ H Q=>ta σ H λx H1=>∃a C dx fs v,x=.ref a/\H1 a=⇑(.ins C dx fs)/\V1 K C/\TL K C f/\fs.lookup f=⇑v/\Q v H1
def j0(K:W.Frag)(ta tv:TE)(f:Str):TS:=λD σ H=>tv σ H λy H1=>ta σ H1 λx H2=>∃a C dx fs,x=.ref a/\H2 a=⇑(.ins C dx fs)/\V1 K C/\TL K C f/\fs.length<1000/\
 D.nx σ (az H2 a (.ins C dx (aI f y fs)))
section
variable {X : Cx} {o e value : Expr} {f : Str} {pos pos' V3 : Pos} {ta tv : TE}
theorem D9(he:PE X e ta)(hb:attributeBase e f X.env (eval e X.env)=eval e X.env):PE X (.Attribute e f pos) (jH X.K ta f):=by
 intro pins s σ H Q I h;refine MA hb (aJ (he pins s σ H _ I h) λu s1 hh=> ?_);obtain⟨x,H1,I1,rx,a,C,dx,fs,v,ex,ea,c,n,l,q⟩:=hh;subst ex;obtain rfl:u=Value.ref a:=rx;exact MP I1 ea c n l λu' s2 I2 ru=>⟨v,H1,I2,ru,q⟩
theorem pd(ha:PE X o ta)(hv:PE X value tv)(hs:swapsWith value ⇑(.Attribute o f pos') pos.line X.env=pure false):PS X (.Assign [.Attribute o f pos'] value pos) (j0 X.K ta tv f):=by
 intro pins s σ H D I h;refine plainObj_wpAny_Assign_Attribute (aJ (hv pins s σ H _ I h) λu s1 ⟨y,H1,I1,ry,q⟩=>aJ (ha pins s1 σ H1 _ I1 q) λov s2 ⟨x,H2,I2,rx,a,C,dx,fs,ex,ea,c,n,l,q2⟩=> ?_) hs;subst ex;obtain rfl:ov=Value.ref a:=rx;exact QH I2 ea c n l ry λs3 I3=>⟨σ,_,I3,q2⟩
end
section
variable {X : Cx} {pins : List (Addr × Obj)} {σ : St} {H : Hp} {s : Shared} {A : Around} {E : Value -> Shared -> Prop} {Q : Value -> Shared -> Prop} {c : Value} {b : Bool}
inductive Ui (K:W.Frag) (H:Hp):V->Value->Prop where
 | RY:Ui K H .RY (.type "NoneType")
 | bl (x:Bool):Ui K H (.bl x) (.type "bool")
 | int (i:Int):Ui K H (.int i) (.type "int")
 | str (x:Str):Ui K H (.str x) (.type "str")
 | YV (x:UInt64):Ui K H (.YV x) (.type "float")
 | lst {a:Addr} {xs:List V} (e:H a=⇑(.lst xs)):Ui K H (.ref a) (.type "list")
 | SY {a:Addr} {o:Obj} {xs:List V} (e:H a=⇑(.SY o (.lst xs))):Ui K H (.ref a) (.type "list")
 | tup {a:Addr} {xs:List V} (e:H a=⇑(.tup xs)):Ui K H (.ref a) (.type "tuple")
 | dK {a:Addr} {kvs:List (aW×V)} (e:H a=⇑(.dK kvs)):Ui K H (.ref a) (.type "dict")
 | dT {a:Addr} {kvs:List (List aW×V)} (e:H a=⇑(.dT kvs)):Ui K H (.ref a) (.type "dict")
 | ins {a C dx:Addr} {fs:List (Str×V)} (e:H a=⇑(.ins C dx fs)) (cl:V1 K C) (ha:W.findIn K (.ref C) "__class__"=⇑⇑(.builtin "object.__class__"))
   (hn:W.specialIn K (.builtin "object.__class__") "__get__"=⇑⇑(.builtin "getset_descriptor.__get__")) (htk:W.takesIn K (.builtin "object.__class__")=⇑true)
   (hm:W.mroIn K C (.type "object")=⇑true):Ui K H (.ref a) (.ref C)
theorem Qo(I:Inv X pins σ H s)(rx:RelV x u)(ty:Ui X.K H x t)(e:W.kitOne X.K t c=⇑b)(h:∀tk,Q (.bool b) {s with toks:=tk}):
  wpAny (model X.prog X.w) A (call (.builtin "isinstance") [u,c]) Q E s:=by
 cases ty with
 | RY=>cases(show u=Value.none from rx);exact W.kia_one W.kitx_none I.TK True.intro e (λz=>nomatch z) h
 | bl y=>cases(show u=Value.bool y from rx);exact W.kia_one W.kitx_bool I.TK True.intro e (λz=>nomatch z) h
 | int i=>obtain⟨t,q⟩:=(show ∃t,u=Value.int i t from rx);cases q;exact W.kia_one W.kitx_int I.TK True.intro e (λz=>nomatch z) h
 | str y=>obtain⟨t,q⟩:=(show ∃t,u=Value.str y t from rx);cases q;exact W.kia_one W.kitx_str I.TK True.intro e (λz=>nomatch z) h
 | YV y=>obtain⟨t,q⟩:=(show ∃t,u=Value.float y t from rx);cases q;exact W.kia_one W.kitx_float I.TK True.intro e (λz=>nomatch z) h
 | @lst a xs ea=>
  cases(show u=Value.ref a from rx)
  obtain⟨_,_,n,_,h1⟩:=(show Tt X.prog X.w H s.heap a (.lst xs)from I.RZ a _ ea);exact W.kia_one W.kitx_list I.TK ⟨_,h1,rfl⟩ e (λz=>nomatch z) h
 | @SY a ob xs ea=>
  cases(show u=Value.ref a from rx)
  obtain⟨_,_,_,n,_,h1⟩:=(show Tt X.prog X.w H s.heap a (.SY ob (.lst xs))from I.RZ a _ ea);exact W.kia_one W.kitx_list I.TK ⟨_,h1,rfl⟩ e (λz=>nomatch z) h
 | @tup a xs ea=>
  cases(show u=Value.ref a from rx)
  obtain⟨_,_,_,p⟩:=(show Tt X.prog X.w H s.heap a (.tup xs)from I.RZ a _ ea);obtain⟨o,h1,h2,_⟩:=p;exact W.kia_one W.kitx_tuple I.TK ⟨o,h1,h2⟩ e (λz=>nomatch z) h
 | @dK a kvs ea=>
  cases(show u=Value.ref a from rx)
  obtain⟨_,_,vs,_,p⟩:=(show Tt X.prog X.w H s.heap a (.dK kvs)from I.RZ a _ ea);obtain⟨o,es,ep,h1,h2,_⟩:=p;exact W.kia_one W.kitx_dict I.TK ⟨o,h1,h2.1⟩ e (λz=>nomatch z) h
 | @dT a kvs ea=>
  cases(show u=Value.ref a from rx)
  obtain⟨_,_,xs,_,o,es,ep,h1,h2,_⟩:=(show Tt X.prog X.w H s.heap a (.dT kvs)from I.RZ a _ ea);exact W.kia_one W.kitx_dict I.TK ⟨o,h1,h2.1⟩ e (λz=>nomatch z) h
 | @ins a C dx fs ea cl ha hn htk hm=>
  cases(show u=Value.ref a from rx)
  obtain⟨mA,O,_⟩:=BR I.RZ ea;obtain⟨od,J,_⟩:=O.look;exact W.kia_one (W.kitx_own (cl.get _) cl.hd ha hn htk hm) I.TK J e (λz=>nomatch z) h
end
structure Sf (k:Nat) (A:Around):Prop where
 hd:A.handled=none
 dp:A.depth+3*k+5<recursionLimit
 un:A.units+16*k+200<cLine
theorem Sf.mono(r:Sf k A)(h:j<=k):Sf j A:=⟨r.hd,by have:=r.dp;lia,by have:=r.un;lia⟩
theorem Sf.deeper(r:Sf (k+1) A)(env:Env):Sf k (A.deeper env):=
 ⟨r.hd,by have:=r.dp;show A.depth+1+3*k+5<_;lia,by have:=r.un;show A.units+3+16*k+200<_;lia⟩
theorem Nv{A:Around}:(A.under (.builtin "type.__call__" ⟨.ref C::us,kw⟩)).depth=A.depth+1:=by
 first|rfl|simp[Around.under,Code.weight,Code.isCreation,Code.isGuard,Code.isCaller,Code.frames,Code.isFrame,guardIds]
theorem QL{A:Around}:(A.under (.builtin "type.__call__" ⟨.ref C::us,kw⟩)).units=A.units+1:=by
 first|rfl|simp[Around.under,Code.cUnits,Code.frames,Code.isFrame]
theorem Sf.make(r:Sf (k+1) A)(C:Addr)(us:List Value)(kw:List (Str×Value)):Sf k (A.under (.builtin "type.__call__" ⟨.ref C::us,kw⟩)):=
 ⟨r.hd,by have:=r.dp;rw[Nv];lia,by have:=r.un;rw[QL];lia⟩
theorem Sf.depth(r:Sf k A):A.depth<recursionLimit:=by have:=r.dp;lia
theorem Sf.units(r:Sf k A):A.units+64<cLine:=by have:=r.un;lia
noncomputable def f_:TA:=λ_ H Q=>Q [] H
noncomputable def Cw(ta:TE)(tr:TA):TA:=λσ H Q=>ta σ H λx H1=>tr σ H1 λxs H2=>Q (x::xs) H2
section
variable {X : Cx} {e : Expr} {es : List Expr} {te : TE} {t : TA} {pos : Pos}
theorem b_:PA X [] f_:=λ_ _ _ _ H Q I h=>Calls.spliced_nil ⟨[],H,I,.nil,h⟩
theorem bx(ha:PE X e te)(hr:PA X es t)(hs:starEach (e::es) X.env=(false,eval e X.env)::starEach es X.env:=by rfl):PA X (e::es) (Cw te t):=by
 intro pos pins s σ H Q I h;rw[hs];show wpAny _ _ (spliced ((false,eval e X.env)::backTo pos (starEach es X.env))) _ _ s;refine Calls.spliced_cons (aJ (ha pins s σ H _ I h) λu s1 hh=> ?_);obtain⟨x,H1,I1,r1,q1⟩:=hh;exact aJ (hr pos pins s1 σ H1 _ I1 q1) λus s2 ⟨xs,H2,I2,r2,q2⟩=>⟨x::xs,H2,I2,.cons r1 r2,q2⟩
def zE(t:TA):TE:=λσ H Q=>t σ H λxs H1=>xs.length<=sizeLine/\∀p,H1 p=none->Q (.ref p) (az H1 p (.tup xs))
def vt(t:TA):TE:=λσ H Q=>t σ H λxs H1=>xs.length<=sizeLine/\∀p,H1 p=none->Q (.ref p) (az H1 p (.lst xs))
theorem Br{x1}(h:PA X es t):PE X (.Tuple es x1 pos) (zE t):=by
 intro pins s σ H Q I hq;refine wpAny_Tuple_spliced (aJ (h pos pins s σ H _ I hq) λus s1 ⟨xs,H1,I1,r,z,q⟩=>⟨by rw[<-r.length];exact z,?_⟩);have hf:H1 s1.heap.objs.size=none:=I1.RZ.fresh (qd _);refine⟨.ref s1.heap.objs.size,az H1 s1.heap.objs.size (.tup xs),I1.laid (t':=s1.toks) (λb u e=>qb _ e) (qd _) ?_,rfl,q _ hf⟩;exact⟨z,us,r,⟨_,qq _ rfl,rfl,_,rfl⟩⟩
theorem ya(h:PA X es t):PE X (.List es pos) (vt t):=by
 intro pins s σ H Q I hq;refine wpAny_List_spliced (aJ (h pos pins s σ H _ I hq) λus s1 ⟨xs,H1,I1,r,z,q⟩=>⟨by rw[<-r.length];exact z,?_⟩);have hf:H1 s1.heap.objs.size=none:=I1.RZ.fresh (qd _);refine⟨.ref s1.heap.objs.size,az H1 s1.heap.objs.size (.lst xs),I1.laid (t':=s1.toks) (λb u e=>qb _ e) (qd _) ?_,rfl,q _ hf⟩;exact⟨z,us,0,r,qq _ rfl⟩
end
abbrev Sp:=List V->Hp->VK->XK->Prop
abbrev fL:=List Env->Hp->Shared->XK->Value->Shared->Prop
structure WA (P:Program) (w:World) (K:W.Frag) (mg:Str->Option Value) (base:Heap) (A:Around) (outer:List Env) (s:Shared) (H:Hp):Prop where
 frames:A.frames=⇑outer
 mod:Mod K mg base
 bs:∀b o,base.get? b=⇑o->s.heap.get? b=⇑o/\H b=none
 XI:base.objs.size<=s.heap.objs.size
 Um:s.heap.FunFrames base outer
 Yn:∀b∈bp outer,H b=none
 RZ:SW P w H s.heap
 bare:AllBare s.gens
def CE(outer:List Env)(P:Program)(w:World)(H:Hp)(s:Shared)(Q:VK)(u:Value)(s':Shared):Prop:=
 ∃v H',s'.os=s.os/\AllBare s'.gens/\Un (bp outer) [] H H' s.heap s'.heap/\SW P w H' s'.heap/\RelV v u/\Q v H'
def CR(CX:fL)(outer:List Env)(P:Program)(w:World)(H:Hp)(s:Shared)(Q:VK)(E:XK)(r:Result)(s':Shared):Prop:=
 match r with
 | .ok (.ret u)=>CE outer P w H s Q u s'
 | .ok _=>False
 | .error e=>CX outer H s E e s'
structure Si (P:Program) (w:World) (K:W.Frag) (mg:Str->Option Value) (base:Heap) (CX:fL) (k:Nat) (f:Addr) (fd:FuncData) (ps:List Str) (sp:Sp):Prop where
 len:∀vs H Q E,sp vs H Q E->vs.length=ps.length
 run:∀(A:Around) (outer:List Env) (s:Shared) (H:Hp) (args:Args) (us:List Value) (vs:List V) (Q:VK) (E:XK),Sf k A->WA P w K mg base A outer s H->BindsTo s fd args (ps.zip us)->Vals vs us->sp vs H Q E->
  codeAny (model P w) A (.call (.ref f) args) (CR CX outer P w H s Q E) s
theorem Si.mono{K:W.Frag}{mg:Str->Option Value}(F:Si P w K mg base CX j f fd ps sp)(h:j<=k):
  Si P w K mg base CX k f fd ps sp:=⟨F.len,λA outer s H args us vs Q E hr=>F.run A outer s H args us vs Q E (hr.mono h)⟩
theorem Si.imp{K:W.Frag}{mg:Str->Option Value}(F:Si P w K mg base CX k f fd ps sp)
  (h:∀vs H Q E,sp' vs H Q E->sp vs H Q E):Si P w K mg base CX k f fd ps sp':=
 ⟨λvs H Q E q=>F.len vs H Q E (h _ _ _ _ q),λA outer s H args us vs Q E hr he hb hv hs=>F.run A outer s H args us vs Q E hr he hb hv (h _ _ _ _ hs)⟩
theorem WA.make{K:W.Frag}{mg:Str->Option Value}(e:WA P w K mg base A outer s H)(C:Addr)(us:List Value)(kw:List (Str×Value)):
  WA P w K mg base (A.under (.builtin "type.__call__" ⟨.ref C::us,kw⟩)) outer s H:=⟨by first|exact e.frames|(simpa [Around.under,Code.envs,Code.isFrame,pushEnvs]using e.frames),e.mod,e.bs,e.XI,e.Um,e.Yn,e.RZ,e.bare⟩
section
variable {X : Cx} {pins : List (Addr × Obj)} {σ : St} {H : Hp} {s s' : Shared}
theorem Inv.YY(I:Inv X pins σ H s):WA X.prog X.w X.K X.mg X.base X.A X.stack s H:=
 ⟨I.ok.frames,I.ok.mod,I.bs,zi I.ok.XI I.sz,I.stack,I.Vg,I.RZ,I.bare⟩
theorem Inv.after(I:Inv X pins σ H s)(h:CE X.stack X.prog X.w H s Q u s'):EP X pins σ Q u s':=by
 obtain⟨v,H',os,bare,un,RZ,r,q⟩:=h;obtain⟨hh,g,d,t,os'⟩:=s';obtain rfl:os'=s.os:=os;exact⟨v,H',I.call (h':=hh) (g':=g) (d':=d) (t':=t) (ch:=[]) un RZ bare (λb z=>absurd z (by simp)),r,q⟩
end
noncomputable def FD(sp:Sp)(UC:List V)(E:XK)(t:TA):TE:=λσ H Q=>t σ H λvs H1=>sp (vs++UC) H1 Q E
def tR(C:Addr)(sp:Sp)(UC:List V)(E:XK)(t:TA):TE:=λσ H Q=>t σ H λvs H1=>∀x dx,H1 x=none->H1 dx=none->dx≠x->
 sp (.ref x::(vs++UC)) (az (az H1 dx (.own x)) x (.ins C dx [])) (λv H2=>v=.RY/\Q (.ref x) H2) E
def VW(K:W.Frag)(fd:FuncData)(ps:List Str)(ds:List Value):Prop:=
 ∀(s:Shared) (us:List Value),K.In s.heap->(us++ds).length=ps.length->BindsTo s fd ⟨us,[]⟩ (ps.zip (us++ds))
theorem VW.all{K:W.Frag}(h:∀us:List Value,us.length=ps.length->bindArgs fd ⟨us,[]⟩=pure (ps.zip us)):VW K fd ps []:=λs us _ hl=>by
 rw[zm]at hl ⊢;exact .of_eq (h us hl)
def gI(CX:fL)(X:Cx)(E:XK):Prop:=∀(pins:List (Addr×Obj)) (σ:St) (H:Hp) (s:Shared) (e:Value) (s':Shared),Inv X pins σ H s->CX X.stack H s E e s'->X.xe e s'
section
variable {X : Cx} {CX : fL} {k : Nat} {f C : Addr} {fd : FuncData} {ps : List Str} {sp : Sp} {UC : List V} {ds : List Value} {E : XK} {x m : Str} {p pos apos : Pos} {e o : Expr} {es : List Expr} {ta : TE} {t : TA}
theorem Et{σ:St}(F:Si X.prog X.w X.K X.mg X.base CX k f fd ps sp)(hr:Sf k X.A)(hb:VW X.K fd ps ds)(hd:Vals UC ds)(hx:gI CX X E)
  (I:Inv X pins σ H s) (r:Vals vs us) (h:sp (vs++UC) H Q E):wpAny (model X.prog X.w) X.A (call (.ref f) us) (EP X pins σ Q) X.xe s:=by
 have r2:Vals (vs++UC) (us++ds):=r.append hd;have hl:(us++ds).length=ps.length:=by rw[<-r2.length];exact F.len _ _ _ _ h
 refine wpAny_call (codeAny_mono (F.run X.A X.stack s H ⟨us,[]⟩ (us++ds) (vs++UC) Q E hr I.YY (hb s us I.TK hl) r2 h) λr s' hq=> ?_);cases r with
 | error e=>exact hx pins σ H s e s' I hq
 | ok fl=>
  cases fl with
  | ret u=>exact I.after hq
  | next=>exact False.elim hq
  | brk=>exact False.elim hq
  | cont=>exact False.elim hq
theorem PX(F:Si X.prog X.w X.K X.mg X.base CX k f fd ps sp)(hr:Sf k X.A)(hg:Gl X x)(hm:X.mg x=⇑(.ref f))(hk:W.keepIn X.K (.ref f)=true)(hb:VW X.K fd ps ds)(hd:Vals UC ds)(hx:gI CX X E)
  (ha:PA X (e::es) t) (VD:(x==("__debug__":Str))=false:=by decide) (he:starEach (e::es) X.env=(false,eval e X.env)::starEach es X.env:=by rfl) (VY:(backTo pos (starEach es X.env)).any (·.1)=false:=by rfl):
  PE X (.Call (.Name x p) (e::es) [] pos) (FD sp UC E t):=by
 intro pins s σ H Q I h;refine wpAny_Call_Name_kw (tD I hg hm ?_ VD);refine W.callWith_K (h₀:=X.base) I.ok.mod.YK hk (aJ (ha pos pins s σ H _ I h) λus s1 ⟨vs,H1,I1,r,q⟩=>⟨I1.TK,?_⟩) he VY;exact Et F hr hb hd hx I1 r q
structure Mk (K:W.Frag) (C f:Addr):Prop where
 makes:W.makesIn K C=true
 init:W.findIn K (.ref C) "__init__"=⇑⇑(.ref f)
 fn:W.isFn K (.ref f)=true
 kp:W.keepIn K (.ref C)=true
theorem JD{σ:St}(M:Mk X.K C f)(F:Si X.prog X.w X.K X.mg X.base CX k f fd ps sp)(hr:Sf (k+1) X.A)(hb:VW X.K fd ps ds)(hd:Vals UC ds)
  (hx:gI CX X E) (I:Inv X pins σ H s) (r:Vals vs us)
  (h:∀x dx,H x=none->H dx=none->dx≠x->sp (.ref x::(vs++UC)) (az (az H dx (.own x)) x (.ins C dx [])) (λv H2=>v=.RY/\Q (.ref x) H2) E):
  wpAny (model X.prog X.w) X.A (call (.ref C) us) (EP X pins σ Q) X.xe s:=by
 have hq:=h (s.heap.objs.size+1) s.heap.objs.size (I.RZ.fresh (k6 _)) (I.RZ.fresh (qd _)) (qo (wa _));have I2:=Inv.made (C:=C) I;have r2:Vals (V.ref (s.heap.objs.size+1)::(vs++UC)) (Value.ref (s.heap.objs.size+1)::(us++ds)):=.cons rfl (r.append hd);have hl:(Value.ref (s.heap.objs.size+1)::us++ds).length=ps.length:=by
  have e:=r2.length;rw[F.len _ _ _ _ hq]at e;exact e.symm
 refine wpAny_call (QC (f:=f) I.TK M.makes M.init (beq_iff_eq.mp M.fn) (codeAny_mono (F.run _ X.stack _ _ ⟨Value.ref (s.heap.objs.size+1)::us,[]⟩ (Value.ref (s.heap.objs.size+1)::(us++ds)) _ _ E (hr.make C us [])
  (I2.YY.make C us []) (hb _ (Value.ref (s.heap.objs.size+1)::us) I2.TK hl) r2 hq) λr s' Yi=> ?_))
 cases r with
 | error e=>exact hx pins σ _ _ e s' I2 Yi
 | ok fl=>
  cases fl with
  | ret u=>
   obtain⟨v,H',I3,rv,ev,q3⟩:=I2.after Yi;subst ev;exact⟨rv,⟨V.ref (s.heap.objs.size+1),H',I3,rfl,q3⟩⟩
  | next=>exact False.elim Yi
  | brk=>exact False.elim Yi
  | cont=>exact False.elim Yi
theorem Ph(M:Mk X.K C f)(F:Si X.prog X.w X.K X.mg X.base CX k f fd ps sp)(hr:Sf (k+1) X.A)(hg:Gl X x)(hm:X.mg x=⇑(.ref C))(hb:VW X.K fd ps ds)(hd:Vals UC ds)(hx:gI CX X E)
  (ha:PA X (e::es) t) (VD:(x==("__debug__":Str))=false:=by decide) (he:starEach (e::es) X.env=(false,eval e X.env)::starEach es X.env:=by rfl) (VY:(backTo pos (starEach es X.env)).any (·.1)=false:=by rfl):
  PE X (.Call (.Name x p) (e::es) [] pos) (tR C sp UC E t):=by
 intro pins s σ H Q I h;refine wpAny_Call_Name_kw (tD I hg hm ?_ VD);refine W.callWith_K (h₀:=X.base) I.ok.mod.YK M.kp (aJ (ha pos pins s σ H _ I h) λus s1 ⟨vs,H1,I1,r,q⟩=>⟨I1.TK,?_⟩) he VY;exact JD M F hr hb hd hx I1 r q
theorem QB(M:Mk X.K C f)(F:Si X.prog X.w X.K X.mg X.base CX k f fd ps sp)(hr:Sf (k+1) X.A)(hg:Gl X x)(hm:X.mg x=⇑(.ref C))(hb:VW X.K fd ps ds)(hd:Vals UC ds)(hx:gI CX X E)
  (VD:(x==("__debug__":Str))=false:=by decide):PE X (.Call (.Name x p) [] [] pos) (tR C sp UC E f_):=by
 intro pins s σ H Q I h;refine wpAny_Call_Name_kw (tD I hg hm ?_ VD);exact W.callWith_K0 I.TK M.kp (JD (us:=[]) M F hr hb hd hx I .nil h)
end
structure Sg (N P:List Str) (sc:Scope):Prop where
 kind:sc.kind=.function
 co:sc.isCoroutine=false
 gen:sc.isGenerator=false
 nd:N.Nodup
 pre:N.take P.length=P
 par:∀x∈P,sc.names.lookup x=⇑.local\/sc.names.lookup x=⇑.cell
 YA:∀y∈sc.names,y.2≠ .free
theorem Hj{kindOf:Str->Option NameKind}:∀{binds:List (Str×Value)} {m:Str->Option Value},(∀v,(x,v)∉binds)->bindL kindOf binds m x=m x
  | [],_,_=>rfl
  | (n,v)::r,m,h=>by
    unfold bindL;rw[Hj λw hw=>h w (q8 _ hw)];split
    · have:x≠n:=by rintro rfl;exact h v qa
      simp[this]
    · rfl
theorem Il{kindOf:Str->Option NameKind}:∀{binds:List (Str×Value)} {m:Str->Option Value},(∀v,(x,v)∉binds)->bindC kindOf binds m x=m x
  | [],_,_=>rfl
  | (n,v)::r,m,h=>by
    unfold bindC;rw[Il λw hw=>h w (q8 _ hw)];split
    · rfl
    · have:x≠n:=by rintro rfl;exact h v qa
      simp[this]
theorem J0{kindOf:Str->Option NameKind}{x:Str}{v:Value}:∀{P:List Str} {vs:List Value} {i:Nat} {m:Str->Option Value},P.Nodup->P[i]?=⇑x->vs[i]?=⇑v->kindOf x=⇑.local->
  bindL kindOf (P.zip vs) m x=⇑v
 | [],_,_,_,_,h,_,_=>by simp at h
 | _::_,[],_,_,_,_,h,_=>by simp at h
 | p::P,w::vs,0,m,nd,h1,h2,hk=>by
  simp at h1 h2;subst h1;subst h2;show bindL kindOf ((p,w)::P.zip vs) m p=_;unfold bindL;rw[Hj λv hv=>(g7.mp nd).1 (u8 hv).1,if_pos hk];simp
 | p::P,w::vs,i+1,m,nd,h1,h2,hk=>by
  show bindL kindOf ((p,w)::P.zip vs) m x=_;unfold bindL;exact J0 (i:=i) (g7.mp nd).2 (by simpa using h1) (by simpa using h2) hk
theorem JJ{kindOf:Str->Option NameKind}{x:Str}{v:Value}:∀{P:List Str} {vs:List Value} {i:Nat} {m:Str->Option Value},P.Nodup->P[i]?=⇑x->vs[i]?=⇑v->kindOf x≠⇑.local->
  bindC kindOf (P.zip vs) m x=⇑v
 | [],_,_,_,_,h,_,_=>by simp at h
 | _::_,[],_,_,_,_,h,_=>by simp at h
 | p::P,w::vs,0,m,nd,h1,h2,hk=>by
  simp at h1 h2;subst h1;subst h2;show bindC kindOf ((p,w)::P.zip vs) m p=_;unfold bindC;rw[Il λv hv=>(g7.mp nd).1 (u8 hv).1,if_neg hk];simp
 | p::P,w::vs,i+1,m,nd,h1,h2,hk=>by
  show bindC kindOf ((p,w)::P.zip vs) m x=_;unfold bindC;exact JJ (i:=i) (g7.mp nd).2 (by simpa using h1) (by simpa using h2) hk
def start(N:List Str)(vs:List V):St:=vs.map some++List.replicate (N.length - vs.length) none
noncomputable def aL(CX:fL)(P:Program)(w:World)(K:W.Frag)(mg:Str->Option Value)(base:Heap)(N:List Str)(qual:Str)(scope:Scope)(f:Addr)(cd:Value)(A:Around)(outer:List Env)(s:Shared)(H:Hp)(E:XK):Cx where
 prog:=P
 w:=w
 K:=K
 mg:=mg
 base:=base
 A:=A.deeper (envOfC qual scope s.heap.objs.size f cd)
 N:=N
 s₀:=s
 H₀:=H
 env:=envOfC qual scope s.heap.objs.size f cd
 outer:=outer
 stack:=envOfC qual scope s.heap.objs.size f cd::outer
 ex:=[]
 calm:=true
 fn:=λ_=>true
 pn:=[]
 xe:=λe s'=>wpAny (model P w) (A.deeper (envOfC qual scope s.heap.objs.size f cd)) (leaving (envOfC qual scope s.heap.objs.size f cd) e) (λ_ s''=>CX outer H s E e s'') (λe' s''=>CX outer H s E e' s'') s'
theorem Ir{sc:Scope}(h:sc.names.lookup x=⇑.cell):∃c,(cellsFrom n sc.names []).lookup x=⇑c:=by
 have q:=W.cellsFrom_some sc.names n [] (.inl h);exact we.mp q
theorem O2{K:W.Frag}{mg:Str->Option Value}
  (S:Sg N ps scope) (hd:A.handled=none) (e0:WA P w K mg base A outer s H) (hl:vs.length=ps.length) (r:Vals vs us)
  (x:InCallC s s.heap.objs.size (bindL (envOfC qual scope s.heap.objs.size f cd).kindOf (ps.zip us) λ_=>none) (cellsFrom (s.heap.objs.size+1) scope.names []) (bindC (envOfC qual scope s.heap.objs.size f cd).kindOf (ps.zip us) λ_=>none) s1):
  Inv (aL CX P w K mg base N qual scope f cd A outer s H E) [] (start N vs) H s1:=by
 have VY:ps.length<=N.length:=by have:=congrArg List.length S.pre;rw[wp]at this;lia
 obtain⟨h1,tk,rfl,hk⟩:=x.done;have noA:∀b:Addr,b∉(aL CX P w K mg base N qual scope f cd A outer s H E).ex:=λb z=>absurd (show b∈([]:List Addr)from z) (by simp);refine⟨⟨e0.mod,S.kind,rfl,rfl,qd _,λy z c h1 h2=> ?_,λy hy=> ?_,λy c _ h=> ?_,λ_=>hd,Around.frames_deeper e0.frames,.inr ⟨rfl,rfl⟩,λb z=>absurd z (noA b),e0.bs,e0.XI,λb _ _=>noA b,λb z=>absurd z (noA b),e0.Um,e0.Yn⟩,
  rfl,e0.bare,Un.kept hk,⟨_,x.toInCall.ns,λi y v h1 h2 h3=> ?_⟩,λy c h=>⟨_,x.cell y c h⟩,e0.RZ.fresh (qd _),λy c h=> ?_,λp hp=>absurd (show p∈([]:List (Addr×Obj))from hp) (by simp),e0.RZ.kept hk,?_⟩
 ·exact name_of_addr x.apart (PySem.mem_of_lookup h1) (PySem.mem_of_lookup h2)
 ·have hy:scope.names.lookup y=⇑.cell\/scope.names.lookup y=⇑.free:=hy
  rcases hy with hy|hy
  ·exact Ir hy
  ·exact absurd rfl (S.YA _ (PySem.mem_of_lookup hy))
 ·exact Nat.le_of_lt (x.above y c (PySem.mem_of_lookup h))
 ·have hi:i<vs.length:=by
   unfold start at h2;by_cases hi:i<vs.length
   ·exact hi
   ·rw[ze (by simpa using hi)]at h2
    rw[wg]at h2;split at h2<;>cases h2
  have ha:vs[i]?=⇑v:=by
   unfold start at h2;rw[qr (by simpa using hi),z9]at h2;cases e:vs[i]? with
   | none=>rw[e]at h2;cases h2
   | some a=>rw[e]at h2;cases h2;rfl
  obtain⟨u,hu,rv⟩:=r.get ha;have hp:ps[i]?=⇑y:=by
   rw[<-S.pre,kz ⋯];exact h1
  have ndP:ps.Nodup:=by rw[<-S.pre];exact S.nd.sublist (List.take_sublist _ _)
  refine⟨u,rv,?_⟩;rcases S.par y (qm hp)with k|k
  ·exact .inl ⟨k,J0 ndP hp hu k⟩
  ·obtain⟨c,e⟩:=Ir (n:=s.heap.objs.size+1) k
   refine .inr ⟨.inl k,c,e,?_⟩;have q:=x.cell y c e;rw[JJ ndP hp hu (by show scope.names.lookup y≠_;rw[k];decide)]at q;exact q
 ·exact e0.RZ.fresh (Nat.le_of_lt (x.above y c (PySem.mem_of_lookup h)))
 ·unfold start
  show _=N.length;rw[zh,qf,gl]
  lia
theorem wF{K:W.Frag}{mg:Str->Option Value}{dV kV doc pm Sz ct oc:Value}
 (lk:K.lookup f=⇑⟨oc,od,.func (W.fnOf name qual params body scope dV kV doc pm an Sz ct),Yd⟩) (Xq:W.codeIn K Sz qual=true) (S:Sg N ps scope)
  (len:∀vs H Q E,sp vs H Q E->vs.length=ps.length)
  (Xr:∀(A:Around) (outer:List Env) (s:Shared) (H:Hp) (vs:List V) (Q:VK) (E:XK),Sf k (A.deeper (envOfC qual scope s.heap.objs.size f Sz))->sp vs H Q E->
   ∃t,VP (aL CX P w K mg base N qual scope f Sz A outer s H E) body t/\t {nx:=λ_ H'=>Q .RY H',rt:=Q} (start N vs) H):
  Si P w K mg base CX (k+1) f (W.fnOf name qual params body scope dV kV doc pm an Sz ct) ps sp:=by
 refine⟨len,λA outer s H args us vs Q E hr e0 hb r XF=> ?_⟩;have hl:=len _ _ _ _ XF;have KX:K.In s.heap:=e0.mod.YK.keeps λb o e=>(e0.bs b o e).1;have lim:s.heap.NoLimit:=e0.mod.nolimit.keeps λb o e=>(e0.bs b o e).1;have hkind:∀y∈ps.zip us,scope.names.lookup y.1=⇑.local\/(scope.names.lookup y.1=⇑.cell/\((cellsFrom (s.heap.objs.size+1) scope.names []).lookup y.1).isSome=true):=λ⟨n,v⟩ hy=>by
  rcases S.par n (u8 hy).1 with q|q
  ·exact .inl q
  ·exact .inr ⟨q,W.cellsFrom_some _ _ _ (.inl q)⟩
 refine codeAny_call_function hr.depth (KX _ _ lk) rfl S.co S.gen rfl (W.codeRec_of KX Xq) (hb _ _ _ _ ?_);refine wpAny_newFunctionEnv_cells S.kind hkind λenv he s1 x=> ?_;subst he;refine⟨lim.keeps x.toInCall.keep,codeAny_func ?_⟩;obtain⟨t,ht,hq⟩:=Xr A outer s H vs Q E (hr.deeper _) XF;have I:Inv (aL CX P w K mg base N qual scope f Sz A outer s H E) [] (start N vs) H s1:=O2 S hr.hd e0 hl r x;refine wpAny_mono (ht [] s1 (start N vs) H _ I hq) (λfl s' hs=> ?_) λe s' hs=>hs;have fin:∀{σ':St} {H':Hp} {v:V} {u:Value},Inv (aL CX P w K mg base N qual scope f Sz A outer s H E) [] σ' H' s'->RelV v u->Q v H'->CE outer P w H s Q u s':=
  fun{σ' H' v u} J rv q=>⟨v,H',J.os,J.bare,J.base,J.RZ,rv,q⟩
 cases fl with
 | ret u=>
  obtain⟨v,σ',H',J,rv,q⟩:=hs;exact fin J rv q
 | next=>
  obtain⟨σ',H',J,q⟩:=hs;exact fin (v:=V.RY) (u:=Value.none) J rfl q
 | brk=>
  obtain⟨_,_,_,q⟩:=hs;exact False.elim q
 | cont=>
  obtain⟨_,_,_,q⟩:=hs;exact False.elim q
section
variable {X : Cx} {x : Str} {p pos : Pos} {e : Expr} {es : List Expr} {t : TA} {id T : String} {r : List V -> Hp -> VK -> Prop}
noncomputable def vN(r:List V->Hp->VK->Prop)(t:TA):TE:=λσ H Q=>t σ H λvs H1=>r vs H1 Q
theorem jO(hc:S3 X (.builtin id) r)(hg:Gl X x)(hm:X.mg x=none)(hv:bootBuiltins x=⇑(.builtin id))(ha:PA X (e::es) t)(hn:x≠"__name__":=by decide)(VD:(x==("__debug__":Str))=false:=by decide)
  (he:starEach (e::es) X.env=(false,eval e X.env)::starEach es X.env:=by rfl) (VY:(backTo pos (starEach es X.env)).any (·.1)=false:=by rfl):PE X (.Call (.Name x p) (e::es) [] pos) (vN r t):=by
 intro pins s σ H Q I h;refine wpAny_Call_Name_kw (nD I hg hm hv ?_ hn VD);exact PyProof.Rows.callWith_builtin1 (aJ (ha pos pins s σ H _ I h) λus s1 ⟨vs,H1,I1,r1,q1⟩=>hc pins s1 σ H1 vs us Q I1 r1 q1) he VY
theorem Cf(hc:S3 X (.type T) r)(hg:Gl X x)(hm:X.mg x=none)(hv:bootBuiltins x=⇑(.type T))(ha:PA X (e::es) t)(hn:x≠"__name__":=by decide)(VD:(x==("__debug__":Str))=false:=by decide)
  (he:starEach (e::es) X.env=(false,eval e X.env)::starEach es X.env:=by rfl) (VY:(backTo pos (starEach es X.env)).any (·.1)=false:=by rfl):PE X (.Call (.Name x p) (e::es) [] pos) (vN r t):=by
 intro pins s σ H Q I h;refine wpAny_Call_Name_kw (nD I hg hm hv ?_ hn VD);exact PyProof.Rows.callWith_type1 (aJ (ha pos pins s σ H _ I h) λus s1 ⟨vs,H1,I1,r1,q1⟩=>hc pins s1 σ H1 vs us Q I1 r1 q1) he VY
end
end L2
namespace HT
open PySem PyProof.Rows
section
variable {prog : Program} {w : World} {A : Around} {E : Value -> Shared -> Prop} {s : Shared}
theorem QN{Q:Value->Shared->Prop}(ht:IsTup s.heap t vs.toArray)(hb:IsTup s.heap b ws.toArray)(hv:vs≠[])
  (h1:ws=[]->Q (.ref t) s) (h2:ws≠[]->Q (.ref s.heap.objs.size) {s with heap:=s.heap.push {cls:=.type "tuple",data:=.seq (vs++ws).toArray}})
  (hsz:vs.length+ws.length<=sizeLine):wpAny (model prog w) A (binaryOp .Add (.ref t) (.ref b)) Q E s:=by
 obtain⟨⟨cls,dd,data,sl⟩,ho,hc,n,hd⟩:=id ht;obtain⟨⟨cls2,dd2,data2,sl2⟩,ho2,hc2,n2,hd2⟩:=id hb;simp only at hc hd hc2 hd2;subst hc hd hc2 hd2;have e:vs.toArray++ws.toArray=(vs++ws).toArray:=by simp
 by_cases hw:ws=[]
 ·exact concat_meets ⟨_,ho,rfl⟩ ⟨_,ho2,rfl⟩ noFill_tuple_add seq_tuple_add PySem.F.slot_tuple_add PySem.F.entry_tuple_add (PySem.F.args_tuple_add_2 _ _)
   (tuple_addW1 t b vs.toArray ws.toArray n n2 dd dd2 sl sl2 (by simpa using hv) (by simp[hw])) ⟨ho,ho2,h1 hw⟩
 ·refine concat_meets ⟨_,ho,rfl⟩ ⟨_,ho2,rfl⟩ noFill_tuple_add seq_tuple_add PySem.F.slot_tuple_add PySem.F.entry_tuple_add (PySem.F.args_tuple_add_2 _ _)
   (tuple_addW2 t b vs.toArray ws.toArray n n2 dd dd2 sl sl2 (by simpa using hv) (by simpa using hw) (by rw[ql,ql];exact hsz)) ⟨ho,ho2,?_⟩
  rw[e];exact h2 hw
noncomputable def aT(n d:Nat):Option Int->Nat
 | none=>d
 | some v=>if v<0 then(v+(n:Int)).toNat else min v.toNat n
theorem sf(n d:Nat)(hd:d<=n)(o:Option Int):aT n d o<=n:=by
 cases o with
 | none=>exact hd
 | some v=>
  show(if v<0 then(v+(n:Int)).toNat else min v.toNat n)<=n;by_cases hv:v<0
  ·rw[if_pos hv];lia
  ·rw[if_neg hv];exact Nat.min_le_right _ _
theorem Hh(v:Int)(n d:Nat):(if v<0 then max (v+(n:Int)) 0 else min v (n:Int))=((aT n d ⇑v:Nat):Int):=by
 show(if v<0 then max (v+(n:Int)) 0 else min v (n:Int))=(((if v<0 then(v+(n:Int)).toNat else min v.toNat n):Nat):Int);by_cases hv:v<0
 ·simp only[if_pos hv];lia
 ·simp only[if_neg hv];lia
theorem P_(lo hi:Option Int)(n:Nat):Builtin.Slice.sliceAdjust lo hi 1 (n:Int)=(((aT n 0 lo:Nat):Int),((aT n n hi:Nat):Int)):=by
 have h1:¬((1:Int)<0):=⋯;unfold Builtin.Slice.sliceAdjust;simp only[h1,if_false];refine Prod.ext ?_ ?_
 ·cases lo with
  | none=>rfl
  | some v=>exact Hh v n 0
 ·cases hi with
  | none=>rfl
  | some v=>exact Hh v n n
theorem OR(i j:Nat):Builtin.Slice.slicePlaces (i:Int) (j:Int) 1=j - i:=by
 unfold Builtin.Slice.slicePlaces;have h1:(1:Int)>0:=⋯;simp only[h1,if_true,Int.ediv_one];split<;>lia
theorem G3{Q:Option Int->Shared->Prop}(p:IsPart v o)(h:Q o s):wpAny (model prog w) A (Builtin.Slice.slicePartIndex v) Q E s:=by
 cases p with
 | none=>exact slicePart_none h
 | int i t=>exact slicePart_int h
theorem M8{lo hi:Option Int}{Q:Int×Int×Nat->Shared->Prop}(hs:s.heap.IsSliceOf sl vl vu .none)(pl:IsPart vl lo)(pu:IsPart vu hi)
  (h:Q (((aT n 0 lo:Nat):Int),1,aT n n hi - aT n 0 lo) s):wpAny (model prog w) A (Builtin.Slice.sliceApplied (.ref sl) (pure (n:Int))) Q E s:=by
 obtain⟨os,XW,hcs,hds⟩:=id hs;unfold Builtin.Slice.sliceApplied Builtin.Slice.sliceFields;refine wpAny_bind (wpAny_bind (wpAny_field XW hds (x:=vl) rfl (wpAny_bind (wpAny_field XW hds (x:=vu) rfl (wpAny_bind (wpAny_field XW hds (x:=.none) rfl (wpAny_pure ?_)))))));refine wpAny_bind (slicePart_none ?_);show wpAny _ _ (if((1:Int)==0)=true then _ else _) _ _ s;rw[if_neg ⋯];refine wpAny_bind (G3 pl (wpAny_bind (G3 pu (wpAny_bind (wpAny_pure ?_)))));show wpAny _ _ (match Builtin.Slice.sliceAdjust lo hi 1 (n:Int)with|(lo,hi)=>pure (lo,(1:Int),Builtin.Slice.slicePlaces lo hi 1)) _ _ s;rw[P_ lo hi n];show wpAny _ _ (pure (((aT n 0 lo:Nat):Int),(1:Int),Builtin.Slice.slicePlaces ((aT n 0 lo:Nat):Int) ((aT n n hi:Nat):Int) 1)) _ _ s;rw[OR];exact wpAny_pure h
theorem Qf(xs:Array Value)(i k:Nat):((List.range k).filterMap λ(m:Nat)=>xs[((i:Int)+(m:Int)*1).toNat]?).toArray=((xs.toList.drop i).take k).toArray:=by
 have e:(λ(m:Nat)=>xs[((i:Int)+(m:Int)*1).toNat]?)=λm=>xs[i+m]?:=by
  funext m;have:((i:Int)+(m:Int)*1).toNat=i+m:=⋯;rw[this]
 rw[e];have:=pick_run xs i k;rw[List.filterMap_map]at this;have e2:((λx=>xs[x]?)∘λx=>i+x)=λm=>xs[i+m]?:=rfl;rw[e2]at this;rw[this]
theorem PU{lo hi:Option Int}{Q:Value->Shared->Prop}(ht:IsTup s.heap t items)(hs:s.heap.IsSliceOf sl vl vu .none)(pl:IsPart vl lo)(pu:IsPart vu hi)
  (hw:¬(aT items.size 0 lo=0/\aT items.size items.size hi=items.size))
  (h:Q (.ref s.heap.objs.size) {s with heap:=s.heap.push {cls:=.type "tuple",data:=.seq ((items.toList.drop (aT items.size 0 lo)).take (aT items.size items.size hi - aT items.size 0 lo)).toArray}})
  (hsz:items.size<=sizeLine):wpAny (model prog w) A (getItem (.ref t) (.ref sl)) Q E s:=by
 have WH:sizeOk (.seq ((items.toList.drop (aT items.size 0 lo)).take (aT items.size items.size hi - aT items.size 0 lo)).toArray):=by
  show((items.toList.drop (aT items.size 0 lo)).take (aT items.size items.size hi - aT items.size 0 lo)).toArray.size<=sizeLine;rw[ql,wp,kr,Array.length_toList]
  lia
 have hj:aT items.size items.size hi<=items.size:=sf _ _ (qd _) hi;obtain⟨os,XW,hcs,hds⟩:=id hs;have hTs:s.TypeIs (.ref sl) "slice":=⟨os,XW,hcs⟩;unfold getItem
 try with_reducible refine wpAny_holding ?_
 first|refine wpAny_bind (wpAny_pure ?_)|skip
 refine wpAny_bind (wpAny_sequenceKey ht.typeIs ⋯ ?_);refine wpAny_bind (wpAny_callSpecial?_slot (name:=("__getitem__":Str)) ht.typeIs PyProof.Rows.slot_tuple_getitem
  (wpAny_call_entry PyProof.Rows.slot_tuple_getitem ht.typeIs entry_tuple_getitem ?_ (args_tuple_getitem _ _)))
 show wpAny _ _ (Builtin.Tuple.tupleItemsOf (.ref t) >>= _) _ _ s;refine wpAny_bind (tupleItemsOf_ ht ?_);refine wpAny_bind (wpAny_typeOf hTs ?_);rw[if_pos ⋯];refine wpAny_bind (M8 hs pl pu ?_);have hno:¬((((aT items.size 0 lo:Nat):Int)==0&&(1:Int)==1&&(aT items.size items.size hi - aT items.size 0 lo)==items.size)=true):=by
  intro q;rw[z4,z4]at q;have q1:((aT items.size 0 lo:Nat):Int)=0:=eq_of_beq q.1.1;have q2:aT items.size items.size hi - aT items.size 0 lo=items.size:=eq_of_beq q.2;exact hw ⟨⋯,⋯⟩
 show wpAny _ _ (if(((aT items.size 0 lo:Nat):Int)==0&&(1:Int)==1&&(aT items.size items.size hi - aT items.size 0 lo)==items.size)=true then _ else _) _ _ s;rw[if_neg hno,Qf]
 first
  | exact wpAny_bind (m:=Builtin.Tuple.tupleExact _) (wpAny_newObj_type (wpAny_pure ⟨_,rfl,wpAny_pure h⟩) WH)
  | exact wpAny_bind (m:=Builtin.Tuple.tupleExact _) (wpAny_newObj_type (wpAny_bind (wpAny_pure (wpAny_pure ⟨_,rfl,wpAny_pure h⟩))) WH)
  | exact wpAny_bind (wpAny_bind (m:=Builtin.Tuple.tupleExact _) (wpAny_newObj_type (wpAny_pure (wpAny_pure ⟨_,rfl,wpAny_pure h⟩)) WH))
  | exact wpAny_bind (wpAny_bind (m:=Builtin.Tuple.tupleExact _) (wpAny_newObj_type (wpAny_pure ⟨_,rfl,wpAny_pure h⟩) WH))
end
end HT
namespace L2
open PySem PySem.Spec PyProof.Rows
abbrev TO:=St->Hp->(Option Int->Hp->Prop)->Prop
def PO(X:Cx)(e:Option Expr)(t:TO):Prop:=
 ∀(pins:List (Addr×Obj)) (s:Shared) (σ:St) (H:Hp) (Q:Option Int->Hp->Prop),Inv X pins σ H s->t σ H Q->
  wpAny (model X.prog X.w) X.A (evalPart e X.env) (λu s'=>∃o H',Inv X pins σ H' s'/\IsPart u o/\Q o H') X.xe s
noncomputable def Jp:TO:=λ_ H Q=>Q none H
noncomputable def lD(t:TE):TO:=λσ H Q=>t σ H λx H1=>∃i,x=.int i/\Q ⇑i H1
theorem Ju:∀{us:List Value},Vals (ns.map V.int) us->IntsAre us ns:=by
 induction ns with
 | nil=>intro us r;rw[zo]at r;cases r;exact .nil
 | cons n ns ih=>
  intro us r;rw[List.map_cons]at r;cases r with
  | cons r1 r2=>
   obtain⟨t,e⟩:=r1;subst e;exact .cons n t (ih r2)
section
variable {X : Cx} {e : Expr} {te : TE} {lo hi : Option Expr} {tl th : TO} {pos p2 : Pos}
theorem Kk:PO X none Jp:=by
 intro pins s σ H Q I h;rw[evalPart_none];exact wpAny_pure ⟨none,H,I,.none,h⟩
theorem KU(h:PE X e te):PO X ⇑e (lD te):=by
 intro pins s σ H Q I hw;rw[evalPart_some];refine aJ (h pins s σ H _ I hw) λu s1 hh=> ?_;obtain⟨x,H1,I1,r1,q1⟩:=hh;obtain⟨i,rfl,q⟩:=q1;obtain⟨t,rfl⟩:=r1;exact⟨⇑i,H1,I1,.int i t,q⟩
def WY(X:Cx)(r:V->Option Int->Option Int->Hp->VK->Prop):Prop:=
 ∀(pins:List (Addr×Obj)) (s:Shared) (σ:St) (H:Hp) (x:V) (v vl vu:Value) (lo hi:Option Int) (sl:Addr) (Q:VK),Inv X pins σ H s->RelV x v->s.heap.IsSliceOf sl vl vu .none->IsPart vl lo->IsPart vu hi->r x lo hi H Q->
  ∃T id,typeLookup (.type T) "__getitem__"=pure ⇑(.builtin id)/\s.TypeIs v T/\wpAny (model X.prog X.w) X.A (getItem v (.ref sl)) (EP X pins σ Q) X.xe s
theorem WY.or{r r':V->Option Int->Option Int->Hp->VK->Prop}(h:WY X r)(h':WY X r'):WY X (λx lo hi H Q=>r x lo hi H Q\/r' x lo hi H Q):=by
 intro pins s σ H x v vl vu lo hi sl Q I rx hs pl pu q;rcases q with q|q
 ·exact h pins s σ H x v vl vu lo hi sl Q I rx hs pl pu q
 ·exact h' pins s σ H x v vl vu lo hi sl Q I rx hs pl pu q
noncomputable def GW(r:V->Option Int->Option Int->Hp->VK->Prop)(te:TE)(tl th:TO):TE:=λσ H Q=>te σ H λx H1=>tl σ H1 λl H2=>th σ H2 λu H3=>r x l u H3 Q
theorem Ig{r:V->Option Int->Option Int->Hp->VK->Prop}(hr:WY X r)(he:PE X e te)(hl:PO X lo tl)(hu:PO X hi th):PE X (.Subscript e (.Slice lo hi none p2) pos) (GW r te tl th):=by
 intro pins s σ H Q I h;refine Subscript_ (aJ (he pins s σ H _ I h) λv s1 hh=> ?_);obtain⟨x,H1,I1,r1,q1⟩:=hh;refine wpAny_Slice (aJ (hl pins s1 σ H1 _ I1 q1) λvl s2 ⟨l,H2,I2,pl,q2⟩=>aJ (hu pins s2 σ H2 _ I2 q2) λvu s3 hh=> ?_);obtain⟨u,H3,I3,pu,q3⟩:=hh;rw[evalPart_none];refine wpAny_pure ?_;have I4:Inv X pins σ H3 {s3 with heap:=s3.heap.push {cls:=.type "slice",data:=.fields #[vl,vu,.none]}}:=I3.kept (t':=s3.toks) λb ob q=>qb _ q;obtain⟨T,id,hT,ht,hg⟩:=hr pins {s3 with heap:=s3.heap.push {cls:=.type "slice",data:=.fields #[vl,vu,.none]}} σ H3 x v vl vu l u s3.heap.objs.size Q I4 r1 (Heap.IsSliceOf.new ..) pl pu q3;show wpAny (model X.prog X.w) X.A (subscriptTail e (.Slice lo hi none p2) v (.ref s3.heap.objs.size)) (EP X pins σ Q) X.xe {s3 with heap:=s3.heap.push {cls:=.type "slice",data:=.fields #[vl,vu,.none]}};exact tail_any (ops:=[.ref s3.heap.objs.size,v]) ht hT hg (by with_unfolding_all rfl)
noncomputable def dQ(xs:List V)(lo hi:Option Int):List V:=(xs.drop (HT.aT xs.length 0 lo)).take (HT.aT xs.length xs.length hi - HT.aT xs.length 0 lo)
theorem HX(xs:List V)(lo hi:Option Int):(dQ xs lo hi).length<=xs.length:=by
 unfold dQ;rw[wp,kr]
 lia
def uV(K:W.Frag):V->Option Int->Option Int->Hp->VK->Prop:=λx lo hi H Q=>∃a xs,x=.ref a/\S7 K H a xs/\
 ¬(HT.aT xs.length 0 lo=0/\HT.aT xs.length xs.length hi=xs.length)/\∀p,H p=none->Q (.ref p) (az H p (.tup (dQ xs lo hi)))
theorem nM:WY X (uV X.K):=by
 intro pins s σ H x v vl vu lo hi sl Q I rx hs pl pu h;obtain⟨a,xs,rfl,hx,hw,q⟩:=h;cases rx;obtain⟨RX,r,ht,hz⟩:=I.tuple hx;have hlen:RX.toArray.size=xs.length:=by rw[ql];exact r.length.symm
 refine⟨"tuple",_,PyProof.Rows.slot_tuple_getitem.lookup,ht.typeIs,?_⟩;refine HT.PU ht hs pl pu (by rw[hlen];exact hw) ?_ (by rw[hlen];exact hz);rw[hlen];refine⟨.ref s.heap.objs.size,_,I.laid (t':=s.toks) (o:=.tup (dQ xs lo hi)) (λb ob q=>qb _ q) (qd _) ?_,rfl,q _ (I.RZ.fresh (qd _))⟩;exact⟨zi (HX xs lo hi) hz,_,(r.drop (HT.aT xs.length 0 lo)).take (HT.aT xs.length xs.length hi - HT.aT xs.length 0 lo),IsTup.new _ _⟩
def nj(K:W.Frag):R2:=λx y H Q=>∃a b xs ys,x=.ref a/\y=.ref b/\S7 K H a xs/\S7 K H b ys/\xs≠[]/\xs.length+ys.length<=sizeLine/\
 (ys=[]->Q (.ref a) H)/\(ys≠[]->∀p,H p=none->Q (.ref p) (az H p (.tup (xs++ys))))
theorem Vals.Vh(r:Vals xs us):us=[]↔xs=[]:=by
 cases r with
 | nil=>simp
 | cons _ _=>simp
theorem Q7:bA X (binaryOp .Add) (nj X.K):=by
 intro pins s σ H x y v u Q I rx ry h;obtain⟨a,b,xs,ys,rfl,rfl,ha,hb,hx,hz,q1,q2⟩:=h;cases rx;cases ry;obtain⟨RX,r1,p1,_⟩:=I.tuple ha;obtain⟨WS,r2,p2,_⟩:=I.tuple hb;refine HT.QN p1 p2 (λz=>hx (r1.Vh.mp z)) (λz=>⟨.ref a,H,I,rfl,q1 (r2.Vh.mp z)⟩) (λz=> ?_) (by rw[<-r1.length,<-r2.length];exact hz);refine⟨.ref s.heap.objs.size,_,I.laid (t':=s.toks) (o:=.tup (xs++ys)) (λb ob q=>qb _ q) (qd _) ?_,rfl,q2 (λw=>z (r2.Vh.mpr w)) _ (I.RZ.fresh (qd _))⟩;exact⟨by rw[zh];exact hz,_,r1.append r2,IsTup.new _ _⟩
end
noncomputable def fK(n:Nat)(i:Int):Option Nat:=if 0<=i then(if i<n then some i.toNat else none)else if -(n:Int)<=i then some (i+n).toNat else none
def cx{α:Type}(xs:List α)(i:Int):Option α:=(fK xs.length i).bind λj=>xs[j]?
theorem N1(h:fK n i=⇑j):seqIndex? i n=⇑j/\j<n/\ -(n:Int)<=i/\i<n:=by
 unfold fK at h;by_cases h0:0<=i
 ·rw[if_pos h0]at h
  by_cases h1:i<n
  ·rw[if_pos h1]at h
   have e:i.toNat=j:=Option.some.inj h;exact⟨by rw[seqIndex_of h0 h1,e],⋯,⋯,h1⟩
  ·rw[if_neg h1]at h;cases h
 ·rw[if_neg h0]at h
  by_cases h1: -(n:Int)<=i
  ·rw[if_pos h1]at h
   have e:(i+n).toNat=j:=Option.some.inj h;exact⟨by rw[seqIndex_neg ⋯ h1,e],⋯,h1,⋯⟩
  ·rw[if_neg h1]at h;cases h
theorem Fd{α:Type}{xs:List α}{v:α}(h:cx xs i=⇑v):∃j,seqIndex? i xs.length=⇑j/\xs[j]?=⇑v/\j<xs.length/\ -(xs.length:Int)<=i/\i<xs.length:=by
 unfold cx at h;cases e:fK xs.length i with
 | none=>rw[e]at h;cases h
 | some j=>
  rw[e]at h;obtain⟨h1,h2,h3,h4⟩:=N1 e;exact⟨j,h1,h,h2,h3,h4⟩
def HQ(b:Expr):Prop:=∀o i,subscripted b false o i=operate [o,i] (getItem o i)
def W0(X:Cx)(r:R2):Prop:=
 ∀(value slice:Expr) (pins:List (Addr×Obj)) (s:Shared) (σ:St) (H:Hp) (x y:V) (v u:Value) (Q:VK),Inv X pins σ H s->RelV x v->RelV y u->r x y H Q->
  subscripted slice false v u=operate [v,u] (getItem v u)->wpAny (model X.prog X.w) X.A (subscriptTail value slice v u) (EP X pins σ Q) X.xe s
def so(X:Cx)(id:String)(r:V->List V->Hp->VK->Prop):Prop:=
 ∀(pins:List (Addr×Obj)) (s:Shared) (σ:St) (H:Hp) (x:V) (xs:List V) (v:Value) (us:List Value) (Q:VK),Inv X pins σ H s->RelV x v->Vals xs us->r x xs H Q->
  wpAny (model X.prog X.w) X.A (call (.builtin id) (v::us)) (EP X pins σ Q) X.xe s
section
variable {X : Cx} {a b : Expr} {ta tb : TE} {pos : Pos}
theorem W0.or(h:W0 X r)(h':W0 X r'):W0 X (λx y H Q=>r x y H Q\/r' x y H Q):=by
 intro value slice pins s σ H x y v u Q I rx ry q hs;rcases q with q|q
 ·exact h value slice pins s σ H x y v u Q I rx ry q hs
 ·exact h' value slice pins s σ H x y v u Q I rx ry q hs
theorem Ai(hr:W0 X r)(ha:PE X a ta)(hb:PE X b tb)(hs:HQ b):PE X (.Subscript a b pos) (oa r ta tb):=by
 intro pins s σ H Q I h;exact Subscript_ (qL ha hb I h λv u s2 x y H2 I2 rx ry q=>hr a b pins s2 σ H2 x y v u Q I2 rx ry q (hs _ _))
def xf(K:W.Frag):R2:=λx y H Q=>∃p xs i v,x=.ref p/\y=.int i/\R8 K H p xs/\cx xs i=⇑v/\Q v H
def xU(K:W.Frag):R2:=λx y H Q=>∃p xs i v,x=.ref p/\y=.int i/\S7 K H p xs/\cx xs i=⇑v/\Q v H
def xp:R2:=λx y H Q=>∃z i c,x=.str z/\y=.int i/\z.length<=sizeLine/\cx z.cps.toList i=⇑c/\Q (.str ⟨#[c]⟩) H
theorem QQ:W0 X (xf X.K):=by
 intro value slice pins s σ H x y v u Q I rx ry h hs;obtain⟨p,xs,i,z,rfl,rfl,hq,he,q⟩:=h;cases rx;obtain⟨t,rfl⟩:=ry;obtain⟨RX,r,pl,hz⟩:=I.list hq;obtain⟨j,h1,h2,h3,h4,h5⟩:=Fd he;obtain⟨w,ew,V7⟩:=r.get h2;have hl:=r.length;have hn:=sT;have fin:EP X pins σ Q w s:=⟨z,H,I,V7,q⟩;by_cases h0:0<=i
 ·have hj:i.toNat=j:=by
   rw[seqIndex_of h0 h5]at h1;exact Option.some.inj h1
  exact item_listR pl.isList h0 ⋯ (by rw[hj];simpa using ew) fin hs
 ·have hj:(i+(RX.toArray.size:Int)).toNat=j:=by
   rw[seqIndex_neg ⋯ h4]at h1;rw[ql,<-hl];exact Option.some.inj h1
  exact subscriptTail_builtinR (x:=w) pl.isList.typeIs slot_list_getitem.lookup
   (wpAny_getItem_list_neg (Q:=λr s'=>r=w/\EP X pins σ Q r s') pl.isList ⋯ (by rw[ql]<;>lia) ⋯ (by rw[hj];simpa using ew) ⟨rfl,fin⟩) hs
theorem rK:W0 X (xU X.K):=by
 intro value slice pins s σ H x y v u Q I rx ry h hs;obtain⟨p,xs,i,z,rfl,rfl,hq,he,q⟩:=h;cases rx;obtain⟨t,rfl⟩:=ry;obtain⟨RX,r,pl,hz⟩:=I.tuple hq;obtain⟨j,h1,h2,h3,h4,h5⟩:=Fd he;obtain⟨w,ew,V7⟩:=r.get h2;have hl:=r.length;have hn:=sT;have fin:EP X pins σ Q w s:=⟨z,H,I,V7,q⟩;exact subscriptTail_builtinR (x:=w) pl.typeIs slot_tuple_getitem.lookup
  (getItem_tuple (j:=j) (Q:=λr s'=>r=w/\EP X pins σ Q r s') pl ⋯ ⋯ (by rw[ql,<-hl];exact h1) (by simpa using ew) ⟨rfl,fin⟩) hs
theorem pC:W0 X xp:=by
 intro value slice pins s σ H x y v u Q I rx ry h hs;obtain⟨z,i,c,rfl,rfl,hz,he,q⟩:=h;obtain⟨t,rfl⟩:=rx;obtain⟨t',rfl⟩:=ry;obtain⟨j,h1,h2,h3,h4,h5⟩:=Fd he;have hl:z.cps.toList.length=z.length:=by simp[Str.length]
 rw[hl]at h1 h4 h5;have hn:=sT;exact tail_any (typeIs_str s z t) slot_str_getitem.lookup (getItem_str (c:=c) (by
  have e1:decide (i< -(2^63:Int))=false:=decide_eq_false ⋯;have e2:decide (i>=2^63)=false:=decide_eq_false ⋯;rw[e1,e2,Bool.or_false]) (by rw[h1];simpa using h2) ⟨.str ⟨#[c]⟩,H,I.tok _,⟨_,rfl⟩,q⟩) hs
def KH(K:W.Frag):R2:=λx y H Q=>xf K x y H Q\/xU K x y H Q\/xp x y H Q
theorem nY:W0 X (KH X.K):=QQ.or (rK.or pC)
theorem M6(lo hi:Option Int)(n:Nat):(sliceBounds lo hi none n).1=((HT.aT n 0 lo:Nat):Int)/\(sliceBounds lo hi none n).2.1=((HT.aT n n hi:Nat):Int)/\(sliceBounds lo hi none n).2.2=1:=by
 refine⟨?_,?_,rfl⟩
 ·cases lo with
  | none=>simp[sliceBounds,HT.aT]
  | some i=>
   simp only[sliceBounds,HT.aT,Option.getD_none,show(1:Int)>0 by decide,if_true];by_cases h:i<0
   ·simp only[h,if_true]<;>lia
   ·simp only[h,if_false]<;>lia
 ·cases hi with
  | none=>simp[sliceBounds,HT.aT]
  | some i=>
   simp only[sliceBounds,HT.aT,Option.getD_none,show(1:Int)>0 by decide,if_true];by_cases h:i<0
   ·simp only[h,if_true]<;>lia
   ·simp only[h,if_false]<;>lia
theorem P1(RX:List Value)(lo hi:Option Int):slicePick RX.toArray lo hi none=((RX.drop (HT.aT RX.length 0 lo)).take (HT.aT RX.length RX.length hi - HT.aT RX.length 0 lo)).toArray:=by
 obtain⟨h1,h2,h3⟩:=M6 lo hi RX.toArray.size;unfold slicePick;rw[h1,h2,h3];simp only[sliceRange_one,pick_run,ql]<;>rfl
def yQ(K:W.Frag):V->Option Int->Option Int->Hp->VK->Prop:=λx lo hi H Q=>∃a xs,x=.ref a/\R8 K H a xs/\∀p,H p=none->Q (.ref p) (az H p (.lst (dQ xs lo hi)))
theorem N4:WY X (yQ X.K):=by
 intro pins s σ H x v vl vu lo hi sl Q I rx hs pl pu h;obtain⟨a,xs,rfl,hx,q⟩:=h;cases rx;obtain⟨RX,r,ht,hz⟩:=I.list hx;have hlen:=r.length;refine⟨"list",_,slot_list_getitem.lookup,ht.isList.typeIs,?_⟩;refine wpAny_getItem_list_slice ht.isList hs pl pu .none (by simp) ?_ (by rw[ql]<;>lia);rw[P1,<-hlen];refine⟨.ref s.heap.objs.size,_,I.laid (t':=s.toks) (o:=.lst (dQ xs lo hi)) (λb ob q=>qb _ q) (qd _) ?_,rfl,q _ (I.RZ.fresh (qd _))⟩;exact⟨zi (HX xs lo hi) hz,_,0,(r.drop (HT.aT xs.length 0 lo)).take (HT.aT xs.length xs.length hi - HT.aT xs.length 0 lo),qq _ rfl⟩
noncomputable def iN:V->Bool
 | .RY=>true
 | .bl _=>true
 | .int _=>true
 | .str _=>true
 | _=>false
noncomputable def iY:V->V->Bool
 | .RY,.RY=>true
 | .bl a,.bl b=>a==b
 | .bl a,.int b=>(if a then 1 else 0)==b
 | .int a,.bl b=>a==(if b then 1 else 0)
 | .int a,.int b=>a==b
 | .str a,.str b=>a==b
 | _,_=>false
theorem rF(ry:RelV y u)(rx:RelV x v)(fy:iN y=true)(fx:iN x=true):SeqAt.EqAt A s u v (iY y x):=by
 cases y with
 | RY=>
  cases ry
  cases x with
  | RY=>cases rx;exact SeqAt.EqAt.same _
  | bl b=>cases rx;exact SeqAt.EqAt.none_bool b
  | int b=>obtain⟨t,rfl⟩:=rx;exact SeqAt.EqAt.none_int b t
  | str b=>obtain⟨t,rfl⟩:=rx;exact SeqAt.EqAt.none_str b t
  | _=>exact absurd (show false=true from fx) qx
 | bl a=>
  cases ry
  cases x with
  | RY=>cases rx;exact SeqAt.EqAt.bool_none a
  | bl b=>cases rx;exact SeqAt.EqAt.bool_bool a b
  | int b=>obtain⟨t,rfl⟩:=rx;exact SeqAt.EqAt.bool_int a b t
  | str b=>obtain⟨t,rfl⟩:=rx;exact SeqAt.EqAt.bool_str a b t
  | _=>exact absurd (show false=true from fx) qx
 | int a=>
  obtain⟨t',rfl⟩:=ry;cases x with
  | RY=>cases rx;exact SeqAt.EqAt.int_none a t'
  | bl b=>cases rx;exact SeqAt.EqAt.int_bool a t' b
  | int b=>obtain⟨t,rfl⟩:=rx;exact SeqAt.EqAt.int_int a t' b t
  | str b=>obtain⟨t,rfl⟩:=rx;exact SeqAt.EqAt.int_str a t' b t
  | _=>exact absurd (show false=true from fx) qx
 | str a=>
  obtain⟨t',rfl⟩:=ry;cases x with
  | RY=>cases rx;exact SeqAt.EqAt.str_none a t'
  | bl b=>cases rx;exact SeqAt.EqAt.str_bool a t' b
  | int b=>obtain⟨t,rfl⟩:=rx;exact SeqAt.EqAt.str_int a t' b t
  | str b=>obtain⟨t,rfl⟩:=rx;exact SeqAt.EqAt.str_str a t' b t
  | _=>exact absurd (show false=true from fx) qx
 | _=>exact absurd (show false=true from fy) qx
def fo(x:V)(u:Value):Bool:=match u with
 | .none=>iY .RY x
 | .bool b=>iY (.bl b) x
 | .int i _=>iY (.int i) x
 | .str z _=>iY (.str z) x
 | _=>false
theorem Hs(r:RelV y u)(f:iN y=true):fo x u=iY y x:=by
 cases y with
 | RY=>cases r;rfl
 | bl b=>cases r;rfl
 | int i=>obtain⟨t,rfl⟩:=r;rfl
 | str z=>obtain⟨t,rfl⟩:=r;rfl
 | _=>exact absurd (show false=true from f) qx
theorem zO{x:V}:∀{xs:List V} {us:List Value},Vals xs us->xs.all iN=true->us.any (fo x)=xs.any λy=>iY y x
 | _,_,.nil,_=>rfl
 | y::xs,u::us,.cons r t,f=>by
  rw[wm,z4]at f;rw[zz,zz,Hs r f.1,zO t f.2]
theorem vE{A:Around}{s:Shared}{x:V}{v:Value}(rx:RelV x v)(fx:iN x=true):∀{xs:List V} {us:List Value},Vals xs us->xs.all iN=true->∀u∈us,SeqAt.EqAt A s u v (fo x u)
 | _,_,.nil,_=>λu hu=>by cases hu
 | y::xs,u::us,.cons r t,f=>λu' hu=>by
  rw[wm,z4]at f;rcases qg.mp hu with rfl|hu
  ·rw[Hs r f.1];exact rF r rx f.1 fx
  ·exact vE rx fx t f.2 u' hu
def DY(x:V)(xs:List V):Bool:=xs.any λy=>iY y x
def Ee(K:W.Frag)(neg:Bool):R2:=λx y H Q=>∃p xs,y=.ref p/\(R8 K H p xs\/S7 K H p xs)/\iN x=true/\xs.all iN=true/\Q (.bl (if neg then !DY x xs else DY x xs)) H
theorem O0:bA X (compareOp .In) (Ee X.K false):=by
 intro pins s σ H x y v u Q I rx ry h;obtain⟨p,xs,rfl,hq,fx,fs,q⟩:=h;cases ry;rcases hq with hq|hq
 ·obtain⟨RX,r,pl,hz⟩:=I.list hq
  refine SeqAt.in_listAt (fo x) pl.isList (λw hw=>vE rx fx r fs w (by simpa using hw)) ⟨.bl _,H,I,rfl,?_⟩;rw[show RX.toArray.any (fo x)=RX.any (fo x) by simp,zO r fs];exact q
 ·obtain⟨RX,r,pl,hz⟩:=I.tuple hq
  refine SeqAt.in_tupleAt (fo x) pl (λw hw=>vE rx fx r fs w (by simpa using hw)) ⟨.bl _,H,I,rfl,?_⟩;rw[show RX.toArray.any (fo x)=RX.any (fo x) by simp,zO r fs];exact q
theorem MK:bA X (compareOp .NotIn) (Ee X.K true):=by
 intro pins s σ H x y v u Q I rx ry h;obtain⟨p,xs,rfl,hq,fx,fs,q⟩:=h;cases ry;rcases hq with hq|hq
 ·obtain⟨RX,r,pl,hz⟩:=I.list hq
  refine SeqAt.notIn_listAt (fo x) pl.isList (λw hw=>vE rx fx r fs w (by simpa using hw)) ⟨.bl _,H,I,rfl,?_⟩;rw[show RX.toArray.any (fo x)=RX.any (fo x) by simp,zO r fs];exact q
 ·obtain⟨RX,r,pl,hz⟩:=I.tuple hq
  refine SeqAt.notIn_tupleAt (fo x) pl (λw hw=>vE rx fx r fs w (by simpa using hw)) ⟨.bl _,H,I,rfl,?_⟩;rw[show RX.toArray.any (fo x)=RX.any (fo x) by simp,zO r fs];exact q
theorem Oz:bA X (compareOp .NotIn) (λx y H Q=>∃i j,x=.str i/\y=.str j/\Q (.bl (!(!(Builtin.Str.occurrences j i 0 j.length 1).isEmpty))) H):=by
 intro pins s σ H x y v u Q I rx ry h;obtain⟨i,j,rfl,rfl,q⟩:=h;obtain⟨t,rfl⟩:=rx;obtain⟨t',rfl⟩:=ry;exact notIn_str ⟨.bl _,H,I,rfl,q⟩
theorem Mg:S3 X (.builtin "len") (λxs H Q=>∃p ys,xs=[.ref p]/\(R8 X.K H p ys\/S7 X.K H p ys)/\Q (.int ys.length) H):=by
 intro pins s σ H xs us Q I r h;obtain⟨p,ys,rfl,hq,q⟩:=h;obtain⟨u,rfl,rx⟩:=eR r;cases rx;have hn:=sT;rcases hq with hq|hq
 ·obtain⟨RX,r',pl,hz⟩:=I.list hq
  have hlen:=r'.length;exact Calls.call_len_list pl.isList (by simp only[ql]<;>lia) ⟨.int ys.length,H,I.tok _,⟨s.toks+1,by rw[ql,hlen]⟩,q⟩
 ·obtain⟨RX,r',pl,hz⟩:=I.tuple hq
  have hlen:=r'.length;exact len_tuple pl (by simp only[ql]<;>lia) ⟨.int ys.length,H,I.tok _,⟨s.toks+1,by rw[ql,hlen]⟩,q⟩
theorem OQ:S3 X (.builtin "len") (λxs H Q=>∃z,xs=[.str z]/\z.length<=sizeLine/\Q (.int z.length) H):=by
 intro pins s σ H xs us Q I r h;obtain⟨z,rfl,hz,q⟩:=h;obtain⟨u,rfl,t,rfl⟩:=eR r;have hn:=sT;exact len_str ⋯ ⟨.int z.length,H,I.tok _,⟨_,rfl⟩,q⟩
theorem S3.or{r r':List V->Hp->VK->Prop}(h:S3 X f r)(h':S3 X f r'):S3 X f (λxs H Q=>r xs H Q\/r' xs H Q):=by
 intro pins s σ H xs us Q I rs q;rcases q with q|q
 ·exact h pins s σ H xs us Q I rs q
 ·exact h' pins s σ H xs us Q I rs q
theorem Px:S3 X (.type "list") (λxs H Q=>∃p ys,xs=[.ref p]/\(R8 X.K H p ys\/S7 X.K H p ys)/\∀l,H l=none->Q (.ref l) (az H l (.lst ys))):=by
 intro pins s σ H xs us Q I r h;obtain⟨p,ys,rfl,hq,q⟩:=h;obtain⟨u,rfl,rx⟩:=eR r;cases rx;have fin:∀(RX:List Value),Vals ys RX->ys.length<=sizeLine->∀(h':Heap) (c':Nat),(∀b o',s.heap.get? b=⇑o'->h'.get? b=⇑o')->
   h'.get? s.heap.objs.size=some {cls:=.type "list",dict:=none,data:=.seq RX.toArray c',slots:=#[]}->EP X pins σ Q (.ref s.heap.objs.size) {s with heap:=h'}:=λRX r' hz h' c' kp e=>
  ⟨.ref s.heap.objs.size,_,I.laid (t':=s.toks) kp (qd _) (show Tt X.prog X.w _ h' _ (.lst ys)from⟨hz,RX,c',r',e⟩),rfl,q _ (I.RZ.fresh (qd _))⟩
 rcases hq with hq|hq
 ·obtain⟨RX,r',pl,hz⟩:=I.list hq
  have hlen:=r'.length;obtain⟨o,ho,hc,n,hd⟩:=pl.isList;exact call_list_seq p (.inl rfl) ho hc hd (λh' c' kp e=>fin RX r' hz h' c' kp e) (by simp only[ql]<;>lia)
 ·obtain⟨RX,r',pl,hz⟩:=I.tuple hq
  have hlen:=r'.length;obtain⟨o,ho,hc,n,hd⟩:=pl;exact call_list_seq p (.inr rfl) ho hc hd (λh' c' kp e=>fin RX r' hz h' c' kp e) (by simp only[ql]<;>lia)
theorem LC:S3 X (.type "tuple") (λxs H Q=>∃p ys,xs=[.ref p]/\((R8 X.K H p ys/\∀l,H l=none->Q (.ref l) (az H l (.tup ys)))\/(S7 X.K H p ys/\Q (.ref p) H))):=by
 intro pins s σ H xs us Q I r h;obtain⟨p,ys,rfl,h⟩:=h;obtain⟨u,rfl,rx⟩:=eR r;cases rx;rcases h with⟨hq,q⟩|⟨hq,q⟩
 ·obtain⟨RX,r',pl,hz⟩:=I.list hq
  have hlen:=r'.length;refine call_tuple_list pl.isList (λh' kp=> ?_) (by simp only[ql]<;>lia);have I1:Inv X pins σ H {s with heap:=h'}:=I.kept (t':=s.toks) kp;have I2:Inv X pins σ (az H h'.objs.size (.tup ys)) {s with heap:=h'.push {cls:=.type "tuple",data:=.seq RX.toArray}}:=
   I1.laid (t':=s.toks) (λb o e=>qb _ e) (qd _) (show Tt X.prog X.w _ _ _ (.tup ys)from⟨hz,RX,r',IsTup.new _ _⟩)
  exact⟨.ref h'.objs.size,_,I2,rfl,q _ (I1.RZ.fresh (qd _))⟩
 ·obtain⟨RX,r',pl,hz⟩:=I.tuple hq
  exact call_tuple_same pl ⟨.ref p,H,I,rfl,q⟩
def Ga(K:W.Frag)(T:String)(x:V)(H:Hp):Prop:=match x with
 | .str _=>T="str"
 | .int _=>T="int"
 | .ref p=>(T="list"/\∃xs,R8 K H p xs)\/(T="tuple"/\∃o,K.lookup p=⇑o/\o.cls=.type "tuple"/\o.dict=none)\/
   (T="dict"/\((∃kvs,H p=⇑(.dK kvs))\/∃kvs,H p=⇑(.dT kvs)))\/(T="set"/\∃S n,H p=⇑(.set S n))
 | _=>False
theorem CC{σ:St}(I:Inv X pins σ H s)(r:RelV x v)(ty:Ga X.K T x H):
  s.TypeIs v T/\∀a,v=.ref a->∃ob,s.heap.get? a=⇑ob/\ob.dict=none:=by
 cases x with
 | str z=>
  obtain⟨t,rfl⟩:=r;cases(show T="str"from ty);exact⟨typeIs_str s z t,λ_ e=>nomatch e⟩
 | int i=>
  obtain⟨t,rfl⟩:=r;cases(show T="int"from ty);exact⟨typeIs_int s i t,λ_ e=>nomatch e⟩
 | ref p=>
  cases r
  rcases ty with⟨rfl,xs,hq⟩|⟨rfl,o,hk,hc,hd⟩|⟨rfl,hk⟩|⟨rfl,S,n,hk⟩
  ·obtain⟨RX,_,pl,_⟩:=I.list hq
   refine⟨pl.isList.typeIs,λa e=> ?_⟩;cases e;obtain⟨o,n,e,c,hd,_⟩:=pl;exact⟨o,e,hd⟩
  ·refine⟨⟨o,I.TK p o hk,hc⟩,λa e=> ?_⟩
   cases e
   exact⟨o,I.TK _ o hk,hd⟩
  ·have z:∃o,s.heap.get? p=⇑o/\o.ExactDict:=by
    rcases hk with⟨kvs,hk⟩|⟨kvs,hk⟩
    ·obtain⟨_,_,_,_,o,_,_,e,ex,_⟩:=I.RZ p _ hk
     exact⟨o,e,ex⟩
    ·obtain⟨_,_,_,_,o,_,_,e,ex,_⟩:=I.RZ p _ hk
     exact⟨o,e,ex⟩
   obtain⟨o,e,ex⟩:=z;refine⟨⟨o,e,ex.1⟩,λa e2=> ?_⟩;cases e2;exact⟨o,e,ex.2.1⟩
  ·obtain⟨o,_,_,_,e,ex,_⟩:=I.RZ p _ hk
   refine⟨⟨o,e,ex.1⟩,λa e2=> ?_⟩;cases e2;exact⟨o,e,ex.2.1⟩
 | _=>exact False.elim ty
noncomputable def jX(K:W.Frag)(T:String)(r:V->List V->Hp->VK->Prop)(to:TE):TE:=λσ H Q=>to σ H λx H1=>Ga K T x H1/\r x [] H1 Q
noncomputable def sM(K:W.Frag)(T:String)(r:V->List V->Hp->VK->Prop)(to:TE)(t:TA):TE:=λσ H Q=>to σ H λx H1=>Ga K T x H1/\t σ H1 λxs H2=>r x xs H2 Q
variable {o e : Expr} {es : List Expr} {to : TE} {t : TA} {name : Str} {apos SV : Pos} {T id : String} {r : V -> List V -> Hp -> VK -> Prop}
theorem pS(pa:PlainAttrs T)(slot:Slot T name id)(hty:typeOf (.builtin id)=pure (.type "method_descriptor"))(hm:so X id r)(ho:PE X o to)
  (UP:attributeBase o name X.env (eval o X.env)=eval o X.env:=by rfl) (UO:(apos.endLine==SV.line)=true:=by rfl):PE X (.Call (.Attribute o name apos) [] [] SV) (jX X.K T r to):=by
 intro pins s σ H Q I h;refine wpAny_Call_method0_late UP UO (aJ (ho pins s σ H _ I h) λv s1 hh=> ?_);obtain⟨x,H1,I1,r1,ty,q1⟩:=hh;obtain⟨h1,h2⟩:=CC I1 r1 ty;exact⟨T,id,pa,slot,hty,h1,h2,Calls.callWith_builtin rfl (PySem.evalArgs_none (hm pins s1 σ H1 x [] v [] Q I1 r1 .nil q1))⟩
theorem tI(pa:PlainAttrs T)(slot:Slot T name id)(hty:typeOf (.builtin id)=pure (.type "method_descriptor"))(hm:so X id r)(ho:PE X o to)(ha:PA X (e::es) t)
  (UP:attributeBase o name X.env (eval o X.env)=eval o X.env:=by rfl)
  (hfew:((backTo SV (starEach (e::es) X.env)).all (λx=> !x.1)&&(backToKw SV (keywordEach [] X.env)).all (λx=>x.1.isSome)
   &&decide ((e::es).length+([]:List Keyword).length+(if([]:List Keyword).isEmpty then 0 else 1)<30))=true:=by rfl)
  (UO:(apos.endLine==SV.line)=true:=by rfl) (hs:starEach (e::es) X.env=(false,eval e X.env)::starEach es X.env:=by rfl) (YL:(backTo SV (starEach es X.env)).any (·.1)=false:=by rfl):
  PE X (.Call (.Attribute o name apos) (e::es) [] SV) (sM X.K T r to t):=by
 intro pins s σ H Q I h;refine wpAny_Call_method_late UP hfew UO rfl (aJ (ho pins s σ H _ I h) λv s1 hh=> ?_);obtain⟨x,H1,I1,r1,ty,q1⟩:=hh;obtain⟨h1,h2⟩:=CC I1 r1 ty;refine⟨T,id,pa,slot,hty,h1,h2,?_⟩;have hA:=ha SV pins s1 σ H1 _ I1 q1;rw[hs]at hA ⊢;refine Calls.callWith_builtin (by show(false||(backTo SV (starEach es X.env)).any (·.1))=false;rw[YL]<;>rfl) (Calls.evalArgs_plain ?_);exact aJ hA λus s2 ⟨vs,H2,I2,r2,q2⟩=>hm pins s2 σ H2 x vs v us Q I2 r1 r2 q2
/- xs.append(e),list.index on a module's tuple .. are so facts of 06m -/
end
def OW(X:Cx)(id:String)(r:V->List V->Hp->VK->Prop):Prop:=
 ∀(pins:List (Addr×Obj)) (s:Shared) (σ:St) (H:Hp) (x:V) (xs:List V) (v:Value) (us:List Value) (Q:VK),Inv X pins σ H s->RelV x v->Vals xs us->r x xs H Q->
  wpAny (model X.prog X.w) X.A (call (.builtin id) (v::us)) (EP X pins σ Q) X.xe s
theorem Vals.one:∀{x:V} {us:List Value},Vals [x] us->∃u,us=[u]/\RelV x u
 | _,_,.cons r .nil=>⟨_,rfl,r⟩
section
variable {X : Cx} {pins : List (Addr × Obj)} {σ : St} {H : Hp} {s : Shared} {l b : Addr} {xs ys zs : List V}
theorem Inv.lset{RX its':List Value}{f:Array Value->Array Value}(I:Inv X pins σ H s)(hH:H l=⇑(.lst xs))
  (e:s.heap.get? l=some {cls:=.type "list",data:=.seq RX.toArray n}) (hf:f RX.toArray=its'.toArray) (hv:Vals ys its') (hz:ys.length<=sizeLine):
  Inv X pins σ (az H l (.lst ys)) {s with heap:=s.heap.update l (Obj.mapSeq f),toks:=t'}:=by
 have q:=PySem.IsL.update e f;rw[hf]at q;refine I.write (x:=l) (e:=l) (by rw[hH];exact trivial) (.inl rfl) (λb' u hb hu=>(Heap.get?_update_other s.heap (Obj.mapSeq f) (Ne.symm hb)).trans hu) ⟨_,q⟩ ?_;exact⟨hz,its',_,hv,q⟩
theorem Inv.lnew(I:Inv X pins σ H s)(hv:Vals ys RX)(hz:ys.length<=sizeLine):
  Inv X pins σ (az H s.heap.objs.size (.lst ys)) {s with heap:=s.heap.push {cls:=.type "list",data:=.seq RX.toArray},toks:=t'}:=
 I.laid (λ_ _ q=>qb _ q) (qd _) ⟨hz,RX,0,hv,qq _ rfl⟩
theorem Inv.fresh(I:Inv X pins σ H s):H s.heap.objs.size=none:=I.RZ.fresh (qd _)
theorem Inv.YG(I:Inv X pins σ H s)(hH:H l=⇑(.lst xs)):xs.length<=sizeLine/\∃(RX:List Value) (n:Nat),Vals xs RX/\xs.length=RX.length/\s.heap.get? l=some {cls:=.type "list",data:=.seq RX.toArray n}:=by
 obtain⟨z,RX,n,r,e⟩:=I.RZ l _ hH;exact⟨z,RX,n,r,r.length,e⟩
end
section
variable {X : Cx}
def K4:V->List V->Hp->VK->Prop:=λx vs H Q=>∃l xs y,x=.ref l/\vs=[y]/\H l=⇑(.lst xs)/\xs.length<sizeLine/\Q .RY (az H l (.lst (xs++[y])))
theorem Aj:OW X "list.append" K4:=by
 intro pins s σ H x vs v us Q I rx rv h;obtain⟨l,xs,y,rfl,rfl,hH,hz,q⟩:=h;cases rx;obtain⟨u,rfl,ru⟩:=rv.one;obtain⟨z,RX,n,r,hl,e⟩:=I.YG hH;refine call_meets F.slot_list_append ⟨_,e,rfl⟩ F.entry_list_append (F.args_list_append_2 _ _) (PySem.list_append l RX.toArray n u (by rw[ql];lia)) ⟨e,?_⟩;refine⟨.RY,_,I.lset (its':=RX++[u]) hH e (by simp) (r.append (.cons ru .nil)) ?_,rfl,q⟩;rw[zh,List.length_singleton]
 lia
def uc:R2:=λx y H Q=>∃l b xs zs,x=.ref l/\y=.ref b/\H l=⇑(.lst xs)/\H b=⇑(.lst zs)/\xs.length+zs.length<=sizeLine/\∀p,H p=none->Q (.ref p) (az H p (.lst (xs++zs)))
theorem rS:bA X (binaryOp .Add) uc:=by
 intro pins s σ H x y v u Q I rx ry h;obtain⟨l,b,xs,zs,rfl,rfl,hH,hB,hz,q⟩:=h;cases rx;cases ry;obtain⟨z,RX,n,r,hl,e⟩:=I.YG hH;obtain⟨z2,WS,n2,r2,hl2,e2⟩:=I.YG hB;refine PySem.P.add_list e e2 ?_ (by rw[ql,ql];lia);have ea:RX.toArray++WS.toArray=(RX++WS).toArray:=by simp
 rw[ea];exact⟨.ref _,_,I.lnew (t':=s.toks) (r.append r2) (by rw[zh];lia),rfl,q _ I.fresh⟩
end
section
variable {κ : Type} [DecidableEq κ]
noncomputable def bX(kvs:List (κ×V))(k:κ):Option V:=(kvs.find? λkv=>decide (kv.1=k)).map (·.2)
noncomputable def bj(kvs:List (κ×V))(k:κ)(v:V):List (κ×V):=
 if(kvs.any λkv=>decide (kv.1=k))=true then kvs.map (λkv=>if kv.1=k then(kv.1,v)else kv)else kvs++[(k,v)]
theorem Gx{p:κ×V}{r:List (κ×V)}{k:κ}(e:p.1=k):bX (p::r) k=⇑p.2:=by simp[bX,zt,e]
theorem Du{p:κ×V}{r:List (κ×V)}{k:κ}(e:¬p.1=k):bX (p::r) k=bX r k:=by simp[bX,zt,e]
theorem JP(k:κ):∀kvs:List (κ×V),(kvs.any λkv=>decide (kv.1=k))=(bX kvs k).isSome
 | []=>rfl
 | p::r=>by
  rw[zz];by_cases e:p.1=k
  ·simp only[Gx e,decide_eq_true e,Bool.true_or,Option.isSome_some]
  ·rw[Du e,decide_eq_false e,Bool.false_or];exact JP k r
theorem EX(kvs:List (κ×V))(k:κ)(v:V):(bj kvs k v).length<=kvs.length+1:=by
 unfold bj;split
 ·rw[qf];lia
 ·rw[zh,qw,zn];lia
theorem To.Sh(r:To o u):o.isSome=u.isSome:=by
 cases o with
 | none=>cases u with
  | none=>rfl
  | some _=>exact(show False from r).elim
 | some _=>cases u with
  | none=>exact(show False from r).elim
  | some _=>rfl
theorem KV.val{kvs:List (κ×V)}{vs:List (κ×Value)}(r:KV kvs vs)(k:κ):To (bX kvs k) (valueAt vs k):=by
 unfold KV at r
 induction r with
 | nil=>exact True.intro
 | @cons p q ps qs h t ih=>
  obtain⟨h1,h2⟩:=h;by_cases e:p.1=k
  ·have e':q.1=k:=h1.symm.trans e
   have b:valueAt (q::qs) k=⇑q.2:=by simp[valueAt,zt,e']
   rw[Gx e,b];exact h2
  ·have e':¬q.1=k:=λz=>e (h1.trans z)
   have b:valueAt (q::qs) k=valueAt qs k:=by simp[valueAt,zt,e']
   rw[Du e,b];exact ih
theorem KV.any{kvs:List (κ×V)}{vs:List (κ×Value)}(r:KV kvs vs)(k:κ):(kvs.any λkv=>decide (kv.1=k))=vs.any λkv=>decide (kv.1=k):=by
 unfold KV at r
 induction r with
 | nil=>rfl
 | cons h t ih=>rw[zz,zz,ih,h.1]
theorem KV.Yx{kvs:List (κ×V)}{vs:List (κ×Value)}(r:KV kvs vs)(k:κ){y:V}{u:Value}(ry:RelV y u):
  KV (kvs.map λkv=>if kv.1=k then(kv.1,y)else kv) (vs.map λkv=>if kv.1=k then(kv.1,u)else kv):=by
 unfold KV at r ⊢
 induction r with
 | nil=>exact .nil
 | @cons p q ps qs h t ih=>
  rw[List.map_cons,List.map_cons];refine .cons ?_ ih;obtain⟨h1,h2⟩:=h;by_cases e:p.1=k
  ·rw[if_pos e,if_pos (h1.symm.trans e)];exact⟨h1,ry⟩
  ·rw[if_neg e,if_neg (λz=>e (h1.trans z))];exact⟨h1,h2⟩
theorem KV.put{kvs:List (κ×V)}{vs:List (κ×Value)}(r:KV kvs vs)(k:κ){y:V}{u:Value}(ry:RelV y u):KV (bj kvs k y) (stored vs k u):=by
 unfold bj stored;rw[r.any k];by_cases e:(vs.any λkv=>decide (kv.1=k))=true
 ·rw[if_pos e,if_pos e];exact r.Yx k ry
 ·rw[if_neg e,if_neg e];exact Paired.snoc r ⟨rfl,ry⟩
theorem KV.keys{kvs:List (κ×V)}{vs:List (κ×Value)}(r:KV kvs vs):kvs.map (·.1)=vs.map (·.1):=by
 unfold KV at r
 induction r with
 | nil=>rfl
 | cons h t ih=>rw[List.map_cons,List.map_cons,ih,h.1]
theorem KV.length{kvs:List (κ×V)}{vs:List (κ×Value)}(r:KV kvs vs):kvs.length=vs.length:=Paired.length r
end
theorem gJ(r:RelV (kV k) u):(cV P w).is k u=true:=by
 cases k with
 | inl i=>obtain⟨t,e⟩:=(show ∃t,u=Value.int i t from r);subst e;exact NV P w i t
 | inr x=>obtain⟨t,e⟩:=(show ∃t,u=Value.str x t from r);subst e;exact Gb P w x t
theorem Jf:∀{ks:List aW} {us:List Value},Vals (ks.map kV) us->ItemsAre (cV P w) ks us
 | [],_,r=>by rw[zo]at r;cases r;exact .nil
 | k::ks,_,r=>by
  rw[List.map_cons]at r;cases r with
  | cons h t=>exact .cons (gJ h) (Jf t)
abbrev KT(H:Hp):List (List aW×V)->List (List aW×Addr×Value)->Prop:=Paired λp q=>p.1=q.1/\H q.2.1=⇑(.tup (p.1.map kV))/\RelV p.2 q.2.2
theorem KT.val(r:KT H kvs xs)(k:List aW):To (bX kvs k) ((atKey xs k).map (·.2)):=by
 induction r with
 | nil=>exact True.intro
 | @cons p q ps qs h t ih=>
  obtain⟨h1,_,h2⟩:=h;by_cases e:p.1=k
  ·have e':q.1=k:=h1.symm.trans e
   have b:atKey (q::qs) k=⇑q.2:=by simp[atKey,zt,e']
   rw[Gx e,b];exact h2
  ·have e':¬q.1=k:=λz=>e (h1.trans z)
   have b:atKey (q::qs) k=atKey qs k:=by simp[atKey,zt,e']
   rw[Du e,b];exact ih
theorem KT.Yx(r:KT H kvs xs)(k:List aW)(ry:RelV y u):
  KT H (kvs.map λkv=>if kv.1=k then(kv.1,y)else kv) (xs.map (putAt k u)):=by
 induction r with
 | nil=>exact .nil
 | @cons p q ps qs h t ih=>
  rw[List.map_cons,List.map_cons];refine .cons ?_ ih;obtain⟨h1,h2,h3⟩:=h;unfold putAt;by_cases e:p.1=k
  ·rw[if_pos e,if_pos (h1.symm.trans e)];exact⟨h1,h2,ry⟩
  ·rw[if_neg e,if_neg (λz=>e (h1.trans z))];exact⟨h1,h2,h3⟩
theorem KT.put(r:KT H kvs xs)(k:List aW)(hb:H b=⇑(.tup (k.map kV)))(ry:RelV y u):
  KT H (bj kvs k y) (storedH xs k b u):=by
 have e:(kvs.any λkv=>decide (kv.1=k))=(atKey xs k).isSome:=by
  rw[JP,(r.val k).Sh,u0]
 unfold bj storedH;rw[e];by_cases q:(atKey xs k).isSome=true
 ·rw[if_pos q,if_pos q];exact r.Yx k ry
 ·rw[if_neg q,if_neg q];exact Paired.snoc r ⟨rfl,hb,ry⟩
theorem KT.keeps(r:KT H kvs xs)(ht:∀b ys,H b=⇑(.tup ys)->H' b=⇑(.tup ys)):KT H' kvs xs:=
 Paired.YD r λ_ _ z=>⟨z.1,ht _ _ z.2.1,z.2.2⟩
section
variable {P : Program} {w : World} {H : Hp} {h : Heap} {a : Addr}
theorem mB(ok:SW P w H h)(e:Rd H a u):Tt P w H h a u:=e.ok ok
theorem sN(ok:SW P w H h)(e:Rd H a (.dK kvs)):kvs.length<=sizeLine/\(a==sysModules)=false/\∃vs,KV kvs vs/\h.DictOf (cV P w) a vs:=
 show Tt P w H h a (.dK kvs)from mB ok e
theorem B0(ok:SW P w H h)(e:H a=⇑(.dK kvs)):kvs.length<=sizeLine/\(a==sysModules)=false/\∃vs,KV kvs vs/\h.DictOf (cV P w) a vs:=sN ok (.inl e)
theorem tW(ok:SW P w H h)(e:H a=⇑(.tup (ks.map kV))):(tupleKind (cV P w)).is h ks a:=by
 obtain⟨_,RX,r,o,h1,h2,n,h3⟩:=(show Tt P w H h a (.tup (ks.map kV))from ok a _ e);exact⟨o,RX.toArray,n,h1,h2,h3,by simpa using Jf r⟩
theorem vn(ok:SW P w H h)(e:Rd H a (.dT kvs)):kvs.length<=sizeLine/\(a==sysModules)=false/\
  ∃xs,KT H kvs xs/\h.DictOfH (tupleKind (cV P w)) a xs:=by
 obtain⟨z,y,xs,r,o,es,ep,h1,h2,h3,h4,h5⟩:=(show Tt P w H h a (.dT kvs)from mB ok e);refine⟨z,y,xs,r,o,es,ep,h1,h2,h3,h4,λx hx=> ?_,h5⟩;have all:∀{l:List (List aW×V)} {m:List (List aW×Addr×Value)},KT H l m->∀x∈m,(tupleKind (cV P w)).is h x.1 x.2.1:=by
  intro l m q
  induction q with
  | nil=>intro x hx;exact nomatch hx
  | @cons p q ps qs hq t ih=>
   intro x hx;rcases qg.mp hx with e|hx
   ·subst e
    exact tW ok (by rw[<-hq.1];exact hq.2.1)
   ·exact ih x hx
 exact all r x hx
theorem vK(ok:SW P w H h)(e:H a=⇑(.dT kvs)):kvs.length<=sizeLine/\(a==sysModules)=false/\
  ∃xs,KT H kvs xs/\h.DictOfH (tupleKind (cV P w)) a xs:=vn ok (.inl e)
end
def Vr(H:Hp)(a:Addr)(y:V)(r:Option V):Prop:=
 (∃kvs k,Rd H a (.dK kvs)/\y=kV k/\r=bX kvs k)\/∃kvs k b,Rd H a (.dT kvs)/\y=.ref b/\H b=⇑(.tup (k.map kV))/\r=bX kvs k
def XD(H:Hp)(a:Addr)(y v:V)(H':Hp):Prop:=
 (∃kvs k,H a=⇑(.dK kvs)/\y=kV k/\kvs.length<sizeLine/\H'=az H a (.dK (bj kvs k v)))\/
 ∃kvs k b,H a=⇑(.dT kvs)/\y=.ref b/\H b=⇑(.tup (k.map kV))/\kvs.length<sizeLine/\H'=az H a (.dT (bj kvs k v))
theorem Vr.k{k:aW}(e:H a=⇑(.dK kvs)):Vr H a (kV k) (bX kvs k):=.inl ⟨kvs,k,.inl e,rfl,rfl⟩
theorem XD.k{k:aW}(e:H a=⇑(.dK kvs))(hl:kvs.length<sizeLine):XD H a (kV k) v (az H a (.dK (bj kvs k v))):=.inl ⟨kvs,k,e,rfl,hl,rfl⟩
section
variable {X : Cx} {pins : List (Addr × Obj)} {σ : St} {H : Hp} {s : Shared} {a : Addr} {y v : V} {u r : Value} {o : Option V} {A : Around} {E : Value -> Shared -> Prop}
theorem Inv.big(I:Inv X pins σ H s):sysModules<s.heap.objs.size:=by
 have h:mainGlobals<s.heap.objs.size:=(I.mod.glob.keeps I.bk).lt;exact Nat.lt_trans ⋯ h
theorem Mx{Q:Value->Shared->Prop}(hu:A.units+1<cLine)(I:Inv X pins σ H s)(g:Vr H a y ⇑v)(ry:RelV y u)(h:∀w' s',Inv X pins σ H s'->RelV v w'->Q w' s'):
  wpAny (model X.prog X.w) A (getItem (.ref a) u) Q E s:=by
 rcases g with⟨kvs,k,e,ey,l⟩|⟨kvs,k,b,e,ey,eb,l⟩
 ·subst ey
  obtain⟨z,hd,vs,rel,dd⟩:=sN I.RZ e;obtain⟨w',hw,V7⟩:=To.some_of (v:=v) (o:=valueAt vs k) (by rw[l];exact rel.val k);exact wpAny_getItem_of (gJ ry) dd.mapOf hw (h w' _ (I.tok _) V7)
 ·subst ey
  cases(show u=Value.ref b from ry)
  obtain⟨z,hd,xs,rel,dd⟩:=vn I.RZ e;obtain⟨w',hw,V7⟩:=To.some_of (v:=v) (o:=(atKey xs k).map (·.2)) (by rw[l];exact rel.val k);obtain⟨p,hp,hp2⟩:=qi.mp hw;refine wpAny_getItem_heap (tupleKind_room_in1 hu) (tW I.RZ eb) dd hp ?_;rw[hp2];exact h w' _ (I.tok _) V7
theorem CJ{Q:Value->Shared->Prop}(hu:A.units+1<cLine)(I:Inv X pins σ H s)(g:Vr H a y o)(ry:RelV y u)(h:∀s',Inv X pins σ H s'->Q (.bool o.isSome) s'):
  wpAny (model X.prog X.w) A (compareOp .In u (.ref a)) Q E s:=by
 rcases g with⟨kvs,k,e,ey,l⟩|⟨kvs,k,b,e,ey,eb,l⟩
 ·subst ey
  obtain⟨z,hd,vs,rel,dd⟩:=sN I.RZ e;refine wpAny_in_of (gJ ry) hd dd.mapOf ?_;rw[<-(rel.val k).Sh,<-l];exact h _ (I.tok _)
 ·subst ey
  cases(show u=Value.ref b from ry)
  obtain⟨z,hd,xs,rel,dd⟩:=vn I.RZ e;refine wpAny_in_heap (tupleKind_room_in1 hu) (tW I.RZ eb) hd dd ?_;have q:=(rel.val k).Sh;rw[u0]at q;rw[<-q,<-l];exact h _ (I.tok _)
theorem Qg{Q:Value->Shared->Prop}(hu:A.units+1<cLine)(I:Inv X pins σ H s)(g:Vr H a y o)(ry:RelV y u)(h:∀s',Inv X pins σ H s'->Q (.bool (!o.isSome)) s'):
  wpAny (model X.prog X.w) A (compareOp .NotIn u (.ref a)) Q E s:=by
 rcases g with⟨kvs,k,e,ey,l⟩|⟨kvs,k,b,e,ey,eb,l⟩
 ·subst ey
  obtain⟨z,hd,vs,rel,dd⟩:=sN I.RZ e;refine wpAny_notIn_of (gJ ry) hd dd.mapOf ?_;rw[<-(rel.val k).Sh,<-l];exact h _ (I.tok _)
 ·subst ey
  cases(show u=Value.ref b from ry)
  obtain⟨z,hd,xs,rel,dd⟩:=vn I.RZ e;refine wpAny_notIn_heap (tupleKind_room_in1 hu) (tW I.RZ eb) hd dd ?_;have q:=(rel.val k).Sh;rw[u0]at q;rw[<-q,<-l];exact h _ (I.tok _)
theorem DU(I:Inv X pins σ H s)(mu:vP (H a))(hs:Heap.SameBut a s.heap h')(he:∃q,h'.get? a=⇑q)(new:Tt X.prog X.w (az H a ob) h' a ob):
  Inv X pins σ (az H a ob) {s with heap:=h',toks:=t'}:=
 I.write (x:=a) (e:=a) mu (.inl rfl) (λb q hb z=>(hs.2 b hb).trans z) he new
theorem Kn(z:kvs.length<=sizeLine)(hd:(a==sysModules)=false)(rel:KV kvs vs)(dd:h'.DictOf (cV P w) a vs):
  Tt P w H' h' a (.dK kvs):=⟨z,hd,vs,rel,dd⟩
theorem NM{Q:Unit->Shared->Prop}(hu:A.units+1<cLine)(I:Inv X pins σ H s)(g:XD H a y v H')(ry:RelV y u)(rv:RelV v r)(h:∀s',Inv X pins σ H' s'->Q () s'):
  wpAny (model X.prog X.w) A (setItem (.ref a) u r) Q E s:=by
 rcases g with⟨kvs,k,e,ey,l,eH⟩|⟨kvs,k,b,e,ey,eb,l,eH⟩
 ·subst ey eH
  obtain⟨z,hd,vs,rel,dd⟩:=B0 I.RZ e;have hz:vs.length<=sizeLine:=by rw[<-rel.length];exact z
  have hl:(bj kvs k v).length<=sizeLine:=by have:=EX kvs k v;lia
  refine wpAny_setItem_pairs (hsz:=hz) (gJ ry) dd λh' YZ hs=>h _ ?_;have he:∃q,h'.get? a=⇑q:=let ⟨q,_,_,hq,_⟩:=YZ;⟨q,hq⟩;exact DU I (by rw[e];exact True.intro) hs he (Kn hl hd (rel.put k rv) YZ)
 ·subst ey eH
  cases(show u=Value.ref b from ry)
  obtain⟨z,hd,xs,rel,dd⟩:=vK I.RZ e;have hz:xs.length<=sizeLine:=by rw[<-Paired.length rel];exact z
  have hl:(bj kvs k v).length<=sizeLine:=by have:=EX kvs k v;lia
  refine wpAny_setItem_heap (hsz:=hz) (tupleKind_room_in1 hu) (tW I.RZ eb) dd λh' YZ hs=>h _ ?_;obtain⟨q,es,ep,hq,h2,h3,h4,_,h5⟩:=YZ;refine DU I (by rw[e];exact True.intro) hs ⟨q,hq⟩ ⟨hl,hd,_,(rel.put k eb rv).keeps λc ys ec=> ?_,q,es,ep,hq,h2,h3,h4,h5⟩;rw[aE (xt ec e (λz=>nomatch z))];exact ec
end
section
variable {X : Cx} {pins : List (Addr × Obj)} {σ : St} {H : Hp} {s : Shared} {a : Addr} {kvs : List (aW × V)} {k : aW} {u : Value} {A : Around} {E : Value -> Shared -> Prop}
theorem tY{Q:Value->Shared->Prop}(I:Inv X pins σ H s)(e:Rd H a (.dK kvs))(h:∀t s',Inv X pins σ H s'->Q (.int kvs.length t) s'):wpAny (model X.prog X.w) A (call (.builtin "len") [.ref a]) Q E s:=by
 obtain⟨z,hd,vs,rel,dd⟩:=sN I.RZ e;refine call_len_dict hd dd (by rw[<-rel.length];rw[sizeLine_eq]at z;lia) ?_;rw[<-rel.length];exact h _ _ (I.tok _)
end
theorem O5{σ:St}(I:Inv X pins σ H s)(g:Vr H a y o):s.TypeIs (.ref a) "dict":=by
 rcases g with⟨kvs,k,e,_,_⟩|⟨kvs,k,b,e,_,_,_⟩
 ·obtain⟨_,_,vs,_,dd⟩:=sN I.RZ e
  exact dd.typeIs
 ·obtain⟨_,_,xs,_,dd⟩:=vn I.RZ e
  exact dd.typeIs
noncomputable def mM(td ty tv:TE):TS:=λD σ H=>tv σ H λv H1=>td σ H1 λx H2=>ty σ H2 λy H3=>∃a H4,x=.ref a/\XD H3 a y v H4/\D.nx σ H4
section
variable {X : Cx} {o i e value : Expr} {pos pos' V3 : Pos} {td ty tv : TE}
theorem MQ(hu:X.A.units+1<cLine)(ho:PE X o td)(hi:PE X i ty)(hv:PE X value tv)(hs:swapsWith value ⇑(.Subscript o i pos') pos.line X.env=pure false):
  PS X (.Assign [.Subscript o i pos'] value pos) (mM td ty tv):=by
 intro pins s σ H D I h;refine wpAny_Assign_Subscript (aJ (hv pins s σ H _ I h) λr s1 ⟨v,H1,I1,rv,q1⟩=>aJ (ho pins s1 σ H1 _ I1 q1) λu s2 ⟨x,H2,I2,rx,q2⟩=>aJ (hi pins s2 σ H2 _ I2 q2) λiv s3 ⟨y,H3,I3,ry,a,H4,ex,g,q3⟩=> ?_) hs;subst ex;obtain rfl:u=Value.ref a:=rx;exact NM hu I3 g ry rv λs4 I4=>⟨σ,H4,I4,q3⟩
end
theorem HG(h:Heap)(hb:sysModules<h.objs.size):Tt P w H (h.push {cls:=.type "dict",data:=.dict #[]}) h.objs.size (.dK []):=
 ⟨w6 _,beq_eq_false_iff_ne.mpr (Ne.symm (qo hb)),[],.nil,Heap.DictOf.new h⟩
def JV:TE:=λ_ H Q=>∀p,H p=none->Q (.ref p) (az H p (.dK []))
section
variable {X : Cx} {pos : Pos}
theorem Mn:PE X (.Dict [] [] pos) JV:=λpins s σ H Q I h=>
 wpAny_Dict_empty ⟨.ref s.heap.objs.size,_,I.laid (a:=s.heap.objs.size) (o:=.dK []) (t':=s.toks) (λ_ _ q=>qb _ q) (qd _) (HG s.heap I.big),rfl,h _ (I.RZ.fresh (qd _))⟩
end
def Gf:List (TE×TE)->St->Hp->(List (V×V)->Hp->Prop)->Prop
  | [],_,H,Q=>Q [] H
  | (tk,tv)::r,σ,H,Q=>tk σ H λx H1=>tv σ H1 λy H2=>Gf r σ H2 λps H3=>Q ((x,y)::ps) H3
abbrev VV:List (V×V)->List (Value×Value)->Prop:=Paired λp q=>RelV p.1 q.1/\RelV p.2 q.2
def Bg(X:Cx)(pos:Pos)(keys:List (Option Expr))(values:List Expr)(Yu:List (TE×TE)):Prop:=
 ∀(pins:List (Addr×Obj)) (s:Shared) (σ:St) (H:Hp) (Q:List (V×V)->Hp->Prop),Inv X pins σ H s->Gf Yu σ H Q->
  wpAny (model X.prog X.w) X.A (evalPairs (pairTrees keys values X.env pos)) (λvs s'=>∃ps H',Inv X pins σ H' s'/\VV ps vs/\Q ps H') X.xe s
theorem Oj:Bg X pos [] [] []:=λpins s σ H Q I h=>pairTrees_nil_walk ⟨[],H,I,.nil,h⟩
theorem NT(hk:PE X k tk)(hv:PE X v tv)(hr:Bg X pos ks vs Yu):
  Bg X pos (⇑k::ks) (v::vs) ((tk,tv)::Yu):=λpins s σ H Q I h=>
 pairTrees_cons_walk (aJ (hk pins s σ H _ I h) λu s1 ⟨x,H1,I1,rx,q1⟩=>aJ (hv pins s1 σ H1 _ I1 q1) λw2 s2 ⟨y,H2,I2,ry,q2⟩=>
  aJ (hr pins s2 σ H2 _ I2 q2) λws s3 ⟨ps,H3,I3,rel,q3⟩=>⟨(x,y)::ps,H3,I3,.cons ⟨rx,ry⟩ rel,q3⟩)
def yw(kvs more:List (aW×V)):List (aW×V):=more.foldl (λacc kv=>bj acc kv.1 kv.2) kvs
theorem KV.merge:∀{more:List (aW×V)} {rs:List (aW×Value)} {kvs:List (aW×V)} {vs:List (aW×Value)},KV more rs->KV kvs vs->KV (yw kvs more) (merged vs rs):=by
 intro more rs kvs vs r;unfold KV at r
 induction r generalizing kvs vs with
 | nil=>intro q;exact q
 | @cons p q ps qs h t ih=>
  intro r0;have e:KV (bj kvs p.1 p.2) (stored vs q.1 q.2):=by
   have:=r0.put p.1 h.2;rw[<-h.1];exact this
  exact ih e
theorem HI:∀(more kvs:List (aW×V)),(yw kvs more).length<=kvs.length+more.length
 | [],kvs=>by show kvs.length<=kvs.length+0;lia
 | p::r,kvs=>by
  have h1:=HI r (bj kvs p.1 p.2);have h2:=EX kvs p.1 p.2;show(yw (bj kvs p.1 p.2) r).length<=_;rw[qw];lia
theorem HY:∀{kvs:List (aW×V)} {ws:List (Value×Value)},VV (kvs.map λkv=>(kV kv.1,kv.2)) ws->∃rs,Carries (cV P w) ws rs/\KV kvs rs
 | [],_,r=>by rw[zo]at r;cases r;exact⟨[],True.intro,.nil⟩
 | p::kvs,_,r=>by
  rw[List.map_cons]at r;cases r with
  | @cons a b as bs h t=>
   obtain⟨rs,c,q⟩:=HY (P:=P) (w:=w) t;obtain⟨b1,b2⟩:=b;exact⟨(p.1,b2)::rs,⟨gJ h.1,rfl,c⟩,.cons ⟨rfl,h.2⟩ q⟩
def mT(Yu:List (TE×TE)):TE:=λσ H Q=>∀p,H p=none->Gf Yu σ (az H p (.dK [])) λps H2=>H2 p=⇑(.dK [])/\∃kvs:List (aW×V),ps=kvs.map (λkv=>(kV kv.1,kv.2))/\kvs.length<=15/\Q (.ref p) (az H2 p (.dK (yw [] kvs)))
theorem P4(h:Bg X pos keys values Yu)(TC:keys.all (·.isSome)=true)(hl:keys.length=values.length)(h0:keys≠[])
  (h15:keys.length<=15):PE X (.Dict keys values pos) (mT Yu):=by
 intro pins s σ H Q I q;have hn:=I.RZ.fresh (qd s.heap.objs.size);have I1:=I.laid (a:=s.heap.objs.size) (o:=.dK []) (h':=s.heap.push {cls:=.type "dict",data:=.dict #[]}) (t':=s.toks) (λ_ _ q=>qb _ q) (qd _) (HG s.heap I.big);refine wpAny_Dict_walk (knd:=cV X.prog X.w) TC hl h0 h15 (aJ (h pins _ σ _ _ I1 (q _ hn)) λws s2 hh=> ?_);obtain⟨ps,H2,I2,rel,e,kvs,ep,lk,q2⟩:=hh;subst ep;obtain⟨rs,c,rk⟩:=HY (P:=X.prog) (w:=X.w) rel;obtain⟨z,hd,vs0,r0,dd⟩:=B0 I2.RZ e;cases r0;refine⟨rs,c,dd,λh' YZ hs=>⟨.ref s.heap.objs.size,_,?_,rfl,q2⟩⟩;have hz:(yw [] kvs).length<=sizeLine:=by
  have h1:=HI kvs [];rw[zn]at h1;rw[sizeLine_eq];lia
 have he:∃q,h'.get? s.heap.objs.size=⇑q:=let ⟨q,_,_,hq,_⟩:=YZ;⟨q,hq⟩;exact DU I2 (by rw[e];exact True.intro) hs he (Kn hz hd (rk.merge .nil) YZ)
end L2
namespace Att
open PySem PySem.W PySem.Calls PyProof.Rows
theorem MW:∀(ns:List Int) (vs:List Value),WellAll P h vs (ns.map WData.int)->IntsAre vs ns:=by
 intro ns
 induction ns with
 | nil=>
  intro vs w;rw[zo]at w;cases w;exact .nil
 | cons n ns ih=>
  intro vs w;rw[List.map_cons]at w;cases w with
  | cons a b=>
   cases a
   exact .cons _ _ (ih _ b)
theorem OU{l:OpenLaw}(hn:l.most=⇑n)
    (XU:l.row.toRowW.claim.pre args=true) (hwl:WellAll P h vals args):
    ∃a vs ns,vals=[Value.ref a]/\args=[WData.list (ns.map WData.int)]/\h.get? a=some {cls:=.type "list",data:=.seq vs.toArray}/\IntsAre vs ns/\ns.length<=n:=by
  have hsh:WShape.hasAll [] args [.list .int]=true:=(pre_splitW XU).1;have hc:l.pre.holds [] {args:=args}=true:=(pre_splitW XU).2;obtain⟨d,r,rfl,h1,h2⟩:=hasAllW_cons hsh;obtain rfl:=hasAllW_nil h2;obtain⟨xs,rfl,h3⟩:=hasW_list h1;obtain⟨ns,rfl⟩:=items_int h3;have hlen:ns.length<=n:=by
    unfold OpenLaw.pre at hc;have h4:(WTm.not (.lt (.lit (.int (n:Int))) (.len (.arg 0)))).holds [] {args:=[.list (ns.map .int)]}=true:=by
      have h4:=(holds_andW hc).1;rw[hn]at h4;exact h4
    have h5:=condW_of h4 (w_not (w_lt w_lit (w_len_list (w_arg rfl))));rw[qf]at h5;refine Nat.le_of_not_lt λq=> ?_;have q':(n:Int)<((ns.length:Nat):Int):=⋯
    first
      | (rw[decide_eq_true q']at h5;exact absurd h5 ⋯)
      | (simp at h5;lia)
  cases hwl with
  | cons w1 w2=>
    cases w2
    cases w1 with
    | list ho TC=>exact⟨_,_,ns,rfl,rfl,ho,MW ns _ TC,hlen⟩
theorem Nh(l:OpenLaw)(args:List WData):l.row.toRowW.claim.post args (.bool true) args=true:=
 postW_of (r:=l.row.toRowW) (X:=(true==true))
  (show WShape.has [] (.bool true) .bool=true by first|rfl|decide|simp[WShape.has,WShape.arms,WShape.armsAll])
  (show(WTm.eq .res (.lit (.bool true))).value [] {args:=args,res:=⇑(.bool true),after:=args}=⇑(.bool (true==true))from w_eq_bool (w_res rfl) w_lit) rfl
theorem VO{l:OpenLaw}{XP:(Str->Option Value)->Heap->Prop}{YP:World->Heap->Prop}
  (hn:l.most=⇑n) (hdf:d.params.defaults=[])
  (call:∀(w:World) (s₀ s₁:Shared) (mg mb:Str->Option Value) (fa:Addr) (o:Obj) (pm cd doc:Value) (a:Addr) (vs:List Value) (ns:List Int),
   Ground q loose [] XP w s₀ mg mb s₁.heap->YP w s₁.heap->
   s₁.heap.get? fa=⇑o->o.data=.func (docDef d.name d.params d.body d.scope pm cd doc)->s₁.heap.CodeRec cd d.name->mg d.name=⇑(.ref fa)->
   s₁.heap.get? a=some {cls:=.type "list",data:=.seq vs.toArray}->IntsAre vs ns->ns.length<=n->s₁.gens=#[]->
   codeAny (model l.prog w) callerA (.call (.ref fa) ⟨[.ref a],[]⟩) (λr s'=>r=.ok (.ret (.bool true))/\OldK s₁.heap s'.heap/\s'.os=s₁.os/\AllBare s'.gens) s₁):
  WalkO q loose XP YP l.row.toRowW d [] (λf vs=>PySem.call f vs):=by
 intro w s₀ s₁ mg mb G Y fa o pm cd doc dV kV ho hd Xq hD hmg hg args vals as XU hlay hrd hwl hlo;obtain rfl:dV=.none:=Dflts.none hD hdf;obtain rfl:kV=.none:=Dflts.noKw hD;obtain⟨a,vs,ns,rfl,rfl,YN,hints,hlen⟩:=OU hn XU hwl;refine enter_call (codeAny_mono (call w s₀ s₁ mg mb fa o pm cd doc a vs ns G Y ho (fd_plain hd) Xq hmg YN hints hlen hg) λr s' hq=> ?_);obtain⟨rfl,h2,h3,h4⟩:=hq;exact⟨.inl ⟨.bool true,.bool true,[],rfl,λ_=>rfl,.bool true,Nh l _,λ_=>⟨List.Pairwise.nil,λ_ hm=>(nomatch hm)⟩⟩,h2,h3,h4⟩
end Att
namespace L2
open PySem PySem.Spec PyProof.Rows
theorem B7:∀{vs:List Value} {ns:List Int},IntsAre vs ns->Vals (ns.map V.int) vs
 | _,_,.nil=>.nil
 | _,_,.cons n t h=>.cons ⟨t,rfl⟩ (B7 h)
def h7(H:Hp):Prop:=∀b,H b=none\/∃o xs,H b=⇑(.SY o (.lst xs))
theorem LN{K:W.Frag}{mg mb:Str->Option Value}
  (KX:K.In s₁.heap) (hns:s₁.heap.Ns mainGlobals mg) (hb:s₁.heap.Ns builtinsNs mb) (hbb:∀x:Str,x≠"__name__"->mb x=bootBuiltins x) (hlim:s₁.heap.NoLimit) (hg:s₁.gens=#[])
  (ha:s₁.heap.get? a=some {cls:=.type "list",data:=.seq vs.toArray}) (hi:IntsAre vs ns) (hl:ns.length<=sizeLine) (hr:Sf k callerA)
  (F:∀base:Heap,K.In base->base.Ns mainGlobals mg->Si P w K mg base CX k fa fd [x] sp) (hbind:∀(s:Shared) (u:Value),BindsTo s fd ⟨[u],[]⟩ [(x,u)])
  (XF:∀H:Hp,h7 H->R8 K H a (ns.map V.int)->sp [.ref a] H (λv _=>v=.bl true) λ_ _ _=>False)
  (hCX:∀H e s',CX [] H s₁ (λ_ _ _=>False) e s'->False):
  codeAny (model P w) callerA (.call (.ref fa) ⟨[.ref a],[]⟩) (λr s'=>r=.ok (.ret (.bool true))/\OldK s₁.heap s'.heap/\s'.os=s₁.os/\AllBare s'.gens) s₁:=by
 have rv:=B7 hi;have lenV:=hi.length;have core:∀H:Hp,h7 H->R8 K H a (ns.map V.int)->SW P w H s₁.heap->(∀b,H b≠none->b=a)->(H a≠none->K.lookup a=none)->
   codeAny (model P w) callerA (.call (.ref fa) ⟨[.ref a],[]⟩) (λr s'=>r=.ok (.ret (.bool true))/\OldK s₁.heap s'.heap/\s'.os=s₁.os/\AllBare s'.gens) s₁:=by
  intro H hO hS RZ hA hK;have WL:∀{b:Addr} {o:Obj},s₁.heap.get? b=⇑o->H b=none->(dq s₁.heap H).get? b=⇑o:=λe n=>NG e n;have noA:∀{b:Addr} {o:Obj} {es:Array DictEntry} {ep:Nat},s₁.heap.get? b=⇑o->o.data=.dict es ep->H b=none:=fun{b o es ep} e d=>by
   cases q:H b with
   | none=>rfl
   | some u=>
    have e':b=a:=hA b (by rw[q];simp);subst e';rw[ha]at e;cases e;have d':Data.seq vs.toArray _=Data.dict es ep:=d;cases d'
  have nsK:∀{b:Addr} {m:Str->Option Value},s₁.heap.Ns b m->(dq s₁.heap H).Ns b m:=fun{b m} ⟨o,es,ep,e,d,r⟩=>⟨o,es,ep,WL e (noA e d),d,r⟩;have hKb:K.In (dq s₁.heap H):=λb o e=>WL (KX b o e) (by
   cases q:H b with
   | none=>rfl
   | some u=>
    have e':b=a:=hA b (by rw[q];simp);subst e';rw[hK (by rw[q];simp)]at e;cases e)
  have hM:Mod K mg (dq s₁.heap H):=⟨hKb,nsK hns,⟨mb,nsK hb,hbb⟩,let ⟨mc,h1,h2⟩:=hlim;⟨mc,nsK h1,h2⟩⟩;have e0:WA P w K mg (dq s₁.heap H) callerA [] s₁ H:=⟨rfl,hM,λb o e=>MD e,ke (PN _ _),trivial,λb hb=>absurd (show b∈([]:List Addr)from hb) (by simp),RZ,.of_eq hg⟩;refine codeAny_mono ((F _ hKb (nsK hns)).run callerA [] s₁ H ⟨[.ref a],[]⟩ [.ref a] [.ref a] _ _ hr e0 (hbind s₁ (.ref a)) (.cons rfl .nil) (XF H hO hS)) λr s' h=> ?_;cases r with
  | error e=>exact(hCX H e s' h).elim
  | ok fl=>
   cases fl with
   | next=>exact False.elim h
   | brk=>exact False.elim h
   | cont=>exact False.elim h
   | ret u=>
    obtain⟨v,H',os,bare,un,hok',r',q⟩:=h;have q':v=.bl true:=q;subst q';obtain rfl:u=Value.bool true:=r';refine⟨rfl,OldK.of_keep λb o e=> ?_,os,bare⟩;cases q:H b with
    | none=>exact un.keep b o e q (by intro z;exact absurd (show b∈([]:List Addr)from z) (by simp)) (by simp)
    | some u=>
     rcases hO b with z|⟨ob,xs,z⟩
     ·rw[q]at z;cases z
     ·have z2:=un.TF b ob _ z
      obtain⟨e1,_⟩:=RZ b _ z;obtain⟨e2,_⟩:=hok' b _ z2;rw[e]at e1;cases e1;exact e2
 cases hk:K.lookup a with
 | some o=>
  have e:=KX a o hk;rw[ha]at e;cases e;refine core (λ_=>none) (λ_=>.inl rfl) (.inr ⟨_,vs.toArray,_,hk,rfl,rfl,rfl,by rw[ql,lenV];exact hl,by simpa using rv⟩) (λb u z=>by have z':(none:Option HO)=⇑u:=z;cases z') (λb z=>absurd rfl z) λz=>absurd rfl z
 | none=>
  refine core (λb=>if b=a then some (.SY {cls:=.type "list",data:=.seq vs.toArray} (.lst (ns.map V.int)))else none) (λb=> ?_) (.inl (.inr ⟨{cls:=.type "list",data:=.seq vs.toArray},if_pos rfl⟩)) (λb u z=> ?_) (λb z=> ?_) λ_=>hk
  ·by_cases hb:b=a
   ·exact .inr ⟨_,_,if_pos hb⟩
   ·exact .inl (if_neg hb)
  ·by_cases hb:b=a
   ·have z':=(if_pos hb).symm.trans z
    cases z'
    subst hb;exact⟨ha,by rw[qf];exact hl,vs,_,rv,ha⟩
   ·have z':=(if_neg hb).symm.trans z
    cases z'
  ·by_cases hb:b=a
   ·exact hb
   ·exact absurd (if_neg hb) z
noncomputable abbrev KOf{K:W.Frag}{h:Heap}(_:K.In h):W.Frag:=K
theorem Lp{l:W.OpenLaw}{XP:(Str->Option Value)->Heap->Prop}{YP:World->Heap->Prop}{K:Params->W.Frag}{CX:World->fL}{sp:World->Sp}
  (hn:l.most=⇑n) (Xb:n<=sizeLine) (hdf:d.params.defaults=[]) (hr:Sf k callerA)
  (hY:∀(w:World) (h:Heap),YP w h->(K w.params).In h)
  (F:∀(w:World) (mg:Str->Option Value) (fa:Addr) (h:Heap),(K w.params).In h->h.Ns mainGlobals mg->mg d.name=⇑(.ref fa)->
   ∃fd:FuncData,(∀(s:Shared) (u:Value),BindsTo s fd ⟨[u],[]⟩ [(x,u)])/\
    ∀base:Heap,(K w.params).In base->base.Ns mainGlobals mg->Si l.prog w (K w.params) mg base (CX w) k fa fd [x] (sp w))
  (XF:∀(w:World) (H:Hp) (a:Addr) (ns:List Int),ns.length<=n->h7 H->R8 (K w.params) H a (ns.map V.int)->sp w [.ref a] H (λv _=>v=.bl true) λ_ _ _=>False)
  (hCX:∀(w:World) (H:Hp) (s:Shared) (e:Value) (s':Shared),CX w [] H s (λ_ _ _=>False) e s'->False):
  W.WalkO q loose XP YP l.row.toRowW d [] (λf vs=>PySem.call f vs):=by
 refine Att.VO hn hdf λw s₀ s₁ mg mb fa o pm cd doc a vs ns G Y ho hd Xq hmg YN hints hlen hg=> ?_;have KX:=hY w _ Y;obtain⟨fd,hb,hF⟩:=F w mg fa _ KX G.T.g hmg;exact LN KX G.T.g G.T.b G.T.builtins G.T.nolimit hg YN hints (zi hlen Xb) hr hF hb (λH hO hS=>XF w H a ns hlen hO hS) λH e s'=>hCX w H s₁ e s'
noncomputable def bP(s:Stmt)(j:Nat):Stmt:=match s with
 | .ClassDef _ _ _ body _ _ _ _ _ _ _=>body.getD j (.Pass ⟨0,0,0,0⟩)
 | _=>.Pass ⟨0,0,0,0⟩
noncomputable def jF(s:Stmt):Arguments:=match s with
 | .FunctionDef _ a _ _ _ _ _ _ _ _=>a
 | _=>{posonlyargs:=[],args:=[],vararg:=none,kwonlyargs:=[],kw_defaults:=[],kwarg:=none,defaults:=[]}
noncomputable def fT(s:Stmt):List Stmt:=match s with
 | .FunctionDef _ _ b _ _ _ _ _ _ _=>b
 | _=>[]
noncomputable def cu(s:Stmt):Scope:=match s with
 | .FunctionDef _ _ _ _ _ _ sc _ _ _=>sc
 | _=>{kind:=.function,names:=[],isGenerator:=false,isCoroutine:=false}
noncomputable abbrev E0:XK:=λ_ _ _=>False
structure XM (K:W.Frag) (x qual:Str) (st:Stmt) (f:Addr) (fd:FuncData):Prop where
 ex:∃(oc:Value) (od:Option Addr) (kV doc pm:Value) (an:Option Addr) (Sz ct:Value) (Yd:Array (Option Value)),
  fd=W.fnOf x qual (jF st) (fT st) (cu st) .none kV doc pm an Sz ct/\K.lookup f=⇑⟨oc,od,.func fd,Yd⟩/\W.codeIn K Sz qual=true
 kp:W.keepIn K (.ref f)=true
section
variable {P : Program} {w : World} {K : W.Frag} {mg : Str -> Option Value} {base : Heap}
theorem XM.binds{st:Stmt}(F:XM K x qual st f fd)
  (h:∀(kV doc pm:Value) (an:Option Addr) (Sz ct:Value) (us:List Value),us.length=ps.length->bindArgs (W.fnOf x qual (jF st) (fT st) (cu st) .none kV doc pm an Sz ct) ⟨us,[]⟩=pure (ps.zip us)):VW K fd ps []:=by
 obtain⟨oc,od,kV,doc,pm,an,Sz,ct,Yd,rfl,lk,Xq⟩:=F.ex;exact .all (h kV doc pm an Sz ct)
theorem Jw{st:Stmt}{kV doc pm Sz ct:Value}(l:K.lookup f=⇑⟨oc,od,.func (W.fnOf x qual (jF st) (fT st) (cu st) .none kV doc pm an Sz ct),Yd⟩)
  (c:W.codeIn K Sz qual=true) (k:W.keepIn K (.ref f)=true):XM K x qual st f (W.fnOf x qual (jF st) (fT st) (cu st) .none kV doc pm an Sz ct):=⟨⟨oc,od,kV,doc,pm,an,Sz,ct,Yd,rfl,l,c⟩,k⟩
end
theorem zX(hr:Sf k A):A.units+1<cLine:=zg (Nat.add_le_add_left (by decide:1<=64) _) hr.units
section
variable {X : Cx}
theorem pv(i:Nat){x:Str}{pos:Pos}(hN:X.N[i]?=⇑x:=by rfl)(hv:EO X.env.scope x:=by first|exact Or.inl rfl|exact Or.inr (Or.inl rfl)|exact Or.inr (Or.inr rfl))(hd:(x==("__debug__":Str))=false:=by decide)
  (Xq:(x==("__classdict__":Str))=false:=by decide):PE X (.Name x pos) (p6 i):=n8 hN hv hd Xq
theorem Qb:S3 X (.builtin "len") (λxs H Q=>∃a kvs,xs=[V.ref a]/\H a=⇑(.dK kvs)/\Q (.int kvs.length) H):=by
 intro pins s σ H xs us Q I r h;obtain⟨a,kvs,rfl,ha,q⟩:=h;obtain⟨u,rfl,ru⟩:=eR r;cases ru;exact tY I (.inl ha) λt s' I'=>⟨.int kvs.length,H,I',⟨t,rfl⟩,q⟩
end
def R4(H H':Hp):Prop:=∀b o,H b=⇑o->H' b=⇑o
theorem R4.refl(H:Hp):R4 H H:=λ_ _ h=>h
theorem R4.trans(a:R4 H H1)(b:R4 H1 H2):R4 H H2:=λc o h=>b c o (a c o h)
theorem Ov{R:Result->Shared->Prop}(I:Nat->Shared->Prop)
  (turn:∀n s,I n s->wpAny (model prog w) A (pyNext it) (λr s₁=>match r with
   | none=>R (.ok .next) s₁
   | some v=>wpAny (model prog w) A (letOwnedTupleGo target it v) (λ_ s₁'=>wpAny (model prog w) A (assign target env v) (λ_ s₂=>
     wpAny (model prog w) A (forIn ifs true λc r=>if r=true then do let ok<-isTrue c env (eval c env);pure (ForInStep.yield ok)else pure (ForInStep.yield r)) (λok s₃=>
      if ok=true then wpAny (model prog w) A (eval elt env) (λx s₄=>
       wpAny (model prog w) A (call (.builtin "list.append") [acc,x]) (λ_ s₅=>∃m,m<n/\I m s₅) (λ_ _=>False) s₄) (λ_ _=>False) s₃
      else ∃m,m<n/\I m s₃) (λ_ _=>False) s₂) (λ_ _=>False) s₁') (λ_ _=>False) s₁) (λ_ _=>False) s)
  (n:Nat) (h:I n s):
  codeAny (model prog w) A (.compLoop (.ListComp elt [⟨target,iter,ifs,0⟩] scope pos) 0 it acc env) R s:=by
 refine codeAny_loop rfl I (λn s hI=> ?_) n h;show wpAny _ A ((compTurn (.ListComp elt [⟨target,iter,ifs,0⟩] scope pos) 0 it acc env).onRaise (λx=>do noteFrame x env;theTreesLotGoes x)) _ _ s;refine wpAny_noted ?_;rw[compTurn_list];refine wpAny_bind (wpAny_standAt (wpAny_bind (wpAny_mono (turn n s hI) (λr s₁ h₁=> ?_) λ_ _ f=>f.elim)));cases r with
 | none=>exact wpAny_pure h₁
 | some v=>
  refine wpAny_bind (wpAny_mono h₁ (λ_ s₁' h₁'=>wpAny_bind (wpAny_mono h₁' (λ_ s₂ h₂=>wpAny_bind (wpAny_mono h₂ (λok s₃ h₃=> ?_) λ_ _ f=>f.elim)) λ_ _ f=>f.elim)) λ_ _ f=>f.elim);cases ok with
  | false=>exact wpAny_pure ⟨rfl,h₃⟩
  | true=>
   exact wpAny_bind (wpAny_bind (wpAny_mono h₃ (λx s₄ h₄=>wpAny_bind (wpAny_mono h₄ (λ_ s₅ h₅=>wpAny_pure (wpAny_pure ⟨rfl,h₅⟩)) λ_ _ f=>f.elim)) λ_ _ f=>f.elim))
def PF(X:Cx)(ifs:List Expr)(t:TT):Prop:=
 ∀(pins:List (Addr×Obj)) (s:Shared) (σ:St) (H:Hp) (Q:Bool->Hp->Prop),Inv X pins σ H s->t σ H Q->
  wpAny (model X.prog X.w) X.A (forIn ifs true λc r=>if r=true then do let ok<-isTrue c X.env (eval c X.env);pure (ForInStep.yield ok)else pure (ForInStep.yield r)) (TP X pins σ Q) X.xe s
noncomputable def aR:TT:=λ_ H Q=>Q true H
theorem oP:PF X [] aR:=λ_ s _ H _ I q=>wpAny_tests_nil ⟨H,I,q⟩
theorem rm(h:PT X c t):PF X [c] t:=λpins s σ H Q I q=>wpAny_tests_one (h pins s σ H Q I q)
noncomputable def dI(X:Cx)(N':List Str)(scope:Scope)(cl:List (Str×Addr))(C:Addr)(s₂:Shared)(H₂:Hp)(fp:List Addr):Cx:=
  {prog:=X.prog,w:=X.w,K:=X.K,mg:=X.mg,base:=X.base,A:=X.A,N:=N',s₀:=s₂,H₀:=H₂,env:=compEnvC scope cl C X.env,outer:=X.stack,stack:=X.stack,ex:=fp,
    fn:=λ_=>false,calm:=X.calm,pn:=[],xe:=λ_ _=>False}
inductive Vs (X:Cx) (scope:Scope) (cl:List (Str×Addr)):List Str->List Nat->Prop
 | nil:Vs X scope cl [] []
 | cons {n:Str} {j:Nat} {ns:List Str} {js:List Nat} {c:Addr}:X.N[j]?=⇑n->(X.env.kindOf n=⇑.cell\/X.env.kindOf n=⇑.free)->((relabel scope X.env).names.lookup n=⇑.cell\/(relabel scope X.env).names.lookup n=⇑.free)->
   X.env.cells.lookup n=⇑c->cl.lookup n=⇑c->Vs X scope cl ns js->Vs X scope cl (n::ns) (j::js)
theorem Vs.len:∀{ns:List Str} {js:List Nat},Vs X scope cl ns js->ns.length=js.length
 | _,_,.nil=>rfl
 | _,_,.cons _ _ _ _ _ r=>by simp[r.len]
theorem Vs.get{X:Cx}{scope:Scope}{cl:List (Str×Addr)}:∀{ns:List Str} {js:List Nat},Vs X scope cl ns js->∀(i:Nat) (n:Str),ns[i]?=⇑n->
  ∃j c,js[i]?=⇑j/\X.N[j]?=⇑n/\(X.env.kindOf n=⇑.cell\/X.env.kindOf n=⇑.free)/\((relabel scope X.env).names.lookup n=⇑.cell\/(relabel scope X.env).names.lookup n=⇑.free)/\X.env.cells.lookup n=⇑c/\cl.lookup n=⇑c
 | _,_,.nil,i,n,h=>by simp at h
 | _,_,.cons a b c d e r,0,n,h=>by
  simp at h;subst h;exact⟨_,_,rfl,a,b,c,d,e⟩
 | _,_,.cons a b c d e r,i+1,n,h=>by
  obtain⟨j,c',h1,h2⟩:=r.get i n (by simpa using h);exact⟨j,c',by simpa using h1,h2⟩
def iB(idx:List Nat)(σ:St):St:=idx.map λj=>(σ[j]?).getD none
def Gc(nt:Nat)(idx:List Nat)(wi:TI)(g:TG)(tc:TT)(te:TE):TE:=λσ H Q=>wi σ H λJ H1=>∀l,H1 l=none->
 ∃W:Nat->Nat->List V->Hp->Prop,(∃m,W 0 m [] (az H1 l (.lst [])))/\∀i m ys H2,W i m ys H2->H2 l=⇑(.lst ys)/\ys.length<sizeLine/\
  ((J.stop i H2/\Q (.ref l) H2)\/(J.go i H2/\∀x H3,J.Yr i H2 x H3->g x (List.replicate nt none++iB idx σ) H3 λσ4 H4=>tc σ4 H4 λc H5=>
   if c=true then te σ4 H5 λy H6=>H6 l=⇑(.lst ys)/\∃m',m'<m/\W (i+1) m' (ys++[y]) (az H6 l (.lst (ys++[y])))else ∃m',m'<m/\W (i+1) m' ys H5))
theorem qK{X:Cx}{cl:List (Str×Addr)}(hsub:∀p∈cl,X.env.cells.lookup p.1=⇑p.2):∀x c,cl.lookup x=⇑c->X.env.cells.lookup x=⇑c:=by
 intro x c h
 induction cl with
 | nil=>simp at h
 | cons p r ih=>
  obtain⟨y,d⟩:=p;rw[u4]at h;cases e:x==y with
  | true=>
   rw[e]at h;simp at h;subst h;have:=hsub (y,d) (by simp);rw[eq_of_beq e];exact this
  | false=>
   rw[e]at h;exact ih (λp hp=>hsub p (by simp[hp])) (by simpa using h)
theorem Un.sameBut{C:Addr}(u:Un fs ex H₂ H₅ h₂ h₅)(hC:h₂.objs.size<=C)(sb:Heap.SameBut C h₅ h'):Un fs ex H₂ H₅ h₂ h':=by
 have lt:∀{b o},h₂.get? b=⇑o->b≠C:=fun{b o} e q=>by
  have:=qe e;rw[q]at this;exact absurd this (Nat.not_lt.mpr hC)
 exact⟨λb o e n f x=>sb.extBut b _ (lt e) (u.keep b o e n f x),λb o e n f x=>by
   obtain⟨sl,q⟩:=u.slot b o e n f x;exact⟨sl,sb.extBut b _ (lt e) q⟩,u.free,λb o e x=>by
   obtain⟨o',q⟩:=u.there b o e x;exact⟨o',sb.extBut b _ (lt e) q⟩,u.tups,u.TF,u.T5⟩
theorem SW.sameBut(x:SW P w H h)(hC:H C=none)(sb:Heap.SameBut C h h'):SW P w H h':=λa o e=>
 (x a o e).UD (λb u hb q=>sb.extBut b u (by
  rintro rfl;rcases hb with rfl|hb
  ·rw[hC]at e;cases e
  ·rw[hC]at hb;cases hb) q) (λ_ q=>q) λ_ _ q=>q
theorem Un.but(sb:Heap.SameBut C h h'):Un fs [C] H H h h':=
 ⟨λb o e _ _ x=>sb.extBut b o (by simpa using x) e,λb o e _ _ x=>⟨o.slots,sb.extBut b o (by simpa using x) e⟩,λ_ _ _ n _=>n,λb o e x=>⟨o,sb.extBut b o (by simpa using x) e⟩,λ_ _ q=>q,λ_ _ _ q=>q,
  λ_ ps q=>⟨#[],by simpa using q⟩⟩
def uX(nt:Nat)(g:TG):Prop:=∀x σ H Q,g x σ H Q->g x σ H λσ' H'=>Q σ' H'/\σ'.length=σ.length/\∀i,nt<=i->σ'[i]?=σ[i]?
theorem Nt(h:i<nt):uX nt (ak i):=λx σ H Q q=>⟨q,by simp,λj hj=>by rw[qh ⋯]⟩
section
variable {X : Cx} {elt target iter : Expr} {ifs : List Expr} {scope : Scope} {pos : Pos} {cl : List (Str × Addr)} {nt : Nat} {S_ TV : List Str} {idx : List Nat} {wi : TI} {g : TG} {tc : TT} {te : TE}
structure UW (X:Cx) (scope:Scope) (cl:List (Str×Addr)) (S_ TV:List Str) (idx:List Nat):Prop where
 clos:closureFor scope X.env=pure cl
 kind:scope.kind=.function
 cell:∀y∈scope.names,y.2≠ .cell
 names:∀y∈scope.names,y.2=.local->scope.names.lookup y.1=⇑.local
 sub:∀p∈cl,X.env.cells.lookup p.1=⇑p.2
 has:((relabel scope X.env).names.all λy=> !(y.2== .cell||y.2== .free)||(cl.lookup y.1).isSome)=true
 Td:Vs X scope cl TV idx
theorem pP{names:List (Str×NameKind)}(h:(names.all λy=> !(y.2== .cell||y.2== .free)||(cl.lookup y.1).isSome)=true):
  ∀x,(names.lookup x=⇑.cell\/names.lookup x=⇑.free)->∃c,cl.lookup x=⇑c:=by
 induction names with
 | nil=>intro x hx;simp at hx
 | cons p r ih=>
  obtain⟨y,k⟩:=p;rw[wm,z4]at h;intro x hx;rw[u4]at hx;cases e:x==y with
  | true=>
   rw[e]at hx;have ey:=eq_of_beq e;subst ey;have h1:=h.1;rcases hx with hx|hx<;>(simp at hx;subst hx;exact we.mp (by simpa using h1))
  | false=>
   rw[e]at hx;exact ih h.2 x (by simpa using hx)
theorem Nr{s₂:Shared}{σ:St}{fp:List Addr}{C:Addr}(eC:C=s₂.heap.objs.size+1)(O:UW X scope cl S_ TV idx)(I:Inv X pins σ H₂ s₂)(UX:∀b∈fp,cR X pins H₂ b)(hfo:∀b∈fp,b<s₂.heap.objs.size)
  (hns:h₁.Ns C (λx=>([]:List (Str×Value)).reverse.lookup x))
  (hsb:Heap.SameBut C ((s₂.heap.push {cls:=.type "list",dict:=none,data:=.seq ([]:List Value).toArray}).push {cls:=.type "dict",data:=.dict #[]}) h₁):
  Inv (dI X (S_++TV) scope cl C s₂ H₂ fp) [] (List.replicate S_.length none++iB idx σ) (az H₂ s₂.heap.objs.size (.lst [])) {s₂ with heap:=h₁,toks:=tk}:=by
 have ltC:∀{b:Addr},b<s₂.heap.objs.size->b≠C:=fun{b} lt=>by rw[eC];exact qo (km lt)
 have kp:∀b o,s₂.heap.get? b=⇑o->h₁.get? b=⇑o:=λb o e=>by
  have lt:=qe e;exact hsb.extBut b o (ltC lt) (qb _ (qb _ e))
 have hD:h₁.get? s₂.heap.objs.size=some {cls:=.type "list",dict:=none,data:=.seq ([]:List Value).toArray}:=
  hsb.extBut _ _ (by rw[eC];exact qo (wa _)) (qb _ (qq _ rfl))
 have fresh:∀a,s₂.heap.objs.size<=a->H₂ a=none:=λa ha=>I.RZ.fresh ha;have stk:=I.V4;have nf:∀b∈fp,b∉bp X.stack:=λb hb hm=>by
  rcases qg.mp (stk b hm)with e|e
  ·exact(UX b hb).2.1 e
  ·exact(UX b hb).2.2.1 e
 have sub:=qK O.sub;have clt:∀x c,cl.lookup x=⇑c->c<s₂.heap.objs.size:=λx c e=>by
  obtain⟨v,o,e',_⟩:=I.cell x c (sub x c e);exact qe e'
 refine⟨⟨I.ok.mod,?_,I.ok.glob,I.ok.blt,(by show s₂.heap.objs.size<=C;rw[eC];exact k6 _),?_,?_,?_,I.ok.hd,I.ok.frames,.inl rfl,?_,?_,?_,?_,nf,I.stack,I.Vg⟩,rfl,I.bare,?_,?_,?_,?_,?_,?_,?_,?_⟩
 ·exact O.kind
 ·intro x y c h1 h2;exact I.ok.inj x y c (sub _ _ h1) (sub _ _ h2)
 ·exact pP O.has
 ·intro x c h;cases h
 ·intro b hb
  have lt:=hfo b hb;exact⟨ltC lt,λx c h=>(UX b hb).2.2.2.2.1 x c (sub _ _ h)⟩
 ·exact I.bs
 ·exact zi I.ok.XI I.sz
 ·intro b o e hb
  rcases(UX b hb).2.2.2.1 with h|h
  ·exact I.ok.WQ b o e h
  ·exact absurd (qe e) (Nat.not_lt.mpr (zi I.ok.XI h))
 ·exact(Un.laid (a:=s₂.heap.objs.size) kp (qd _) (fresh _ (qd _)))
 ·refine⟨_,hns,λi x v hN hv hvis=> ?_⟩
  by_cases hi:i<S_.length
  ·rw[qr (by simpa using hi)]at hv
   rw[wg]at hv;simp[hi]at hv
  ·have hi':S_.length<=i:=Nat.not_lt.mp hi
   have hN':(S_++TV)[i]?=⇑x:=hN;rw[ze hi']at hN';rw[ze (by simpa using hi')]at hv;simp only[gl]at hv;obtain⟨j,c,h1,h2,h3,h4,h5,h6⟩:=O.Td.get _ _ hN';unfold iB at hv;rw[z9,h1]at hv;simp at hv;have hv':σ[j]?=⇑⇑v:=by
    cases e:σ[j]? with
    | none=>rw[e]at hv;cases hv
    | some z=>rw[e]at hv;simp at hv;rw[hv]
   obtain⟨m,hm,lk⟩:=I.loc;obtain⟨u,ru,lk⟩:=lk j x v h2 hv' (by rcases h3 with h3|h3;exact .inr (.inl h3);exact .inr (.inr h3));refine⟨u,ru,.inr ⟨h4,?_⟩⟩;rcases lk with⟨k1,_⟩|⟨_,c',k2,k3⟩
   ·rcases h3 with h3|h3<;>(rw[h3]at k1;cases k1)
   ·rw[h5]at k2;cases k2
    obtain⟨o,k4,k5⟩:=k3;exact⟨c,h6,o,kp _ _ k4,k5⟩
 ·intro x c e
  obtain⟨v,o,e',q⟩:=I.cell x c (sub x c e);exact⟨v,o,kp _ _ e',q⟩
 ·show(az H₂ s₂.heap.objs.size (.lst [])) C=none
  rw[eC,aE (wj (wa _))];exact fresh _ (k6 _)
 ·intro x c e
  have:=clt x c e;rw[aE (qo this)];exact I.SK x c (sub x c e)
 ·intro p hp;cases hp
 ·exact I.RZ.laid kp (qd _) ⟨w6 _,[],0,.nil,hD⟩
 ·have:=O.Td.len
  simp[iB,dI,this]
theorem Ku{RR:Value->Addr->Result->Shared->Prop}{E₀:Value->Shared->Prop}{σ:St}{tn:Nat->Heap->Prop}{Fin:Addr->Hp->Prop}
  (O:UW X scope cl S_ TV idx) (hc:X.calm=true) (YR:uX S_.length g)
  (hg:∀C s₂ H₂ fp,PG (dI X (S_++TV) scope cl C s₂ H₂ fp) target g) (ht:∀C s₂ H₂ fp,PF (dI X (S_++TV) scope cl C s₂ H₂ fp) ifs tc) (he:∀C s₂ H₂ fp,PE (dI X (S_++TV) scope cl C s₂ H₂ fp) elt te)
  (I:Inv X pins σ H₂ s₂) (T:Turn X.prog X.w X.K target J fp it tn) (st:tn 0 s₂.heap) (UX:∀b∈fp,cR X pins H₂ b)
  (rd:∀l,H₂ l=none->∃W:Nat->Nat->List V->Hp->Prop,(∃m,W 0 m [] (az H₂ l (.lst [])))/\∀i m ys H2,W i m ys H2->H2 l=⇑(.lst ys)/\ys.length<sizeLine/\
   ((J.stop i H2/\Fin l H2)\/(J.go i H2/\∀x H3,J.Yr i H2 x H3->g x (List.replicate S_.length none++iB idx σ) H3 λσ4 H4=>tc σ4 H4 λc H5=>
    if c=true then te σ4 H5 λy H6=>H6 l=⇑(.lst ys)/\∃m',m'<m/\W (i+1) m' (ys++[y]) (az H6 l (.lst (ys++[y])))else ∃m',m'<m/\W (i+1) m' ys H5)))
  (fin:∀C σ5 H5 s5,s₂.heap.objs.size<=C->s₂.heap.objs.size≠C->Inv (dI X (S_++TV) scope cl C s₂ H₂ fp) [] σ5 H5 s5->Fin s₂.heap.objs.size H5->RR (.ref s₂.heap.objs.size) C (.ok .next) s5):
  wpAny (model X.prog X.w) X.A (newList []) (λacc s₃=>wpAny (model X.prog X.w) X.A (newFunctionEnv scope X.env.globals cl [] X.env.qual none .none ⇑X.env) (λcenv s₄=>
   codeAny (model X.prog X.w) X.A (.compStart (.ListComp elt [⟨target,iter,ifs,0⟩] scope pos) 0 (.ref it) acc {cenv with scope:=relabel scope X.env}) (RR acc cenv.locals) s₄) E₀ s₃) E₀ s₂:=by
 have hfo:∀b∈fp,b<s₂.heap.objs.size:=λb hb=>by
  obtain⟨o,e,_⟩:=T.obj 0 _ st b hb;exact qe e
 refine wpAny_newObj_type (wpAny_newFunctionEnv O.cell (by intro y hy;simp at hy) (λh₁ YO XS=> ?_) O.kind);have eC:(s₂.heap.push {cls:=.type "list",dict:=none,data:=.seq ([]:List Value).toArray}).objs.size=s₂.heap.objs.size+1:=wq ..;dsimp only at YO XS ⊢;generalize(s₂.heap.push {cls:=.type "list",dict:=none,data:=.seq ([]:List Value).toArray}).objs.size=C at eC YO XS ⊢;have ltC:∀{b:Addr},b<s₂.heap.objs.size->b≠C:=fun{b} lt=>by rw[eC];exact qo (km lt)
 have IC:=Nr (tk:=s₂.toks+([]:List (Str×Value)).length) eC O I UX hfo YO XS;have kp:∀b o,s₂.heap.get? b=⇑o->h₁.get? b=⇑o:=λb o e=>by
  have lt:=qe e;exact XS.extBut b o (ltC lt) (qb _ (qb _ e))
 have st₁:tn 0 h₁:=T.keep 0 _ _ st λb _ o e=>kp b o e;obtain⟨W,⟨m₀,w₀⟩,step⟩:=rd s₂.heap.objs.size (I.RZ.fresh (qd _));have fp0:∀b∈fp,(az H₂ s₂.heap.objs.size (.lst [])) b=none:=λb hb=>by
  rw[aE (qo (hfo b hb))];exact(UX b hb).1
 have V5:∀{pl:List (Addr×Obj)} {H':Hp},(∀b∈fp,H' b=none)->pl=[]->∀b∈fp,cR (dI X (S_++TV) scope cl C s₂ H₂ fp) pl H' b:=fun{pl H'} hn hp b hb=>by
  subst hp;have lt:=hfo b hb;refine⟨hn b hb,ltC lt,IC.ok.WW b hb,.inl hb,λx c h=>(IC.ok.exf b hb).2 x c h,λp hp=>by cases hp⟩
 have loop:codeAny (model X.prog X.w) X.A (.compLoop (.ListComp elt [⟨target,iter,ifs,0⟩] scope pos) 0 (.ref it) (.ref s₂.heap.objs.size) (compEnvC scope cl C X.env))
   (RR (.ref s₂.heap.objs.size) C) {s₂ with heap:=h₁,toks:=s₂.toks+([]:List (Str×Value)).length}:=by
  refine Ov (λn s'=>∃i ys H',Inv (dI X (S_++TV) scope cl C s₂ H₂ fp) [] (List.replicate S_.length none++iB idx σ) H' s'/\tn i s'.heap/\(∀b∈fp,H' b=none)/\W i n ys H') ?_ m₀
   ⟨0,[],_,IC,st₁,fp0,w₀⟩
  rintro n s3 ⟨i,ys,H3,I3,Xh,fr3,w3⟩;obtain⟨hl,hz,w3⟩:=step i n ys H3 w3;rcases w3 with⟨stop,q⟩|⟨go,w3⟩
  ·refine aJ (T.done (dI X (S_++TV) scope cl C s₂ H₂ fp) rfl rfl rfl hc i [] s3 _ H3 _ I3 (V5 fr3 rfl) Xh stop) λr s4 ⟨hr,I4⟩=> ?_
   subst hr;exact fin C _ H3 s4 (by rw[eC];exact k6 _) (by rw[eC];exact qo (wa _)) I4 q
  ·refine aJ (T.item (dI X (S_++TV) scope cl C s₂ H₂ fp) rfl rfl rfl hc i [] s3 _ H3 _ I3 (V5 fr3 rfl) Xh go) λr s4 ⟨u,hr,h4⟩=> ?_
   subst hr;refine aJ h4 λ_ s5 hh=> ?_;obtain⟨x,H5,I5,r5,y5,Yv,fr5⟩:=hh;have I5':=I5.pinned (V5 fr5 rfl) (T.obj _ _ Yv);refine aJ (hg _ _ _ _ _ s5 _ H5 x u _ I5' r5 (YR _ _ _ _ (w3 x H5 y5))) λ_ s6 hh=> ?_;obtain⟨σ6,H6,I6,q6,len6,same6⟩:=hh;refine aJ (ht _ _ _ _ _ s6 σ6 H6 _ I6 q6) λok s7 ⟨H7,I7,q7⟩=> ?_;have again:∀{H8:Hp} {s8:Shared},Inv (dI X (S_++TV) scope cl C s₂ H₂ fp) ([]++vj fp s5.heap) σ6 H8 s8->
     Inv (dI X (S_++TV) scope cl C s₂ H₂ fp) [] (List.replicate S_.length none++iB idx σ) H8 s8/\tn (i+1) s8.heap/\∀b∈fp,H8 b=none:=fun{H8 s8} I8=>by
    refine⟨?_,T.keep _ _ _ Yv λb hb o e=>(I8.pin (b,o) (za _ (za _ (Bw hb e)))).1,λb hb=> ?_⟩
    ·refine I8.T4.weak len6.symm λj v hv=> ?_
     by_cases hj:S_.length<=j
     ·rw[same6 j hj];exact hv
     ·rw[qr (by simp;lia),wg]at hv
      simp[Nat.not_le.mp hj]at hv
    ·obtain⟨o,e,d⟩:=T.obj _ _ Yv b hb
     exact(I8.pin (b,o) (za _ (za _ (Bw hb e)))).2.1
   cases ok with
   | false=>
    rw[if_neg qx]at q7 ⊢;obtain⟨m',hm,w8⟩:=q7;obtain⟨a1,a2,a3⟩:=again I7;exact⟨m',hm,i+1,ys,H7,a1,a2,a3,w8⟩
   | true=>
    rw[if_pos rfl]at q7 ⊢;refine aJ (he _ _ _ _ _ s7 σ6 H7 _ I7 q7) λy s8 hh=> ?_;obtain⟨v,H8,I8,r8,hl8,m',hm,w8⟩:=hh;refine aJ (Aj _ s8 σ6 H8 (.ref s₂.heap.objs.size) [v] (.ref s₂.heap.objs.size) [y] (λ_ H9=>H9=az H8 s₂.heap.objs.size (.lst (ys++[v]))) I8 rfl (.cons r8 .nil) ⟨_,ys,v,rfl,rfl,hl8,hz,rfl⟩) λz s9 hh=> ?_;obtain⟨v9,H9,I9,_,e9⟩:=hh;subst e9;obtain⟨a1,a2,a3⟩:=again I9;exact⟨m',hm,i+1,_,_,a1,a2,a3,w8⟩
 exact codeAny_compStart_list loop (T.self _ 0 _ _ _ st₁ loop)
theorem IE{σ σ5:St}{C:Addr}(I:Inv X pins σ H₂ s₂)(UX:∀b∈fp,cR X pins H₂ b)(hC:s₂.heap.objs.size<=C)
  (I5:Inv (dI X (S_++TV) scope cl C s₂ H₂ fp) [] σ5 H5 s5) (sb:Heap.SameBut C s5.heap h'):Inv X pins σ H5 {s5 with heap:=h'}:=
 I.Vd (ch:=fp) I5.os (Un.sameBut I5.base hC sb) (SW.sameBut I5.RZ I5.free sb) I5.bare λb hb=>⟨(UX b hb).2.2.2.1,(UX b hb).2.1,(UX b hb).2.2.2.2.1,(UX b hb).2.2.2.2.2⟩
theorem kG(O:UW X scope cl S_ TV idx)(hc:X.calm=true)(hi:PI X target iter wi)(YR:uX S_.length g)
  (hg:∀C s₂ H₂ fp,PG (dI X (S_++TV) scope cl C s₂ H₂ fp) target g) (ht:∀C s₂ H₂ fp,PF (dI X (S_++TV) scope cl C s₂ H₂ fp) ifs tc) (he:∀C s₂ H₂ fp,PE (dI X (S_++TV) scope cl C s₂ H₂ fp) elt te)
  (hs:∀x,foldedSetIterable iter X.env x=pure x:=by intro _;rfl):
  PE X (.ListComp elt [⟨target,iter,ifs,0⟩] scope pos) (Gc S_.length idx wi g tc te):=by
 intro pins s σ H Q I h;rw[eval_ListComp];refine wpAny_comprehension_free (use:=none) rfl hs O.clos O.kind O.names (wpAny_mono (hi pins s σ H _ I h) (λxv s₁ h₁=>wpAny_mono h₁ (λitv s₂ h₂=> ?_) λ_ _ e=>e) λ_ _ e=>e);obtain⟨it,fp,tn,J,H₂,rfl,I₂,T,st,UX,rd⟩:=h₂;refine Ku (RR:=λacc C=>compPost (model X.prog X.w) X.A X.xe none (EP X pins σ Q) acc C) (Fin:=λl H=>Q (.ref l) H) O hc YR hg ht he I₂ T st UX rd ?_;intro C σ5 H5 s5 hC _ I5 q;obtain⟨m,hn,_⟩:=I5.loc;exact⟨m,hn,λh' sb=>⟨.ref _,H5,IE I₂ UX hC I5 sb,rfl,q⟩⟩
theorem Kz{i:Nat}{y:Str}{py spos:Pos}(hN:X.N.Nodup)(hy:X.N[i]?=⇑y)(hly:vg X.env.scope y)(O:UW X scope cl S_ TV idx)(hc:X.calm=true)(hi:PI X target iter wi)(YR:uX S_.length g)
  (hg:∀C s₂ H₂ fp,PG (dI X (S_++TV) scope cl C s₂ H₂ fp) target g) (ht:∀C s₂ H₂ fp,PF (dI X (S_++TV) scope cl C s₂ H₂ fp) ifs tc) (he:∀C s₂ H₂ fp,PE (dI X (S_++TV) scope cl C s₂ H₂ fp) elt te)
  (hsw:swapsWith (.ListComp elt [⟨target,iter,ifs,0⟩] scope pos) ⇑(.Name y py) spos.line X.env=pure true:=by rfl)
  (hs:∀x,foldedSetIterable iter X.env x=pure x:=by intro _;rfl) (hf:X.fn y=true\/X.env.scope.names.lookup y=⇑.local:=by first|exact .inl rfl|exact .inr rfl|assumption):
  PS X (.Assign [.Name y py] (.ListComp elt [⟨target,iter,ifs,0⟩] scope pos) spos) (λD σ H=>Gc S_.length idx wi g tc te σ H λx H1=>D.nx (σ.set i ⇑x) H1):=by
 intro pins s σ H D I h;rw[exec_Assign_Name_used _ _ _ _ hsw];refine wpAny_bind (wpAny_standAt (wpAny_bind ?_));show wpAny _ X.A (do let _<-comprehension (.ListComp elt [⟨target,iter,ifs,0⟩] scope pos) scope X.env _ (newList []) false (eval iter X.env) ⇑(assign (.Name y py) X.env)) _ _ s;refine wpAny_bind (wpAny_mono (wpAny_comprehension_free (use:=⇑(assign (.Name y py) X.env)) (Q:=λ_ s'=>SP X pins D .next s') rfl hs O.clos O.kind O.names
  (wpAny_mono (hi pins s σ H _ I h) (λxv s₁ h₁=>wpAny_mono h₁ (λitv s₂ h₂=> ?_) λ_ _ e=>e) λ_ _ e=>e)) (λ_ s' hq=>wpAny_pure (wpAny_pure hq)) λ_ _ e=>e)
 obtain⟨it,fp,tn,J,H₂,rfl,I₂,T,st,UX,rd⟩:=h₂;refine Ku (RR:=λacc C=>compPost (model X.prog X.w) X.A X.xe ⇑(assign (.Name y py) X.env) (λ_ s'=>SP X pins D .next s') acc C) (Fin:=λl H=>D.nx (σ.set i ⇑(.ref l)) H) O hc YR hg ht he I₂ T st UX rd ?_;intro C σ5 H5 s5 hC hDC I5 q;obtain⟨m,hn,_⟩:=I5.loc;have I6:Inv X pins σ H5 s5:=IE I₂ UX hC I5 (Heap.SameBut.refl _ _);show wpAny _ X.A (assign (.Name y py) X.env (.ref s₂.heap.objs.size)) _ _ _;refine wpAny_assign_Name (JZ I6 hN hy hly (v:=.ref s₂.heap.objs.size) rfl (λs7 I7 ⟨a,sb,ha⟩=> ?_) hf);have haC:C≠a:=by
  rcases ha with rfl|ha
  ·exact wj (qt I₂.lt hC)
  ·obtain⟨v,o,e,_⟩:=I₂.cell _ _ ha
   exact wj (qt (qe e) hC)
 refine⟨m,hn.sameBut sb haC,λh' sb'=>⟨_,H5,?_,q⟩⟩;have hCn:H5 C=none:=I5.free;refine I7.Vd (ch:=[C]) rfl (Un.but sb') (SW.sameBut I7.RZ hCn sb') I7.bare λb hb=> ?_;have eb:b=C:=by simpa using hb
 subst eb;refine⟨.inr (zi I₂.sz hC),?_,λx c e=> ?_,λp hp=> ?_⟩
 ·exact wj (qt I₂.lt hC)
 ·obtain⟨v,o,e',_⟩:=I₂.cell _ _ e
  exact qo (qt (qe e') hC)
 ·exact qo (qt (qe (I₂.pin p hp).1) hC)
end
def FnG(P:Program)(w:World)(K:W.Frag)(mg:Str->Option Value)(base:Heap)(CX:fL)(k:Nat)(x:Str)(sp:Sp):Prop:=
 ∃f fd ps,Si P w K mg base CX k f fd ps sp/\mg x=⇑(.ref f)/\W.keepIn K (.ref f)=true/\VW K fd ps []
def mz(P:Program)(w:World)(K:W.Frag)(mg:Str->Option Value)(base:Heap)(CX:fL)(k:Nat)(C:Addr)(m:Str)(sp:Sp):Prop:=
 ∃f fd ps,Meth K C m f/\Si P w K mg base CX k f fd ps sp/\VW K fd ps []
def jw0(P:Program)(w:World)(K:W.Frag)(mg:Str->Option Value)(base:Heap)(CX:fL)(k:Nat)(x:Str)(C:Addr)(sp:Sp):Prop:=
 ∃f fd ps,Mk K C f/\Si P w K mg base CX k f fd ps sp/\mg x=⇑(.ref C)/\VW K fd ps []
section
variable {X : Cx} {CX : fL} {k : Nat} {C : Addr} {sp : Sp} {E : XK} {x m : Str} {p pos apos : Pos} {e o : Expr} {es : List Expr} {ta : TE} {t : TA}
theorem c9(G:FnG X.prog X.w X.K X.mg X.base CX k x sp)(hr:Sf k X.A)(hx:gI CX X E)(ha:PA X (e::es) t)(hg:Gl X x:=by rfl)(VD:(x==("__debug__":Str))=false:=by decide)
  (he:starEach (e::es) X.env=(false,eval e X.env)::starEach es X.env:=by rfl) (VY:(backTo pos (starEach es X.env)).any (·.1)=false:=by rfl):
  PE X (.Call (.Name x p) (e::es) [] pos) (FD sp [] E t):=by
 obtain⟨f,fd,ps,F,hm,hk,hb⟩:=G;exact PX F hr hg hm hk hb .nil hx ha VD he VY
theorem Fi(G:jw0 X.prog X.w X.K X.mg X.base CX k x C sp)(hr:Sf (k+1) X.A)(hx:gI CX X E)(ha:PA X (e::es) t)(hg:Gl X x:=by rfl)(VD:(x==("__debug__":Str))=false:=by decide)
  (he:starEach (e::es) X.env=(false,eval e X.env)::starEach es X.env:=by rfl) (VY:(backTo pos (starEach es X.env)).any (·.1)=false:=by rfl):
  PE X (.Call (.Name x p) (e::es) [] pos) (tR C sp [] E t):=by
 obtain⟨f,fd,ps,M,F,hm,hb⟩:=G;exact Ph M F hr hg hm hb .nil hx ha VD he VY
theorem nS(G:jw0 X.prog X.w X.K X.mg X.base CX k x C sp)(hr:Sf (k+1) X.A)(hx:gI CX X E)(hg:Gl X x:=by rfl)(VD:(x==("__debug__":Str))=false:=by decide):
  PE X (.Call (.Name x p) [] [] pos) (tR C sp [] E f_):=by
 obtain⟨f,fd,ps,M,F,hm,hb⟩:=G;exact QB M F hr hg hm hb .nil hx VD
noncomputable def kR(P:Program)(w:World)(K:W.Frag)(mg:Str->Option Value)(base:Heap)(CX:fL)(k:Nat)(m:Str)(E:XK)(ta:TE)(t:TA):TE:=λσ H Q=>ta σ H λx H1=>
 ∃a C dx fs sp,x=.ref a/\H1 a=⇑(.ins C dx fs)/\V1 K C/\mz P w K mg base CX k C m sp/\fs.lookup m=none/\t σ H1 λvs H2=>sp (x::vs) H2 Q E
theorem yn{pl:Sem Bool}(he:PE X o ta)(hr:Sf k X.A)(hx:gI CX X E)(ha:PA X (e::es) t)
  (Tg:starEach (e::es) X.env=(false,eval e X.env)::starEach es X.env:=by rfl) (VY:(backTo pos (starEach es X.env)).any (·.1)=false:=by rfl)
  (ht:eval (.Call (.Attribute o m apos) (e::es) [] pos) X.env=(do
   let ov<-eval o X.env
   standAt apos.atName
   let (f,first)<-holding [ov] (getMethod ov m pl)
   callWith pos f first (backTo pos (starEach (e::es) X.env)) (backToKw pos (keywordEach [] X.env))):=by rfl):
  PE X (.Call (.Attribute o m apos) (e::es) [] pos) (kR X.prog X.w X.K X.mg X.base CX k m E ta t):=by
 intro pins s σ H Q I h;refine W.methodCall_KW (pl:=pl) (aJ (he pins s σ H _ I h) λu s1 ⟨x,H1,I1,rx,a,C,dx,fs,sp,ex,ea,c,⟨f,fd,ps,hm,F,hb⟩,l,q⟩=> ?_) ht;subst ex;obtain rfl:u=Value.ref a:=rx;refine Dp I1 ea c hm l ?_;refine W.callWith_K (first:=[.ref a]) (h₀:=X.base) I.ok.mod.YK hm.kp (aJ (ha pos pins s1 σ H1 _ I1 q) λus s2 ⟨vs,H2,I2,r,q2⟩=>⟨I2.TK,?_⟩) Tg VY;exact Et (us:=.ref a::us) (vs:=.ref a::vs) (UC:=[]) (ds:=[]) F hr hb .nil hx I2 (.cons rfl r) (by simpa using q2)
theorem r9{pl:Sem Bool}(he:PE X o ta)(hr:Sf k X.A)(hx:gI CX X E)
  (ht:eval (.Call (.Attribute o m apos) [] [] pos) X.env=(do
   let ov<-eval o X.env
   standAt apos.atName
   let (f,first)<-holding [ov] (getMethod ov m pl)
   callWith pos f first (backTo pos (starEach [] X.env)) (backToKw pos (keywordEach [] X.env))):=by rfl):
  PE X (.Call (.Attribute o m apos) [] [] pos) (kR X.prog X.w X.K X.mg X.base CX k m E ta f_):=by
 intro pins s σ H Q I h;refine W.methodCall_KW (pl:=pl) (aJ (he pins s σ H _ I h) λu s1 ⟨x,H1,I1,rx,a,C,dx,fs,sp,ex,ea,c,⟨f,fd,ps,hm,F,hb⟩,l,q⟩=> ?_) ht;subst ex;obtain rfl:u=Value.ref a:=rx;refine Dp I1 ea c hm l ?_;exact W.callWith_K0 (first:=[.ref a]) I1.TK hm.kp (Et (us:=[.ref a]) (vs:=[.ref a]) (UC:=[]) (ds:=[]) F hr hb .nil hx I1 (.cons rfl .nil) q)
end
abbrev RU:=V->V->Hp->VK->Prop
def qO(K:W.Frag):RU:=λx y H Q=>match x,y with
 | .int i,.int j=>Q (.int (i+j)) H
 | .str a,.str b=>a.length+b.length<=sizeLine/\Q (.str (a++b)) H
 | .ref a,.ref b=>uc (.ref a) (.ref b) H Q\/nj K (.ref a) (.ref b) H Q
 | _,_=>False
theorem Pq:bA X (binaryOp .Add) (qO X.K):=by
 intro pins s σ H x y v u Q I rx ry h;cases x<;>cases y<;>first|exact h.elim|skip
 ·exact qE pins s σ H _ _ v u Q I rx ry ⟨_,_,rfl,rfl,h⟩
 ·exact O8 pins s σ H _ _ v u Q I rx ry ⟨_,_,rfl,rfl,h.1,h.2⟩
 ·rcases h with h|h
  ·exact rS pins s σ H _ _ v u Q I rx ry h
  ·exact Q7 pins s σ H _ _ v u Q I rx ry h
mutual
def Rep(H:Hp):V->PyData->Prop
 | v,.none=>v=.RY
 | v,.bool b=>v=.bl b
 | v,.int i=>v=.int i
 | v,.str x=>v=.str x
 | v,.list ds=>∃a vs,v=.ref a/\H a=⇑(.lst vs)/\SQ H vs ds
 | v,.tuple ds=>∃a vs,v=.ref a/\H a=⇑(.tup vs)/\SQ H vs ds
 | _,.dict _=>False
def SQ(H:Hp):List V->List PyData->Prop
 | [],[]=>True
 | v::vs,d::ds=>Rep H v d/\SQ H vs ds
 | _,_=>False
end
mutual
theorem Rep.same{H H':Hp}(e:R4 H H'):∀{v:V} {d:PyData},Rep H v d->Rep H' v d
 | v,.none,h=>h
 | v,.bool b,h=>h
 | v,.int i,h=>h
 | v,.str x,h=>h
 | v,.list ds,h=>by
  simp only[Rep]at h ⊢;obtain⟨a,vs,h1,h2,h3⟩:=h;exact⟨a,vs,h1,e _ _ h2,SQ.same e h3⟩
 | v,.tuple ds,h=>by
  simp only[Rep]at h ⊢;obtain⟨a,vs,h1,h2,h3⟩:=h;exact⟨a,vs,h1,e _ _ h2,SQ.same e h3⟩
 | _,.dict _,h=>by simp only[Rep]at h
theorem SQ.same{H H':Hp}(e:R4 H H'):∀{vs:List V} {ds:List PyData},SQ H vs ds->SQ H' vs ds
 | [],[],_=>by simp only[SQ]
 | v::vs,d::ds,h=>by
  simp only[SQ]at h ⊢;exact⟨Rep.same e h.1,SQ.same e h.2⟩
 | [],_::_,h=>by simp only[SQ]at h
 | _::_,[],h=>by simp only[SQ]at h
end
mutual
theorem tX{P:Program}{w:World}{H:Hp}{h:Heap}(hk:SW P w H h):∀{x:V} {v:Value} {d:PyData},RelV x v->Rep H x d->∃as,Reads h v d as
 | x,v,.none,r,q=>by simp only[Rep]at q;subst q;cases r;exact⟨_,.none⟩
 | x,v,.bool b,r,q=>by simp only[Rep]at q;subst q;cases r;exact⟨_,.bool b⟩
 | x,v,.int i,r,q=>by simp only[Rep]at q;subst q;obtain⟨t,rfl⟩:=r;exact⟨_,.int i t⟩
 | x,v,.str y,r,q=>by simp only[Rep]at q;subst q;obtain⟨t,rfl⟩:=r;exact⟨_,.str y t⟩
 | x,v,.list ds,r,q=>by
  simp only[Rep]at q;obtain⟨a,vs,rfl,e,q⟩:=q;cases r;obtain⟨_,RX,n,rv,g⟩:=hk a _ e;obtain⟨as,z⟩:=Gk hk rv q;exact⟨_,.list g rfl rfl (by simpa using z)⟩
 | x,v,.tuple ds,r,q=>by
  simp only[Rep]at q;obtain⟨a,vs,rfl,e,q⟩:=q;cases r;obtain⟨_,RX,rv,o,g,hc,n,hd⟩:=hk a _ e;obtain⟨as,z⟩:=Gk hk rv q;exact⟨_,.tuple g hc hd (by simpa using z)⟩
 | _,_,.dict _,_,q=>by simp only[Rep]at q
theorem Gk{P:Program}{w:World}{H:Hp}{h:Heap}(hk:SW P w H h):∀{xs:List V} {us:List Value} {ds:List PyData},Vals xs us->SQ H xs ds->∃as,ReadsAll h us ds as
 | _,_,[],.nil,_=>⟨_,.nil⟩
 | _,_,d::ds,.cons r rs,q=>by
  simp only[SQ]at q;obtain⟨as,z⟩:=tX hk r q.1;obtain⟨bs,y⟩:=Gk hk rs q.2;exact⟨_,.cons z y⟩
 | _,_,_::_,.nil,q=>by simp only[SQ]at q
 | _,_,[],.cons _ _,q=>by simp only[SQ]at q
end
def mF(d:PyData):Prop:=SeqAt.shaped d=true
def Kj:RU:=λx y H Q=>(gX x y=true/\Q (.bl (decide (x=y))) H)\/∃d e,Rep H x d/\Rep H y e/\mF d/\mF e/\Q (.bl (PyData.eqv d e)) H
def JM:RU:=λx y H Q=>(gX x y=true/\Q (.bl (!decide (x=y))) H)\/∃d e,Rep H x d/\Rep H y e/\mF d/\mF e/\Q (.bl (!PyData.eqv d e)) H
section
variable {X : Cx}
theorem pF(hu:X.A.units+64<cLine):bA X (compareOp .Eq) Kj:=by
 intro pins s σ H x y v u Q I rx ry h;rcases h with h|⟨d,e,hd,he,sd,se,q⟩
 ·exact tU pins s σ H x y v u Q I rx ry h
 ·obtain⟨as,ra⟩:=tX I.RZ rx hd
  obtain⟨bs,rb⟩:=tX I.RZ ry he;exact eq_dataH ra rb sd se hu ⟨.bl _,H,I,rfl,q⟩
theorem HD(hu:X.A.units+64<cLine):bA X (compareOp .NotEq) JM:=by
 intro pins s σ H x y v u Q I rx ry h;rcases h with h|⟨d,e,hd,he,sd,se,q⟩
 ·exact xD pins s σ H x y v u Q I rx ry h
 ·obtain⟨as,ra⟩:=tX I.RZ rx hd
  obtain⟨bs,rb⟩:=tX I.RZ ry he;exact ne_dataH ra rb sd se hu ⟨.bl _,H,I,rfl,q⟩
def BU(P:Program)(w:World)(K:W.Frag)(a:Addr)(kvs:List (aW×V)):Prop:=
 ∀h:Heap,K.In h->(a==sysModules)=false/\∃vs,KV kvs vs/\h.DictOf (cV P w) a vs
def B1(P:Program)(w:World)(K:W.Frag)(H:Hp)(a:Addr)(y:V)(r:Option V):Prop:=
 Vr H a y r\/(∃kvs k,BU P w K a kvs/\y=kV k/\r=bX kvs k)\/∃o kvs k,H a=⇑(.SY o (.dK kvs))/\y=kV k/\r=bX kvs k
noncomputable def xP(P:Program)(w:World)(K:W.Frag):R2:=λx y H Q=>∃a v,x=.ref a/\B1 P w K H a y ⇑v/\Q v H
theorem OX(hu:X.A.units+64<cLine):W0 X (xP X.prog X.w X.K):=by
 intro value slice pins s σ H x y v u Q I rx ry h hs;obtain⟨a,z,rfl,g,q⟩:=h;cases rx;rcases g with g|⟨kvs,k,kd,rfl,e⟩|⟨o,kvs,k,kd,rfl,e⟩
 ·exact tail_any (O5 I g) PySem.F.slot_dict_getitem.lookup (Mx ⋯ I g ry λw' s3 I3 V7=>⟨z,H,I3,V7,q⟩) hs
 ·obtain⟨hd,vs,rel,dd⟩:=kd _ I.TK
  obtain⟨w',hw,V7⟩:=To.some_of (v:=z) (o:=valueAt vs k) (by rw[e];exact rel.val k);exact tail_any dd.typeIs PySem.F.slot_dict_getitem.lookup (wpAny_getItem_of (gJ ry) dd.mapOf hw ⟨z,H,I.tok _,V7,q⟩) hs
 ·obtain⟨_,_,hd,vs,rel,dd⟩:=(show Tt X.prog X.w H s.heap a (.SY o (.dK kvs))from I.RZ a _ kd)
  obtain⟨w',hw,V7⟩:=To.some_of (v:=z) (o:=valueAt vs k) (by rw[e];exact rel.val k);exact tail_any dd.typeIs PySem.F.slot_dict_getitem.lookup (wpAny_getItem_of (gJ ry) dd.mapOf hw ⟨z,H,I.tok _,V7,q⟩) hs
def vO(P:Program)(w:World)(K:W.Frag):R2:=λx y H Q=>KH K x y H Q\/xP P w K x y H Q
theorem Ed(hu:X.A.units+64<cLine):W0 X (vO X.prog X.w X.K):=W0.or nY (OX hu)
def wG(P:Program)(w:World)(K:W.Frag)(neg:Bool):RU:=λx y H Q=>
 Ee K neg x y H Q\/(∃i j,x=.str i/\y=.str j/\Q (.bl (if neg then !(!(Builtin.Str.occurrences j i 0 j.length 1).isEmpty)else !(Builtin.Str.occurrences j i 0 j.length 1).isEmpty)) H)\/
 ∃a o,y=.ref a/\B1 P w K H a x o/\Q (.bl (if neg then !o.isSome else o.isSome)) H
theorem oM(hu:X.A.units+64<cLine):bA X (compareOp .In) (wG X.prog X.w X.K false):=by
 intro pins s σ H x y v u Q I rx ry h;rcases h with h|h|⟨a,o,rfl,g,q⟩
 ·exact O0 pins s σ H x y v u Q I rx ry h
 ·exact Oe pins s σ H x y v u Q I rx ry h
 ·cases ry
  rcases g with g|⟨kvs,k,kd,rfl,e⟩|⟨o',kvs,k,kd,rfl,e⟩
  ·exact CJ ⋯ I g rx λs' I'=>⟨.bl _,H,I',rfl,q⟩
  ·obtain⟨hd,vs,rel,dd⟩:=kd _ I.TK
   refine wpAny_in_of (gJ rx) hd dd.mapOf ?_;rw[<-(rel.val k).Sh,<-e];exact⟨.bl _,H,I.tok _,rfl,q⟩
  ·obtain⟨_,_,hd,vs,rel,dd⟩:=(show Tt X.prog X.w H s.heap a (.SY o' (.dK kvs))from I.RZ a _ kd)
   refine wpAny_in_of (gJ rx) hd dd.mapOf ?_;rw[<-(rel.val k).Sh,<-e];exact⟨.bl _,H,I.tok _,rfl,q⟩
theorem M1(hu:X.A.units+64<cLine):bA X (compareOp .NotIn) (wG X.prog X.w X.K true):=by
 intro pins s σ H x y v u Q I rx ry h;rcases h with h|h|⟨a,o,rfl,g,q⟩
 ·exact MK pins s σ H x y v u Q I rx ry h
 ·exact Oz pins s σ H x y v u Q I rx ry h
 ·cases ry
  rcases g with g|⟨kvs,k,kd,rfl,e⟩|⟨o',kvs,k,kd,rfl,e⟩
  ·exact Qg ⋯ I g rx λs' I'=>⟨.bl _,H,I',rfl,q⟩
  ·obtain⟨hd,vs,rel,dd⟩:=kd _ I.TK
   refine wpAny_notIn_of (gJ rx) hd dd.mapOf ?_;rw[<-(rel.val k).Sh,<-e];exact⟨.bl _,H,I.tok _,rfl,q⟩
  ·obtain⟨_,_,hd,vs,rel,dd⟩:=(show Tt X.prog X.w H s.heap a (.SY o' (.dK kvs))from I.RZ a _ kd)
   refine wpAny_notIn_of (gJ rx) hd dd.mapOf ?_;rw[<-(rel.val k).Sh,<-e];exact⟨.bl _,H,I.tok _,rfl,q⟩
def uM:V->Option Int->Option Int->Hp->VK->Prop:=λx lo hi H Q=>∃z,x=.str z/\z.length<=sizeLine/\Q (.str (Txt.slice z lo hi)) H
def JF(K:W.Frag):V->Option Int->Option Int->Hp->VK->Prop:=λx lo hi H Q=>yQ K x lo hi H Q\/uV K x lo hi H Q
theorem GB:WY X (JF X.K):=WY.or N4 nM
def lR(P:Program)(w:World)(K:W.Frag):List V->Hp->VK->Prop:=λxs H Q=>(∃p ys,xs=[.ref p]/\(R8 K H p ys\/S7 K H p ys)/\Q (.int ys.length) H)\/∃z,xs=[.str z]/\z.length<=sizeLine/\Q (.int z.length) H
theorem MR:S3 X (.builtin "len") (lR X.prog X.w X.K):=S3.or Mg OQ
def qH(K:W.Frag):List V->Hp->VK->Prop:=λxs H Q=>∃(p:Addr) (ns:List Int),xs=[.ref p]/\R8 K H p (ns.map V.int)/\Q (.int ns.sum) H
theorem Of(hc:X.calm=true):S3 X (.builtin "sum") (qH X.K):=by
 intro pins s σ H xs us Q I r h;obtain⟨p,ns,rfl,hq,q⟩:=h;obtain⟨u,rfl,rx⟩:=eR r;cases rx;obtain⟨RX,r',pl,hz⟩:=I.list hq;have hi:=Ju r';obtain⟨ys,e⟩:=(hi.allInts:AllInts RX.toArray).items;refine sum_intListG (I.ok.hd hc) (xs:=ys) (by rw[<-e];exact pl.isList) λh' tk t' k=>⟨.int ns.sum,H,I.kept (t':=tk) k,⟨t',?_⟩,q⟩;have e2:(numsOf RX.toArray.toList).sum=ns.sum:=by rw[show RX.toArray.toList=RX from rfl,hi.numsOf]
 rw[<-e2,e,nums_intItems,preSum_eq,wk (by simp)]
def r_(K:W.Frag):List V->Hp->VK->Prop:=λxs H Q=>∃(p:Addr) (bs:List Bool),xs=[.ref p]/\R8 K H p (bs.map V.bl)/\Q (.bl (bs.all id)) H
noncomputable def mY:V->Value
 | .ty n=>.type n
 | .ref a=>.ref a
 | _=>.none
def rY(K:W.Frag):List V->Hp->VK->Prop:=λxs H Q=>∃x c t b,xs=[x,c]/\((∃n,c=.ty n)\/∃a,c=.ref a)/\Ui K H x t/\W.kitOne K t (mY c)=⇑b/\Q (.bl b) H
theorem LU:S3 X (.builtin "isinstance") (rY X.K):=by
 intro pins s σ H xs us Q I r h;obtain⟨x,c,t,b,rfl,hc,ty,e,q⟩:=h;obtain⟨u,w',rfl,rx,rc⟩:=ly r;have ec:w'=mY c:=by
  rcases hc with⟨n,rfl⟩|⟨a,rfl⟩<;>exact rc
 subst ec;exact Qo I rx ty e λtk=>⟨.bl b,H,I.tok tk,rfl,q⟩
def GV(mg:Str->Option Value)(x:Str)(v:V):Prop:=∃u,mg x=⇑u/\RelV v u
theorem s_{x:Str}{v:V}{pos:Pos}(h:GV X.mg x v)(hg:Gl X x:=by rfl)(hd:(x==("__debug__":Str))=false:=by decide):PE X (.Name x pos) (tC v):=by
 obtain⟨u,hm,r⟩:=h;exact OF hg hm r hd
theorem Qw(ha:PE X a ta):PE X (.UnaryOp .Not a pos) (λσ H Q=>ta σ H λx H1=>∃k,dB X.K x H1 k/\Q (.bl (!k)) H1):=by
 intro pins s σ H Q I h;refine UnaryOp_ (aJ (ha pins s σ H _ I h) λv s1 hh=> ?_);obtain⟨x,H1,I1,r1,q1⟩:=hh;exact not_of (aJ (K2 pins s1 σ H1 x v (λk H2=>Q (.bl (!k)) H2) I1 r1 q1) λk s2 ⟨H2,I2,q2⟩=>⟨.bl (!k),H2,I2,rfl,q2⟩)
end
theorem Ki:bootBuiltins "len"=⇑(.builtin "len"):=⋯
theorem n9:bootBuiltins "sum"=⇑(.builtin "sum"):=⋯
theorem qF:bootBuiltins "all"=⇑(.builtin "all"):=⋯
theorem ro:bootBuiltins "any"=⇑(.builtin "any"):=⋯
theorem NA:bootBuiltins "isinstance"=⇑(.builtin "isinstance"):=⋯
theorem rX:bootBuiltins "max"=⇑(.builtin "max"):=⋯
theorem Lh:bootBuiltins "sorted"=⇑(.builtin "sorted"):=⋯
theorem oE:bootBuiltins "int"=⇑(.type "int"):=⋯
theorem IF:bootBuiltins "str"=⇑(.type "str"):=⋯
theorem K0:bootBuiltins "list"=⇑(.type "list"):=⋯
theorem LD:bootBuiltins "tuple"=⇑(.type "tuple"):=⋯
theorem N5:bootBuiltins "reversed"=⇑(.type "reversed"):=⋯
theorem yM{X:Cx}{x:Str}{n:String}{pos:Pos}(hm:X.mg x=none)(hv:bootBuiltins x=⇑(.type n))(hg:Gl X x:=by rfl)(hn:x≠"__name__":=by decide)(hd:(x==("__debug__":Str))=false:=by decide):PE X (.Name x pos) (tC (.ty n)):=OD hg hm hv rfl hn hd
def CXE(P:Program)(w:World):fL:=λouter H s E e s'=>
 ∃(ea C:Addr) (a0:Value) (B:Heap) (H':Hp),e=.ref ea/\s'.os=s.os/\AllBare s'.gens/\Un (bp outer) [] H H' s.heap s'.heap/\SW P w H' B/\Heap.FlyingW B outer ea (.ref C) a0 s'.heap/\
  (∀b o,s.heap.get? b=⇑o->b∉bp outer->∃o',B.get? b=⇑o')/\(∀b o,s.heap.get? b=⇑o->H b=none->b∉bp outer->B.get? b=⇑o)/\E (.ref C) none H'
theorem uz:gI (CXE P w) X E0:=λ_ _ _ _ _ _ _ ⟨_,_,_,_,_,_,_,_,_,_,_,_,_,h⟩=>h.elim
section
variable {P : Program} {w : World} {K : W.Frag} {mg : Str -> Option Value} {base : Heap} {N : List Str} {qual : Str} {scope : Scope} {f : Addr} {cd : Value} {A : Around} {outer : List Env} {s₀ : Shared} {H₀ : Hp} {E : XK}
theorem eT:gI (CXE P w) (aL (CXE P w) P w K mg base N qual scope f cd A outer s₀ H₀ E) E:=by
 intro pins σ H s e s' I h;obtain⟨ea,C,a0,B,H',rfl,XW,hg,u,RZ,fl,hB,Xu,hE⟩:=h;have fsE:bp (aL (CXE P w) P w K mg base N qual scope f cd A outer s₀ H₀ E).stack=s₀.heap.objs.size::bp outer:=rfl;have ltL:∀{b o},s₀.heap.get? b=⇑o->b≠s₀.heap.objs.size:=fun{b o} q=>qo (qe q);have Yz:∀{b o},s₀.heap.get? b=⇑o->b∉bp outer->b∉bp (aL (CXE P w) P w K mg base N qual scope f cd A outer s₀ H₀ E).stack:=fun{b o} q n hm=>by
  rw[fsE]at hm;rcases qg.mp hm with z|z
  ·exact ltL q z
  ·exact n z
 have bu:=I.base;refine wpAny_leaves_onW (env:=envOfC qual scope s₀.heap.objs.size f cd) (outer:=outer) (L:=s₀.heap.objs.size) I.ok.frames rfl fl λh'' fl'' sm=> ?_;have nf:∀{b},b∈bp (aL (CXE P w) P w K mg base N qual scope f cd A outer s₀ H₀ E).stack->∀o,s'.heap.get? b=⇑o->∀vs,o.data≠ .fields vs:=fun{b} hb o ho=>by
  obtain⟨_,o',Vu,hd⟩:=fl.2.2.1.mem (b:=b) hb;rw[ho]at Vu;cases Vu;exact hd
 refine⟨ea,C,a0,B,H',rfl,XW.trans I.os,hg,⟨?_,?_,?_,?_,?_,?_,?_⟩,RZ,fl'',?_,?_,hE⟩
 ·intro b o q n nm _
  have q1:=bu.keep b o q n nm (by simp[aL]);have n1:=bu.free b o q n (by simp[aL]);exact fl''.1 b o (Xu b o q1 n1 (Yz q nm))
 ·intro b o q n hm _
  obtain⟨sl,q1⟩:=bu.slot b o q n hm (by simp[aL]);have n1:=bu.free b o q n (by simp[aL]);have hm':b∈bp (aL (CXE P w) P w K mg base N qual scope f cd A outer s₀ H₀ E).stack:=by rw[fsE];exact q8 _ hm
  obtain⟨sl2,q2⟩:=u.slot b _ q1 n1 hm' (by simp);obtain⟨Yc,q3⟩:=sm b _ q2 (nf hm' _ q2);exact⟨Yc,q3⟩
 ·intro b o q n _
  have n1:=bu.free b o q n (by simp[aL]);obtain⟨o1,q1⟩:=bu.there b o q (by simp[aL]);exact u.free b o1 q1 n1 (by simp)
 ·intro b o q _
  obtain⟨o1,q1⟩:=bu.there b o q (by simp[aL]);by_cases hm:b∈bp outer
  ·have hm':b∈bp (aL (CXE P w) P w K mg base N qual scope f cd A outer s₀ H₀ E).stack:=by rw[fsE];exact q8 _ hm
   obtain⟨o2,q2⟩:=u.there b o1 q1 (by simp);obtain⟨Yc,q3⟩:=sm b _ q2 (nf hm' _ q2);exact⟨_,q3⟩
  ·obtain⟨o2,q2⟩:=hB b o1 q1 (Yz q hm)
   exact⟨o2,fl''.1 b o2 q2⟩
 ·intro b xs q;exact u.tups b xs (bu.tups b xs q)
 ·intro b o v q;exact u.TF b o v (bu.TF b o v q)
 ·intro b ps q
  obtain⟨m1,q1⟩:=bu.T5 b ps q;obtain⟨m2,q2⟩:=u.T5 b _ q1;exact⟨m1++m2,by rw[q2,Array.append_assoc]⟩
 ·intro b o q nm
  obtain⟨o1,q1⟩:=bu.there b o q (by simp[aL]);exact hB b o1 q1 (Yz q nm)
 ·intro b o q n nm
  have q1:=bu.keep b o q n nm (by simp[aL]);have n1:=bu.free b o q n (by simp[aL]);exact Xu b o q1 n1 (Yz q nm)
theorem rZ{σ:St}(I:Inv (aL (CXE P w) P w K mg base N qual scope f cd A outer s₀ H₀ E) pins σ H s)
  (hx:Heap.MadeExcOf s.heap h' e (.ref C) vs) (hE:E (.ref C) none H):(aL (CXE P w) P w K mg base N qual scope f cd A outer s₀ H₀ E).xe (.ref e) {s with heap:=h'}:=by
 have fsE:bp (aL (CXE P w) P w K mg base N qual scope f cd A outer s₀ H₀ E).stack=s₀.heap.objs.size::bp outer:=rfl;have bu:=I.base;have ltL:∀{b o},s₀.heap.get? b=⇑o->b≠s₀.heap.objs.size:=fun{b o} q=>qo (qe q);have Yz:∀{b o},s₀.heap.get? b=⇑o->b∉bp outer->b∉(s₀.heap.objs.size::bp outer):=fun{b o} q n hm=>by
  rcases qg.mp hm with z|z
  ·exact ltL q z
  ·exact n z
 have hin:∀env∈(envOfC qual scope s₀.heap.objs.size f cd::outer),∀a,env.frame=⇑a->a∈(s₀.heap.objs.size::bp outer):=λenv he b hb=>by
  rcases qg.mp he with rfl|he
  ·have:s₀.heap.objs.size=b:=Option.some.inj hb
   subst this;exact qa ..
  ·exact q8 _ (gx.mpr ⟨env,he,hb⟩)
 have stk:s.heap.FunFrames base (envOfC qual scope s₀.heap.objs.size f cd::outer):=I.stack;have hl:=W.funFrames_hide (as:=s₀.heap.objs.size::bp outer) stk hin;refine wpAny_leaves_madeW (base:=W.hideAll s.heap (s₀.heap.objs.size::bp outer)) (h:=s.heap) (env:=envOfC qual scope s₀.heap.objs.size f cd) (outer:=outer) (L:=s₀.heap.objs.size) I.ok.frames rfl
  (λb o q=>W.of_hideAll _ q) hl hx λh'' t fl _ _ sm=> ?_
 have hide:∀{b o},s.heap.get? b=⇑o->b∉(s₀.heap.objs.size::bp outer)->(W.hideAll s.heap (s₀.heap.objs.size::bp outer)).get? b=⇑o:=fun{b o} q n=>W.hideAll_get _ q n;have nf:∀{b},b∈bp outer->∀o,s.heap.get? b=⇑o->∀vs,o.data≠ .fields vs:=fun{b} hb o ho=>by
  obtain⟨_,o',Vu,hd⟩:=stk.mem (b:=b) (by rw[show List.filterMap (·.frame) (envOfC qual scope s₀.heap.objs.size f cd::outer)=s₀.heap.objs.size::bp outer from rfl];exact q8 _ hb);rw[ho]at Vu;cases Vu;exact hd
 have thr:∀b o,s₀.heap.get? b=⇑o->b∉bp outer->∃o',(W.hideAll s.heap (s₀.heap.objs.size::bp outer)).get? b=⇑o':=λb o q nm=>by
  obtain⟨o1,q1⟩:=bu.there b o q (by simp[aL]);exact⟨o1,hide q1 (Yz q nm)⟩
 have kpt:∀b o,s₀.heap.get? b=⇑o->H₀ b=none->b∉bp outer->(W.hideAll s.heap (s₀.heap.objs.size::bp outer)).get? b=⇑o:=λb o q n nm=>
  hide (bu.keep b o q n nm (by simp[aL])) (Yz q nm)
 refine⟨e,C,.ref t,_,H,rfl,I.os,I.bare,⟨?_,?_,?_,?_,bu.tups,bu.TF,bu.T5⟩,?_,fl,thr,kpt,hE⟩
 ·intro b o q n nm _
  exact fl.1 b o (kpt b o q n nm)
 ·intro b o q n hm _
  obtain⟨sl,q1⟩:=bu.slot b o q n hm (by simp[aL]);obtain⟨Yc,q3⟩:=sm b _ (hx.keeps b _ q1) (nf hm _ q1);exact⟨Yc,q3⟩
 ·intro b o q n _;exact bu.free b o q n (by simp[aL])
 ·intro b o q _
  by_cases hm:b∈bp outer
  ·obtain⟨o1,q1⟩:=bu.there b o q (by simp[aL])
   obtain⟨Yc,q3⟩:=sm b _ (hx.keeps b _ q1) (nf hm _ q1);exact⟨_,q3⟩
  ·obtain⟨o2,q2⟩:=thr b o q hm
   exact⟨o2,fl.1 b o2 q2⟩
 ·intro a o q
  have frn:=I.Vg;rw[fsE]at frn;refine(I.RZ a o q).UD (λb u hb q'=>hide q' λhm=> ?_) (λ_ z=>z) λ_ _ z=>z;have n:=frn b hm;rcases hb with rfl|hb
  ·rw[q]at n;cases n
  ·rw[hb]at n;cases n
structure Exc (K:W.Frag) (mg:Str->Option Value) (x:Str) (C:Addr):Prop where
 at_:W.nsIn K mainGlobals x=⇑⇑(.ref C)
 ex:∃bmB newId B Xm,W.excIn K C bmB newId=true/\ExcBaseFacts B newId Xm bmB
 mg_:mg x=⇑(.ref C)
def pZ(C:Addr)(E:XK)(v:V)(H:Hp):Prop:=∃v',[v]=[v']/\E (.ref C) none H
noncomputable def Iv(C:Addr)(E:XK)(te:TE):TS:=λ_ σ H=>te σ H λv H1=>pZ C E v H1
theorem Jj{x:Str}{C:Addr}{e₀:Expr}{te:TE}{np SV pos:Pos}(O:Exc K mg x C)
  (he:PE (aL (CXE P w) P w K mg base N qual scope f cd A outer s₀ H₀ E) e₀ te) (hh:Sf 0 (A.deeper (envOfC qual scope s₀.heap.objs.size f cd)))
  (hg:Gl (aL (CXE P w) P w K mg base N qual scope f cd A outer s₀ H₀ E) x:=by rfl) (VD:(x==("__debug__":Str))=false:=by decide)
  (Tg:starEach [e₀] (envOfC qual scope s₀.heap.objs.size f cd)=[(false,eval e₀ (envOfC qual scope s₀.heap.objs.size f cd))]:=by rfl):
  PS (aL (CXE P w) P w K mg base N qual scope f cd A outer s₀ H₀ E) (.Raise ⇑(.Call (.Name x np) [e₀] [] SV) none pos) (Iv C E te):=by
 intro pins s σ H D I h;obtain⟨bmB,newId,B,Xm,q,FB⟩:=O.ex;have hC0:W.excIn K C bmB newId=true:=q;have cls:∀{h:Heap},K.In h->∃bm N nm q bs hdct sn sub ab col dd k0 k1 k2 k3 k5 mN,h.get? C=⇑(excClassObj nm q C N bs bm hdct sn sub ab col dd k0 k1 k2 k3 k5 newId)/\h.Ns N mN/\mN "__init__"=none/\OwnTail h bmB bm:=fun{h} X=>by
  unfold W.excIn at q;split at q
  ·rename_i dd cd sl ho
   split at q
   ·rename_i C' bm k0 k1 k2 k3 n k5 hm hs
    simp only[z4,beq_iff_eq,Bool.not_eq_true']at q;obtain⟨⟨⟨⟨⟨rfl,rfl⟩,hdel⟩,ht⟩,RZ⟩,hni⟩:=q;obtain⟨nm,bs,mro,ns,qn,hd,sn,sub,ab,col,del⟩:=cd;dsimp only at hm hdel RZ hni;subst hm hdel;have hsl:sl=#[k0,k1,k2,k3,⇑(.builtin n),k5]:=by
     obtain⟨l⟩:=sl;simp only at hs;rw[hs]
    subst hsl;exact⟨bm,ns,nm,qn,bs,hd,sn,sub,ab,col,dd,k0,k1,k2,k3,k5,_,X _ _ ho,.of_isNs (W.isNs_of_in X RZ),W.nsMap_none_of_in X RZ hni,W.tail_of_in X ht⟩
   ·cases q
  ·cases q
 obtain⟨tl,Nc,nm,qn,bs,hdct,sn,sub,ab,col,dd,k0,k1,k2,k3,k5,mN,hC,hN,hni,T⟩:=cls I.ok.mod.YK;refine wpAny_Raise_call_subT (C:=C) (nm:=nm) (q:=qn) (N:=Nc) (bs:=bs) (bm:=tl) (hdct:=hdct) (sn:=sn) (sub:=sub) (ab:=ab) (col:=col) (dd:=dd) (k0:=k0) (k1:=k1) (k2:=k2) (k3:=k3) (k5:=k5)
  FB (mN:=mN) (T.hasType FB.hasBase) hh.hd (by show(backTo SV (starEach [e₀] (envOfC qual scope s₀.heap.objs.size f cd))).any (·.1)=false;rw[Tg];rfl) hni (tD I hg O.mg_ ⟨rfl,?_⟩ VD)
 show wpAny _ _ (evalArgs (.ref C) true (backTo SV (starEach [e₀] (envOfC qual scope s₀.heap.objs.size f cd))) []) _ _ s;have hA:=(bx he b_ (by show starEach [e₀] (envOfC qual scope s₀.heap.objs.size f cd)=_;rw[Tg];rfl)) SV pins s σ H (λvs H1=>∃v,vs=[v]/\E (.ref C) none H1) I h;rw[show starEach [e₀] (aL (CXE P w) P w K mg base N qual scope f cd A outer s₀ H₀ E).env=[(false,eval e₀ (envOfC qual scope s₀.heap.objs.size f cd))]from Tg]at hA;rw[Tg];refine Calls.evalArgs_plain (wpAny_mono hA (λus s₂ ⟨vs,H1,I1,r,⟨v,hl,q1⟩⟩=> ?_) λ_ _ y=>y);have kb:=I1.bk;refine⟨rfl,by show us.length<=sizeLine;rw[<-r.length,hl];exact(by decide:1<=sizeLine),kb _ _ hC,hN.keeps kb,T.keeps kb,λh' e hm=>rZ I1 hm q1⟩
theorem XM.okE{st:Stmt}(F:XM K x qual st f fd)(S:Sg N ps (cu st))(len:∀vs H Q E,sp vs H Q E->vs.length=ps.length)
  (Xr:∀(Sz:Value) (A:Around) (outer:List Env) (s:Shared) (H:Hp) (vs:List V) (Q:VK) (E:XK),Sf k (A.deeper (envOfC qual (cu st) s.heap.objs.size f Sz))->sp vs H Q E->
   ∃t,VP (aL (CXE P w) P w K mg base N qual (cu st) f Sz A outer s H E) (fT st) t/\t {nx:=λ_ H'=>Q .RY H',rt:=Q} (start N vs) H):Si P w K mg base (CXE P w) (k+1) f fd ps sp:=by
 obtain⟨oc,od,kV,doc,pm,an,Sz,ct,Yd,rfl,lk,Xq⟩:=F.ex;exact wF lk Xq S len λA outer s H vs Q E hr XF=>Xr Sz A outer s H vs Q E hr XF
theorem dS:PassesOwn (model P w) (A.deeper (envOfC qual scope s₀.heap.objs.size f cd)) (envOfC qual scope s₀.heap.objs.size f cd) (aL (CXE P w) P w K mg base N qual scope f cd A outer s₀ H₀ E).xe:=PassesOwn.leaving
theorem cxe_out(h:CXE P w [] H s (λ_ _ _=>False) e s'):False:=by
 obtain⟨_,_,_,_,_,_,_,_,_,_,_,_,_,h⟩:=h;exact h
end
noncomputable def Dz(z:Str):It:=⟨λi _=>i<z.length,λi H x H'=>H'=H/\∃c,z.cps[i]?=⇑c/\x=.str ⟨#[c]⟩,λi _=>z.length<=i⟩
theorem MM{K:W.Frag}(z:Str)(t:Tok)(it:Addr):Turn P w K tg (Dz z) [it] it (λi h=>h.IsStrIter it "str_ascii_iterator" z t i)where
 mem:=by simp
 obj:=λi h st b hb=>by
  have e:b=it:=by simpa using hb
  subst e;obtain⟨o,e,c,d⟩:=st;exact⟨o,e,λv z=>by rw[d]at z;cases z⟩
 keep:=λi h h' st k=>let ⟨o,ho,r⟩:=st;⟨o,k it (by simp) o ho,r⟩
 item:=by
  intro X hP hw hK hc i pins s σ H E I hf st hg;subst hP hw hK;obtain⟨f0,f1,f2,f3,f4,f5⟩:=hf it (by simp);have hi:i<z.cps.size:=hg;refine wpAny_pyNext_ascii_item st (c:=z.cps[i]) (by simp[hi]) λh' st' sb=> ?_;have I1:Inv X pins σ H {s with heap:=h',toks:=s.toks+1}:=I.turned (t':=s.toks+1) (λb o hb e=>(sb.2 b hb).trans e) f0 f1 f3 f4 f5;obtain⟨o,e,c,d⟩:=id st';exact⟨_,rfl,sR (s:={s with heap:=h',toks:=s.toks+1}) e c d ⋯ ⟨.str ⟨#[z.cps[i]]⟩,H,I1,⟨_,rfl⟩,⟨rfl,z.cps[i],by simp[hi],rfl⟩,st',λb hb=>(hf b hb).1⟩⟩
 done:=by
  intro X hP hw hK hc i pins s σ H E I hf st hg;subst hP hw hK;obtain⟨f0,f1,f2,f3,f4,f5⟩:=hf it (by simp);have hi:z.cps.size<=i:=hg;exact wpAny_pyNext_ascii_end (I.ok.hd hc) st (by simp;lia) λh' eb=>⟨rfl,I.turned (t':=s.toks) (λb o hb e=>eb b o hb e) f0 f1 f3 f4 f5⟩
 self:=λ_ _ _ _ _ st h=>wpAny_pyIter_striter_ascii st h
theorem QM{K:W.Frag}(z:Str)(t:Tok)(it:Addr):Turn P w K tg (Dz z) [it] it (λi h=>h.IsStrIter it "str_iterator" z t i)where
 mem:=by simp
 obj:=λi h st b hb=>by
  have e:b=it:=by simpa using hb
  subst e;obtain⟨o,e,c,d⟩:=st;exact⟨o,e,λv z=>by rw[d]at z;cases z⟩
 keep:=λi h h' st k=>let ⟨o,ho,r⟩:=st;⟨o,k it (by simp) o ho,r⟩
 item:=by
  intro X hP hw hK hc i pins s σ H E I hf st hg;subst hP hw hK;obtain⟨f0,f1,f2,f3,f4,f5⟩:=hf it (by simp);have hi:i<z.cps.size:=hg;refine wpAny_pyNext_wide_item st (c:=z.cps[i]) (by simp[hi]) λh' st' sb=> ?_;have I1:Inv X pins σ H {s with heap:=h',toks:=s.toks+1}:=I.turned (t':=s.toks+1) (λb o hb e=>(sb.2 b hb).trans e) f0 f1 f3 f4 f5;obtain⟨o,e,c,d⟩:=id st';exact⟨_,rfl,sR (s:={s with heap:=h',toks:=s.toks+1}) e c d ⋯ ⟨.str ⟨#[z.cps[i]]⟩,H,I1,⟨_,rfl⟩,⟨rfl,z.cps[i],by simp[hi],rfl⟩,st',λb hb=>(hf b hb).1⟩⟩
 done:=by
  intro X hP hw hK hc i pins s σ H E I hf st hg;subst hP hw hK;obtain⟨f0,f1,f2,f3,f4,f5⟩:=hf it (by simp);have hi:z.cps.size<=i:=hg;exact wpAny_pyNext_wide_end (I.ok.hd hc) st (by simp;lia) λh' eb=>⟨rfl,I.turned (t':=s.toks) (λb o hb e=>eb b o hb e) f0 f1 f3 f4 f5⟩
 self:=λ_ _ _ _ _ st h=>wpAny_pyIter_striter_wide st h
def iV(K:W.Frag)(tl:TE):TI:=λσ H R=>tl σ H λx H1=>(∃a,x=.ref a/\(((∃xs,R8 K H1 a xs)/\R (Gy K a) H1)\/((∃xs,S7 K H1 a xs)/\R (CM K a) H1)))\/∃z,x=.str z/\R (Dz z) H1
section
variable {X : Cx}
theorem DL(hl:PE X l tl):PI X tg l (iV X.K tl):=by
 intro pins s σ H R I h;refine aJ (hl pins s σ H _ I h) λv s1 hh=> ?_;obtain⟨x,H1,I1,r1,q1⟩:=hh;have fp:∀b∈[s1.heap.objs.size],cR X pins H1 b:=λb hb=>by
  have e:b=s1.heap.objs.size:=by simpa using hb
  subst e;exact I1.Xv (qd _) (I1.RZ.fresh (qd _))
 rcases q1 with⟨a,e,q⟩|⟨z,e,q⟩
 ·subst e
  cases r1
  rcases q with⟨⟨xs,hq⟩,q⟩|⟨⟨xs,hq⟩,q⟩
  ·obtain⟨RX,rv,p,hz⟩:=I1.list hq
   refine wpAny_pyIter_list p.isList ?_;exact⟨s1.heap.objs.size,[s1.heap.objs.size],_,_,H1,rfl,I1.kept (t':=s1.toks) λb o e=>qb _ e,OJ a _,⟨_,qq _ rfl,rfl,rfl⟩,fp,q⟩
  ·obtain⟨RX,rv,p,hz⟩:=I1.tuple hq
   refine wpAny_pyIter_tuple (show s1.heap.IsTuple a RX.toArray from p) ?_;exact⟨s1.heap.objs.size,[s1.heap.objs.size],_,_,H1,rfl,I1.kept (t':=s1.toks) λb o e=>qb _ e,O4 a _,⟨_,qq _ rfl,rfl,rfl⟩,fp,q⟩
 ·subst e
  obtain⟨t,rfl⟩:=r1;cases ha:z.cps.all (·<128)
  ·exact wpAny_pyIter_wide ha ⟨s1.heap.objs.size,[s1.heap.objs.size],_,_,H1,rfl,I1.kept (t':=s1.toks) λb o e=>qb _ e,QM z t _,⟨_,qq _ rfl,rfl,rfl⟩,fp,q⟩
  ·exact wpAny_pyIter_ascii ha ⟨s1.heap.objs.size,[s1.heap.objs.size],_,_,H1,rfl,I1.kept (t':=s1.toks) λb o e=>qb _ e,MM z t _,⟨_,qq _ rfl,rfl,rfl⟩,fp,q⟩
theorem Fk:∀{bs:List Bool} {RX:List Value},Vals (bs.map V.bl) RX->RX=bs.map Value.bool
 | [],_,.nil=>rfl
 | b::bs,_,.cons r rr=>by rw[List.map_cons,<-Fk rr];cases r;rfl
theorem N7(hc:X.calm=true):S3 X (.builtin "all") (r_ X.K):=by
 intro pins s σ H xs us Q I r h;obtain⟨p,bs,rfl,hq,q⟩:=h;obtain⟨u,rfl,rx⟩:=eR r;cases rx;obtain⟨RX,r',pl,hz⟩:=I.list hq;have e:=Fk r';have hh:X.A.in1.handled=none:=I.ok.hd hc;refine call_all_walk (wpAny_pyIter_list pl.isList ?_);have hne:p≠s.heap.objs.size:=by
  obtain⟨o,ho,_⟩:=pl.isList;exact qo (qe ho)
 refine⟨s.heap.objs.size,_,_,_,_,_,λi=>bs.getD i false,rfl,Walks.list hh _ p hne RX.toArray,?_,?_,λh' tk hk=> ?_⟩
 ·exact⟨⟨_,qq _ rfl,rfl,rfl⟩,pl.isList.at λo e=>qb _ e⟩
 ·intro i v s' Q' E' hP hQ
  have hv:RX[i]?=⇑v:=by simpa using hP
  rw[e,z9]at hv;obtain⟨b,hb,rfl⟩:=qi.mp hv;have:bs.getD i false=b:=by simp[List.getD,hb]
  have hQ':Q' (bs.getD i false) s':=hQ;rw[this]at hQ';exact wpAny_truthy_bool hQ'
 ·have k:∀b o,s.heap.get? b=⇑o->h'.get? b=⇑o:=λb o e=>hk b o (by
   intro hm;have:b=s.heap.objs.size:=by simpa using hm
   exact absurd (qe e) (by rw[this];exact wd _)) (qb _ e)
  refine⟨.bl (bs.all id),H,I.kept (t':=tk) k,?_,q⟩;have hl:=r'.length;simp only[qf]at hl;have e2:(List.range RX.toArray.size).all (λi=>bs.getD i false)=bs.all id:=by
   rw[ql,<-hl];rw[kg,List.all_eq_true,List.all_eq_true];constructor
   ·intro hh x hx
    obtain⟨i,hi,rfl⟩:=gu hx;have:=hh i (w5.mpr hi);simpa [List.getD,hi]using this
   ·intro hh i hi
    have hi':=w5.mp hi;have:=hh bs[i] (kt hi');simpa [List.getD,hi']using this
  rw[e2];rfl
theorem JH:∀{ys:List Str} {RX:List Value},Vals (ys.map V.str) RX->StrsAre RX ys
 | [],_,.nil=>.nil
 | y::ys,_,.cons r rr=>by obtain⟨t,rfl⟩:=r;exact .cons y t (JH rr)
def FC(K:W.Frag):V->List V->Hp->VK->Prop:=λx vs H Q=>∃(z:Str) (p:Addr) (ys:List Str),x=.str z/\vs=[.ref p]/\R8 K H p (ys.map V.str)/\(ys.map (·.length)).sum+ys.length*z.length<=16777216/\Q (.str (Txt.join z ys)) H
theorem Q3:so X "str.join" (FC X.K):=by
 intro pins s σ H x xs v us Q I rx rv h;obtain⟨z,p,ys,rfl,rfl,hq,hz,q⟩:=h;obtain⟨t,rfl⟩:=rx;obtain⟨u,rfl,ru⟩:=rv.one;cases ru;obtain⟨RX,r',pl,_⟩:=I.list hq;exact join_list pl.isList (by simpa using JH r') hz λt' k=>⟨.str _,H,I.tok k,⟨t',rfl⟩,q⟩
theorem Hz:∀(l:List (Str×Tok)),Vals ((l.map (·.1)).map V.str) (strValues l)
  | []=>.nil
  | (x,t)::r=>.cons ⟨t,rfl⟩ (Hz r)
def Hx:V->List V->Hp->VK->Prop:=λx vs H Q=>∃(z y:Str),x=.str z/\vs=[.str y]/\y.length≠0/\z.length<=sizeLine/\(Txt.split z y).length<=sizeLine/\∀p H',H p=none->H' p=⇑(.lst ((Txt.split z y).map V.str))->R4 H H'->Q (.ref p) H'
open Builtin Builtin.Str in
theorem Jo:so X "str.split" Hx:=by
 intro pins s σ H x xs v us Q I rx rv h;obtain⟨z,y,rfl,rfl,hy,hz,hl,q⟩:=h;obtain⟨t,rfl⟩:=rx;obtain⟨w',rfl,u,rfl⟩:=rv.one;have hy':(y.length==0)=false:=by simpa using hy
 have fin:∀(l:List (Str×Tok)) (tk:Nat),l.map (·.1)=Txt.split z y->EP X pins σ Q (.ref s.heap.objs.size) {s with heap:=s.heap.push {cls:=.type "list",data:=.seq (strValues l).toArray},toks:=tk}:=λl tk e=>
  ⟨.ref s.heap.objs.size,_,I.lnew (t':=tk) (ys:=(Txt.split z y).map V.str) (by rw[<-e];exact Hz l) (by rw[qf];exact hl),rfl,q _ _ I.fresh b7 λb o e=>by rw[aE (eU e I.fresh)];exact e⟩
 cases h1:(decide (z.length<y.length)||decide (strKind z<strKind y))
 ·cases hf:(occurrences z y 0 z.length (z.length+1)).isEmpty
  ·have e0:Txt.split z y=partsBetween z (occurrences z y 0 z.length (z.length+1)) y.length:=(if_neg (ne_true_of_eq_false h1)).trans (if_neg (ne_true_of_eq_false hf))
   refine call_meets F.slot_str_split (typeIs_str _ _ _) F.entry_str_split (F.args_str_split_2 _ _) (meets_str_split_sep z y t u h1 hy' hf hz (by rw[<-e0];exact hl)) ?_;show wants (EP X pins σ Q) X.xe _ {s with toks:=_,heap:=s.heap.push {cls:=.type "list",data:=.seq (strsFrom s.toks (partsBetween z (occurrences z y 0 z.length (z.length+1)) y.length)).toArray}};rw[strsFrom_eq];exact fin (numbered s.toks _) _ ((numbered_texts _ _).trans e0.symm)
  ·exact call_meets F.slot_str_split (typeIs_str _ _ _) F.entry_str_split (F.args_str_split_2 _ _) (meets_str_split_not_found z y t u h1 hy' hf)
    (fin [(z,t)] s.toks ((if_neg (ne_true_of_eq_false h1)).trans (if_pos hf)).symm)
 ·exact call_meets F.slot_str_split (typeIs_str _ _ _) F.entry_str_split (F.args_str_split_2 _ _) (meets_str_split_cannot_occur z y t u h1)
   (fin [(z,t)] s.toks (if_pos h1).symm)
def yF:List V->Hp->VK->Prop:=λxs H Q=>((∃i,xs=[.int i]/\Q (.int i) H)\/∃k,xs=[.bl k]/\Q (.int (if k then 1 else 0)) H)\/∃z n,xs=[.str z]/\z.length<=640/\intText? z=⇑n/\Q (.int n) H
theorem NW:S3 X (.type "int") yF:=by
 refine S3.or Ou ?_;intro pins s σ H xs us Q I r h;obtain⟨z,n,rfl,hl,hn,q⟩:=h;obtain⟨u,rfl,t,rfl⟩:=eR r;exact W.KIN.call_text hn hl ⟨.int n,H,I.tok _,⟨_,rfl⟩,q⟩
def uw:List V->Hp->VK->Prop:=λxs H Q=>∃i,xs=[.int i]/\i.natAbs.log2<1920/\Q (.str (toString i)) H
theorem QV:S3 X (.type "str") uw:=LR
/-! ### f"..{x}.." -/
abbrev TJ:=Str->St->Hp->(Str->Hp->Prop)->Prop
def PJ(X:Cx)(es:List Expr)(t:TJ):Prop:=∀(out:Str) (pins:List (Addr×Obj)) (s:Shared) (σ:St) (H:Hp) (Q:VK),Inv X pins σ H s->t out σ H (λz H'=>z.length<=sizeLine/\Q (.str z) H')->
 wpAny (model X.prog X.w) X.A (joinParts out (evalEach es X.env)) (EP X pins σ Q) X.xe s
noncomputable def mS:TJ:=λout _ H Q=>Q out H
noncomputable def Iq(te:TE)(t:TJ):TJ:=λout σ H Q=>te σ H λx H1=>∃y,x=.str y/\(out++y).length<=sizeLine/\t (out++y) σ H1 Q
theorem ox:PJ X [] mS:=λout pins s σ H Q I h=>joinParts_nil ⟨.str out,H,I.tok _,⟨_,rfl⟩,h.2⟩ h.1
theorem LZ(he:PE X e te)(hr:PJ X es t):PJ X (e::es) (Iq te t):=by
 intro out pins s σ H Q I h;show wpAny _ _ (joinParts out (eval e X.env::evalEach es X.env)) _ _ s;refine joinParts_cons (aJ (he pins s σ H _ I h) λv s1 hh=> ?_);obtain⟨x,H1,I1,r1,y,ex,hz,q⟩:=hh;subst ex;obtain⟨t,rfl⟩:=r1;exact⟨hz,hr (out++y) pins s1 σ H1 Q I1 q⟩
noncomputable def Hc(t:TJ):TE:=λσ H Q=>t Str.empty σ H λz H'=>z.length<=sizeLine/\Q (.str z) H'
theorem xS(h:PJ X (v₁::v₂::rest) t):PE X (.JoinedStr (v₁::v₂::rest) pos) (Hc t):=by
 intro pins s σ H Q I q;exact JoinedStr_many (h Str.empty pins s σ H Q I q)
noncomputable def vB(te:TE):TE:=λσ H Q=>te σ H λx H1=>(∃i,x=.int i/\i.natAbs.log2<1920/\Q (.str (toString i)) H1)\/∃z,x=.str z/\z.length<=sizeLine/\Q (.str z) H1
theorem nH(he:PE X e te):PE X (.FormattedValue e (-1) none pos) (vB te):=by
 intro pins s σ H Q I h;refine FormattedValue_plain (aJ (he pins s σ H _ I h) λv s1 hh=> ?_);obtain⟨x,H1,I1,r1,q⟩:=hh;rcases q with⟨i,rfl,hd,q⟩|⟨z,rfl,hz,q⟩
 ·obtain⟨t,rfl⟩:=r1
  exact wpAny_formatField_int hd ⟨.str _,H1,I1.tok _,⟨_,rfl⟩,q⟩
 ·obtain⟨t,rfl⟩:=r1
  exact wpAny_formatField_str ⟨.str z,H1,I1,⟨_,rfl⟩,q⟩ ⟨.str z,H1,I1.tok _,⟨_,rfl⟩,q⟩ hz
end
section
variable {X : Cx}
theorem KG{ns:List Int}(r:Vals (ns.map V.int) RX)(h:RX[i]?=⇑v):∃t,v=.int (ns.getD i 0) t/\i<ns.length:=by
 have hl:=r.length;rw[qf]at hl;have hi:i<RX.length:=(q9.mp h).1;have hx:(ns.map V.int)[i]?=⇑(.int ns[i]):=by simp[z9,qk (show i<ns.length by lia)]
 obtain⟨u,hu,⟨t,rfl⟩⟩:=r.get hx;rw[h]at hu;refine⟨t,?_,⋯⟩;have:ns.getD i 0=ns[i]:=by simp[List.getD,qk (show i<ns.length by lia)]
 rw[this];exact Option.some.inj hu
theorem Ob{ns:List Int}(h:i<ns.length):ns.getD i 0∈ns:=by
 have:ns.getD i 0=ns[i]:=by simp[List.getD,qk h]
 rw[this];exact kt _
def mU(K:W.Frag):List V->Hp->VK->Prop:=λxs H Q=>∃(p:Addr) (ns:List Int),xs=[.ref p]/\S7 K H p (ns.map V.int)/\0<ns.length/\∀M,M∈ns->(∀a∈ns,a<=M)->Q (.int M) H
theorem MC(hc:X.calm=true):S3 X (.builtin "max") (mU X.K):=by
 intro pins s σ H xs us Q I r h;obtain⟨p,ns,rfl,hq,hn,q⟩:=h;obtain⟨u,rfl,rx⟩:=eR r;cases rx;obtain⟨RX,r',pl,hz⟩:=I.tuple hq;have hl:=r'.length;rw[qf]at hl;have hh:X.A.in1.handled=none:=I.ok.hd hc;refine call_max_walk (wpAny_pyIter_tuple (show s.heap.IsTuple p RX.toArray from pl) ?_);have hne:p≠s.heap.objs.size:=by
  obtain⟨o,ho,_⟩:=pl;exact qo (qe ho)
 have pl':s.heap.IsTuple p RX.toArray:=pl;have UX:∀b∈[s.heap.objs.size,p],b<(s.heap.push {cls:=.type "tuple_iterator",data:=.fields #[.ref p,rawInt 0]}).objs.size:=λb hb=>by
  rw[wq];obtain⟨o,ho,_⟩:=pl;have:=qe ho;rcases qg.mp hb with rfl|hb
  ·exact wa _
  ·have e:b=p:=by simpa using hb
   subst e;exact km this
 refine⟨s.heap.objs.size,_,_,_,_,_,λi j=>decide (ns.getD i 0>ns.getD j 0),rfl,Walks.tuple hh _ p hne RX.toArray,⟨⟨_,qq _ rfl,rfl,rfl⟩,pl'.at λo e=>qb _ e⟩,UX,by rw[ql];lia,
  CmpOf.ints_gt (λi=>ns.getD i 0) (λi v hv=>by obtain⟨t,e,_⟩:=KG r' (by simpa using hv);exact⟨t,e⟩),λv h' tk hP hk=> ?_⟩
 have k:∀b o,s.heap.get? b=⇑o->h'.get? b=⇑o:=λb o e=>hk b o (by
  intro hm;have:b=s.heap.objs.size:=by simpa using hm
  exact absurd (qe e) (by rw[this];exact wd _)) (qb _ e)
 obtain⟨t,e,hlt⟩:=KG r' (by simpa using hP);subst e;obtain⟨h1,h2⟩:=argBest_gt (λi=>ns.getD i 0) (RX.toArray.size - 1);refine⟨.int _,H,I.kept (t':=tk) k,⟨t,rfl⟩,q _ ?_ λa ha=> ?_⟩
 ·exact Ob hlt
 ·obtain⟨j,hj,rfl⟩:=gu ha
  have:=h2 j (by rw[ql];lia);simpa [List.getD,qk hj]using this
def rC(K:W.Frag):List V->Hp->VK->Prop:=λxs H Q=>(∃i j,xs=[.int i,.int j]/\Q (.int (if j>i then j else i)) H)\/mU K xs H Q
theorem Mv(hc:X.calm=true):S3 X (.builtin "max") (rC X.K):=S3.or (Rc hc) (MC hc)
end
def V0(X:Cx)(pins:List (Addr×Obj))(σ:St)(H':Hp)(ea C:Addr)(s':Shared):Prop:=
 ∃(a0:Value) (B:Heap) (H:Hp) (s:Shared),Inv X pins σ H s/\s'.os=s.os/\AllBare s'.gens/\Un (bp X.stack) [] H H' s.heap s'.heap/\SW X.prog X.w H' B/\Heap.FlyingW B X.stack ea (.ref C) a0 s'.heap/\
  (∀b o,s.heap.get? b=⇑o->b∉bp X.stack->∃o',B.get? b=⇑o')/\(∀b o,s.heap.get? b=⇑o->H b=none->b∉bp X.stack->B.get? b=⇑o)
abbrev FK:=St->Addr->Hp->Prop
def XP(X:Cx)(pins:List (Addr×Obj))(σ:St)(F:Addr->Hp->Prop)(e:Value)(s':Shared):Prop:=
 ∃ea C H',e=.ref ea/\V0 X pins σ H' ea C s'/\F C H'
section
variable {X : Cx} {pins : List (Addr × Obj)} {σ : St} {H H' : Hp} {s s' : Shared} {ea C : Addr}
theorem V0.inv(F:V0 X pins σ H' ea C s'):Inv X pins σ H' s':=by
 obtain⟨a0,B,H,s,I,ho,hg,u,RZ,fl,_,_⟩:=F;exact I.Vd ho u (RZ.kept fl.1) hg λb z=>absurd z (by simp)
theorem V0.there(F:V0 X pins σ H' ea C s'):∃o,s'.heap.get? ea=⇑o/\o.cls=.ref C:=by
 obtain⟨a0,B,H,s,I,ho,hg,u,RZ,fl,_,_⟩:=F;exact fl.there
theorem V0.step(I:Inv X pins σ H s)(ho:s'.os=s.os)(hg:AllBare s'.gens)(u:Un (bp X.stack) [] H H' s.heap s'.heap)(RZ:SW X.prog X.w H' B)
  (hB:∀b o,s.heap.get? b=⇑o->b∉bp X.stack->∃o',B.get? b=⇑o') (Xu:∀b o,s.heap.get? b=⇑o->H b=none->b∉bp X.stack->B.get? b=⇑o)
  (sm:s'.heap.UpToSlots h) (ff:s'.heap.FunFrames B X.stack) (fl:Heap.FlyingW B X.stack ea (.ref C) a0 h):V0 X pins σ H' ea C {s' with heap:=h}:=by
 have nf:∀{b},b∈bp X.stack->∀o,s'.heap.get? b=⇑o->∀vs,o.data≠ .fields vs:=fun{b} hb o ho=>by
  obtain⟨_,o',Vu,hd⟩:=ff.mem (b:=b) hb;rw[ho]at Vu;cases Vu;exact hd
 refine⟨a0,B,H,s,I,ho,hg,⟨?_,?_,u.free,?_,u.tups,u.TF,u.T5⟩,RZ,fl,hB,Xu⟩
 ·intro b o q n nm _
  exact fl.1 b o (Xu b o q n nm)
 ·intro b o q n hm _
  obtain⟨sl2,q2⟩:=u.slot b _ q n hm (by simp);obtain⟨Yc,q3⟩:=sm b _ q2 (nf hm _ q2);exact⟨Yc,q3⟩
 ·intro b o q _
  by_cases hm:b∈bp X.stack
  ·obtain⟨o2,q2⟩:=u.there b o q (by simp)
   obtain⟨Yc,q3⟩:=sm b _ q2 (nf hm _ q2);exact⟨_,q3⟩
  ·obtain⟨o2,q2⟩:=hB b o q hm
   exact⟨o2,fl.1 b o2 q2⟩
theorem V0.lands{E:Value->Shared->Prop}{Q:Unit->Shared->Prop}(F:V0 X pins σ H' ea C s')(Tg:X.stack=X.env::X.outer)(hfr:X.env.frame=⇑X.env.locals)(hA:A.frames=⇑X.stack)
  (k:∀s2,V0 X pins σ H' ea C s2->Q () s2):wpAny M A (noteFrame (.ref ea) X.env) (λ_ s2=>wpAny M A (setFlight (.ref ea) none) Q E s2) E s':=by
 obtain⟨a0,B,H,s,I,ho,hg,u,RZ,fl,hB,Xu⟩:=F;have ff:=fl.2.2.1;refine wpAny_looks_onW (env:=X.env) (outer:=X.outer) (L:=X.env.locals) (by rw[hA,Tg]) hfr (by rw[<-Tg];exact fl) λh₄ YQ hsm₄=> ?_;refine wpAny_landsW YQ λh₅ WI hsm₅=> ?_;rw[<-Tg]at WI;exact k _ (V0.step (s':=s') I ho hg u RZ hB Xu (hsm₄.trans hsm₅) ff WI)
theorem V0.again{E:Value->Shared->Prop}{Q:Unit->Shared->Prop}(F:V0 X pins σ H' ea C s')(k:∀s2,V0 X pins σ H' ea C s2->Q () s2):wpAny M A (setFlight (.ref ea) none) Q E s':=by
 obtain⟨a0,B,H,s,I,ho,hg,u,RZ,fl,hB,Xu⟩:=F;exact lands_againW fl λh₅ WI hsm=>k _ (V0.step (s':=s') I ho hg u RZ hB Xu hsm fl.2.2.1 WI)
noncomputable abbrev Cx.Ye(X:Cx)(ea:Addr):Cx:={X with A:=X.A.mark ⇑(.ref ea),calm:=false,xe:=λ_ _=>False}
theorem Inv.Ye(I:Inv X pins σ H s)(ea:Addr):Inv (X.Ye ea) pins σ H s:=
 ⟨⟨I.ok.mod,I.ok.kind,I.ok.glob,I.ok.blt,I.ok.above,I.ok.inj,I.ok.has,I.ok.cab,(λz=>nomatch z),I.ok.frames,I.ok.stk,I.ok.exf,I.ok.bs,I.ok.XI,I.ok.WQ,I.ok.WW,I.ok.Um,I.ok.Yn⟩,I.os,I.bare,I.base,I.loc,I.cell,I.free,I.SK,I.pin,I.RZ,I.len⟩
theorem Inv.U_(ok:X.Ok)(I:Inv (X.Ye ea) pins σ H s):Inv X pins σ H s:=⟨ok,I.os,I.bare,I.base,I.loc,I.cell,I.free,I.SK,I.pin,I.RZ,I.len⟩
end
structure Clause (K:PySem.W.Frag) (W:Addr):Prop where
 nt:PySem.W.instIn K (.ref W) (.type "tuple")=⇑false
 cl:PySem.W.hasDictIn K W=true
 ex:PySem.W.subIn K (.ref W) (.type "BaseException")=⇑true
theorem Nu{E:Value->Shared->Prop}{K:PySem.W.Frag}{Q:Bool->Shared->Prop}(k:K.In s.heap)(c:Clause K W)(he:s.heap.get? ea=⇑oe)(hc:oe.cls=.ref C)
  (hs:PySem.W.subIn K (.ref C) (.ref W)=⇑b) (h:Q b s):wpAny M A (excMatches (.ref ea) (.ref W)) Q E s:=by
 obtain⟨hh,g,d,tk,os⟩:=s;have k':K.In hh:=k;have L1:PySem.W.Looks M hh (isInstance (.ref W) (.type "tuple")) false:=PySem.W.looks_instIn k' c.nt;have L2:PySem.W.Looks M hh (isType (.ref W)) true:=by
  have z0:(PySem.W.clsIn K W).isSome=true:=by obtain⟨cd,hc,_⟩:=PySem.W.any_some c.cl;rw[hc];rfl
  unfold PySem.W.clsIn at z0;split at z0
  ·rename_i c' d' cd' sl' ho
   intro A' Q' E' s' kk q;unfold isType loadHead;exact wpAny_bind (wpAny_loadPart (kk _ _ (k' _ _ ho)) (wpAny_pure q))
  ·cases z0
 have L3:PySem.W.Looks M hh (isSubtype (.ref W) (.type "BaseException")) true:=PySem.W.looks_subIn k' c.ex;have L4:PySem.W.Looks M hh (isSubtype (.ref C) (.ref W)) b:=PySem.W.looks_subIn k' hs;have L5:PySem.W.Looks M hh (typeOf (.ref ea)) (.ref C):=hc▸(PySem.W.Looks.ld (h:=hh) he).andThen .now;unfold excMatches isExcClass
 repeat (first|(with_reducible refine L1.at ?_)|(with_reducible refine L2.at ?_)|(with_reducible refine L3.at ?_)|(with_reducible refine L4.at ?_)|(with_reducible refine L5.at ?_)|wp_step)
 cases b<;>(wp_walk;exact h)
section
variable {X : Cx}
def PH(X:Cx)(hs:List ExceptHandler)(t:Addr->TS):Prop:=
 ∀(pins:List (Addr×Obj)) (s:Shared) (σ:St) (H:Hp) (ea C:Addr) (D:Ends),V0 X pins σ H ea C s->t C D σ H->wpAny (model X.prog X.w) X.A (handleBy (.ref ea) X.env hs) (SP X pins D) X.xe s
noncomputable def uh:Addr->TS:=λ_ _ _ _=>False
theorem rH:PH X [] uh:=λ_ _ _ _ _ _ _ _ h=>h.elim
noncomputable def Bh(K:PySem.W.Frag)(W:Addr)(th:TS)(rest:Addr->TS):Addr->TS:=λC D σ H=>
 ∃b,PySem.W.subIn K (.ref C) (.ref W)=⇑b/\if b=true then th D σ H else rest C D σ H
theorem SP.U_(ok:X.Ok)(h:SP (X.Ye ea) pins D f s'):SP X pins D f s':=by
 cases f with
 | next=>obtain⟨σ',H',I,q⟩:=h;exact⟨σ',H',I.U_ ok,q⟩
 | brk=>obtain⟨σ',H',I,q⟩:=h;exact⟨σ',H',I.U_ ok,q⟩
 | cont=>obtain⟨σ',H',I,q⟩:=h;exact⟨σ',H',I.U_ ok,q⟩
 | ret u=>obtain⟨v,σ',H',I,r,q⟩:=h;exact⟨v,σ',H',I.U_ ok,r,q⟩
theorem N9{y:Str}{W:Addr}{np pos:Pos}{b₀:Stmt}{X_:List Stmt}{rest:List ExceptHandler}{th:TS}{tr:Addr->TS}
  (hg:Gl X y) (hm:X.mg y=⇑(.ref W)) (hW:Clause X.K W) (hb:∀ea,VP (X.Ye ea) (b₀::X_) th) (hr:PH X rest tr) (hd:(y==("__debug__":Str))=false:=by decide):
  PH X (.ExceptHandler ⇑(.Name y np) none (b₀::X_) pos::rest) (Bh X.K W th tr):=by
 intro pins s σ H ea C D F h;obtain⟨b,hs,h⟩:=h;obtain⟨oe,he,hc⟩:=F.there;have I:=F.inv;refine wpAny_handleBy_cons (codeAny_handlers_test (tD (X:=X.Ye ea) (I.Ye ea) hg hm (Nu I.TK hW he hc hs ?_) hd)) (by intro q;cases q);cases b with
 | false=>exact hr pins s σ H ea C D F h
 | true=>
  refine codeAny_handlers_suite (F.again λs2 F2=> ?_);exact wpAny_mono (hb ea pins s2 _ _ D (F2.inv.Ye ea) h) (λf s4 q=>SP.U_ I.ok q) λ_ _ z=>False.elim z
def G2(X:Cx)(st:Stmt)(t:FK->TS):Prop:=
 ∀(pins:List (Addr×Obj)) (s:Shared) (σ:St) (H:Hp) (D:Ends) (F:FK),Inv X pins σ H s->t F D σ H->wpAny (model X.prog X.w) X.A (exec st X.env) (SP X pins D) (λe s'=>∃σ',XP X pins σ' (F σ') e s') s
def kF(X:Cx)(st:List Stmt)(t:FK->TS):Prop:=
 ∀(pins:List (Addr×Obj)) (s:Shared) (σ:St) (H:Hp) (D:Ends) (F:FK),Inv X pins σ H s->t F D σ H->wpAny (model X.prog X.w) X.A (execs st X.env) (SP X pins D) (λe s'=>∃σ',XP X pins σ' (F σ') e s') s
def Cm(X:Cx)(e:Expr)(t:(Addr->Hp->Prop)->TE):Prop:=
 ∀(pins:List (Addr×Obj)) (s:Shared) (σ:St) (H:Hp) (Q:VK) (F:Addr->Hp->Prop),Inv X pins σ H s->t F σ H Q->wpAny (model X.prog X.w) X.A (eval e X.env) (EP X pins σ Q) (XP X pins σ F) s
noncomputable def FE(F:Addr->Hp->Prop):XK:=λc _ H=>∃C,c=.ref C/\F C H
theorem PK{σ:St}{Fx:Addr->Hp->Prop}
  (F:Si X.prog X.w X.K X.mg X.base (CXE X.prog X.w) k f fd ps sp) (hr:Sf k X.A) (hb:VW X.K fd ps ds) (hd:Vals UC ds)
  (I:Inv X pins σ H s) (r:Vals vs us) (h:sp (vs++UC) H Q (FE Fx)):wpAny (model X.prog X.w) X.A (call (.ref f) us) (EP X pins σ Q) (XP X pins σ Fx) s:=by
 have r2:Vals (vs++UC) (us++ds):=r.append hd;have hl:(us++ds).length=ps.length:=by rw[<-r2.length];exact F.len _ _ _ _ h
 refine wpAny_call (codeAny_mono (F.run X.A X.stack s H ⟨us,[]⟩ (us++ds) (vs++UC) Q (FE Fx) hr I.YY (hb s us I.TK hl) r2 h) λr s' hq=> ?_);cases r with
 | error e=>
  obtain⟨ea,C,a0,B,H',rfl,XW,hg,u,RZ,fl,hB,Xu,C',hC,hE⟩:=hq;cases hC;exact⟨ea,C,H',rfl,⟨a0,B,H,s,I,XW,hg,u,RZ,fl,hB,Xu⟩,hE⟩
 | ok fl=>
  cases fl with
  | ret u=>exact I.after hq
  | next=>exact False.elim hq
  | brk=>exact False.elim hq
  | cont=>exact False.elim hq
theorem Kt{α:Type}{t:Sem α}{Q Q':α->Shared->Prop}{E:Value->Shared->Prop}(h:wpAny M A t Q (λ_ _=>False) s)(hQ:∀a s,Q a s->Q' a s):wpAny M A t Q' E s:=wpAny_mono h hQ λ_ _ z=>False.elim z
noncomputable def G4(t:(Addr->Hp->Prop)->TE):FK->TS:=λF D σ H=>t (F σ) σ H λ_ H1=>D.nx σ H1
theorem Mb{e:Expr}{t:(Addr->Hp->Prop)->TE}{pos:Pos}(he:Cm X e t)(hs:swapsWith e none pos.line X.env=pure false:=by rfl):G2 X (.Expr e pos) (G4 t):=by
 intro pins s σ H D F I h;exact wpAny_Expr_any (wpAny_mono (he pins s σ H _ _ I h) (λv s1 ⟨x,H1,I1,r1,q1⟩=>⟨σ,H1,I1,q1⟩) λ_ _ z=>⟨σ,z⟩) I.quiet hs
noncomputable def nz(t u:FK->TS):FK->TS:=λF D σ H=>t F {D with nx:=u F D} σ H
theorem Nf:kF X [] (λ_=>AU):=λ_ _ σ H _ _ I h=>wpAny_execs_nil ⟨σ,H,I,h⟩
theorem Nq{st:Stmt}{t u:FK->TS}(h1:G2 X st t)(h2:kF X rest u):kF X (st::rest) (nz t u):=by
 intro pins s σ H D F I h;refine wpAny_execs_cons (aJ (h1 pins s σ H {D with nx:=u F D} F I h) λf s1 q=> ?_);cases f with
 | next=>obtain⟨σ',H',I',q⟩:=q;exact h2 pins s1 σ' H' D F I' q
 | brk=>exact q
 | cont=>exact q
 | ret u=>exact q
noncomputable def ug(tb:FK->TS)(th:Addr->TS):TS:=λD σ H=>tb (λσ1 C H1=>th C D σ1 H1) D σ H
theorem rQ{tb:FK->TS}{th:Addr->TS}(Tg:X.stack=X.env::X.outer)(hfr:X.env.frame=⇑X.env.locals)(hb:kF X body tb)(hh:PH X (h₀::hs) th):
  PS X (.Try body (h₀::hs) [] [] pos) (ug tb th):=by
 intro pins s σ H D I h;refine wpAny_Try_except (wpAny_mono (hb pins s σ H D _ I h) (λf s1 q=> ?_) λe s1 q=> ?_)
 ·cases f with
  | next=>exact wpAny_execs_nil q
  | brk=>exact q
  | cont=>exact q
  | ret u=>exact q
 ·obtain⟨σ',ea,C,H',rfl,F,q⟩:=q
  exact F.lands Tg hfr I.ok.frames λs2 F2=>hh pins s2 σ' H' ea C D F2 q
end
section
variable {X : Cx}
theorem pz:WY X uM:=by
 intro pins s σ H x v vl vu lo hi sl Q I rx hs pl pu h;obtain⟨z,rfl,hz,q⟩:=h;obtain⟨t,rfl⟩:=rx;refine⟨"str",_,F.slot_str_getitem.lookup,typeIs_str _ _ _,?_⟩;obtain⟨l,rfl,rfl⟩:∃l:Option (Int×Tok),vl=partValue l/\lo=l.map (·.1):=by
  cases pl with
  | none=>exact⟨none,rfl,rfl⟩
  | int i t=>exact⟨⇑(i,t),rfl,rfl⟩
 obtain⟨u,rfl,rfl⟩:∃l:Option (Int×Tok),vu=partValue l/\hi=l.map (·.1):=by
  cases pu with
  | none=>exact⟨none,rfl,rfl⟩
  | int i t=>exact⟨⇑(i,t),rfl,rfl⟩
 exact wpAny_getItem_str_slice (l:=l) (u:=u) (st:=none) hs rfl (post_val_or_str ⟨zi (Txt.slice_le z _ _) hz,λt' k=>⟨.str _,H,I.tok k,⟨t',rfl⟩,q⟩⟩)
def oq(K:W.Frag):V->Option Int->Option Int->Hp->VK->Prop:=λx lo hi H Q=>JF K x lo hi H Q\/uM x lo hi H Q
theorem E5:WY X (oq X.K):=WY.or GB pz
end
def F6(K:W.Frag)(a:Addr):It:=
 ⟨λi H=>∃xs x,R8 K H a xs/\xs[i]?=⇑x,λi H v H'=>∃p x,H p=none/\(∀xs,R8 K H a xs->xs[i]?=⇑x)/\v=.ref p/\H'=az H p (.tup [.int i,x]),λi H=>∃xs,R8 K H a xs/\xs.length<=i⟩
theorem QT{K:W.Frag}{x1}(a en it:Addr)(hne:en≠it):Turn P w K (.Tuple elts x1 V3) (F6 K a) [en,it] en (λi h=>∃old,IsEnum h en it ((i:Nat):Int) old/\h.IsListIter it a i)where
 mem:=by simp
 obj:=λi h st b hb=>by
  obtain⟨old,h1,h2⟩:=st;rcases qg.mp hb with rfl|hb
  ·exact⟨_,h1,λv z=>by
    have z':Data.fields _=Data.cell v:=z;cases z'⟩
  ·have e:b=it:=by simpa using hb
   subst e;obtain⟨o,e,c,d⟩:=h2;exact⟨o,e,λv z=>by rw[d]at z;cases z⟩
 keep:=λi h h' st k=>by
  obtain⟨old,h1,h2⟩:=st;exact⟨old,k en (by simp) _ h1,h2.at λo e=>k it (by simp) o e⟩
 item:=by
  intro X hP hw hK hc i pins s σ H E I hf st hg;subst hP hw hK;obtain⟨xs,x,hq,hx⟩:=hg;obtain⟨RX,rv,p,hz⟩:=I.list hq;obtain⟨u,hu,ru⟩:=rv.get hx;obtain⟨old,he,hit⟩:=st;have g0:=hf en (by simp);have f0:=hf it (by simp);refine wpAny_pyNext_enum_item he hit p.isList (x:=u) (by simpa using hu) hne λh₁ XG Xo ht₁ hz₁ hk₁=> ?_;refine⟨.ref s.heap.objs.size,rfl,wpAny_letOwnedTupleGo_enum XG λh₂ he₂ VX=> ?_⟩
  replace VX:Heap.SameBut en h₁ h₂:=VX
  have fr:H s.heap.objs.size=none:=I.RZ.fresh (qd _);have kp:∀b o,b≠en->b≠it->s.heap.get? b=⇑o->h₂.get? b=⇑o:=λb o n1 n2 e=>VX.extBut b o n1 (hk₁ b o n1 n2 e);have enlt:en<s.heap.objs.size:=qe he;have tup:h₂.get? s.heap.objs.size=some {cls:=.type "tuple",data:=.seq #[.int i s.toks,u]}:=VX.extBut _ _ (wj enlt) ht₁;have tr:∀{b u},H b=⇑u->b≠en/\b≠it:=fun{b u} e=>⟨λz=>(by rw[z,g0.1]at e;cases e),λz=>(by rw[z,f0.1]at e;cases e)⟩;have RZ:SW X.prog X.w (az H s.heap.objs.size (.tup [.int i,x])) h₂:=by
   intro b o e;by_cases hb:b=s.heap.objs.size
   ·subst hb
    rw[b7]at e;cases e;exact⟨(show 2<=sizeLine by decide),[.int i s.toks,u],.cons ⟨_,rfl⟩ (.cons ru .nil),⟨_,tup,rfl,_,rfl⟩⟩
   ·rw[aE hb]at e
    refine(I.RZ b o e).UD (λc v WJ q=> ?_) (λc q=>by rw[aE (eU q fr)];exact q) λc ys q=>by rw[aE (eU q fr)];exact q
    have t:c≠en/\c≠it:=by
     rcases WJ with rfl|WJ
     ·exact tr e
     ·exact tr WJ
    exact kp c v t.1 t.2 q
  have un:Un (bp X.stack) [en,it] H (az H s.heap.objs.size (.tup [.int i,x])) s.heap h₂:=by
   have nx:∀{b:Addr},b∉[en,it]->b≠en/\b≠it:=fun{b} hb=>⟨λz=>hb (by simp[z]),λz=>hb (by simp[z])⟩;refine⟨λb o e _ _ hb=>kp b o (nx hb).1 (nx hb).2 e,λb o e _ _ hb=>⟨o.slots,kp b o (nx hb).1 (nx hb).2 e⟩,λb o e n _=> ?_,λb o e hb=>⟨o,kp b o (nx hb).1 (nx hb).2 e⟩,λb ys e=> ?_,λb o v e=> ?_,λb ps e=>⟨#[],?_⟩⟩
   ·rw[aE (qo (qe e))];exact n
   ·rw[aE (eU e fr)];exact e
   ·rw[aE (eU e fr)];exact e
   ·rw[aE (eU e fr)];simpa using e
  have I2:Inv X pins σ (az H s.heap.objs.size (.tup [.int i,x])) {s with heap:=h₂,toks:=s.toks+1}:=
   I.Vd (s':={s with heap:=h₂,toks:=s.toks+1}) (ch:=[en,it]) rfl un RZ I.bare λb hb=>⟨(hf b hb).2.2.2.1,(hf b hb).2.1,(hf b hb).2.2.2.2.1,(hf b hb).2.2.2.2.2⟩
  refine⟨.ref s.heap.objs.size,_,I2,rfl,⟨s.heap.objs.size,x,fr,λys hy=>by rw[I.Ud hy hq];exact hx,rfl,rfl⟩,⟨u,?_,?_⟩,λb hb=> ?_⟩
  ·have:((i+1:Nat):Int)=(i:Int)+1:=by push_cast;rfl
   rw[this];exact he₂
  ·exact Xo.extBut VX.extBut (Ne.symm hne)
  ·have:b<s.heap.objs.size:=by
    rcases qg.mp hb with rfl|hb
    ·exact enlt
    ·have e:b=it:=by simpa using hb
     subst e;obtain⟨o,e,_⟩:=hit;exact qe e
   rw[aE (qo this)];exact(hf b hb).1
 done:=by
  intro X hP hw hK hc i pins s σ H E I hf st hg;subst hP hw hK;obtain⟨xs,hq,hx⟩:=hg;obtain⟨RX,rv,p,hz⟩:=I.list hq;obtain⟨f0,f1,f2,f3,f4,f5⟩:=hf it (by simp);have hl:=rv.length;obtain⟨old,he,hit⟩:=st;exact wpAny_pyNext_enum_end (I.ok.hd hc) he hit p.isList (by simp;lia) λh' eb=>⟨rfl,I.turned (t':=s.toks) (λb o hb e=>eb b o hb e) f0 f1 f3 f4 f5⟩
 self:=λ_ _ _ _ _ st h=>by
  obtain⟨old,he,_⟩:=st;exact wpAny_pyIter_enum he h
theorem M0:bootBuiltins "enumerate"=⇑(.type "enumerate"):=⋯
def Bc(K:W.Frag)(ta:TA):TI:=λσ H R=>ta σ H λvs H1=>∃a xs,vs=[.ref a]/\R8 K H1 a xs/\R (F6 K a) H1
theorem NC{X:Cx}{elts:List Expr}{x1}{V3:Pos}{e:Expr}{ta:TA}{p pos:Pos}(hg:Gl X "enumerate")(hm:X.mg "enumerate"=none)(ha:PA X [e] ta)
  (hs:starEach [e] X.env=[(false,eval e X.env)]:=by rfl):PI X (.Tuple elts x1 V3) (.Call (.Name "enumerate" p) [e] [] pos) (Bc X.K ta):=by
 intro pins s σ H R I h;refine Call_ (nD I hg hm M0 (PyProof.Rows.callWith_type1 (aJ (ha pos pins s σ H _ I h) λus s1 ⟨vs,H1,I1,r1,q1⟩=> ?_) hs rfl));obtain⟨a,xs,rfl,hq,q⟩:=q1;cases r1 with
 | cons r rr=>
  cases rr
  cases r
  obtain⟨RX,rv,pl,hz⟩:=I1.list hq;refine call_enumerate_list pl.isList λh' he hit hsz kp=>wpAny_pyIter_enum (s:={s1 with heap:=h'}) he ?_;have I2:Inv X pins σ H1 {s1 with heap:=h'}:=I1.kept (t':=s1.toks) kp;refine⟨s1.heap.objs.size+1,[s1.heap.objs.size+1,s1.heap.objs.size],_,_,H1,rfl,I2,QT a _ _ (Nat.succ_ne_self _),⟨_,he,hit⟩,λb hb=> ?_,q⟩;have Ue:s1.heap.objs.size<=b:=by
   rcases qg.mp hb with rfl|hb
   ·lia
   ·have e:b=s1.heap.objs.size:=by simpa using hb
    exact ke e.symm
  exact I1.Xv Ue (I1.RZ.fresh Ue)
theorem Q6{K:W.Frag}(k:X.K=K)(h:PI X tg e (Bc X.K ta)):PI X tg e (Bc K ta):=by subst k;exact h
section
variable {prog : Program} {w : World} {A : Around} {E : Value -> Shared -> Prop}
theorem J8{it l:Addr}{items:Array Value}(hne:l≠it):∀(n i:Nat) (s:Shared) (Q:List Value->Shared->Prop),s.heap.IsListIter it l i->s.heap.IsList l items->i+n<=items.size->
  (∀h',h'.IsListIter it l (i+n)->Heap.SameBut it s.heap h'->Q ((items.toList.drop i).take n) {s with heap:=h'})->wpAny (model prog w) A (draw (.ref it) n) Q E s
 | 0,i,s,Q,hit,_,_,hQ=>by
  show wpAny _ _ (pure []) Q E s;exact wpAny_pure (by simpa using hQ s.heap hit (Heap.SameBut.refl ..))
 | n+1,i,s,Q,hit,hl,hle,hQ=>by
  have hlt:i<items.size:=⋯;show wpAny _ _ (pyNext (.ref it) >>= _) Q E s;refine wpAny_bind (wpAny_pyNext_list_item hit hl (x:=items[i]) (by simp[hlt]) λh₁ Xo hs₁=> ?_);refine wpAny_bind (wpAny_holding (J8 hne n (i+1) _ _ Xo (hl.extBut hs₁.extBut hne) ⋯ λh₂ hit₂ VX=>wpAny_pure ?_));have hd:items.toList.drop i=items[i]::items.toList.drop (i+1):=by simp[zl,hlt]
  have:=hQ h₂ (by rw[show i+(n+1)=i+1+n by lia];exact hit₂) (hs₁.trans VX);rw[hd,List.take_succ_cons]at this;exact this
theorem Qj{Q:List Value->Shared->Prop}(hh:A.handled=none)(hl:s.heap.IsList l items)
  (hQ:∀h',Heap.ExtBut s.heap.objs.size s.heap h'->Q items.toList {s with heap:=h'}):wpAny (model prog w) A (unpackItems (.ref l) items.size none) Q E s:=by
 have hlt:l≠s.heap.objs.size:=by obtain⟨o,ho,_⟩:=hl;exact qo (qe ho)
 unfold unpackItems;refine wpAny_bind ?_
 ·unfold notIterableAtAll
  refine wpAny_bind (wpAny_specialOf hl.typeIs slot_list_iter.lookup ?_);refine wpAny_pure ?_;simp only[qu,if_false];refine wpAny_bind (wpAny_holding (wpAny_pyIter_list hl ?_));refine wpAny_bind (wpAny_holding (J8 hlt items.size 0 _ _ ⟨_,qq _ rfl,rfl,rfl⟩ (hl.push _) ⋯ λh₁ Xo hs₁=> ?_));have TC:List.take items.size (List.drop 0 items.toList)=items.toList:=by
   rw[List.drop_zero];exact wk (by simp)
  rw[TC];rw[if_neg (by simp)];have hl₁:h₁.IsList l items:=(hl.push _).extBut hs₁.extBut hlt;refine wpAny_bind (wpAny_holding (wpAny_pyNext_list_end hh Xo hl₁ (by simp) λh₂ he₂=> ?_));simp only[Option.isSome_none,qu,if_false];refine wpAny_pure (hQ h₂ λb o hb e=>he₂ b o hb (hs₁.extBut b o hb (qb _ e)))
end
noncomputable def iC(K:W.Frag)(n:Nat)(t:hV):TG:=λv σ H Q=>∃a xs,v=.ref a/\(S7 K H a xs\/R8 K H a xs)/\xs.length=n/\t xs σ H Q
theorem KO{X:Cx}{pos:Pos}{es:List Expr}{k:Nat}{t:hV}{n:Nat}(hc:X.calm=true)(h:tq X es t)
  (hn:(assignEach es X.env).length=n:=by rfl) (Tg:(assignEach es X.env).findIdx? (·.1)=none:=by rfl):PG X (.Tuple es k pos) (iC X.K n t):=by
 intro pins s σ H v u Q I r hw;obtain⟨a,xs,e1,hq,hl,hw⟩:=hw;subst e1;rcases hq with hq|hq
 ·exact ot (n:=n) hc h hn Tg pins s σ H (.ref a) u Q I r ⟨a,xs,rfl,hq,hl,hw⟩
 ·cases r
  obtain⟨RX,rv,p,hz⟩:=I.list hq;rw[PyProof.Rows.assign_Tuple];refine wpAny_bind (wpAny_standAt ?_);unfold unpack;have hsz:(assignEach es X.env).length=RX.toArray.size:=by simp[hn,<-hl,rv.length]
  rw[hsz,Tg];refine wpAny_bind (wpAny_holding (Qj (I.ok.hd hc) p.isList λh' hx=> ?_));have I1:Inv X pins σ H {s with heap:=h'}:=I.kept (t':=s.toks) λb o e=>hx b o (qo (qe e)) e;exact h pins _ σ H xs _ Q I1 (by simpa using rv) hw
theorem J4{K:W.Frag}(k:X.K=K)(h:PG X tg (iC X.K n t)):PG X tg (iC K n t):=by subst k;exact h
section
variable {X : Cx}
theorem nW:bA X (compareOp .Is) (λx y H Q=>(y=.RY/\Q (.bl (decide (x=.RY))) H)\/∃a b,x=.bl a/\y=.bl b/\Q (.bl (a==b)) H):=by
 intro pins s σ H x y v u Q I rx ry h;rcases h with h|⟨a,b,rfl,rfl,q⟩
 ·exact nI pins s σ H x y v u Q I rx ry h
 ·cases rx;cases ry
  refine PySem.wpAny_is_plain (by rfl) (bS I q ?_);cases a<;>cases b<;>rfl
theorem Nn:bA X (compareOp .IsNot) (λx y H Q=>(y=.RY/\Q (.bl (!decide (x=.RY))) H)\/∃a b,x=.bl a/\y=.bl b/\Q (.bl (!(a==b))) H):=by
 intro pins s σ H x y v u Q I rx ry h;rcases h with h|⟨a,b,rfl,rfl,q⟩
 ·exact Pe pins s σ H x y v u Q I rx ry h
 ·cases rx;cases ry
  refine PySem.wpAny_isNot_plain (by rfl) (bS I q ?_);cases a<;>cases b<;>rfl
end
def jE(nt:Nat)(g:hV):Prop:=∀xs σ H Q (σ0:St),(σ.length=σ0.length/\∀i,nt<=i->σ[i]?=σ0[i]?)->g xs σ H Q->g xs σ H λσ' H'=>Q σ' H'/\σ'.length=σ0.length/\∀i,nt<=i->σ'[i]?=σ0[i]?
theorem Qi:jE nt qI:=λxs σ H Q σ0 k ⟨e,q⟩=>⟨e,q,k⟩
theorem MU(h:i<nt)(r:jE nt u):jE nt (Gu (ak i) u):=λxs σ H Q σ0 k ⟨v,r',e,q⟩=>
 ⟨v,r',e,r r' _ H Q σ0 ⟨by simp[k.1],λj hj=>by rw[qh ⋯];exact k.2 j hj⟩ q⟩
theorem QY{K:W.Frag}(r:jE nt u):uX nt (iC K n u):=λx σ H Q ⟨a,xs,e,hq,hl,q⟩=>⟨a,xs,e,hq,hl,r xs σ H Q σ ⟨rfl,λ_ _=>rfl⟩ q⟩
theorem DP{K:W.Frag}(k:X.K=K)(h:PE X e (jH X.K ta f)):PE X e (jH K ta f):=by subst k;exact h
theorem pq{K:W.Frag}(k:X.K=K)(h:PS X e (j0 X.K ta tv f)):PS X e (j0 K ta tv f):=by subst k;exact h
theorem ou{K:W.Frag}{mg:Str->Option Value}(h1:X.prog=P)(h2:X.w=w)(h3:X.K=K)(h4:X.mg=mg)(h5:X.base=base)
  (h:PE X e (kR X.prog X.w X.K X.mg X.base CX k m E ta t)):PE X e (kR P w K mg base CX k m E ta t):=by subst h1 h2 h3 h4 h5;exact h
end L2
namespace ES
open PySem PyProof.Rows
noncomputable def tO:Bool->Keyed->Array Keyed->Nat->Nat->Nat->StateT SortSt Sem (Option Nat):=sortPriv% PySem.Builtin.gallop
noncomputable def rO(left:Bool)(key:Keyed)(arr:Array Keyed)(base i:Nat):StateT SortSt Sem (Option Bool):=do
 let x<-elem' arr (base+i)
 if left then lt' x key else return(<-lt' key x).map (!·)
theorem ba{α β:Type}{m m':StateT SortSt Sem α}{f f':α->StateT SortSt Sem β}(h1:m=m')(h2:∀x,f x=f' x):(m >>= f)=(m' >>= f'):=by
 subst h1;rw[funext h2]
def lE(left:Bool)(key:Keyed)(arr:Array Keyed)(base n lo hi:Nat):StateT SortSt Sem (Option Nat):=do
 let c<-forIn [0:n] ((none,lo,hi):Option (Option Nat)×Nat×Nat) λ_ c=>
  if c.2.1>=c.2.2 then pure (ForInStep.done (none,c.2.1,c.2.2))
  else do
   let x<-rO left key arr base (c.2.1+(c.2.2 - c.2.1) / 2)
   match x with
   | some more=>if more=true then pure (ForInStep.yield (none,c.2.1+(c.2.2 - c.2.1) / 2+1,c.2.2))else pure (ForInStep.yield (none,c.2.1,c.2.1+(c.2.2 - c.2.1) / 2))
   | _=>pure (ForInStep.done (⇑none,c.2.1,c.2.2))
 match c.1 with
 | some r=>pure r
 | none=>pure ⇑c.2.2
theorem M4(left:Bool)(key:Keyed)(arr:Array Keyed)(base n hint:Nat):tO left key arr base n hint=(do
 let x<-rO left key arr base hint
 match x with
 | some right=>
  if right=true then do
   let c<-forIn [0:n] ((none,0,1):Option (Option Nat)×Nat×Nat) λ_ c=>
    if c.2.2>=n - hint then pure (ForInStep.done (none,c.2.1,c.2.2))
    else do
     let x<-rO left key arr base (hint+c.2.2)
     match x with
     | some more=>if(!more)=true then pure (ForInStep.done (none,c.2.1,c.2.2))else pure (ForInStep.yield (none,c.2.2,2*c.2.2+1))
     | _=>pure (ForInStep.done (⇑none,c.2.1,c.2.2))
   match c.1 with
   | some r=>pure r
   | none=>lE left key arr base n (hint+c.2.1+1) (hint+min c.2.2 (n - hint))
  else do
   let c<-forIn [0:n] ((none,0,1):Option (Option Nat)×Nat×Nat) λ_ c=>
    if c.2.2>=hint+1 then pure (ForInStep.done (none,c.2.1,c.2.2))
    else do
     let x<-rO left key arr base (hint - c.2.2)
     match x with
     | some found=>if found=true then pure (ForInStep.done (none,c.2.1,c.2.2))else pure (ForInStep.yield (none,c.2.2,2*c.2.2+1))
     | _=>pure (ForInStep.done (⇑none,c.2.1,c.2.2))
   match c.1 with
   | some r=>pure r
   | none=>lE left key arr base n (hint+1 - min c.2.2 (hint+1)) (hint - c.2.1)
 | _=>pure none):=by
 refine ba rfl λx=> ?_;cases x with
 | none=>rfl
 | some right=>
  cases right with
  | true=>
   refine bind_congr (m:=StateT SortSt Sem) λc=> ?_;obtain⟨r,l,o⟩:=c;cases r with
   | none=>
    unfold lE;refine bind_congr (m:=StateT SortSt Sem) λc=> ?_;obtain⟨r,l,o⟩:=c;cases r<;>rfl
   | some r=>rfl
  | false=>
   refine bind_congr (m:=StateT SortSt Sem) λc=> ?_;obtain⟨r,l,o⟩:=c;cases r with
   | none=>
    unfold lE;refine bind_congr (m:=StateT SortSt Sem) λc=> ?_;obtain⟨r,l,o⟩:=c;cases r<;>rfl
   | some r=>rfl
section
variable {prog : Program} {w : World} {A : Around} {E : Value -> Shared -> Prop} {s : Shared}
theorem Be{st:SortSt}{Q:Option Bool->SortSt->Prop}(hk:kindOf st=oneType')(hx:x.1=.int a t)(hy:y.1=.int b u)(h:Q ⇑(decide (a<b)) st):wpS (model prog w) A E s (lt' x y) Q st:=by
 rw[lt'_eq];refine wpS_bind (wpS_get ?_);rw[hk,keyLt'_oneType,hx,hy];refine wpS_bind (wpS_lift (wpAny_attempt (oneLt_int ⟨rfl,?_⟩)));exact wpS_pure h
noncomputable def fz(left:Bool)(k:Int)(arr:Array Keyed)(base i:Nat):Bool:=if left then decide (K arr (base+i)<k)else !decide (k<K arr (base+i))
theorem NU{st:SortSt}{arr:Array Keyed}{Q:Option Bool->SortSt->Prop}(hk:kindOf st=oneType')(WT:key.1=.int k t)(h0:IntKeys arr)(hi:base+i<arr.size)
  (h:Q ⇑(fz left k arr base i) st):wpS (model prog w) A E s (rO left key arr base i) Q st:=by
 have e:arr[base+i]?=⇑arr[base+i]:=getElem?_pos arr (base+i) hi;obtain⟨n,u,hn⟩:=h0 arr[base+i] (by simp);have hK:K arr (base+i)=n:=by unfold K;rw[e];simp only;rw[hn];rfl
 unfold rO;rw[elem'_eq,e];refine wpS_bind (wpS_pure ?_);unfold fz at h;rw[hK]at h;cases left with
 | true=>exact Be hk hn WT h
 | false=>
  refine wpS_bind (Be hk WT hn ?_);exact wpS_pure h
theorem tw{st:SortSt}{arr:Array Keyed}{Q:Option Nat->SortSt->Prop}(hk:kindOf st=oneType')(WT:key.1=.int k t)(h0:IntKeys arr)(hn:base+n<=arr.size)(hh:hint<n)
  (hs:∀i j,i<=j->j<n->K arr (base+i)<=K arr (base+j))
  (h:∀r,r<=n->(∀i,i<r->fz left k arr base i=true)->(∀i,r<=i->i<n->fz left k arr base i=false)->Q ⇑r st):
  wpS (model prog w) A E s (tO left key arr base n hint) Q st:=by
 have mono:∀i j,i<=j->j<n->fz left k arr base j=true->fz left k arr base i=true:=λi j Th hj hb=>by
  have:=hs i j Th hj;unfold fz at hb ⊢;cases left<;>simp at hb ⊢ <;>lia
 have dn:∀i j,i<=j->j<n->fz left k arr base i=false->fz left k arr base j=false:=λi j Th hj hb=>by
  cases q:fz left k arr base j with
  | false=>rfl
  | true=>rw[mono i j Th hj q]at hb;cases hb
 generalize hBe:fz left k arr base=B at*;have hB:∀(i:Nat) (Q':Option Bool->SortSt->Prop),i<n->Q' ⇑(B i) st->wpS (model prog w) A E s (rO left key arr base i) Q' st:=λi Q' hi hq=>NU hk WT h0 ⋯ (hBe▸hq);have last:∀lo hi,lo<=hi->hi<=n->(∀i,i<lo->B i=true)->(∀i,hi<=i->i<n->B i=false)->
   wpS (model prog w) A E s (lE left key arr base n lo hi) Q st:=by
  intro lo hi h1 h2 h3 h4;unfold lE;refine wpS_bind (wpS_mono (wpS_forRange (I:=λx c st'=>st'=st/\∃lo hi,c=(none,lo,hi)/\lo<=hi/\hi<=n/\hi - lo<=n - x/\(∀i,i<lo->B i=true)/\(∀i,hi<=i->i<n->B i=false))
   (Q:=λc st'=>st'=st/\∃hi,c=(none,hi,hi)/\hi<=n/\(∀i,i<hi->B i=true)/\(∀i,hi<=i->i<n->B i=false)) ?step ?fin ⟨rfl,lo,hi,rfl,h1,h2,⋯,h3,h4⟩) ?post)
  case fin=>
   rintro c st' ⟨rfl,lo,hi,rfl,a1,a2,a3,a4,a5⟩;have:lo=hi:=⋯;subst this;exact⟨rfl,lo,rfl,a2,a4,a5⟩
  case step=>
   rintro x c st' _ hx ⟨rfl,lo,hi,rfl,a1,a2,a3,a4,a5⟩;dsimp only;by_cases WU:lo>=hi
   ·rw[if_pos WU]
    have:lo=hi:=⋯;subst this;exact wpS_pure ⟨rfl,lo,rfl,a2,a4,a5⟩
   ·rw[if_neg WU]
    refine wpS_bind (hB _ _ ⋯ ?_);dsimp only;cases q:B (lo+(hi - lo) / 2)with
    | true=>
     simp only[if_true];exact wpS_pure ⟨rfl,_,_,rfl,⋯,a2,⋯,λi hi'=>mono i _ ⋯ ⋯ q,a5⟩
    | false=>
     simp only[qu,if_false];exact wpS_pure ⟨rfl,_,_,rfl,⋯,⋯,⋯,a4,λi b1 b2=>dn _ i b1 b2 q⟩
  case post=>
   rintro c st' ⟨rfl,hi,rfl,a2,a4,a5⟩;exact wpS_pure (h hi a2 a4 a5)
 rw[M4];refine wpS_bind (hB _ _ hh ?_);cases q:B hint with
 | true=>
  simp only[if_true];refine wpS_bind (wpS_mono (wpS_forRange (I:=λx c st'=>st'=st/\∃l o,c=(none,l,o)/\l<o/\hint+l<n/\x+1<=o/\B (hint+l)=true)
   (Q:=λc st'=>st'=st/\∃l o,c=(none,l,o)/\l<o/\hint+l<n/\B (hint+l)=true/\(n - hint<=o\/B (hint+o)=false)) ?step ?fin ⟨rfl,0,1,rfl,⋯,⋯,⋯,q⟩) ?post)
  case fin=>
   rintro c st' ⟨rfl,l,o,rfl,a1,a2,a3,a4⟩;exact⟨rfl,l,o,rfl,a1,a2,a4,.inl ⋯⟩
  case step=>
   rintro x c st' _ hx ⟨rfl,l,o,rfl,a1,a2,a3,a4⟩;dsimp only;by_cases WU:o>=n - hint
   ·rw[if_pos WU]
    exact wpS_pure ⟨rfl,l,o,rfl,a1,a2,a4,.inl WU⟩
   ·rw[if_neg WU]
    refine wpS_bind (hB _ _ ⋯ ?_);dsimp only;cases q2:B (hint+o)with
    | true=>
     simp only[gn,qu,if_false];exact wpS_pure ⟨rfl,_,_,rfl,⋯,⋯,⋯,q2⟩
    | false=>
     simp only[Bool.not_false,if_true];exact wpS_pure ⟨rfl,l,o,rfl,a1,a2,a4,.inr q2⟩
  case post=>
   rintro c st' ⟨rfl,l,o,rfl,a1,a2,a4,a5⟩;show wpS _ _ _ _ (lE left key arr base n (hint+l+1) (hint+min o (n - hint))) Q st';refine last _ _ ⋯ ⋯ (λi hi=>mono i (hint+l) ⋯ a2 a4) (λi b1 b2=> ?_);rcases a5 with a5|a5
   ·lia
   ·by_cases z:n - hint<=o
    ·lia
    ·exact dn (hint+o) i ⋯ b2 a5
 | false=>
  simp only[qu,if_false];refine wpS_bind (wpS_mono (wpS_forRange (I:=λx c st'=>st'=st/\∃l o,c=(none,l,o)/\l<o/\l<=hint/\x+1<=o/\B (hint - l)=false)
   (Q:=λc st'=>st'=st/\∃l o,c=(none,l,o)/\l<o/\l<=hint/\B (hint - l)=false/\(hint+1<=o\/(o<=hint/\B (hint - o)=true))) ?step ?fin ⟨rfl,0,1,rfl,⋯,⋯,⋯,q⟩) ?post)
  case fin=>
   rintro c st' ⟨rfl,l,o,rfl,a1,a2,a3,a4⟩;exact⟨rfl,l,o,rfl,a1,a2,a4,.inl ⋯⟩
  case step=>
   rintro x c st' _ hx ⟨rfl,l,o,rfl,a1,a2,a3,a4⟩;dsimp only;by_cases WU:o>=hint+1
   ·rw[if_pos WU]
    exact wpS_pure ⟨rfl,l,o,rfl,a1,a2,a4,.inl WU⟩
   ·rw[if_neg WU]
    refine wpS_bind (hB _ _ ⋯ ?_);dsimp only;cases q2:B (hint - o)with
    | true=>
     simp only[if_true];exact wpS_pure ⟨rfl,l,o,rfl,a1,a2,a4,.inr ⟨⋯,q2⟩⟩
    | false=>
     simp only[qu,if_false];exact wpS_pure ⟨rfl,_,_,rfl,⋯,⋯,⋯,q2⟩
  case post=>
   rintro c st' ⟨rfl,l,o,rfl,a1,a2,a4,a5⟩;show wpS _ _ _ _ (lE left key arr base n (hint+1 - min o (hint+1)) (hint - l)) Q st';refine last _ _ ⋯ ⋯ (λi hi=> ?_) (λi b1 b2=>dn _ i b1 b2 a4);rcases a5 with a5|⟨a5,a6⟩
   ·lia
   ·exact mono i (hint - o) ⋯ ⋯ a6
end
noncomputable def sU:Nat->StateT SortSt Sem Unit:=sortPriv% PySem.Builtin.setMinGallop
theorem LQ(g:Nat):sU g=modify λst=>SortSt.mk' (kindOf st) (arrOf st) (pendingOf st) g (failedOf st):=rfl
noncomputable def Ij:Array Keyed->Array Keyed->StateT SortSt Sem (Array Keyed):=sortPriv% PySem.Builtin.mergeLo
noncomputable def cE(a b out:Array Keyed)(ia ib:Nat):Array Keyed:=out++a.extract ia a.size++b.extract ib b.size
noncomputable def dv(a b out:Array Keyed)(ia ib:Nat):Array Keyed:=out++b.extract ib b.size++a.extract ia a.size
noncomputable abbrev key(p:Keyed):Int:=numOf p.1
def Tf(l:List Keyed):Prop:=l.Pairwise λp q=>key p<=key q
theorem eQ(hi:i<xs.size):K xs i=key xs[i]:=by unfold K;rw[getElem?_pos xs i hi]
theorem iO{xs:Array Keyed}:y∈xs.toList.drop i↔∃j,∃h:j<xs.size,i<=j/\y=xs[j]:=by
 constructor
 ·intro h
  obtain⟨k,hk,rfl⟩:=wx.mp h;simp at hk;exact⟨i+k,⋯,⋯,by simp⟩
 ·rintro⟨j,hj,Th,rfl⟩
  refine wx.mpr ⟨j - i,by simp;lia,?_⟩;simp[show i+(j - i)=j by lia]
theorem Tf.at{xs:Array Keyed}(h:Tf xs.toList){i j:Nat}(hj:j<xs.size)(Th:i<=j):key (xs[i]'⋯)<=key xs[j]:=by
 by_cases e:i=j
 ·subst e;exact wn _
 ·have:=List.pairwise_iff_getElem.mp h i j (by simp;lia) (by simp;lia) ⋯
  simpa using this
structure Inv (a b out:Array Keyed) (ia ib:Nat):Prop where
 perm:(out.toList++(a.toList.drop ia++b.toList.drop ib)).Perm (a.toList++b.toList)
 TR:Tf out.toList
 la:∀x∈out.toList,∀y∈a.toList.drop ia,key x<=key y
 lb:∀x∈out.toList,∀y∈b.toList.drop ib,key x<=key y
def Res(a b out:Array Keyed):Prop:=out.toList.Perm (a.toList++b.toList)/\Tf out.toList
theorem BK(h:Tf l)(i:Nat):Tf (l.drop i):=h.sublist (List.drop_sublist i l)
theorem Bt(a:Array Keyed)(i:Nat):(a.extract i a.size).toList=a.toList.drop i:=by
 simp[Array.toList_extract,wk]
theorem Inv.fin(sa:Tf a.toList)(sb:Tf b.toList)(h:Inv a b out ia ib)(e:a.size<=ia\/b.size<=ib):Res a b (cE a b out ia ib):=by
 have el:(cE a b out ia ib).toList=out.toList++(a.toList.drop ia++b.toList.drop ib):=by
  unfold cE;rw[zj,zj,Bt,Bt,zw]
 refine⟨el▸h.perm,?_⟩;rw[el];refine zf.mpr ⟨h.TR,zf.mpr ⟨BK sa _,BK sb _,λx hx y hy=> ?_⟩,λx hx y hy=> ?_⟩
 ·rcases e with e|e
  ·rw[List.drop_of_length_le (by simpa using e)]at hx;cases hx
  ·rw[List.drop_of_length_le (by simpa using e)]at hy;cases hy
 ·rcases qv.mp hy with hy|hy
  ·exact h.la x hx y hy
  ·exact h.lb x hx y hy
theorem Inv.las(sa:Tf a.toList)(sb:Tf b.toList)(hl:∀y∈b.toList,∀h:0<a.size,key y<=key a[a.size - 1])(h:Inv a b out ia ib)(e:ia+1=a.size):Res a b (dv a b out ia ib):=by
 have el:(dv a b out ia ib).toList=out.toList++(b.toList.drop ib++a.toList.drop ia):=by
  unfold dv;rw[zj,zj,Bt,Bt,zw]
 refine⟨el▸((List.Perm.append_left _ List.perm_append_comm).trans h.perm),?_⟩;rw[el];refine zf.mpr ⟨h.TR,zf.mpr ⟨BK sb _,BK sa _,λx hx y hy=> ?_⟩,λx hx y hy=> ?_⟩
 ·obtain⟨j,hj,Th,rfl⟩:=iO.mp hy
  have:j=a.size - 1:=⋯;subst this;exact hl x (wy hx) ⋯
 ·rcases qv.mp hy with hy|hy
  ·exact h.lb x hx y hy
  ·exact h.la x hx y hy
theorem Ie(b:Array Keyed)(hb:ib<b.size):b.toList.drop ib=b[ib]::b.toList.drop (ib+1):=by
 rw[zl (by simpa using hb)];simp
theorem Inv.UE(sb:Tf b.toList)(h:Inv a b out ia ib)(hb:ib<b.size)(hc:∀y∈a.toList.drop ia,key b[ib]<=key y):Inv a b (out.push b[ib]) ia (ib+1):=by
 have e:=Ie b hb;have m:∀y∈b.toList.drop (ib+1),y∈b.toList.drop ib:=λy hy=>by rw[e];exact q8 _ hy
 have m0:b[ib]∈b.toList.drop ib:=by rw[e];exact qa ..
 refine⟨?_,?_,?_,?_⟩
 ·refine List.Perm.trans ?_ h.perm
  rw[e,Array.toList_push,zw];exact List.Perm.append_left _ (show List.Perm (b[ib]::(a.toList.drop ia++b.toList.drop (ib+1))) _ from List.perm_middle.symm)
 ·rw[Array.toList_push]
  exact zf.mpr ⟨h.TR,List.pairwise_singleton ..,λx hx y hy=>by rw[z6.mp hy];exact h.lb x hx _ m0⟩
 ·intro x hx y hy
  rw[Array.toList_push]at hx;rcases qv.mp hx with hx|hx
  ·exact h.la x hx y hy
  ·rw[z6.mp hx];exact hc y hy
 ·intro x hx y hy
  rw[Array.toList_push]at hx;rcases qv.mp hx with hx|hx
  ·exact h.lb x hx y (m y hy)
  ·rw[z6.mp hx]
   obtain⟨j,hj,Th,rfl⟩:=iO.mp hy;exact sb.at hj ⋯
theorem Inv.Va(sa:Tf a.toList)(h:Inv a b out ia ib)(ha:ia<a.size)(hc:∀y∈b.toList.drop ib,key a[ia]<=key y):Inv a b (out.push a[ia]) (ia+1) ib:=by
 have e:=Ie a ha;have m:∀y∈a.toList.drop (ia+1),y∈a.toList.drop ia:=λy hy=>by rw[e];exact q8 _ hy
 have m0:a[ia]∈a.toList.drop ia:=by rw[e];exact qa ..
 refine⟨?_,?_,?_,?_⟩
 ·refine List.Perm.trans ?_ h.perm
  rw[e,Array.toList_push,zw];exact List.Perm.refl _
 ·rw[Array.toList_push]
  exact zf.mpr ⟨h.TR,List.pairwise_singleton ..,λx hx y hy=>by rw[z6.mp hy];exact h.la x hx _ m0⟩
 ·intro x hx y hy
  rw[Array.toList_push]at hx;rcases qv.mp hx with hx|hx
  ·exact h.la x hx y (m y hy)
  ·rw[z6.mp hx]
   obtain⟨j,hj,Th,rfl⟩:=iO.mp hy;exact sa.at hj ⋯
 ·intro x hx y hy
  rw[Array.toList_push]at hx;rcases qv.mp hx with hx|hx
  ·exact h.lb x hx y hy
  ·rw[z6.mp hx];exact hc y hy
theorem D6(a:Array Keyed)(h:i+k<a.size):a.extract i (i+(k+1))=(a.extract i (i+k)).push a[i+k]:=by
 apply Array.ext';rw[Array.toList_push,Array.toList_extract,Array.toList_extract];show List.take _ _=List.take _ _++_;rw[show i+(k+1) - i=k+1 by lia,show i+k - i=k by lia,List.take_add_one];simp[List.getElem?_drop,h]
theorem Inv.VB{a b out:Array Keyed}{ia ib:Nat}(sa:Tf a.toList)(h:Inv a b out ia ib):∀(k:Nat),ia+k<=a.size->(∀i,i<k->∀hi:ia+i<a.size,∀y∈b.toList.drop ib,key a[ia+i]<=key y)->Inv a b (out++a.extract ia (ia+k)) (ia+k) ib
 | 0,_,_=>by
  have:a.extract ia (ia+0)=#[]:=by apply Array.ext';simp[Array.toList_extract]
  rw[this,Array.append_empty];exact h
 | k+1,hk,hc=>by
  have ih:=Inv.VB sa h k ⋯ λi hi=>hc i ⋯;rw[D6 a ⋯,Array.append_push];exact ih.Va sa ⋯ (hc k ⋯ ⋯)
theorem Inv.VA{a b out:Array Keyed}{ia ib:Nat}(sb:Tf b.toList)(h:Inv a b out ia ib):∀(k:Nat),ib+k<=b.size->(∀i,i<k->∀hi:ib+i<b.size,∀y∈a.toList.drop ia,key b[ib+i]<=key y)->Inv a b (out++b.extract ib (ib+k)) ia (ib+k)
 | 0,_,_=>by
  have:b.extract ib (ib+0)=#[]:=by apply Array.ext';simp[Array.toList_extract]
  rw[this,Array.append_empty];exact h
 | k+1,hk,hc=>by
  have ih:=Inv.VA sb h k ⋯ λi hi=>hc i ⋯;rw[D6 b ⋯,Array.append_push];exact ih.UE sb ⋯ (hc k ⋯ ⋯)
def Sm(st st':SortSt):Prop:=kindOf st'=kindOf st/\arrOf st'=arrOf st/\pendingOf st'=pendingOf st/\failedOf st'=failedOf st
theorem Sm.refl(st:SortSt):Sm st st:=⟨rfl,rfl,rfl,rfl⟩
section
variable {prog : Program} {w : World} {A : Around} {E : Value -> Shared -> Prop} {s : Shared}
theorem df{st:SortSt}{Q:Keyed->SortSt->Prop}(hi:i<arr.size)(h:Q arr[i] st):wpS (model prog w) A E s (elem' arr i) Q st:=by
 rw[elem'_eq,getElem?_pos arr i hi];exact wpS_pure h
theorem BN{st:SortSt}{Q:Unit->SortSt->Prop}(h:∀st',Sm st st'->Q () st'):wpS (model prog w) A E s (sU g) Q st:=by
 rw[LQ];exact wpS_modify (h _ ⟨rfl,rfl,rfl,rfl⟩)
theorem Sm.trans(h:Sm a b)(g:Sm b c):Sm a c:=⟨g.1.trans h.1,g.2.1.trans h.2.1,g.2.2.1.trans h.2.2.1,g.2.2.2.trans h.2.2.2⟩
theorem gO{arr:Array Keyed}(h0:IntKeys arr)(hi:i<arr.size):∃t,arr[i].1=.int (key arr[i]) t:=by
 obtain⟨n,t,e⟩:=h0 arr[i] (by simp);exact⟨t,by unfold key;rw[e];rfl⟩
theorem Qm{SH st:SortSt}{a b out:Array Keyed}(hk:kindOf SH=oneType')(sa:Tf a.toList)(sb:Tf b.toList)(ka:IntKeys a)(kb:IntKeys b)(hl:∀y∈b.toList,∀h:0<a.size,key y<=key a[a.size - 1])
  (hs:Sm SH st) (h:Inv a b out ia ib) (ha:ia+1<a.size) (hb:ib<b.size) {Q:Option (Array Keyed)×Array Keyed×Nat×Nat×Nat×Nat->SortSt->Prop}
  (q1:∀c st',Sm SH st'->(∃r,c.1=⇑r/\Res a b r)->Q c st') (q2:∀out VC WG ac bc st',Sm SH st'->Inv a b out VC WG->VC+1<a.size->WG<b.size->ia+ib+1<=VC+WG->Q (none,out,VC,WG,ac,bc) st'):
  wpS (model prog w) A E s (forIn [0:a.size+b.size] ((none,out,ia,ib,0,0):Option (Array Keyed)×Array Keyed×Nat×Nat×Nat×Nat) λ_ c=>do
    let y<-elem' b c.2.2.2.1;let x<-elem' a c.2.2.1;let r<-lt' y x
    match r with
    | some XA=>
     if XA=true then do
      let z<-elem' b c.2.2.2.1
      if(c.2.2.2.1+1==b.size)=true then pure (ForInStep.done (⇑(cE a b (c.2.1.push z) c.2.2.1 (c.2.2.2.1+1)),c.2.1.push z,c.2.2.1,c.2.2.2.1+1,0,c.2.2.2.2.2+1))
      else if c.2.2.2.2.2+1>=mg then pure (ForInStep.done (none,c.2.1.push z,c.2.2.1,c.2.2.2.1+1,0,c.2.2.2.2.2+1))
      else pure (ForInStep.yield (none,c.2.1.push z,c.2.2.1,c.2.2.2.1+1,0,c.2.2.2.2.2+1))
     else do
      let z<-elem' a c.2.2.1
      if(c.2.2.1+1+1==a.size)=true then pure (ForInStep.done (⇑(dv a b (c.2.1.push z) (c.2.2.1+1) c.2.2.2.1),c.2.1.push z,c.2.2.1+1,c.2.2.2.1,c.2.2.2.2.1+1,0))
      else if c.2.2.2.2.1+1>=mg then pure (ForInStep.done (none,c.2.1.push z,c.2.2.1+1,c.2.2.2.1,c.2.2.2.2.1+1,0))
      else pure (ForInStep.yield (none,c.2.1.push z,c.2.2.1+1,c.2.2.2.1,c.2.2.2.2.1+1,0))
    | _=>pure (ForInStep.done (⇑(cE a b c.2.1 c.2.2.1 c.2.2.2.1),c.2.1,c.2.2.1,c.2.2.2.1,c.2.2.2.2.1,c.2.2.2.2.2))) Q st:=by
 refine wpS_forRange (I:=λx c st'=>Sm SH st'/\∃out VC WG ac bc,c=(none,out,VC,WG,ac,bc)/\Inv a b out VC WG/\VC+1<a.size/\WG<b.size/\ia+ib+x<=VC+WG) ?step ?fin ⟨hs,out,ia,ib,0,0,rfl,h,ha,hb,⋯⟩
 case fin=>
  rintro c st' ⟨SF,out,VC,WG,ac,bc,rfl,h',YT,Ue,hp⟩;exact absurd hp ⋯
 case step=>
  rintro x c st' _ hx ⟨SF,out,VC,WG,ac,bc,rfl,h',YT,Ue,hp⟩;dsimp only;refine wpS_bind (df Ue (wpS_bind (df (show VC<a.size by lia) ?_)));obtain⟨t,et⟩:=gO kb Ue;obtain⟨u,eu⟩:=gO ka (show VC<a.size by lia);refine wpS_bind (Be (SF.1.trans hk) et eu ?_);dsimp only;by_cases q:key b[WG]<key a[VC]
  ·simp only[q,decide_true,if_true]
   refine wpS_bind (df Ue ?_);have h2:=h'.UE sb Ue λy hy=>by
    obtain⟨j,hj,Th,rfl⟩:=iO.mp hy;have:=sa.at hj Th
    lia
   by_cases e1:WG+1=b.size
   ·rw[if_pos (by simpa using e1)]
    exact wpS_pure (q1 _ _ SF ⟨_,rfl,h2.fin sa sb (.inr ⋯)⟩)
   ·rw[if_neg (by simpa using e1)]
    by_cases e2:bc+1>=mg
    ·rw[if_pos e2]
     exact wpS_pure (q2 _ _ _ _ _ _ SF h2 YT ⋯ ⋯)
    ·rw[if_neg e2]
     exact wpS_pure ⟨SF,_,_,_,_,_,rfl,h2,YT,⋯,⋯⟩
  ·simp only[q,decide_false,qu,if_false]
   refine wpS_bind (df (show VC<a.size by lia) ?_);have h2:=h'.Va sa ⋯ λy hy=>by
    obtain⟨j,hj,Th,rfl⟩:=iO.mp hy;have:=sb.at hj Th
    lia
   by_cases e1:VC+1+1=a.size
   ·rw[if_pos (by simpa using e1)]
    exact wpS_pure (q1 _ _ SF ⟨_,rfl,h2.las sa sb hl ⋯⟩)
   ·rw[if_neg (by simpa using e1)]
    by_cases e2:ac+1>=mg
    ·rw[if_pos e2]
     exact wpS_pure (q2 _ _ _ _ _ _ SF h2 ⋯ Ue ⋯)
    ·rw[if_neg e2]
     exact wpS_pure ⟨SF,_,_,_,_,_,rfl,h2,⋯,Ue,⋯⟩
end
noncomputable abbrev C2:=Option (Array Keyed)×Array Keyed×Nat×Nat×Nat×Nat×Nat
abbrev R2:=StateT SortSt Sem (ForInStep C2)
def gY(a b:Array Keyed)(ia mg ac bc:Nat)(out:Array Keyed)(ib:Nat):R2:=do
 let z<-elem' a ia
 if(ia+1+1==a.size)=true then pure (ForInStep.done (⇑(dv a b (out.push z) (ia+1) ib),out.push z,ia+1,ib,mg,ac,bc))
 else if(decide (ac<7)&&decide (bc<7))=true then pure (ForInStep.done (none,out.push z,ia+1,ib,mg,ac,bc))
 else pure (ForInStep.yield (none,out.push z,ia+1,ib,mg,ac,bc))
def gV(a b:Array Keyed)(ib mg ac bc:Nat)(out:Array Keyed)(ia:Nat):R2:=do
 let z<-elem' b ib
 if(ib+1==b.size)=true then pure (ForInStep.done (⇑(cE a b (out.push z) ia (ib+1)),out.push z,ia,ib+1,mg,ac,bc))
 else do
  let x<-elem' a ia;let r<-tO true x b (ib+1) (b.size - (ib+1)) 0
  match r with
  | some k=>
   if k>0 then
    if(ib+1+k==b.size)=true then pure (ForInStep.done (⇑(cE a b (out.push z++b.extract (ib+1) (ib+1+k)) ia (ib+1+k)),out.push z++b.extract (ib+1) (ib+1+k),ia,ib+1+k,mg,ac,k))
    else gY a b ia mg ac k (out.push z++b.extract (ib+1) (ib+1+k)) (ib+1+k)
   else gY a b ia mg ac k (out.push z) (ib+1)
  | _=>pure (ForInStep.done (⇑(cE a b (out.push z) ia (ib+1)),out.push z,ia,ib+1,mg,ac,bc))
def gR(a b out:Array Keyed)(ia ib ac bc mg:Nat):R2:=do
 sU mg
 let y<-elem' b ib;let r<-tO false y a ia (a.size - ia) 0
 match r with
 | some k=>
  if k>0 then
   if(ia+k+1==a.size)=true then pure (ForInStep.done (⇑(dv a b (out++a.extract ia (ia+k)) (ia+k) ib),out++a.extract ia (ia+k),ia+k,ib,mg,k,bc))
   else if(ia+k==a.size)=true then pure (ForInStep.done (⇑(cE a b (out++a.extract ia (ia+k)) (ia+k) ib),out++a.extract ia (ia+k),ia+k,ib,mg,k,bc))
   else gV a b ib mg k bc (out++a.extract ia (ia+k)) (ia+k)
  else gV a b ib mg k bc out ia
 | _=>pure (ForInStep.done (⇑(cE a b out ia ib),out,ia,ib,mg,ac,bc))
def FW(a b:Array Keyed)(c:C2):R2:=
 if c.2.2.2.2.1>1 then gR a b c.2.1 c.2.2.1 c.2.2.2.1 c.2.2.2.2.2.1 c.2.2.2.2.2.2 (c.2.2.2.2.1 - 1)
 else gR a b c.2.1 c.2.2.1 c.2.2.2.1 c.2.2.2.2.2.1 c.2.2.2.2.2.2 c.2.2.2.2.1
noncomputable abbrev C1:=Option (Array Keyed)×Array Keyed×Nat×Nat×Nat×Nat
def Hy(a b:Array Keyed)(mg:Nat)(c:C1):StateT SortSt Sem (ForInStep C1):=do
        let y<-elem' b c.2.2.2.1;let x<-elem' a c.2.2.1;let r<-lt' y x
        match r with
        | some XA=>
          if XA=true then do
            let z<-elem' b c.2.2.2.1
            if(c.2.2.2.1+1==b.size)=true then pure (ForInStep.done (⇑(cE a b (c.2.1.push z) c.2.2.1 (c.2.2.2.1+1)),c.2.1.push z,c.2.2.1,c.2.2.2.1+1,0,c.2.2.2.2.2+1))
            else if c.2.2.2.2.2+1>=mg then pure (ForInStep.done (none,c.2.1.push z,c.2.2.1,c.2.2.2.1+1,0,c.2.2.2.2.2+1))
            else pure (ForInStep.yield (none,c.2.1.push z,c.2.2.1,c.2.2.2.1+1,0,c.2.2.2.2.2+1))
          else do
            let z<-elem' a c.2.2.1
            if(c.2.2.1+1+1==a.size)=true then pure (ForInStep.done (⇑(dv a b (c.2.1.push z) (c.2.2.1+1) c.2.2.2.1),c.2.1.push z,c.2.2.1+1,c.2.2.2.1,c.2.2.2.2.1+1,0))
            else if c.2.2.2.2.1+1>=mg then pure (ForInStep.done (none,c.2.1.push z,c.2.2.1+1,c.2.2.2.1,c.2.2.2.2.1+1,0))
            else pure (ForInStep.yield (none,c.2.1.push z,c.2.2.1+1,c.2.2.2.1,c.2.2.2.2.1+1,0))
        | _=>pure (ForInStep.done (⇑(cE a b c.2.1 c.2.2.1 c.2.2.2.1),c.2.1,c.2.2.1,c.2.2.2.1,c.2.2.2.2.1,c.2.2.2.2.2))
noncomputable abbrev C0:=Option (Array Keyed)×Array Keyed×Nat×Nat×Nat
def Dr(a b:Array Keyed)(c:C0):StateT SortSt Sem (ForInStep C0):=do
 let d<-forIn [0:a.size+b.size] ((none,c.2.1,c.2.2.1,c.2.2.2.1,0,0):C1) λ_ d=>Hy a b c.2.2.2.2 d
 match d.1 with
 | some r=>pure (ForInStep.done (⇑r,d.2.1,d.2.2.1,d.2.2.2.1,c.2.2.2.2))
 | none=>do
  liftM (rule "list.sort.gallop")
  let e<-forIn [0:a.size+b.size] ((none,d.2.1,d.2.2.1,d.2.2.2.1,c.2.2.2.2+1,d.2.2.2.2.1,d.2.2.2.2.2):C2) λ_ e=>FW a b e
  match e.1 with
  | some r=>pure (ForInStep.done (⇑r,e.2.1,e.2.2.1,e.2.2.2.1,e.2.2.2.2.1))
  | none=>do
   sU (e.2.2.2.2.1+1)
   pure (ForInStep.yield (none,e.2.1,e.2.2.1,e.2.2.2.1,e.2.2.2.2.1+1))
theorem fP{β:Type}{c:β}{F F':Nat->β->StateT SortSt Sem (ForInStep β)}(h:∀x c,F x c=F' x c):forIn [0:n] c F=forIn [0:n] c F':=by
 have:F=F':=funext λx=>funext λc=>h x c;rw[this]
theorem bN{α:Type}{p:Prop}[Decidable p]{x x' y y':α}(h0:x=x')(h:y=y'):(if p then x else y)=if p then x' else y':=by rw[h0,h]
theorem Q8(a b:Array Keyed):Ij a b=(do
 liftM (rule "list.sort.merge-lo")
 let z<-elem' b 0
 if(1==b.size)=true then pure (cE a b #[z] 0 1)
 else if(0+1==a.size)=true then pure (dv a b #[z] 0 1)
 else do
  let st<-get;let c<-forIn [0:a.size+b.size] ((none,#[z],0,1,gallopOf st):C0) λ_ c=>Dr a b c
  match c.1 with
  | some r=>pure r
  | none=>unsupported "internal:list.sort.merge-bound"):=by
 refine ba rfl λ_=>ba rfl λz=> ?_;refine bN rfl (bN rfl (ba rfl λst=>ba (fP λx c=> ?_) λc=> ?_))
 ·obtain⟨r,out,ia,ib,mg⟩:=c
  unfold Dr;refine ba (fP λx d=> ?_) λd=> ?_
  ·obtain⟨r,out,ia,ib,ac,bc⟩:=d
   unfold Hy;refine ba rfl λy=>ba rfl λx=>ba rfl λr=> ?_;cases r with
   | none=>rfl
   | some r=>cases r<;>rfl
  ·obtain⟨r,out,ia,ib,ac,bc⟩:=d
   cases r with
   | some r=>rfl
   | none=>
    refine ba rfl λ_=>ba (fP λx e=> ?_) λe=> ?_
    ·obtain⟨r,out,ia,ib,mg,ac,bc⟩:=e
     have kc:∀(mg' k k':Nat) (out:Array Keyed) (ia ib:Nat),(elem' a ia >>= λz=>if(ia+1+1==a.size)=true then pure (ForInStep.done (⇑(dv a b (out.push z) (ia+1) ib),out.push z,ia+1,ib,mg',k,k'))else if(decide (k<7)&&decide (k'<7))=true then pure (ForInStep.done (none,out.push z,ia+1,ib,mg',k,k'))else pure (ForInStep.yield (none,out.push z,ia+1,ib,mg',k,k')):R2)=gY a b ia mg' k k' out ib:=λ_ _ _ _ _ _=>rfl;unfold FW;refine bN ?_ ?_
     all_goals
      unfold gR;refine ba rfl λ_=>ba rfl λy=>ba rfl λr=> ?_;cases r with
      | none=>rfl
      | some k=>
       refine bN (bN rfl (bN rfl ?_)) ?_
       all_goals
        unfold gV;refine ba rfl λz=>bN rfl (ba rfl λx=>ba rfl λr=> ?_);cases r with
        | none=>rfl
        | some k'=>rfl
    ·obtain⟨r,out,ia,ib,mg,ac,bc⟩:=e
     cases r<;>rfl
 ·obtain⟨r,out,ia,ib,mg⟩:=c
  cases r<;>rfl
def Go(a b:Array Keyed)(p:Nat)(out:Array Keyed)(ia ib:Nat):Prop:=Inv a b out ia ib/\ia+1<a.size/\ib<b.size/\p<ia+ib
def RW(a b:Array Keyed)(p:Nat)(SH:SortSt)(r:ForInStep C2)(st':SortSt):Prop:=Sm SH st'/\match r with
 | .done c=>(∃x,c.1=⇑x/\Res a b x)\/(c.1=none/\Go a b p c.2.1 c.2.2.1 c.2.2.2.1)
 | .yield c=>c.1=none/\Go a b p c.2.1 c.2.2.1 c.2.2.2.1
structure Two (a b:Array Keyed):Prop where
 sa:Tf a.toList
 sb:Tf b.toList
 ka:IntKeys a
 kb:IntKeys b
 hl:∀y∈b.toList,∀h:0<a.size,key y<key a[a.size - 1]
theorem Two.hl'(T:Two a b):∀y∈b.toList,∀h:0<a.size,key y<=key a[a.size - 1]:=λy hy h=>Int.le_of_lt (T.hl y hy h)
section
variable {prog : Program} {w : World} {A : Around} {E : Value -> Shared -> Prop} {s : Shared}
theorem J6{SH st:SortSt}{ia ib p mg ac bc:Nat}(T:Two a b)(hs:Sm SH st)(h:Inv a b out ia ib)(ha:ia+1<a.size)(hb:ib<b.size)(hp:p<=ia+ib)(hc:∀y∈b.toList.drop ib,key (a[ia]'⋯)<=key y):
  wpS (model prog w) A E s (gY a b ia mg ac bc out ib) (RW a b p SH) st:=by
 unfold gY;refine wpS_bind (df (show ia<a.size by lia) ?_);have h2:=h.Va T.sa ⋯ hc;by_cases e1:ia+1+1=a.size
 ·rw[if_pos (by simpa using e1)]
  exact wpS_pure ⟨hs,.inl ⟨_,rfl,h2.las T.sa T.sb T.hl' ⋯⟩⟩
 ·rw[if_neg (by simpa using e1)]
  have g:Go a b p (out.push (a[ia]'⋯)) (ia+1) ib:=⟨h2,⋯,hb,⋯⟩;split
  ·exact wpS_pure ⟨hs,.inr ⟨rfl,g⟩⟩
  ·exact wpS_pure ⟨hs,rfl,g⟩
theorem sL(hi:base+i<arr.size):fz true k arr base i=decide (key arr[base+i]<k):=by unfold fz;rw[eQ hi];rfl
theorem sE(hi:base+i<arr.size):fz false k arr base i= !decide (k<key arr[base+i]):=by unfold fz;rw[eQ hi];rfl
theorem i9{arr:Array Keyed}{base n:Nat}(h:Tf arr.toList)(hn:base+n<=arr.size):∀i j,i<=j->j<n->K arr (base+i)<=K arr (base+j):=λi j Th hj=>by
 rw[eQ (show base+i<arr.size by lia),eQ (show base+j<arr.size by lia)];exact h.at _ ⋯
theorem J5{SH st:SortSt}(hk:kindOf SH=oneType')(T:Two a b)(hs:Sm SH st)(h:Inv a b out ia ib)(ha:ia+1<a.size)(hb:ib<b.size)(hp:p<=ia+ib)(hc:∀y∈a.toList.drop ia,key b[ib]<=key y):
  wpS (model prog w) A E s (gV a b ib mg ac bc out ia) (RW a b p SH) st:=by
 unfold gV;refine wpS_bind (df hb ?_);have h2:=h.UE T.sb hb hc;by_cases e1:ib+1=b.size
 ·rw[if_pos (by simpa using e1)]
  exact wpS_pure ⟨hs,.inl ⟨_,rfl,h2.fin T.sa T.sb (.inr ⋯)⟩⟩
 ·rw[if_neg (by simpa using e1)]
  refine wpS_bind (df (show ia<a.size by lia) ?_);obtain⟨t,et⟩:=gO T.ka (show ia<a.size by lia);refine wpS_bind (tw (hs.1.trans hk) et T.kb ⋯ ⋯ (i9 T.sb ⋯) λk hkn g1 g2=> ?_);dsimp only;have c1:∀i,i<k->∀hi:ib+1+i<b.size,∀y∈a.toList.drop ia,key b[ib+1+i]<=key y:=λi hi hi' y hy=>by
   have:=g1 i hi;rw[sL hi']at this;obtain⟨j,hj,Th,rfl⟩:=iO.mp hy;have h3:=T.sa.at hj Th;have h4:key b[ib+1+i]<key (a[ia]'⋯):=by simpa using this
   lia
  have c2:∀y∈b.toList.drop (ib+1+k),key (a[ia]'⋯)<=key y:=λy hy=>by
   obtain⟨j,hj,Th,rfl⟩:=iO.mp hy;have:=g2 (j - (ib+1)) ⋯ ⋯;rw[sL ⋯]at this;have h4:¬key (b[ib+1+(j - (ib+1))]'⋯)<key (a[ia]'⋯):=by simpa using this
   have e:ib+1+(j - (ib+1))=j:=⋯;simp only[e]at h4
   lia
  by_cases q:k>0
  ·rw[if_pos q]
   have h3:=h2.VA T.sb k ⋯ c1;by_cases e2:ib+1+k=b.size
   ·rw[if_pos (by simpa using e2)]
    exact wpS_pure ⟨hs,.inl ⟨_,rfl,h3.fin T.sa T.sb (.inr ⋯)⟩⟩
   ·rw[if_neg (by simpa using e2)]
    exact J6 T hs h3 ha ⋯ ⋯ c2
  ·rw[if_neg q]
   have:k=0:=⋯;subst this;exact J6 T hs h2 ha ⋯ ⋯ c2
theorem KW{SH st:SortSt}(hk:kindOf SH=oneType')(T:Two a b)(hs:Sm SH st)(h:Inv a b out ia ib)(ha:ia+1<a.size)(hb:ib<b.size)(hp:p<=ia+ib):
  wpS (model prog w) A E s (gR a b out ia ib ac bc mg) (RW a b p SH) st:=by
 unfold gR;refine wpS_bind (BN λst1 h1=> ?_);have hs1:=hs.trans h1;refine wpS_bind (df hb ?_);obtain⟨t,et⟩:=gO T.kb hb;refine wpS_bind (tw (hs1.1.trans hk) et T.ka ⋯ ⋯ (i9 T.sa ⋯) λk hkn g1 g2=> ?_);dsimp only;have c1:∀i,i<k->∀hi:ia+i<a.size,∀y∈b.toList.drop ib,key a[ia+i]<=key y:=λi hi hi' y hy=>by
  have:=g1 i hi;rw[sE hi']at this;obtain⟨j,hj,Th,rfl⟩:=iO.mp hy;have h3:=T.sb.at hj Th;have h4:¬key b[ib]<key a[ia+i]:=by simpa using this
  lia
 have c2:∀y∈a.toList.drop (ia+k),key b[ib]<=key y:=λy hy=>by
  obtain⟨j,hj,Th,rfl⟩:=iO.mp hy;have:=g2 (j - ia) ⋯ ⋯;rw[sE ⋯]at this;have h4:key b[ib]<key (a[ia+(j - ia)]'⋯):=by simpa using this
  have e:ia+(j - ia)=j:=⋯;simp only[e]at h4
  lia
 have h3:=h.VB T.sa k ⋯ c1;by_cases q:k>0
 ·rw[if_pos q]
  by_cases e1:ia+k+1=a.size
  ·rw[if_pos (by simpa using e1)]
   exact wpS_pure ⟨hs1,.inl ⟨_,rfl,h3.las T.sa T.sb T.hl' e1⟩⟩
  ·rw[if_neg (by simpa using e1)]
   by_cases e2:ia+k=a.size
   ·rw[if_pos (by simpa using e2)]
    exact wpS_pure ⟨hs1,.inl ⟨_,rfl,h3.fin T.sa T.sb (.inl ⋯)⟩⟩
   ·rw[if_neg (by simpa using e2)]
    exact J5 hk T hs1 h3 ⋯ hb ⋯ c2
 ·rw[if_neg q]
  have:k=0:=⋯;subst this;exact J5 hk T hs1 h ha hb hp c2
theorem OH{st:SortSt}{Q:Array Keyed->SortSt->Prop}(hk:kindOf st=oneType')(T:Two a b)(ha:0<a.size)(hb:0<b.size)(hba:key b[0]<=key a[0])(h:∀out st',Sm st st'->Res a b out->Q out st'):
  wpS (model prog w) A E s (Ij a b) Q st:=by
 rw[Q8];refine wpS_bind (wpS_lift (wpAny_rule ⟨rfl,?_⟩));refine wpS_bind (df hb ?_);have i0:Inv a b #[] 0 0:=⟨List.Perm.refl _,List.Pairwise.nil,λx hx=>by simp at hx,λx hx=>by simp at hx⟩;have i1:Inv a b #[b[0]] 0 1:=i0.UE T.sb hb λy hy=>by
  obtain⟨j,hj,Th,rfl⟩:=iO.mp hy;have:=T.sa.at hj Th
  lia
 by_cases e1:1=b.size
 ·rw[if_pos (by simpa using e1)]
  exact wpS_pure (h _ _ (Sm.refl st) (i1.fin T.sa T.sb (.inr ⋯)))
 ·rw[if_neg (by simpa using e1)]
  by_cases e2:0+1=a.size
  ·rw[if_pos (by simpa using e2)]
   exact wpS_pure (h _ _ (Sm.refl st) (i1.las T.sa T.sb T.hl' e2))
  ·rw[if_neg (by simpa using e2)]
   refine wpS_bind (wpS_get ?_);refine wpS_bind (wpS_mono (wpS_forRange (I:=λx c st'=>Sm st st'/\∃out ia ib mg,c=(none,out,ia,ib,mg)/\Go a b x out ia ib) (Q:=λc st'=>Sm st st'/\∃r,c.1=⇑r/\Res a b r) ?step ?fin ⟨Sm.refl st,_,_,_,_,rfl,i1,⋯,⋯,⋯⟩) ?post)
   case fin=>
    rintro c st' ⟨hs,out,ia,ib,mg,rfl,g1,g2,g3,g4⟩;exact absurd g4 ⋯
   case post=>
    rintro⟨c,d⟩ st' ⟨hs,r,rfl,hr⟩;exact wpS_pure (h _ _ hs hr)
   case step=>
    rintro x c st' _ hx ⟨hs,out,ia,ib,mg,rfl,g1,g2,g3,g4⟩;unfold Dr;dsimp only;refine wpS_bind ?_;refine Qm hk T.sa T.sb T.ka T.kb T.hl' hs g1 g2 g3 (λc st' SF ⟨r,e,hr⟩=> ?_) (λout VC WG ac bc st' SF h' YT Ue Wc=> ?_)
    ·obtain⟨c,d⟩:=c
     subst e;exact wpS_pure ⟨SF,r,rfl,hr⟩
    ·dsimp only
     refine wpS_bind (wpS_lift (wpAny_rule ⟨rfl,?_⟩));refine wpS_bind (wpS_mono (wpS_forRange (I:=λy c st'=>Sm st st'/\c.1=none/\Go a b (x+1+y) c.2.1 c.2.2.1 c.2.2.2.1) (Q:=λc st'=>Sm st st'/\((∃r,c.1=⇑r/\Res a b r)\/(c.1=none/\Go a b (x+1) c.2.1 c.2.2.1 c.2.2.2.1))) ?st2 ?fi2 ⟨SF,rfl,h',YT,Ue,by simp only;lia⟩) ?po2)
     case fi2=>
      rintro c st' ⟨hs,e,g1,g2,g3,g4⟩;exact absurd g4 ⋯
     case st2=>
      rintro y c st' _ hy ⟨hs,e,g1,g2,g3,g4⟩;refine wpS_mono (Q:=RW a b (x+1+(y+1)) st) ?_ λr st' hP=> ?_
      rotate_left
      ·obtain⟨hs,hr⟩:=hP
       cases r with
       | done c=>
        refine⟨hs,?_⟩;rcases hr with hr|⟨e,g1,g2,g3,g4⟩
        ·exact .inl hr
        ·exact .inr ⟨e,g1,g2,g3,⋯⟩
       | yield c=>exact⟨hs,hr⟩
      unfold FW;split
      ·exact KW hk T hs g1 g2 g3 ⋯
      ·exact KW hk T hs g1 g2 g3 ⋯
     case po2=>
      rintro⟨r,out2,ia2,ib2,mg2,ac2,bc2⟩ st' ⟨hs,hr⟩;rcases hr with⟨r,e,hr⟩|⟨e,g⟩
      ·have e:_=⇑r:=e
       subst e;exact wpS_pure ⟨hs,r,rfl,hr⟩
      ·have e:_=none:=e
       subst e;dsimp only;exact wpS_bind (BN λXh h3=>wpS_pure ⟨hs.trans h3,_,_,_,_,rfl,g⟩)
end
noncomputable def J7:Array Keyed->Array Keyed->StateT SortSt Sem (Array Keyed):=sortPriv% PySem.Builtin.mergeHi
noncomputable def cS(a b out:Array Keyed)(na nb:Nat):Array Keyed:=a.extract 0 na++b.extract 0 nb++out.reverse
noncomputable def eW(a b out:Array Keyed)(na nb:Nat):Array Keyed:=b.extract 0 nb++a.extract 0 na++out.reverse
theorem iP{xs:Array Keyed}:y∈xs.toList.take i↔∃j,∃h:j<xs.size,j<i/\y=xs[j]:=by
 constructor
 ·intro h
  obtain⟨k,hk,rfl⟩:=wx.mp h;simp at hk;exact⟨k,⋯,⋯,by simp⟩
 ·rintro⟨j,hj,Th,rfl⟩
  refine wx.mpr ⟨j,by simp;lia,?_⟩;simp
structure Sd (a b out:Array Keyed) (na nb:Nat):Prop where
 perm:((a.toList.take na++b.toList.take nb)++out.toList.reverse).Perm (a.toList++b.toList)
 TR:Tf out.toList.reverse
 la:∀x∈out.toList,∀y∈a.toList.take na,key y<=key x
 lb:∀x∈out.toList,∀y∈b.toList.take nb,key y<=key x
theorem Bj(h:Tf l)(i:Nat):Tf (l.take i):=h.sublist (List.take_sublist i l)
theorem Ak(a:Array Keyed)(i:Nat):(a.extract 0 i).toList=a.toList.take i:=by
 simp[Array.toList_extract]
theorem Sd.fin(sa:Tf a.toList)(sb:Tf b.toList)(h:Sd a b out na nb)(e:na=0\/nb=0):Res a b (cS a b out na nb):=by
 have el:(cS a b out na nb).toList=(a.toList.take na++b.toList.take nb)++out.toList.reverse:=by
  unfold cS;rw[zj,zj,Ak,Ak,Array.toList_reverse]
 refine⟨el▸h.perm,?_⟩;rw[el];refine zf.mpr ⟨zf.mpr ⟨Bj sa _,Bj sb _,λx hx y hy=> ?_⟩,h.TR,λx hx y hy=> ?_⟩
 ·rcases e with e|e
  ·rw[e]at hx;cases hx
  ·rw[e]at hy;cases hy
 ·rcases qv.mp hx with hx|hx
  ·exact h.la y (List.mem_reverse.mp hy) x hx
  ·exact h.lb y (List.mem_reverse.mp hy) x hx
theorem Sd.fst(sa:Tf a.toList)(sb:Tf b.toList)(hf:∀y∈a.toList,∀h:0<b.size,key b[0]<=key y)(h:Sd a b out na nb)(e:nb=1):Res a b (eW a b out na nb):=by
 have el:(eW a b out na nb).toList=(b.toList.take nb++a.toList.take na)++out.toList.reverse:=by
  unfold eW;rw[zj,zj,Ak,Ak,Array.toList_reverse]
 refine⟨el▸((List.Perm.append_right _ List.perm_append_comm).trans h.perm),?_⟩;rw[el];refine zf.mpr ⟨zf.mpr ⟨Bj sb _,Bj sa _,λx hx y hy=> ?_⟩,h.TR,λx hx y hy=> ?_⟩
 ·obtain⟨j,hj,Th,rfl⟩:=iP.mp hx
  have:j=0:=⋯;subst this;exact hf y (zx hy) ⋯
 ·rcases qv.mp hx with hx|hx
  ·exact h.lb y (List.mem_reverse.mp hy) x hx
  ·exact h.la y (List.mem_reverse.mp hy) x hx
theorem Ke(b:Array Keyed)(hb:n<b.size):b.toList.take (n+1)=b.toList.take n++[b[n]]:=by
 rw[List.take_add_one];simp[hb]
theorem Sd.Va(sa:Tf a.toList)(h:Sd a b out (na+1) nb)(ha:na<a.size)(hc:∀y∈b.toList.take nb,key y<=key a[na]):Sd a b (out.push a[na]) na nb:=by
 have e:=Ke a ha;have m:∀y∈a.toList.take na,y∈a.toList.take (na+1):=λy hy=>by rw[e];exact zp _ hy
 have m0:a[na]∈a.toList.take (na+1):=by rw[e];simp
 refine⟨?_,?_,?_,?_⟩
 ·refine List.Perm.trans ?_ h.perm
  rw[e,Array.toList_push,List.reverse_append];simp only[List.reverse_cons,List.reverse_nil,g8,zw,wz];exact List.Perm.append_left _ List.perm_middle
 ·rw[Array.toList_push,List.reverse_append]
  exact zf.mpr ⟨List.pairwise_singleton ..,h.TR,λx hx y hy=>by
   have hx:x=a[na]:=by simpa using hx
   rw[hx];exact h.la y (List.mem_reverse.mp hy) _ m0⟩
 ·intro x hx y hy
  rw[Array.toList_push]at hx;rcases qv.mp hx with hx|hx
  ·exact h.la x hx y (m y hy)
  ·rw[z6.mp hx]
   obtain⟨j,hj,Th,rfl⟩:=iP.mp hy;exact sa.at ha ⋯
 ·intro x hx y hy
  rw[Array.toList_push]at hx;rcases qv.mp hx with hx|hx
  ·exact h.lb x hx y hy
  ·rw[z6.mp hx];exact hc y hy
theorem Sd.UE(sb:Tf b.toList)(h:Sd a b out na (nb+1))(hb:nb<b.size)(hc:∀y∈a.toList.take na,key y<=key b[nb]):Sd a b (out.push b[nb]) na nb:=by
 have e:=Ke b hb;have m:∀y∈b.toList.take nb,y∈b.toList.take (nb+1):=λy hy=>by rw[e];exact zp _ hy
 have m0:b[nb]∈b.toList.take (nb+1):=by rw[e];simp
 refine⟨?_,?_,?_,?_⟩
 ·refine List.Perm.trans ?_ h.perm
  rw[e,Array.toList_push,List.reverse_append];simp only[List.reverse_cons,List.reverse_nil,g8,zw,wz];exact List.Perm.refl _
 ·rw[Array.toList_push,List.reverse_append]
  exact zf.mpr ⟨List.pairwise_singleton ..,h.TR,λx hx y hy=>by
   have hx:x=b[nb]:=by simpa using hx
   rw[hx];exact h.lb y (List.mem_reverse.mp hy) _ m0⟩
 ·intro x hx y hy
  rw[Array.toList_push]at hx;rcases qv.mp hx with hx|hx
  ·exact h.la x hx y hy
  ·rw[z6.mp hx];exact hc y hy
 ·intro x hx y hy
  rw[Array.toList_push]at hx;rcases qv.mp hx with hx|hx
  ·exact h.lb x hx y (m y hy)
  ·rw[z6.mp hx]
   obtain⟨j,hj,Th,rfl⟩:=iP.mp hy;exact sb.at hb ⋯
theorem Iw(a:Array Keyed)(h:i+k<a.size):(a.extract i (i+(k+1))).reverse=#[a[i+k]]++(a.extract i (i+k)).reverse:=by
 rw[D6 a h];apply Array.ext';rw[Array.toList_reverse,Array.toList_push,List.reverse_append,zj,Array.toList_reverse];rfl
theorem Sd.VB{a b:Array Keyed}{na nb:Nat}(sa:Tf a.toList):∀(k:Nat) (out:Array Keyed),Sd a b out (na+k) nb->na+k<=a.size->(∀i,na<=i->i<na+k->∀hi:i<a.size,∀y∈b.toList.take nb,key y<=key a[i])->Sd a b (out++(a.extract na (na+k)).reverse) na nb
 | 0,out,h,_,_=>by
  have:(a.extract na (na+0)).reverse=#[]:=by apply Array.ext';simp[Array.toList_extract]
  rw[this,Array.append_empty];exact h
 | k+1,out,h,hk,hc=>by
  have h2:=Sd.Va (na:=na+k) sa h ⋯ (hc (na+k) ⋯ ⋯ ⋯);have ih:=Sd.VB (na:=na) sa k _ h2 ⋯ λi h1 h2=>hc i h1 ⋯;rw[Iw a ⋯,<-Array.append_assoc];simpa using ih
theorem Sd.VA{a b:Array Keyed}{na nb:Nat}(sb:Tf b.toList):∀(k:Nat) (out:Array Keyed),Sd a b out na (nb+k)->nb+k<=b.size->(∀i,nb<=i->i<nb+k->∀hi:i<b.size,∀y∈a.toList.take na,key y<=key b[i])->Sd a b (out++(b.extract nb (nb+k)).reverse) na nb
 | 0,out,h,_,_=>by
  have:(b.extract nb (nb+0)).reverse=#[]:=by apply Array.ext';simp[Array.toList_extract]
  rw[this,Array.append_empty];exact h
 | k+1,out,h,hk,hc=>by
  have h2:=Sd.UE (nb:=nb+k) sb h ⋯ (hc (nb+k) ⋯ ⋯ ⋯);have ih:=Sd.VA (nb:=nb) sb k _ h2 ⋯ λi h1 h2=>hc i h1 ⋯;rw[Iw b ⋯,<-Array.append_assoc];simpa using ih
noncomputable abbrev D2:=Option (Array Keyed)×Nat×Nat×Array Keyed×Nat×Nat×Nat
abbrev S2:=StateT SortSt Sem (ForInStep D2)
def jw(a b:Array Keyed)(na mg ac bc:Nat)(out:Array Keyed)(nb:Nat):S2:=do
 let z<-elem' a (na - 1)
 if(na - 1==0)=true then pure (ForInStep.done (⇑(cS a b (out.push z) (na - 1) nb),na - 1,nb,out.push z,mg,ac,bc))
 else if(decide (ac<7)&&decide (bc<7))=true then pure (ForInStep.done (none,na - 1,nb,out.push z,mg,ac,bc))
 else pure (ForInStep.yield (none,na - 1,nb,out.push z,mg,ac,bc))
def ik(a b:Array Keyed)(nb mg ac bc:Nat)(out:Array Keyed)(na:Nat):S2:=do
 let z<-elem' b (nb - 1)
 if(nb - 1==1)=true then pure (ForInStep.done (⇑(eW a b (out.push z) na (nb - 1)),na,nb - 1,out.push z,mg,ac,bc))
 else do
  let x<-elem' a (na - 1);let r<-tO true x b 0 (nb - 1) (nb - 1 - 1)
  match r with
  | some k=>
   if nb - 1 - k>0 then
    if(k==1)=true then pure (ForInStep.done (⇑(eW a b (out.push z++(b.extract k (nb - 1)).reverse) na k),na,k,out.push z++(b.extract k (nb - 1)).reverse,mg,ac,nb - 1 - k))
    else if(k==0)=true then pure (ForInStep.done (⇑(cS a b (out.push z++(b.extract k (nb - 1)).reverse) na k),na,k,out.push z++(b.extract k (nb - 1)).reverse,mg,ac,nb - 1 - k))
    else jw a b na mg ac (nb - 1 - k) (out.push z++(b.extract k (nb - 1)).reverse) k
   else jw a b na mg ac (nb - 1 - k) (out.push z) (nb - 1)
  | _=>pure (ForInStep.done (⇑(cS a b (out.push z) na (nb - 1)),na,nb - 1,out.push z,mg,ac,bc))
def iv(a b:Array Keyed)(na nb:Nat)(out:Array Keyed)(ac bc mg:Nat):S2:=do
 sU mg
 let y<-elem' b (nb - 1);let r<-tO false y a 0 na (na - 1)
 match r with
 | some k=>
  if na - k>0 then
   if(k==0)=true then pure (ForInStep.done (⇑(cS a b (out++(a.extract k na).reverse) k nb),k,nb,out++(a.extract k na).reverse,mg,na - k,bc))
   else ik a b nb mg (na - k) bc (out++(a.extract k na).reverse) k
  else ik a b nb mg (na - k) bc out na
 | _=>pure (ForInStep.done (⇑(cS a b out na nb),na,nb,out,mg,ac,bc))
def iA(a b:Array Keyed)(c:D2):S2:=
 if c.2.2.2.2.1>1 then iv a b c.2.1 c.2.2.1 c.2.2.2.1 c.2.2.2.2.2.1 c.2.2.2.2.2.2 (c.2.2.2.2.1 - 1)
 else iv a b c.2.1 c.2.2.1 c.2.2.2.1 c.2.2.2.2.2.1 c.2.2.2.2.2.2 c.2.2.2.2.1
noncomputable abbrev D1:=Option (Array Keyed)×Nat×Nat×Array Keyed×Nat×Nat
def gN(a b:Array Keyed)(mg:Nat)(c:D1):StateT SortSt Sem (ForInStep D1):=do
        let y<-elem' b (c.2.2.1 - 1);let x<-elem' a (c.2.1 - 1);let r<-lt' y x
        match r with
        | some aWins=>
          if aWins=true then do
            let z<-elem' a (c.2.1 - 1)
            if(c.2.1 - 1==0)=true then pure (ForInStep.done (⇑(cS a b (c.2.2.2.1.push z) (c.2.1 - 1) c.2.2.1),c.2.1 - 1,c.2.2.1,c.2.2.2.1.push z,c.2.2.2.2.1+1,0))
            else if c.2.2.2.2.1+1>=mg then pure (ForInStep.done (none,c.2.1 - 1,c.2.2.1,c.2.2.2.1.push z,c.2.2.2.2.1+1,0))
            else pure (ForInStep.yield (none,c.2.1 - 1,c.2.2.1,c.2.2.2.1.push z,c.2.2.2.2.1+1,0))
          else do
            let z<-elem' b (c.2.2.1 - 1)
            if(c.2.2.1 - 1==1)=true then pure (ForInStep.done (⇑(eW a b (c.2.2.2.1.push z) c.2.1 (c.2.2.1 - 1)),c.2.1,c.2.2.1 - 1,c.2.2.2.1.push z,0,c.2.2.2.2.2+1))
            else if c.2.2.2.2.2+1>=mg then pure (ForInStep.done (none,c.2.1,c.2.2.1 - 1,c.2.2.2.1.push z,0,c.2.2.2.2.2+1))
            else pure (ForInStep.yield (none,c.2.1,c.2.2.1 - 1,c.2.2.2.1.push z,0,c.2.2.2.2.2+1))
        | _=>pure (ForInStep.done (⇑(cS a b c.2.2.2.1 c.2.1 c.2.2.1),c.2.1,c.2.2.1,c.2.2.2.1,c.2.2.2.2.1,c.2.2.2.2.2))
noncomputable abbrev D0:=Option (Array Keyed)×Nat×Nat×Array Keyed×Nat
def wU(a b:Array Keyed)(c:D0):StateT SortSt Sem (ForInStep D0):=do
 let d<-forIn [0:a.size+b.size] ((none,c.2.1,c.2.2.1,c.2.2.2.1,0,0):D1) λ_ d=>gN a b c.2.2.2.2 d
 match d.1 with
 | some r=>pure (ForInStep.done (⇑r,d.2.1,d.2.2.1,d.2.2.2.1,c.2.2.2.2))
 | none=>do
  liftM (rule "list.sort.gallop")
  let e<-forIn [0:a.size+b.size] ((none,d.2.1,d.2.2.1,d.2.2.2.1,c.2.2.2.2+1,d.2.2.2.2.1,d.2.2.2.2.2):D2) λ_ e=>iA a b e
  match e.1 with
  | some r=>pure (ForInStep.done (⇑r,e.2.1,e.2.2.1,e.2.2.2.1,e.2.2.2.2.1))
  | none=>do
   sU (e.2.2.2.2.1+1)
   pure (ForInStep.yield (none,e.2.1,e.2.2.1,e.2.2.2.1,e.2.2.2.2.1+1))
theorem Pm(a b:Array Keyed):J7 a b=(do
 liftM (rule "list.sort.merge-hi")
 let z<-elem' a (a.size - 1)
 if(a.size - 1==0)=true then pure (cS a b #[z] (a.size - 1) b.size)
 else if(b.size==1)=true then pure (eW a b #[z] (a.size - 1) b.size)
 else do
  let st<-get;let c<-forIn [0:a.size+b.size] ((none,a.size - 1,b.size,#[z],gallopOf st):D0) λ_ c=>wU a b c
  match c.1 with
  | some r=>pure r
  | none=>unsupported "internal:list.sort.merge-bound"):=by
 refine ba rfl λ_=>ba rfl λz=> ?_;refine bN rfl (bN rfl (ba rfl λst=>ba (fP λx c=> ?_) λc=> ?_))
 ·obtain⟨r,na,nb,out,mg⟩:=c
  unfold wU;refine ba (fP λx d=> ?_) λd=> ?_
  ·obtain⟨r,na,nb,out,ac,bc⟩:=d
   unfold gN;refine ba rfl λy=>ba rfl λx=>ba rfl λr=> ?_;cases r with
   | none=>rfl
   | some r=>cases r<;>rfl
  ·obtain⟨r,na,nb,out,ac,bc⟩:=d
   cases r with
   | some r=>rfl
   | none=>
    refine ba rfl λ_=>ba (fP λx e=> ?_) λe=> ?_
    ·obtain⟨r,na,nb,out,mg,ac,bc⟩:=e
     unfold iA;refine bN ?_ ?_
     all_goals
      unfold iv;refine ba rfl λ_=>ba rfl λy=>ba rfl λr=> ?_;cases r with
      | none=>rfl
      | some k=>
       refine bN (bN rfl ?_) ?_
       all_goals
        unfold ik;refine ba rfl λz=>bN rfl (ba rfl λx=>ba rfl λr=> ?_);cases r with
        | none=>rfl
        | some k'=>rfl
    ·obtain⟨r,na,nb,out,mg,ac,bc⟩:=e
     cases r<;>rfl
 ·obtain⟨r,na,nb,out,mg⟩:=c
  cases r<;>rfl
def jR(a b:Array Keyed)(p:Nat)(out:Array Keyed)(na nb:Nat):Prop:=Sd a b out na nb/\1<=na/\na<=a.size/\2<=nb/\nb<=b.size/\na+nb+p<=a.size+b.size
def Bm(a b:Array Keyed)(p:Nat)(SH:SortSt)(r:ForInStep D2)(st':SortSt):Prop:=Sm SH st'/\match r with
 | .done c=>(∃x,c.1=⇑x/\Res a b x)\/(c.1=none/\jR a b p c.2.2.2.1 c.2.1 c.2.2.1)
 | .yield c=>c.1=none/\jR a b p c.2.2.2.1 c.2.1 c.2.2.1
structure Wx (a b:Array Keyed):Prop where
 sa:Tf a.toList
 sb:Tf b.toList
 ka:IntKeys a
 kb:IntKeys b
 hf:∀y∈a.toList,∀h:0<b.size,key b[0]<key y
theorem Wx.hf'(T:Wx a b):∀y∈a.toList,∀h:0<b.size,key b[0]<=key y:=λy hy h=>Int.le_of_lt (T.hf y hy h)
theorem Sd.V8(sa:Tf a.toList)(h:Sd a b out na nb)(h1:1<=na)(ha:na<=a.size)(hc:∀y∈b.toList.take nb,key y<=key (a[na - 1]'⋯)):Sd a b (out.push (a[na - 1]'⋯)) (na - 1) nb:=by
 obtain⟨m,rfl⟩:∃m,na=m+1:=⟨na - 1,⋯⟩;exact h.Va sa ⋯ hc
theorem Sd.Xk(sb:Tf b.toList)(h:Sd a b out na nb)(h1:1<=nb)(hb:nb<=b.size)(hc:∀y∈a.toList.take na,key y<=key (b[nb - 1]'⋯)):Sd a b (out.push (b[nb - 1]'⋯)) na (nb - 1):=by
 obtain⟨m,rfl⟩:∃m,nb=m+1:=⟨nb - 1,⋯⟩;exact h.UE sb ⋯ hc
theorem Sd.YF(sa:Tf a.toList)(h:Sd a b out na nb)(hk:k<=na)(ha:na<=a.size)(hc:∀i,k<=i->i<na->∀hi:i<a.size,∀y∈b.toList.take nb,key y<=key a[i]):Sd a b (out++(a.extract k na).reverse) k nb:=by
 obtain⟨m,rfl⟩:∃m,na=k+m:=⟨na - k,⋯⟩;exact Sd.VB sa m out h ha hc
theorem Sd.YE(sb:Tf b.toList)(h:Sd a b out na nb)(hk:k<=nb)(hb:nb<=b.size)(hc:∀i,k<=i->i<nb->∀hi:i<b.size,∀y∈a.toList.take na,key y<=key b[i]):Sd a b (out++(b.extract k nb).reverse) na k:=by
 obtain⟨m,rfl⟩:∃m,nb=k+m:=⟨nb - k,⋯⟩;exact Sd.VA sb m out h hb hc
section
variable {prog : Program} {w : World} {A : Around} {E : Value -> Shared -> Prop} {s : Shared}
theorem KS{SH st:SortSt}{na nb p mg ac bc:Nat}(T:Wx a b)(hs:Sm SH st)(h:Sd a b out na nb)(h1:1<=na)(ha:na<=a.size)(h2:2<=nb)(hb:nb<=b.size)(hp:na+nb+p<=a.size+b.size+1)(hc:∀y∈b.toList.take nb,key y<=key (a[na - 1]'⋯)):
  wpS (model prog w) A E s (jw a b na mg ac bc out nb) (Bm a b p SH) st:=by
 unfold jw;refine wpS_bind (df (show na - 1<a.size by lia) ?_);have g:=h.V8 T.sa h1 ha hc;by_cases e1:na - 1=0
 ·rw[if_pos (by simpa using e1)]
  exact wpS_pure ⟨hs,.inl ⟨_,rfl,g.fin T.sa T.sb (.inl e1)⟩⟩
 ·rw[if_neg (by simpa using e1)]
  have g':jR a b p (out.push (a[na - 1]'⋯)) (na - 1) nb:=⟨g,⋯,⋯,h2,hb,⋯⟩;split
  ·exact wpS_pure ⟨hs,.inr ⟨rfl,g'⟩⟩
  ·exact wpS_pure ⟨hs,rfl,g'⟩
theorem IP{SH st:SortSt}{na nb p mg ac bc:Nat}(hk:kindOf SH=oneType')(T:Wx a b)(hs:Sm SH st)(h:Sd a b out na nb)(h1:1<=na)(ha:na<=a.size)(h2:2<=nb)(hb:nb<=b.size)(hp:na+nb+p<=a.size+b.size+1)(hc:∀y∈a.toList.take na,key y<=key (b[nb - 1]'⋯)):
  wpS (model prog w) A E s (ik a b nb mg ac bc out na) (Bm a b p SH) st:=by
 unfold ik;refine wpS_bind (df (show nb - 1<b.size by lia) ?_);have g:=h.Xk T.sb ⋯ hb hc;by_cases e1:nb - 1=1
 ·rw[if_pos (by simpa using e1)]
  exact wpS_pure ⟨hs,.inl ⟨_,rfl,g.fst T.sa T.sb T.hf' e1⟩⟩
 ·rw[if_neg (by simpa using e1)]
  refine wpS_bind (df (show na - 1<a.size by lia) ?_);obtain⟨t,et⟩:=gO T.ka (show na - 1<a.size by lia);refine wpS_bind (tw (hs.1.trans hk) et T.kb ⋯ ⋯ (i9 T.sb ⋯) λk hkn g1 g2=> ?_);dsimp only;have c1:∀i,k<=i->i<nb - 1->∀hi:i<b.size,∀y∈a.toList.take na,key y<=key b[i]:=λi gN iA hi' y hy=>by
   have:=g2 i gN iA;rw[sL (show 0+i<b.size by lia)]at this;obtain⟨j,hj,Th,rfl⟩:=iP.mp hy;have h3:=T.sa.at (show na - 1<a.size by lia) (show j<=na - 1 by lia);have h4:¬key (b[0+i]'⋯)<key (a[na - 1]'⋯):=by simpa using this
   simp only[u6]at h4
   lia
  have c2:∀y∈b.toList.take k,key y<=key (a[na - 1]'⋯):=λy hy=>by
   obtain⟨j,hj,Th,rfl⟩:=iP.mp hy;have:=g1 j Th;rw[sL (show 0+j<b.size by lia)]at this;have h4:key (b[0+j]'⋯)<key (a[na - 1]'⋯):=by simpa using this
   simp only[u6]at h4
   lia
  by_cases q:nb - 1 - k>0
  ·rw[if_pos q]
   have g3:=g.YE T.sb (show k<=nb - 1 by lia) ⋯ c1;by_cases e2:k=1
   ·rw[if_pos (by simpa using e2)]
    exact wpS_pure ⟨hs,.inl ⟨_,rfl,g3.fst T.sa T.sb T.hf' e2⟩⟩
   ·rw[if_neg (by simpa using e2)]
    by_cases e3:k=0
    ·rw[if_pos (by simpa using e3)]
     exact wpS_pure ⟨hs,.inl ⟨_,rfl,g3.fin T.sa T.sb (.inr e3)⟩⟩
    ·rw[if_neg (by simpa using e3)]
     exact KS T hs g3 h1 ha ⋯ ⋯ ⋯ c2
  ·rw[if_neg q]
   have:k=nb - 1:=⋯;subst this;exact KS T hs g h1 ha ⋯ ⋯ ⋯ c2
theorem HV{SH st:SortSt}(hk:kindOf SH=oneType')(T:Wx a b)(hs:Sm SH st)(h:Sd a b out na nb)(h1:1<=na)(ha:na<=a.size)(h2:2<=nb)(hb:nb<=b.size)(hp:na+nb+p<=a.size+b.size+1):
  wpS (model prog w) A E s (iv a b na nb out ac bc mg) (Bm a b p SH) st:=by
 unfold iv;refine wpS_bind (BN λst1 hh=> ?_);have hs1:=hs.trans hh;refine wpS_bind (df (show nb - 1<b.size by lia) ?_);obtain⟨t,et⟩:=gO T.kb (show nb - 1<b.size by lia);refine wpS_bind (tw (hs1.1.trans hk) et T.ka ⋯ ⋯ (i9 T.sa ⋯) λk hkn g1 g2=> ?_);dsimp only;have c1:∀i,k<=i->i<na->∀hi:i<a.size,∀y∈b.toList.take nb,key y<=key a[i]:=λi gN iA hi' y hy=>by
  have:=g2 i gN iA;rw[sE (show 0+i<a.size by lia)]at this;obtain⟨j,hj,Th,rfl⟩:=iP.mp hy;have h3:=T.sb.at (show nb - 1<b.size by lia) (show j<=nb - 1 by lia);have h4:key (b[nb - 1]'⋯)<key (a[0+i]'⋯):=by simpa using this
  simp only[u6]at h4
  lia
 have c2:∀y∈a.toList.take k,key y<=key (b[nb - 1]'⋯):=λy hy=>by
  obtain⟨j,hj,Th,rfl⟩:=iP.mp hy;have:=g1 j Th;rw[sE (show 0+j<a.size by lia)]at this;have h4:¬key (b[nb - 1]'⋯)<key (a[0+j]'⋯):=by simpa using this
  simp only[u6]at h4
  lia
 by_cases q:na - k>0
 ·rw[if_pos q]
  have g3:=h.YF T.sa (show k<=na by lia) ha c1;by_cases e2:k=0
  ·rw[if_pos (by simpa using e2)]
   exact wpS_pure ⟨hs1,.inl ⟨_,rfl,g3.fin T.sa T.sb (.inl e2)⟩⟩
  ·rw[if_neg (by simpa using e2)]
   exact IP hk T hs1 g3 ⋯ ⋯ h2 hb ⋯ c2
 ·rw[if_neg q]
  have:k=na:=⋯;subst this;exact IP hk T hs1 h h1 ha h2 hb hp c2
theorem PQ{SH st:SortSt}(hk:kindOf SH=oneType')(T:Wx a b)(hs:Sm SH st)(g:jR a b p out na nb){Q:D1->SortSt->Prop}
  (q1:∀c st',Sm SH st'->(∃r,c.1=⇑r/\Res a b r)->Q c st') (q2:∀out Wa V_ ac bc st',Sm SH st'->jR a b (p+1) out Wa V_->Q (none,Wa,V_,out,ac,bc) st'):
  wpS (model prog w) A E s (forIn [0:a.size+b.size] ((none,na,nb,out,0,0):D1) λ_ c=>gN a b mg c) Q st:=by
 refine wpS_forRange (I:=λx c st'=>Sm SH st'/\∃out Wa V_ ac bc,c=(none,Wa,V_,out,ac,bc)/\jR a b (p+x) out Wa V_) ?step ?fin ⟨hs,out,na,nb,0,0,rfl,g⟩
 case fin=>
  rintro c st' ⟨SF,out,Wa,V_,ac,bc,rfl,g1,g2,g3,g4,g5,g6⟩;exact absurd g6 ⋯
 case step=>
  rintro x c st' _ hx ⟨SF,out,Wa,V_,ac,bc,rfl,g1,g2,g3,g4,g5,g6⟩;unfold gN;dsimp only;refine wpS_bind (df (show V_ - 1<b.size by lia) (wpS_bind (df (show Wa - 1<a.size by lia) ?_)));obtain⟨t,et⟩:=gO T.kb (show V_ - 1<b.size by lia);obtain⟨u,eu⟩:=gO T.ka (show Wa - 1<a.size by lia);refine wpS_bind (Be (SF.1.trans hk) et eu ?_);dsimp only;by_cases q:key (b[V_ - 1]'⋯)<key (a[Wa - 1]'⋯)
  ·simp only[q,decide_true,if_true]
   refine wpS_bind (df (show Wa - 1<a.size by lia) ?_);have h2:=g1.V8 T.sa g2 g3 λy hy=>by
    obtain⟨j,hj,Th,rfl⟩:=iP.mp hy;have:=T.sb.at (show V_ - 1<b.size by lia) (show j<=V_ - 1 by lia)
    lia
   by_cases e1:Wa - 1=0
   ·rw[if_pos (by simpa using e1)]
    exact wpS_pure (q1 _ _ SF ⟨_,rfl,h2.fin T.sa T.sb (.inl e1)⟩)
   ·rw[if_neg (by simpa using e1)]
    split
    ·exact wpS_pure (q2 _ _ _ _ _ _ SF ⟨h2,⋯,⋯,g4,g5,⋯⟩)
    ·exact wpS_pure ⟨SF,_,_,_,_,_,rfl,h2,⋯,⋯,g4,g5,⋯⟩
  ·simp only[q,decide_false,qu,if_false]
   refine wpS_bind (df (show V_ - 1<b.size by lia) ?_);have h2:=g1.Xk T.sb ⋯ g5 λy hy=>by
    obtain⟨j,hj,Th,rfl⟩:=iP.mp hy;have:=T.sa.at (show Wa - 1<a.size by lia) (show j<=Wa - 1 by lia)
    lia
   by_cases e1:V_ - 1=1
   ·rw[if_pos (by simpa using e1)]
    exact wpS_pure (q1 _ _ SF ⟨_,rfl,h2.fst T.sa T.sb T.hf' e1⟩)
   ·rw[if_neg (by simpa using e1)]
    split
    ·exact wpS_pure (q2 _ _ _ _ _ _ SF ⟨h2,g2,g3,⋯,⋯,⋯⟩)
    ·exact wpS_pure ⟨SF,_,_,_,_,_,rfl,h2,g2,g3,⋯,⋯,⋯⟩
theorem QX{st:SortSt}{Q:Array Keyed->SortSt->Prop}(hk:kindOf st=oneType')(T:Wx a b)(ha:0<a.size)(hb:0<b.size)(hba:key (b[b.size - 1]'⋯)<=key (a[a.size - 1]'⋯))(h:∀out st',Sm st st'->Res a b out->Q out st'):
  wpS (model prog w) A E s (J7 a b) Q st:=by
 rw[Pm];refine wpS_bind (wpS_lift (wpAny_rule ⟨rfl,?_⟩));refine wpS_bind (df (show a.size - 1<a.size by lia) ?_);have i0:Sd a b #[] a.size b.size:=⟨by simp[wk],List.Pairwise.nil,λx hx=>by simp at hx,λx hx=>by simp at hx⟩;have i1:=i0.V8 T.sa ⋯ (qd _) λy hy=>by
  obtain⟨j,hj,Th,rfl⟩:=iP.mp hy;have:=T.sb.at (show b.size - 1<b.size by lia) (show j<=b.size - 1 by lia)
  lia
 have i1:Sd a b #[a[a.size - 1]'⋯] (a.size - 1) b.size:=i1;by_cases e1:a.size - 1=0
 ·rw[if_pos (by simpa using e1)]
  exact wpS_pure (h _ _ (Sm.refl st) (i1.fin T.sa T.sb (.inl e1)))
 ·rw[if_neg (by simpa using e1)]
  by_cases e2:b.size=1
  ·rw[if_pos (by simpa using e2)]
   exact wpS_pure (h _ _ (Sm.refl st) (i1.fst T.sa T.sb T.hf' e2))
  ·rw[if_neg (by simpa using e2)]
   refine wpS_bind (wpS_get ?_);refine wpS_bind (wpS_mono (wpS_forRange (I:=λx c st'=>Sm st st'/\∃out na nb mg,c=(none,na,nb,out,mg)/\jR a b x out na nb) (Q:=λc st'=>Sm st st'/\∃r,c.1=⇑r/\Res a b r) ?step ?fin ⟨Sm.refl st,_,_,_,_,rfl,i1,⋯,⋯,⋯,⋯,⋯⟩) ?post)
   case fin=>
    rintro c st' ⟨hs,out,na,nb,mg,rfl,g1,g2,g3,g4,g5,g6⟩;exact absurd g6 ⋯
   case post=>
    rintro⟨c,d⟩ st' ⟨hs,r,rfl,hr⟩;exact wpS_pure (h _ _ hs hr)
   case step=>
    rintro x c st' _ hx ⟨hs,out,na,nb,mg,rfl,g⟩;unfold wU;dsimp only;refine wpS_bind ?_;refine PQ hk T hs g (λc st' SF ⟨r,e,hr⟩=> ?_) (λout Wa V_ ac bc st' SF g'=> ?_)
    ·obtain⟨c,d⟩:=c
     subst e;exact wpS_pure ⟨SF,r,rfl,hr⟩
    ·dsimp only
     refine wpS_bind (wpS_lift (wpAny_rule ⟨rfl,?_⟩));refine wpS_bind (wpS_mono (wpS_forRange (I:=λy c st'=>Sm st st'/\c.1=none/\jR a b (x+1+y) c.2.2.2.1 c.2.1 c.2.2.1) (Q:=λc st'=>Sm st st'/\((∃r,c.1=⇑r/\Res a b r)\/(c.1=none/\jR a b (x+1) c.2.2.2.1 c.2.1 c.2.2.1))) ?st2 ?fi2 ⟨SF,rfl,g'⟩) ?po2)
     case fi2=>
      rintro c st' ⟨hs,e,g1,g2,g3,g4,g5,g6⟩;exact absurd g6 ⋯
     case st2=>
      rintro y c st' _ hy ⟨hs,e,g1,g2,g3,g4,g5,g6⟩;refine wpS_mono (Q:=Bm a b (x+1+(y+1)) st) ?_ λr st' hP=> ?_
      rotate_left
      ·obtain⟨hs,hr⟩:=hP
       cases r with
       | done c=>
        refine⟨hs,?_⟩;rcases hr with hr|⟨e,g1,g2,g3,g4,g5,g6⟩
        ·exact .inl hr
        ·exact .inr ⟨e,g1,g2,g3,g4,g5,⋯⟩
       | yield c=>exact⟨hs,hr⟩
      unfold iA;split
      ·exact HV hk T hs g1 g2 g3 g4 g5 ⋯
      ·exact HV hk T hs g1 g2 g3 g4 g5 ⋯
     case po2=>
      rintro⟨r,na2,nb2,out2,mg2,ac2,bc2⟩ st' ⟨hs,hr⟩;rcases hr with⟨r,e,hr⟩|⟨e,g⟩
      ·have e:_=⇑r:=e
       subst e;exact wpS_pure ⟨hs,r,rfl,hr⟩
      ·have e:_=none:=e
       subst e;dsimp only;exact wpS_bind (BN λXh h3=>wpS_pure ⟨hs.trans h3,_,_,_,_,rfl,g⟩)
end
noncomputable def put(off:Nat)(l:List (Keyed×Nat))(arr:Array Keyed):Array Keyed:=l.foldl (λa (p:Keyed×Nat)=>a.setIfInBounds (off+p.2) p.1) arr
theorem Jr(off:Nat):∀(l:List (Keyed×Nat)) (arr:Array Keyed),(put off l arr).size=arr.size
 | [],arr=>rfl
 | p::l,arr=>by
  show(put off l (arr.setIfInBounds (off+p.2) p.1)).size=_;rw[Jr off l];simp
theorem Dq(off:Nat):∀(l:List Keyed) (n:Nat) (arr:Array Keyed) (i:Nat),off+n+l.length<=arr.size->(put off (l.zipIdx n) arr)[i]?=if off+n<=i/\i<off+n+l.length then l[i - (off+n)]? else arr[i]?
 | [],n,arr,i,h=>by
  rw[if_neg (by simp only[zn];lia)];rfl
 | p::l,n,arr,i,h=>by
  rw[List.zipIdx_cons];show(put off (l.zipIdx (n+1)) (arr.setIfInBounds (off+n) p))[i]?=_;have hl:(p::l).length=l.length+1:=rfl;rw[hl]at h ⊢;rw[Dq off l (n+1) _ i (by simp;lia)];by_cases e1:i=off+n
  ·subst e1
   rw[if_neg ⋯,if_pos ⋯];simp[show off+n<arr.size by lia]
  ·by_cases e2:off+(n+1)<=i/\i<off+(n+1)+l.length
   ·rw[if_pos e2,if_pos ⋯]
    obtain⟨m,em⟩:∃m,i - (off+n)=m+1:=⟨i - (off+n) - 1,⋯⟩;rw[em,show i - (off+(n+1))=m by lia];rfl
   ·rw[if_neg e2,if_neg ⋯]
    rw[Array.getElem?_setIfInBounds];rw[if_neg ⋯]
theorem Ow(off:Nat)(l:List Keyed)(arr:Array Keyed)(h:off+l.length<=arr.size):(put off (l.zipIdx) arr).toList=arr.toList.take off++(l++arr.toList.drop (off+l.length)):=by
 apply gg;intro i;have e:=Dq off l 0 arr i ⋯;rw[Array.getElem?_toList,e];simp only[Nat.add_zero];have lt:(arr.toList.take off).length=off:=by simp;lia
 by_cases h1:i<off
 ·rw[if_neg ⋯,qr (by rw[lt];exact h1),gy,if_pos h1,Array.getElem?_toList]
 ·rw[ze (by rw[lt];lia),lt]
  by_cases h2:i<off+l.length
  ·rw[if_pos ⋯,qr ⋯]
  ·rw[if_neg ⋯,ze ⋯,List.getElem?_drop,Array.getElem?_toList]
   congr 1;lia
def Ut(arr:Array Keyed)(i j:Nat):Prop:=∀p q,i<=p->p<=q->q<j->K arr p<=K arr q
theorem Ut.at(h:Ut arr i j)(h1:i<=p)(h2:p<=q)(h3:q<j)(hj:j<=arr.size):key (arr[p]'⋯)<=key (arr[q]'⋯):=by
 have:=h p q h1 h2 h3
 rwa [eQ (show p<arr.size by lia),eQ (show q<arr.size by lia)]at this
theorem zI{arr:Array Keyed}(hj:j<=arr.size)(hk:k<(arr.extract i j).size):∃h:i+k<arr.size,(arr.extract i j)[k]=arr[i+k]:=by
 have:(arr.extract i j).size=min j arr.size - i:=Array.size_extract;exact⟨⋯,Array.getElem_extract ..⟩
theorem Ay{arr:Array Keyed}(hj:j<=arr.size):(arr.extract i j).size=j - i:=by
 have:(arr.extract i j).size=min j arr.size - i:=Array.size_extract
 lia
theorem K7(h:Ut arr i j)(hj:j<=arr.size):Tf (arr.extract i j).toList:=by
 refine List.pairwise_iff_getElem.mpr λp q hp hq hpq=> ?_;simp only[Array.getElem_toList];have Wc:p<(arr.extract i j).size:=by rw[<-Array.length_toList];exact hp
 have Yi:q<(arr.extract i j).size:=by rw[<-Array.length_toList];exact hq
 obtain⟨a1,e1⟩:=zI hj Wc;obtain⟨a2,e2⟩:=zI hj Yi;rw[e1,e2];rw[Ay hj]at Yi;exact h.at ⋯ ⋯ ⋯ hj
theorem Kb{arr:Array Keyed}(h:IntKeys arr):IntKeys (arr.extract i j):=λp hp=>h p (by
 rw[Array.toList_extract]at hp;exact wy (zx hp))
theorem B3{arr:Array Keyed}(hj:j<=arr.size)(hy:y∈(arr.extract i j).toList):∃p,∃h:p<arr.size,i<=p/\p<j/\y=arr[p]:=by
 obtain⟨k,hk,rfl⟩:=wx.mp hy;have hk':k<(arr.extract i j).size:=by rw[<-Array.length_toList];exact hk
 obtain⟨a1,e1⟩:=zI hj hk';rw[Ay hj]at hk';exact⟨i+k,a1,⋯,⋯,by rw[Array.getElem_toList,e1]⟩
structure Ok (a₀:Array Keyed) (st:SortSt):Prop where
 perm:(arrOf st).Perm a₀
 kind:kindOf st=oneType'
 failed:failedOf st=none
theorem Ok.size{st:SortSt}(h:Ok a₀ st):(arrOf st).size=a₀.size:=h.perm.size_eq
theorem Ok.keys{st:SortSt}(h:Ok a₀ st)(h0:IntKeys a₀):IntKeys (arrOf st):=λp hp=>h0 p ((Array.perm_iff_toList_perm.mp h.perm).mem_iff.mp hp)
section
variable {prog : Program} {w : World} {A : Around} {E : Value -> Shared -> Prop} {s : Shared} {a₀ : Array Keyed}
theorem Ql{σ:Type}{x st:σ}{Q:PUnit->σ->Prop}(h:Q ⟨⟩ x):wpS M A E s (set x:StateT σ Sem PUnit) Q st:=by
 unfold wpS;rw[StateT.run_set];exact wpAny_pure ⟨rfl,h⟩
theorem Q4{st:SortSt}{Q:Bool->SortSt->Prop}(h0:IntKeys a₀)(hB:Ok a₀ st)(p1:(pendingOf st)[i]?=⇑(sa,na,pw))(p2:(pendingOf st)[i+1]?=⇑(sa+na,nb,XQ))(n1:1<=na)(n2:1<=nb)(hn:sa+na+nb<=a₀.size)
  (s1:Ut (arrOf st) sa (sa+na)) (s2:Ut (arrOf st) (sa+na) (sa+na+nb))
  (h:∀st',Ok a₀ st'->pendingOf st'=((pendingOf st).setIfInBounds i (sa,na+nb,pw)).eraseIdxIfInBounds (i+1)->(∀j,j<sa\/sa+na+nb<=j->K (arrOf st') j=K (arrOf st) j)->Ut (arrOf st') sa (sa+na+nb)->Q true st'):
  wpS (model prog w) A E s (mergeAt' i) Q st:=by
 obtain⟨kd,X,P0,mgl,fl⟩:=st;have hz:X.size=a₀.size:=hB.size;have hK:IntKeys X:=hB.keys h0
 replace p1:P0[i]?=⇑(sa,na,pw):=p1
 replace p2:P0[i+1]?=⇑(sa+na,nb,XQ):=p2
 replace s1:Ut X sa (sa+na):=s1
 replace s2:Ut X (sa+na) (sa+na+nb):=s2
 replace h:∀st',Ok a₀ st'->pendingOf st'=(P0.setIfInBounds i (sa,na+nb,pw)).eraseIdxIfInBounds (i+1)->(∀j,j<sa\/sa+na+nb<=j->K (arrOf st') j=K X j)->Ut (arrOf st') sa (sa+na+nb)->Q true st':=h
 have hX:arrOf (SortSt.mk' kd X P0 mgl fl)=X:=rfl;have p1':(P0[i]?,P0[i+1]?)=(⇑(sa,na,pw),⇑(sa+na,nb,XQ)):=by rw[p1,p2]
 unfold mergeAt';refine wpS_bind (wpS_get ?_);dsimp only;rw[p1'];refine wpS_bind (Ql ?_);generalize hP:(P0.setIfInBounds i (sa,na+nb,pw)).eraseIdxIfInBounds (i+1)=P at h ⊢;have Z6:Ok a₀ (SortSt.mk' kd X P mgl fl):=⟨hB.perm,hB.kind,hB.failed⟩;have hA:arrOf (SortSt.mk' kd X P mgl fl)=X:=rfl;refine wpS_bind (df (show sa+na<X.size by lia) ?_);obtain⟨t,et⟩:=gO hK (show sa+na<X.size by lia);refine wpS_bind (tw (left:=false) Z6.kind et hK ⋯ ⋯ (λp q h1 h2=>s1 _ _ ⋯ ⋯ ⋯) λk hkn g1 g2=> ?_);dsimp only;have c1:∀p,sa<=p->p<sa+k->∀hp:p<X.size,key X[p]<=key (X[sa+na]'⋯):=λp h1 h2 hp=>by
  have:=g1 (p - sa) ⋯;rw[sE (show sa+(p - sa)<X.size by lia)]at this;have h4:¬key (X[sa+na]'⋯)<key (X[sa+(p - sa)]'⋯):=by simpa using this
  have e:sa+(p - sa)=p:=⋯;simp only[e]at h4
  lia
 by_cases z1:na - k=0
 ·rw[if_pos (by simpa using z1)]
  refine wpS_pure (h _ Z6 rfl (λj _=>by rw[hA]) ?_);rw[hA];intro p q h1 h2 h3;by_cases hq:q<sa+na
  ·exact s1 p q h1 h2 hq
  ·by_cases hp:p<sa+na
   ·have a1:=c1 p h1 ⋯ ⋯
    have a2:=s2 (sa+na) q ⋯ ⋯ h3;rw[eQ (show p<X.size by lia)];rw[eQ (show sa+na<X.size by lia)]at a2
    lia
   ·exact s2 p q ⋯ h2 h3
 ·rw[if_neg (by simpa using z1)]
  have c2:∀p,sa+k<=p->p<sa+na->∀hp:p<X.size,key (X[sa+na]'⋯)<key X[p]:=λp h1 h2 hp=>by
   have:=g2 (p - sa) ⋯ ⋯;rw[sE (show sa+(p - sa)<X.size by lia)]at this;have h4:key (X[sa+na]'⋯)<key (X[sa+(p - sa)]'⋯):=by simpa using this
   have e:sa+(p - sa)=p:=⋯;simp only[e]at h4;exact h4
  have eL:sa+k+(na - k) - 1=sa+na - 1:=⋯;rw[eL];refine wpS_bind (df (show sa+na - 1<X.size by lia) ?_);obtain⟨u,eu⟩:=gO hK (show sa+na - 1<X.size by lia);refine wpS_bind (tw (left:=true) Z6.kind eu hK ⋯ ⋯ (λp q h1 h2=>s2 _ _ ⋯ ⋯ ⋯) λm hmn g3 g4=> ?_);dsimp only;have c3:∀p,sa+na<=p->p<sa+na+m->∀hp:p<X.size,key X[p]<key (X[sa+na - 1]'⋯):=λp h1 h2 hp=>by
   have:=g3 (p - (sa+na)) ⋯;rw[sL (show sa+na+(p - (sa+na))<X.size by lia)]at this;have h4:key (X[sa+na+(p - (sa+na))]'⋯)<key (X[sa+na - 1]'⋯):=by simpa using this
   have e:sa+na+(p - (sa+na))=p:=⋯;simp only[e]at h4;exact h4
  have c4:∀p,sa+na+m<=p->p<sa+na+nb->∀hp:p<X.size,key (X[sa+na - 1]'⋯)<=key X[p]:=λp h1 h2 hp=>by
   have:=g4 (p - (sa+na)) ⋯ ⋯;rw[sL (show sa+na+(p - (sa+na))<X.size by lia)]at this;have h4:¬key (X[sa+na+(p - (sa+na))]'⋯)<key (X[sa+na - 1]'⋯):=by simpa using this
   have e:sa+na+(p - (sa+na))=p:=⋯;simp only[e]at h4
   lia
  by_cases z2:m=0
  ·rw[if_pos (by simpa using z2)]
   refine wpS_pure (h _ Z6 rfl (λj _=>by rw[hA]) ?_);rw[hA];intro p q h1 h2 h3;by_cases hq:q<sa+na
   ·exact s1 p q h1 h2 hq
   ·by_cases hp:p<sa+na
    ·have a1:=c4 q ⋯ h3 ⋯
     have a2:=s1 p (sa+na - 1) h1 ⋯ ⋯;rw[eQ (show q<X.size by lia)];rw[eQ (show sa+na - 1<X.size by lia)]at a2
     lia
    ·exact s2 p q ⋯ h2 h3
  ·rw[if_neg (by simpa using z2)]
   have hx:(X.extract (sa+k) (sa+na)).size=na - k:=by rw[Ay ⋯];lia
   have hy:(X.extract (sa+na) (sa+na+m)).size=m:=by rw[Ay ⋯];lia
   have sx:Tf (X.extract (sa+k) (sa+na)).toList:=K7 (λp q h1 h2 h3=>s1 p q ⋯ h2 h3) ⋯;have sy:Tf (X.extract (sa+na) (sa+na+m)).toList:=K7 (λp q h1 h2 h3=>s2 p q h1 h2 ⋯) ⋯;have end_:∀(M:Array Keyed) (st2:SortSt),Sm (SortSt.mk' kd X P mgl fl) st2->Res (X.extract (sa+k) (sa+na)) (X.extract (sa+na) (sa+na+m)) M->wpS (model prog w) A E s (do
     modify λs=>setArr s (put (sa+k) M.toList.zipIdx (arrOf s))
     return(failedOf (<-get)).isNone) Q st2:=by
    intro M st2 hs hr;refine wpS_bind (wpS_modify (wpS_bind (wpS_get (wpS_pure ?_))));have hA2:arrOf st2=X:=hs.2.1.trans hA;have hf:failedOf st2=none:=hs.2.2.2.trans hB.failed;have hML:M.toList.length=na - k+m:=by
     rw[hr.1.length_eq,zh];simp only[Array.length_toList]
     lia
    have pl:=Ow (sa+k) M.toList X ⋯;have pg:=λj=>Dq (sa+k) M.toList 0 X j ⋯;have psz:=Jr (sa+k) M.toList.zipIdx X;have YR:(put (sa+k) M.toList.zipIdx X).Perm a₀:=by
     refine Array.Perm.trans ?_ hB.perm;rw[Array.perm_iff_toList_perm,pl];have e2:X.toList=X.toList.take (sa+k)++(((X.extract (sa+k) (sa+na)).toList++(X.extract (sa+na) (sa+na+m)).toList)++X.toList.drop (sa+k+M.toList.length)):=by
      rw[Array.toList_extract,Array.toList_extract,hML,zw];have q1:(X.toList.drop (sa+k))=(X.toList.drop (sa+k)).take (na - k)++X.toList.drop (sa+na):=by
       have:=(wu (na - k) (X.toList.drop (sa+k))).symm;rw[List.drop_drop,show sa+k+(na - k)=sa+na by lia]at this;exact this
      have q2:(X.toList.drop (sa+na))=(X.toList.drop (sa+na)).take m++X.toList.drop (sa+na+m):=by
       have:=(wu m (X.toList.drop (sa+na))).symm;rw[List.drop_drop]at this;exact this
      show _=List.take (sa+k) X.toList++(List.take (sa+na - (sa+k)) (List.drop (sa+k) X.toList)++(List.take (sa+na+m - (sa+na)) (List.drop (sa+na) X.toList)++List.drop (sa+k+(na - k+m)) X.toList));rw[show sa+na - (sa+k)=na - k by lia,show sa+na+m - (sa+na)=m by lia,show sa+k+(na - k+m)=sa+na+m by lia,<-q2,<-q1,wu]
     rw[hX]
     conv=>rhs;rw[e2]
     exact List.Perm.append_left _ (List.Perm.append_right _ hr.1)
    have hEq:arrOf (setArr st2 (put (sa+k) M.toList.zipIdx (arrOf st2)))=put (sa+k) M.toList.zipIdx X:=by show put _ _ (arrOf st2)=_;rw[hA2]
    have hres:(failedOf (setArr st2 (put (sa+k) M.toList.zipIdx (arrOf st2)))).isNone=true:=by show(failedOf st2).isNone=true;rw[hf];rfl
    rw[hres];refine h _ ⟨by rw[hEq];exact YR,hs.1.trans hB.kind,hf⟩ (hs.2.2.1.trans rfl) ?_ ?_
    ·intro j hj
     rw[hEq];unfold K;rw[pg j,if_neg ⋯]
    ·rw[hEq]
     have KM:∀p,sa+k<=p->p<sa+na+m->∃hp:p - (sa+k)<M.toList.length,K (put (sa+k) M.toList.zipIdx X) p=key (M.toList[p - (sa+k)]'hp):=λp h1 h2=>by
      have hp:p - (sa+k)<M.toList.length:=⋯;refine⟨hp,?_⟩;unfold K;rw[pg p,if_pos ⋯];simp only[Nat.add_zero];rw[qk hp]
     have KX:∀p,p<sa+k\/sa+na+m<=p->K (put (sa+k) M.toList.zipIdx X) p=K X p:=λp h1=>by
      unfold K;rw[pg p,if_neg ⋯]
     have mem:∀p,∀hp:p<M.toList.length,∃q,∃hq:q<X.size,sa+k<=q/\q<sa+na+m/\M.toList[p]=X[q]:=λp hp=>by
      have:=hr.1.mem_iff.mp (kt hp);rcases qv.mp this with hm|hm
      ·obtain⟨q,hq,a1,a2,e⟩:=B3 (show sa+na<=X.size by lia) hm
       exact⟨q,hq,a1,⋯,e⟩
      ·obtain⟨q,hq,a1,a2,e⟩:=B3 (show sa+na+m<=X.size by lia) hm
       exact⟨q,hq,⋯,a2,e⟩
     intro p q h1 h2 h3;by_cases hp1:p<sa+k
     ·rw[KX p (.inl hp1)]
      by_cases hq1:q<sa+k
      ·rw[KX q (.inl hq1)];exact s1 p q h1 h2 ⋯
      ·by_cases UB:q<sa+na+m
       ·obtain⟨hl,e⟩:=KM q ⋯ UB
        rw[e];obtain⟨r,Ur,a1,a2,e2⟩:=mem _ hl;rw[e2,eQ (show p<X.size by lia)];by_cases hr2:r<sa+na
        ·exact s1.at h1 ⋯ hr2 ⋯
        ·have b1:=c1 p h1 hp1 ⋯
         have b2:=s2.at (p:=sa+na) (q:=r) ⋯ ⋯ ⋯ ⋯
         lia
       ·rw[KX q (.inr ⋯),eQ (show p<X.size by lia),eQ (show q<X.size by lia)]
        have b1:=c1 p h1 hp1 ⋯;have b2:=s2.at (p:=sa+na) (q:=q) ⋯ ⋯ ⋯ ⋯
        lia
     ·by_cases hp2:p<sa+na+m
      ·obtain⟨hl,e⟩:=KM p ⋯ hp2
       rw[e];by_cases UB:q<sa+na+m
       ·obtain⟨hl2,e2⟩:=KM q ⋯ UB
        rw[e2];by_cases hpq:p=q
        ·subst hpq;exact wn _
        ·exact List.pairwise_iff_getElem.mp hr.2 _ _ hl hl2 ⋯
       ·rw[KX q (.inr ⋯),eQ (show q<X.size by lia)]
        obtain⟨r,Ur,a1,a2,e2⟩:=mem _ hl;rw[e2];by_cases hr2:r<sa+na
        ·have b1:=c4 q ⋯ h3 ⋯
         have b2:=s1.at (p:=r) (q:=sa+na - 1) ⋯ ⋯ ⋯ ⋯
         lia
        ·exact s2.at ⋯ ⋯ h3 ⋯
      ·rw[KX p (.inr ⋯),KX q (.inr ⋯)]
       exact s2 p q ⋯ h2 h3
   have kx:=Kb (i:=sa+k) (j:=sa+na) hK;have ky:=Kb (i:=sa+na) (j:=sa+na+m) hK;have Yj:∀y∈(X.extract (sa+na) (sa+na+m)).toList,∀hh:0<(X.extract (sa+k) (sa+na)).size,key y<key ((X.extract (sa+k) (sa+na))[(X.extract (sa+k) (sa+na)).size - 1]):=λy hy hh=>by
    obtain⟨q,hq,a1,a2,rfl⟩:=B3 (show sa+na+m<=X.size by lia) hy;obtain⟨b1,e⟩:=zI (arr:=X) (i:=sa+k) (j:=sa+na) (k:=(X.extract (sa+k) (sa+na)).size - 1) ⋯ ⋯;rw[e];have:=c3 q a1 a2 hq;have ei:sa+k+((X.extract (sa+k) (sa+na)).size - 1)=sa+na - 1:=⋯;simp only[ei];exact this
   have Xp:∀y∈(X.extract (sa+k) (sa+na)).toList,∀hh:0<(X.extract (sa+na) (sa+na+m)).size,key ((X.extract (sa+na) (sa+na+m))[0])<key y:=λy hy hh=>by
    obtain⟨q,hq,a1,a2,rfl⟩:=B3 (show sa+na<=X.size by lia) hy;obtain⟨b1,e⟩:=zI (arr:=X) (i:=sa+na) (j:=sa+na+m) (k:=0) ⋯ hh;rw[e];exact c2 q a1 a2 hq
   by_cases hle:na - k<=m
   ·rw[if_pos hle]
    refine wpS_bind (OH Z6.kind ⟨sx,sy,kx,ky,Yj⟩ ⋯ ⋯ (Int.le_of_lt (Xp _ (Array.getElem_mem_toList ⋯) ⋯)) λM st2 hs hr=> ?_);exact end_ M st2 hs hr
   ·rw[if_neg hle]
    refine wpS_bind (QX Z6.kind ⟨sx,sy,kx,ky,Xp⟩ ⋯ ⋯ (Int.le_of_lt (Yj _ (Array.getElem_mem_toList ⋯) ⋯)) λM st2 hs hr=> ?_);exact end_ M st2 hs hr
end
theorem iu{β:Type}{c:β}{F F':Nat->β->StateT SortSt Sem (ForInStep β)}(h:∀x c,F x c=F' x c):forIn [a:n] c F=forIn [a:n] c F':=by
 have:F=F':=funext λx=>funext λc=>h x c;rw[this]
structure Up (a₀:Array Keyed) (lo hi:Nat) (st st':SortSt):Prop where
 ok:Ok a₀ st'
 pend:pendingOf st'=pendingOf st
 same:∀j,j<lo\/hi<=j->K (arrOf st') j=K (arrOf st) j
theorem Up.refl{lo hi:Nat}{st:SortSt}(h:Ok a₀ st):Up a₀ lo hi st st:=⟨h,rfl,λ_ _=>rfl⟩
theorem Up.arr{lo hi:Nat}{st st':SortSt}(h:Up a₀ lo hi st st')(hp:xs.Perm (arrOf st'))(hk:∀j,j<lo\/hi<=j->K xs j=K (arrOf st') j):Up a₀ lo hi st (setArr st' xs):=
 ⟨⟨hp.trans h.ok.perm,h.ok.kind,h.ok.failed⟩,h.pend,λj hj=>(hk j hj).trans (h.same j hj)⟩
theorem Up.mirror{lo hi i j:Nat}{st st':SortSt}(h:Up a₀ lo hi st st')(hi':lo<=i)(hj:j<=hi)(hz:j<=(arrOf st').size):Up a₀ lo hi st (setArr st' (mirror (arrOf st') i j ((j - i) / 2))):=
 h.arr (mirror_perm _ _ _ _) λk hk=>by rw[K_mirror hz,if_neg ⋯]
noncomputable def kC(lo a nrem:Nat):StateT SortSt Sem AscSt:=
 forIn [a:nrem] ((none,a):AscSt) λ_ c=>do
  let x<-ltAt' (lo+c.2) (lo+c.2 - 1)
  match x with
  | some T8=>if T8=true then pure (ForInStep.done (none,c.2))else pure (ForInStep.yield (none,c.2+1))
  | _=>pure (ForInStep.done (⇑none,c.2))
def nO(lo n nrem:Nat):StateT SortSt Sem (Option Nat):=do
 reverseSlice' lo (lo+n)
 let c<-kC lo n nrem
 match c.1 with
 | some r=>pure r
 | none=>pure ⇑c.2
noncomputable def DH(lo n nrem:Nat):StateT SortSt Sem DescSt:=
 forIn [n:nrem] ((none,n,0):DescSt) λ_ c=>do
  let x<-ltAt' (lo+c.2.1) (lo+c.2.1 - 1)
  match x with
  | some T8=>
   if T8=true then
    if c.2.2>0 then do
     reverseSlice' (lo+c.2.1 - (c.2.2+1)) (lo+c.2.1)
     pure (ForInStep.yield (none,c.2.1+1,0))
    else pure (ForInStep.yield (none,c.2.1+1,0))
   else do
    let x<-ltAt' (lo+c.2.1 - 1) (lo+c.2.1)
    match x with
    | some YI=>if YI=true then pure (ForInStep.done (none,c.2.1,c.2.2))else pure (ForInStep.yield (none,c.2.1+1,c.2.2+1))
    | _=>pure (ForInStep.done (⇑none,c.2.1,c.2.2))
  | _=>pure (ForInStep.done (⇑none,c.2.1,c.2.2))
def sW(lo n nrem:Nat):StateT SortSt Sem (Option Nat):=do
 liftM (rule "list.sort.descending-run")
 let c<-DH lo (n+1) nrem
 match c.1 with
 | some r=>pure r
 | none=>
  if c.2.2>0 then do
   reverseSlice' (lo+c.2.1 - (c.2.2+1)) (lo+c.2.1)
   nO lo c.2.1 nrem
  else nO lo c.2.1 nrem
theorem P9(lo nrem:Nat):countRun' lo nrem=(do
  let c<-kC lo 1 nrem
  match c.1 with
  | some r=>pure r
  | none=>
   if(c.2==nrem)=true then pure ⇑c.2
   else if c.2>1 then do
    let x<-ltAt' lo (lo+c.2 - 1)
    match x with
    | some rose=>if rose=true then pure ⇑c.2 else do
      reverseSlice' lo (lo+c.2)
      sW lo c.2 nrem
    | _=>pure none
   else sW lo c.2 nrem):=by
 rw[countRun'_eq];have tl:∀n,(do
   reverseSlice' lo (lo+n)
   let c<-forIn [n:nrem] ((none,n):AscSt) λ_ c=>do
    let x<-ltAt' (lo+c.2) (lo+c.2 - 1)
    match x with
    | some T8=>if T8=true then pure (ForInStep.done (none,c.2))else pure (ForInStep.yield (none,c.2+1))
    | _=>pure (ForInStep.done (⇑none,c.2))
   match c.1 with
   | some r=>pure r
   | none=>pure ⇑c.2:StateT SortSt Sem (Option Nat))=nO lo n nrem:=λn=>rfl
 refine ba (iu λx c=> ?_) λc=> ?_
 ·refine ba rfl λr=> ?_
  cases r with
  | none=>rfl
  | some r=>cases r<;>rfl
 ·obtain⟨r,n⟩:=c
  cases r with
  | some r=>rfl
  | none=>
   refine bN rfl (bN ?_ ?_)
   ·refine ba rfl λx=> ?_
    cases x with
    | none=>rfl
    | some rose=>
     refine bN rfl (ba rfl λ_=> ?_);unfold sW;refine ba rfl λ_=>ba (iu λx c=> ?_) λc=> ?_
     ·refine ba rfl λr=> ?_
      cases r with
      | none=>rfl
      | some r=>
       cases r with
       | true=>rfl
       | false=>
        refine ba rfl λr=> ?_;cases r with
        | none=>rfl
        | some r=>cases r<;>rfl
     ·obtain⟨r,n,q⟩:=c
      cases r with
      | some r=>rfl
      | none=>
       refine bN (ba rfl λ_=> ?_) ?_
       all_goals
        unfold nO;refine ba rfl λ_=>ba (iu λx c=> ?_) λc=> ?_
        ·refine ba rfl λr=> ?_
         cases r with
         | none=>rfl
         | some r=>cases r<;>rfl
        ·obtain⟨r,n⟩:=c
         cases r<;>rfl
   ·unfold sW
    refine ba rfl λ_=>ba (iu λx c=> ?_) λc=> ?_
    ·refine ba rfl λr=> ?_
     cases r with
     | none=>rfl
     | some r=>
      cases r with
      | true=>rfl
      | false=>
       refine ba rfl λr=> ?_;cases r with
       | none=>rfl
       | some r=>cases r<;>rfl
    ·obtain⟨r,n,q⟩:=c
     cases r with
     | some r=>rfl
     | none=>
      refine bN (ba rfl λ_=> ?_) ?_
      all_goals
       unfold nO;refine ba rfl λ_=>ba (iu λx c=> ?_) λc=> ?_
       ·refine ba rfl λr=> ?_
        cases r with
        | none=>rfl
        | some r=>cases r<;>rfl
       ·obtain⟨r,n⟩:=c
        cases r<;>rfl
def sF(arr:Array Keyed)(i j:Nat):Prop:=∀p q,i<=p->p<=q->q<j->K arr q<=K arr p
section
variable {prog : Program} {w : World} {A : Around} {E : Value -> Shared -> Prop} {s : Shared} {a₀ : Array Keyed}
theorem uQ{st:SortSt}{Q:Option Bool->SortSt->Prop}(hB:Ok a₀ st)(h0:IntKeys a₀)(hi:i<a₀.size)(hj:j<a₀.size)(h:Q ⇑(decide (K (arrOf st) i<K (arrOf st) j)) st):wpS (model prog w) A E s (ltAt' i j) Q st:=by
 have hz:=hB.size;have hK:=hB.keys h0;have hi':i<(arrOf st).size:=⋯;have hj':j<(arrOf st).size:=⋯;obtain⟨t,et⟩:=gO hK hi';obtain⟨u,eu⟩:=gO hK hj';rw[eQ hi',eQ hj']at h;refine wpS_ltAt (p:=(arrOf st)[i].2) (q:=(arrOf st)[j].2) (t:=t) (u:=u) hB.kind ?_ ?_ h
 ·rw[getElem?_pos (arrOf st) i hi']
  exact congrArg some (Prod.ext et rfl)
 ·rw[getElem?_pos (arrOf st) j hj']
  exact congrArg some (Prod.ext eu rfl)
theorem Iz{st:SortSt}{lo a nrem:Nat}{Q:AscSt->SortSt->Prop}(h0:IntKeys a₀)(hn:lo+nrem<=a₀.size)(ha:1<=a)(f0:a<=nrem)(hB:Ok a₀ st)(hs:Ut (arrOf st) lo (lo+a))
  (h:∀n,a<=n->n<=nrem->Ut (arrOf st) lo (lo+n)->(n=nrem\/K (arrOf st) (lo+n)<K (arrOf st) (lo+n - 1))->Q (none,n) st):wpS (model prog w) A E s (kC lo a nrem) Q st:=by
 unfold kC;refine wpS_forRange (I:=λx c st'=>st'=st/\c=(none,x)/\Ut (arrOf st) lo (lo+x)) ?step ?fin ⟨rfl,rfl,hs⟩
 case fin=>
  rintro c st' ⟨rfl,rfl,gs⟩;rw[show max a nrem=nrem from by lia]at gs ⊢;exact h nrem f0 (qd _) gs (.inl rfl)
 case step=>
  rintro x c st' f1 f2 ⟨rfl,rfl,gs⟩;dsimp only;refine wpS_bind (uQ hB h0 ⋯ ⋯ ?_);by_cases q:K (arrOf st') (lo+x)<K (arrOf st') (lo+x - 1)
  ·simp only[q,decide_true,if_true]
   exact wpS_pure (h x f1 ⋯ gs (.inr q))
  ·simp only[q,decide_false,qu,if_false]
   refine wpS_pure ⟨rfl,rfl,λi j h1 h2 h3=> ?_⟩;by_cases hj:j<lo+x
   ·exact gs i j h1 h2 hj
   ·have:j=lo+x:=⋯
    subst this;by_cases hi:i=lo+x
    ·subst hi;exact wn _
    ·have:=gs i (lo+x - 1) h1 ⋯ ⋯
     lia
theorem Bf{st:SortSt}{Q:Unit->SortSt->Prop}(h:Q () (setArr st (mirror (arrOf st) i j ((j - i) / 2)))):wpS (model prog w) A E s (reverseSlice' i j) Q st:=by
 rw[reverseSlice'_eq];exact wpS_modify h
theorem Hk{SH st:SortSt}{lo n nrem:Nat}{Q:Option Nat->SortSt->Prop}(h0:IntKeys a₀)(hn:lo+nrem<=a₀.size)(h1:1<=n)(hnn:n<=nrem)(U:Up a₀ lo (lo+nrem) SH st)(hs:sF (arrOf st) lo (lo+n))
  (h:∀m st',Up a₀ lo (lo+nrem) SH st'->1<=m->m<=nrem->Ut (arrOf st') lo (lo+m)->Q ⇑m st'):wpS (model prog w) A E s (nO lo n nrem) Q st:=by
 have hz:=U.ok.size;unfold nO;refine wpS_bind (Bf ?_);have U':=U.mirror (i:=lo) (j:=lo+n) (qd _) ⋯ ⋯;refine wpS_bind (Iz h0 hn h1 hnn U'.ok ?_ λm hm1 Z5 hsm _=>wpS_pure (h m _ U' ⋯ Z5 hsm));intro i j a1 a2 a3;show K (mirror (arrOf st) lo (lo+n) _) i<=K (mirror (arrOf st) lo (lo+n) _) j;rw[K_mirror ⋯,K_mirror ⋯,if_pos ⋯,if_pos ⋯];exact hs _ _ ⋯ ⋯ ⋯
theorem OV{SH st:SortSt}{lo n nrem:Nat}{Q:DescSt->SortSt->Prop}(h0:IntKeys a₀)(hn:lo+nrem<=a₀.size)(h1:1<=n)(hnn:n<=nrem)(U:Up a₀ lo (lo+nrem) SH st)(hs:sF (arrOf st) lo (lo+n))
  (h:∀m V9 st',Up a₀ lo (lo+nrem) SH st'->n<=m->m<=nrem->sF (arrOf st') lo (lo+m)->V9+1<=m->(∀i,lo+m - (V9+1)<=i->i<lo+m->K (arrOf st') i=K (arrOf st') (lo+m - 1))->Q (none,m,V9) st'):
  wpS (model prog w) A E s (DH lo n nrem) Q st:=by
 unfold DH;refine wpS_forRange (I:=λx c st'=>∃V9,c=(none,x,V9)/\Up a₀ lo (lo+nrem) SH st'/\sF (arrOf st') lo (lo+x)/\V9+1<=x/\(∀i,lo+x - (V9+1)<=i->i<lo+x->K (arrOf st') i=K (arrOf st') (lo+x - 1))) ?step ?fin ⟨0,rfl,U,hs,⋯,λi h1 h2=>by congr 1;lia⟩
 case fin=>
  rintro c st' ⟨V9,rfl,U',gs,hq,he⟩;rw[show max n nrem=nrem from by lia]at gs hq he ⊢;exact h nrem V9 st' U' hnn (qd _) gs hq he
 case step=>
  rintro x c st' f1 f2 ⟨V9,rfl,U',gs,hq,he⟩;dsimp only;have hz:=U'.ok.size;refine wpS_bind (uQ U'.ok h0 ⋯ ⋯ ?_);by_cases q:K (arrOf st') (lo+x)<K (arrOf st') (lo+x - 1)
  ·simp only[q,decide_true,if_true]
   have Yb:∀xs:Array Keyed,(∀k,K xs k=K (arrOf st') k)->sF xs lo (lo+(x+1)):=by
    intro xs hk i j a1 a2 a3;rw[hk,hk];by_cases hj:j<lo+x
    ·exact gs i j a1 a2 hj
    ·have:j=lo+x:=⋯
     subst this;by_cases hi:i=lo+x
     ·subst hi;exact wn _
     ·have:=gs i (lo+x - 1) a1 ⋯ ⋯
      lia
   by_cases Xn:V9>0
   ·rw[if_pos Xn]
    exact wpS_bind (Bf (wpS_pure ⟨0,rfl,U'.mirror ⋯ ⋯ ⋯,Yb _ (K_mirror_equal ⋯ he),⋯,λi b1 b2=>by congr 1;lia⟩))
   ·rw[if_neg Xn]
    exact wpS_pure ⟨0,rfl,U',Yb _ (λ_=>rfl),⋯,λi b1 b2=>by congr 1;lia⟩
  ·simp only[q,decide_false,qu,if_false]
   refine wpS_bind (uQ U'.ok h0 ⋯ ⋯ ?_);by_cases q2:K (arrOf st') (lo+x - 1)<K (arrOf st') (lo+x)
   ·simp only[q2,decide_true,if_true]
    exact wpS_pure (h x V9 st' U' f1 ⋯ gs hq he)
   ·simp only[q2,decide_false,qu,if_false]
    have hx:K (arrOf st') (lo+x)=K (arrOf st') (lo+x - 1):=⋯;refine wpS_pure ⟨V9+1,rfl,U',λi j a1 a2 a3=> ?_,⋯,λi b1 b2=> ?_⟩
    ·by_cases hj:j<lo+x
     ·exact gs i j a1 a2 hj
     ·have:j=lo+x:=⋯
      subst this;by_cases hi:i=lo+x
      ·subst hi;exact wn _
      ·have:=gs i (lo+x - 1) a1 ⋯ ⋯
       lia
    ·rw[show lo+(x+1) - 1=lo+x by lia]
     by_cases hi:i=lo+x
     ·rw[hi]
     ·rw[hx];exact he i ⋯ ⋯
theorem Kx{SH st:SortSt}{lo n nrem:Nat}{Q:Option Nat->SortSt->Prop}(h0:IntKeys a₀)(hn:lo+nrem<=a₀.size)(hnn:n+1<=nrem)(U:Up a₀ lo (lo+nrem) SH st)(hs:sF (arrOf st) lo (lo+(n+1)))
  (h:∀m st',Up a₀ lo (lo+nrem) SH st'->1<=m->m<=nrem->Ut (arrOf st') lo (lo+m)->Q ⇑m st'):wpS (model prog w) A E s (sW lo n nrem) Q st:=by
 unfold sW;refine wpS_bind (wpS_lift (wpAny_rule ⟨rfl,?_⟩));refine wpS_bind (OV h0 hn ⋯ hnn U hs λm V9 st' U' hm1 Z5 gs hq he=> ?_);dsimp only;have hz:=U'.ok.size;by_cases Xn:V9>0
 ·rw[if_pos Xn]
  refine wpS_bind (Bf (Hk h0 hn ⋯ Z5 (U'.mirror ⋯ ⋯ ⋯) ?_ h));intro i j a1 a2 a3;show K (mirror (arrOf st') _ _ _) j<=K (mirror _ _ _ _) i;rw[K_mirror_equal ⋯ he,K_mirror_equal ⋯ he];exact gs i j a1 a2 a3
 ·rw[if_neg Xn]
  exact Hk h0 hn ⋯ Z5 U' gs h
theorem LF{st:SortSt}{lo nrem:Nat}{Q:Option Nat->SortSt->Prop}(h0:IntKeys a₀)(hn:lo+nrem<=a₀.size)(h1:1<=nrem)(hB:Ok a₀ st)
  (h:∀m st',Up a₀ lo (lo+nrem) st st'->1<=m->m<=nrem->Ut (arrOf st') lo (lo+m)->Q ⇑m st'):wpS (model prog w) A E s (countRun' lo nrem) Q st:=by
 have hz:=hB.size;rw[P9];have h00:Ut (arrOf st) lo (lo+1):=λi j a1 a2 a3=>by
  have:i=j:=⋯;subst this;exact wn _
 refine wpS_bind (Iz h0 hn (qd 1) h1 hB h00 λn hn1 Xb hsn hor=> ?_);dsimp only;by_cases e:n=nrem
 ·rw[if_pos (by simpa using e)]
  exact wpS_pure (h n st (Up.refl hB) hn1 Xb hsn)
 ·rw[if_neg (by simpa using e)]
  have hd:K (arrOf st) (lo+n)<K (arrOf st) (lo+n - 1):=hor.resolve_left e;by_cases hg:n>1
  ·rw[if_pos hg]
   refine wpS_bind (uQ hB h0 ⋯ ⋯ ?_);by_cases hr:K (arrOf st) lo<K (arrOf st) (lo+n - 1)
   ·simp only[hr,decide_true,if_true]
    exact wpS_pure (h n st (Up.refl hB) hn1 Xb hsn)
   ·simp only[hr,decide_false,qu,if_false]
    have ha:∀k,lo<=k->k<lo+n->K (arrOf st) k=K (arrOf st) (lo+n - 1):=by
     intro k b1 b2;have a1:=hsn lo k ⋯ ⋯ b2;have a2:=hsn k (lo+n - 1) b1 ⋯ ⋯
     lia
    refine wpS_bind (Bf (Kx h0 hn ⋯ ((Up.refl hB).mirror ⋯ ⋯ ⋯) ?_ h));intro i j a1 a2 a3;show K (mirror (arrOf st) _ _ _) j<=K (mirror _ _ _ _) i;rw[K_mirror_equal ⋯ ha,K_mirror_equal ⋯ ha];by_cases hj:j<lo+n
    ·rw[ha i ⋯ ⋯,ha j ⋯ hj];exact wn _
    ·have:j=lo+n:=⋯
     subst this;by_cases hi:i=lo+n
     ·subst hi;exact wn _
     ·rw[ha i ⋯ ⋯];exact Int.le_of_lt hd
  ·rw[if_neg hg]
   have:n=1:=⋯;subst this;refine Kx h0 hn ⋯ (Up.refl hB) ?_ h;intro i j a1 a2 a3;by_cases hi:i=j
   ·subst hi;exact wn _
   ·have wU:i=lo:=⋯
    have hj1:j=lo+1:=⋯;subst wU;subst hj1;exact Int.le_of_lt hd
theorem Qr{st:SortSt}{lo n ok:Nat}{Q:Bool->SortSt->Prop}(h0:IntKeys a₀)(hn:lo+n<=a₀.size)(RZ:ok<=n)(hB:Ok a₀ st)(hs:Ut (arrOf st) lo (lo+ok))
    (h:∀st',Up a₀ lo (lo+n) st st'->Ut (arrOf st') lo (lo+n)->Q true st'):wpS (model prog w) A E s (binarySort' lo n ok) Q st:=by
  rw[binarySort'_eq];refine wpS_bind (wpS_mono (wpS_forRange (I:=λk c st'=>c=(none,())/\Up a₀ lo (lo+n) st st'/\Ut (arrOf st') lo (lo+min k n))
    (Q:=λc st'=>c=(none,())/\Up a₀ lo (lo+n) st st'/\Ut (arrOf st') lo (lo+n)) ?step ?fin ?init) ?post)
  case post=>
    rintro c st' ⟨rfl,U',gs⟩;exact wpS_pure (h st' U' gs)
  case init=>
    refine⟨rfl,Up.refl hB,λi j a1 a2 a3=> ?_⟩;by_cases e:ok=0
    · have:i=j:=⋯
      subst this;exact wn _
    · exact hs i j a1 a2 ⋯
  case fin=>
    rintro c st' ⟨hc,U',gs⟩;refine⟨hc,U',?_⟩
    rwa [show min (max (max ok 1) n) n=n from by lia]at gs
  case step=>
    rintro k c st' f1 f2 ⟨rfl,U',gs⟩;rw[show min k n=k from by lia]at gs;have hz:=U'.ok.size;refine wpS_bind (wpS_mono (wpS_forRange (I:=λx c st2=>st2=st'/\∃u v,c=(none,u,v)/\u<=v/\v<=k/\v - u<=k - x/\
        (∀i,i<u->K (arrOf st') (lo+i)<=K (arrOf st') (lo+k))/\(∀i,v<=i->i<k->K (arrOf st') (lo+k)<K (arrOf st') (lo+i)))
      (Q:=λc st2=>st2=st'/\∃u v,c=(none,u,v)/\u<=k/\
        (∀i,i<u->K (arrOf st') (lo+i)<=K (arrOf st') (lo+k))/\(∀i,u<=i->i<k->K (arrOf st') (lo+k)<K (arrOf st') (lo+i))) ?is ?if1 ?ii) ?ip)
    case ii=>exact⟨rfl,0,k,rfl,⋯,⋯,⋯,λi hi=>⋯,λi b1 b2=>⋯⟩
    case if1=>
      rintro c st2 ⟨rfl,u,v,rfl,d1,d2,d3,d4,d5⟩;have:u=v:=⋯;subst this;exact⟨rfl,u,u,rfl,d2,d4,d5⟩
    case is=>
      rintro x c st2 _ d6 ⟨rfl,u,v,rfl,d1,d2,d3,d4,d5⟩;dsimp only;by_cases d8:u>=v
      · rw[if_pos d8]
        have:u=v:=⋯;subst this;exact wpS_pure ⟨rfl,u,u,rfl,d2,d4,d5⟩
      · rw[if_neg d8]
        refine wpS_bind (uQ U'.ok h0 ⋯ ⋯ ?_);by_cases q:K (arrOf st2) (lo+k)<K (arrOf st2) (lo+(u+v) / 2)
        · simp only[q,decide_true,if_true]
          refine wpS_pure ⟨rfl,u,(u+v) / 2,rfl,⋯,⋯,⋯,d4,λi b1 b2=> ?_⟩;have:=gs (lo+(u+v) / 2) (lo+i) ⋯ ⋯ ⋯
          lia
        · simp only[q,decide_false,qu,if_false]
          refine wpS_pure ⟨rfl,(u+v) / 2+1,v,rfl,⋯,⋯,⋯,λi b1=> ?_,d5⟩;have:=gs (lo+i) (lo+(u+v) / 2) ⋯ ⋯ ⋯
          lia
    case ip=>
      rintro c st2 ⟨rfl,u,v,rfl,d7,d4,d5⟩;show wpS _ _ _ _ (do moveDown' (lo+k) (lo+u);pure (ForInStep.yield (none,()))) _ _;rw[moveDown'_eq];have hks:lo+k<(arrOf st2).size:=⋯;have hd:lo+k - (lo+u)<=lo+k:=⋯;refine wpS_bind (wpS_modify (wpS_pure ⟨rfl,U'.arr (bubble_perm _ _ _) λj hj=>by rw[K_bubble hks hd,if_neg ⋯,if_neg ⋯],?_⟩));rw[show min (k+1) n=k+1 from by lia];intro i j a1 a2 a3;show K (bubble (arrOf st2) (lo+k) (lo+k - (lo+u))) i<=K (bubble (arrOf st2) (lo+k) (lo+k - (lo+u))) j;rw[K_bubble hks hd,K_bubble hks hd,show lo+k - (lo+k - (lo+u))=lo+u by lia];have HL:∀i,lo<=i->i<lo+u->K (arrOf st2) i<=K (arrOf st2) (lo+k):=λi b1 b2=>by
        have:=d4 (i - lo) ⋯
        rwa [show lo+(i - lo)=i by lia]at this
      have HH:∀i,lo+u<=i->i<lo+k->K (arrOf st2) (lo+k)<=K (arrOf st2) i:=λi b1 b2=>by
        have:=d5 (i - lo) ⋯ ⋯;rw[show lo+(i - lo)=i by lia]at this;exact Int.le_of_lt this
      repeat' split
      all_goals first
        | (exfalso;lia)
        | exact wn _
        | exact HL _ ⋯ ⋯
        | exact HH _ ⋯ ⋯
        | exact gs _ _ ⋯ ⋯ ⋯
end
noncomputable abbrev fC:=Nat×Nat×Nat
def gU:List fC->Nat->Nat->Prop
 | [],a,b=>a=b
 | r::l,a,b=>r.1=a/\1<=r.2.1/\gU l (a+r.2.1) b
theorem A_:∀{l m:List fC} {a b:Nat},gU (l++m) a b↔∃c,gU l a c/\gU m c b
 | [],m,a,b=>by
  constructor
  ·intro h;exact⟨a,rfl,h⟩
  ·rintro⟨c,h1,h2⟩
   have h1:a=c:=h1;subst h1;exact h2
 | r::l,m,a,b=>by
  show(r.1=a/\1<=r.2.1/\gU (l++m) (a+r.2.1) b)↔∃c,(r.1=a/\1<=r.2.1/\gU l (a+r.2.1) c)/\gU m c b;rw[A_];constructor
  ·rintro⟨h1,h2,c,h3,h4⟩;exact⟨c,⟨h1,h2,h3⟩,h4⟩
  ·rintro⟨c,⟨h1,h2,h3⟩,h4⟩;exact⟨h1,h2,c,h3,h4⟩
theorem tZ:∀{l:List fC} {a b:Nat},gU l a b->a<=b/\l.length+a<=b/\∀r∈l,a<=r.1/\r.1+r.2.1<=b
 | [],a,b,h=>by
  have h:a=b:=h;subst h;exact⟨qd _,by simp,λr m=>absurd m zv⟩
 | r::l,a,b,⟨h1,h2,h3⟩=>by
  obtain⟨g1,g2,g3⟩:=tZ h3;refine⟨⋯,by simp;lia,λq m=> ?_⟩;rcases qg.mp m with rfl|m
  ·lia
  ·have:=g3 q m;lia
theorem KI(f:fC->fC)(hf:∀r,(f r).1=r.1/\(f r).2.1=r.2.1):∀{l:List fC} {k a b:Nat},gU l a b->gU (l.modify k f) a b
 | [],k,a,b,h=>by simpa using h
 | r::l,0,a,b,h=>by
  rw[List.modify_zero_cons];exact⟨(hf r).1.trans h.1,by rw[(hf r).2];exact h.2.1,by rw[(hf r).2];exact h.2.2⟩
 | r::l,k+1,a,b,h=>by
  rw[List.modify_succ_cons];exact⟨h.1,h.2.1,KI f hf h.2.2⟩
theorem JT(f:fC->fC):∀{l:List fC} {k:Nat} {r:fC},r∈l.modify k f->∃q∈l,r=q\/r=f q
 | [],k,r,h=>by simp at h
 | q::l,0,r,h=>by
  rw[List.modify_zero_cons]at h;rcases qg.mp h with rfl|h
  ·exact⟨q,qa ..,.inr rfl⟩
  ·exact⟨r,q8 _ h,.inl rfl⟩
 | q::l,k+1,r,h=>by
  rw[List.modify_succ_cons]at h;rcases qg.mp h with rfl|h
  ·exact⟨r,qa ..,.inl rfl⟩
  ·obtain⟨x,m,e⟩:=JT f h
   exact⟨x,q8 _ m,e⟩
structure Runs (arr:Array Keyed) (P:Array fC) (lo:Nat):Prop where
 Y0:gU P.toList 0 lo
 TR:∀r∈P.toList,Ut arr r.1 (r.1+r.2.1)
theorem Runs.same{lo:Nat}(h:Runs arr P lo)(e:∀j,j<lo->K arr' j=K arr j):Runs arr' P lo:=⟨h.Y0,λr m p q h1 h2 h3=>by
 have:=(tZ h.Y0).2.2 r m;rw[e p ⋯,e q ⋯];exact h.TR r m p q h1 h2 h3⟩
section
variable {prog : Program} {w : World} {A : Around} {E : Value -> Shared -> Prop} {s : Shared} {a₀ : Array Keyed}
theorem Dh{st:SortSt}{i lo:Nat}{Q:Bool->SortSt->Prop}(h0:IntKeys a₀)(hB:Ok a₀ st)(hR:Runs (arrOf st) (pendingOf st) lo)(hlo:lo<=a₀.size)(hi:i+1<(pendingOf st).size)
  (h:∀st',Ok a₀ st'->Runs (arrOf st') (pendingOf st') lo->(pendingOf st').size+1=(pendingOf st).size->(∀j,lo<=j->K (arrOf st') j=K (arrOf st) j)->Q true st'):wpS (model prog w) A E s (mergeAt' i) Q st:=by
 generalize hP:pendingOf st=P at*;have hl:P.toList.length=P.size:=Array.length_toList;obtain⟨⟨sa,na,pw⟩,e1⟩:∃r,P[i]?=⇑r:=⟨P[i]'⋯,getElem?_pos P i ⋯⟩;obtain⟨⟨sb,nb,XQ⟩,e2⟩:∃r,P[i+1]?=⇑r:=⟨P[i+1],getElem?_pos P (i+1) hi⟩;have d0:P.toList=P.toList.take i++((sa,na,pw)::(sb,nb,XQ)::P.toList.drop (i+2)):=by
  have h1:P.toList.drop i=(sa,na,pw)::P.toList.drop (i+1):=by
   rw[zl ⋯];have:P.toList[i]?=⇑(sa,na,pw):=by rw[Array.getElem?_toList];exact e1
   rw[qk ⋯]at this;rw[Option.some.inj this]
  have h2:P.toList.drop (i+1)=(sb,nb,XQ)::P.toList.drop (i+2):=by
   rw[zl ⋯];have:P.toList[i+1]?=⇑(sb,nb,XQ):=by rw[Array.getElem?_toList];exact e2
   rw[qk ⋯]at this;rw[Option.some.inj this]
  rw[<-h2,<-h1,wu]
 have hcv:=hR.Y0;rw[d0]at hcv;obtain⟨c,c1,c2,c3,c4,c5,c6⟩:=A_.mp hcv;simp only at c2 c3 c4 c5 c6;subst c2;have hsb:sb=sa+na:=c4;subst hsb;have b1:=tZ c1;have b2:=tZ c6;have m1:(sa,na,pw)∈P.toList:=by rw[d0];simp
 have m2:(sa+na,nb,XQ)∈P.toList:=by rw[d0];simp
 refine Q4 (XQ:=XQ) h0 hB (by rw[hP];exact e1) (by rw[hP];exact e2) c3 c5 ⋯ (hR.TR _ m1) (hR.TR _ m2) λst' TM hp hk hs=> ?_;rw[hP]at hp;have Wc:(pendingOf st').toList=P.toList.take i++((sa,na+nb,pw)::P.toList.drop (i+2)):=by
  rw[hp];have t1:((P.setIfInBounds i (sa,na+nb,pw)).eraseIdxIfInBounds (i+1)).toList=(P.toList.set i (sa,na+nb,pw)).eraseIdx (i+1):=by
   rw[Array.eraseIdxIfInBounds_eq];rw[dif_pos (by simpa using hi)];simp
  rw[t1]
  conv=>lhs;rw[d0]
  have lt:(P.toList.take i).length=i:=by rw[wp];lia
  rw[List.set_append_right _ _ ⋯,lt,Nat.sub_self,zb,List.eraseIdx_append_of_length_le ⋯,lt,show i+1 - i=1 by lia];rfl
 refine h st' TM ⟨?_,?_⟩ ?_ λj hj=>hk j (.inr ⋯)
 ·rw[Wc]
  refine A_.mpr ⟨sa,c1,rfl,by simp only;lia,?_⟩;simp only;rw[<-Nat.add_assoc];exact c6
 ·intro r m
  rw[Wc]at m;rcases qv.mp m with m|m
  ·have q:=b1.2.2 r m
   intro x y h1 h2 h3;rw[hk x (.inl ⋯),hk y (.inl ⋯)];exact hR.TR r (by rw[d0];exact zp _ m) x y h1 h2 h3
  ·rcases qg.mp m with rfl|m
   ·simp only
    rw[<-Nat.add_assoc];exact hs
   ·have q:=b2.2.2 r m
    intro x y h1 h2 h3;rw[hk x (.inr ⋯),hk y (.inr ⋯)];exact hR.TR r (by rw[d0];exact za _ (q8 _ (q8 _ m))) x y h1 h2 h3
 ·have:=congrArg List.length Wc
  rw[Array.length_toList,zh,qw,wp,kr]at this
  lia
end
theorem Runs.push{lo n pw:Nat}(h:Runs arr P lo)(h1:1<=n)(hs:Ut arr lo (lo+n)):Runs arr (P.push (lo,n,pw)) (lo+n):=by
 refine⟨?_,λr m=> ?_⟩
 ·rw[Array.toList_push]
  exact A_.mpr ⟨lo,h.Y0,rfl,h1,rfl⟩
 ·rw[Array.toList_push]at m
  rcases qv.mp m with m|m
  ·exact h.TR r m
  ·rw[z6.mp m];exact hs
theorem Runs.mod{lo k:Nat}{f:fC->fC}(hf:∀r,(f r).1=r.1/\(f r).2.1=r.2.1)(h:Runs arr P lo):Runs arr (P.modify k f) lo:=by
 refine⟨?_,λr m=> ?_⟩
 ·rw[Array.toList_modify]
  exact KI f hf h.Y0
 ·rw[Array.toList_modify]at m
  obtain⟨q,mq,e⟩:=JT f m;rcases e with rfl|rfl
  ·exact h.TR r mq
  ·rw[(hf q).1,(hf q).2];exact h.TR q mq
section
variable {prog : Program} {w : World} {A : Around} {E : Value -> Shared -> Prop} {s : Shared} {a₀ : Array Keyed}
theorem rM{c:Prop}[Decidable c]{a b m:Nat}(ha:a<=m)(hb:b<=m):(if c then a else b)<=m:=by split<;>assumption
theorem Mz{st:SortSt}{Q:Unit->SortSt->Prop}(h0:IntKeys a₀)(hB:Ok a₀ st)(hp:pendingOf st=#[])
  (h:∀st',(arrOf st').Perm a₀->failedOf st'=none->SortedTo (arrOf st') a₀.size->Q () st'):wpS (model prog w) A E s sortRuns' Q st:=by
 rw[sortRuns'_eq];refine wpS_bind (wpS_get ?_);dsimp only;rw[hB.size];generalize hM:minRun' a₀.size a₀.size 0=M;have hR0:Runs (arrOf st) (pendingOf st) 0:=by rw[hp];exact⟨rfl,λr m=>by simp at m⟩
 refine wpS_bind (wpS_mono (wpS_forRange (I:=λx c st'=>∃lo,c=(none,lo)/\x<=lo/\lo<=a₀.size/\Ok a₀ st'/\Runs (arrOf st') (pendingOf st') lo)
  (Q:=λc st'=>c=(none,a₀.size)/\Ok a₀ st'/\Runs (arrOf st') (pendingOf st') a₀.size) ?step ?fin ⟨0,rfl,qd _,w6 _,hB,hR0⟩) ?post)
 case fin=>
  rintro c st' ⟨lo,rfl,a1,a2,TM,Ul⟩;have:lo=a₀.size:=⋯;subst this;exact⟨rfl,TM,Ul⟩
 case step=>
  rintro x c st' _ hx ⟨lo,rfl,a1,a2,TM,Ul⟩;dsimp only;by_cases WU:lo>=a₀.size
  ·rw[if_pos WU]
   have:lo=a₀.size:=⋯;subst this;exact wpS_pure ⟨rfl,TM,Ul⟩
  ·rw[if_neg WU]
   refine wpS_bind (LF h0 ⋯ ⋯ TM λm st2 U2 hm1 Z5 XT=> ?_);dsimp only;have XX:Runs (arrOf st2) (pendingOf st2) lo:=by
    rw[U2.pend];exact Ul.same λj hj=>U2.same j (.inl hj)
   by_cases hlt:m<M
   ·rw[if_pos hlt]
    refine wpS_bind (wpS_lift (wpAny_rule ⟨rfl,?_⟩));refine wpS_bind (Qr h0 ⋯ ⋯ U2.ok XT λXh U3 hs3=> ?_);simp only[gn,qu,if_false];have hR3:Runs (arrOf Xh) (pendingOf Xh) lo:=by
     rw[U3.pend];exact XX.same λj hj=>U3.same j (.inl hj)
    refine wpS_bind (wpS_get ?_);cases e:(pendingOf Xh).back? with
    | none=>exact wpS_bind (wpS_modify (wpS_pure ⟨_,rfl,⋯,⋯,⟨U3.ok.perm,U3.ok.kind,U3.ok.failed⟩,hR3.push ⋯ hs3⟩))
    | some r=>
     obtain⟨s1,n1,p1⟩:=r;dsimp only;refine wpS_bind (wpS_mono (wpS_forRange (I:=λ_ c st'=>c=(none,())/\Ok a₀ st'/\Runs (arrOf st') (pendingOf st') lo/\Ut (arrOf st') lo (lo+min (a₀.size - lo) M)) (Q:=λc st'=>c=(none,())/\Ok a₀ st'/\Runs (arrOf st') (pendingOf st') lo/\Ut (arrOf st') lo (lo+min (a₀.size - lo) M)) ?ist1 (λ_ _ hh=>hh) ⟨rfl,U3.ok,hR3,hs3⟩) ?ipo1)
     case ist1=>
      rintro x c st' _ _ ⟨rfl,TM,Ul,SF⟩;refine wpS_bind (wpS_get ?_);by_cases q:(pendingOf st').size>1
      ·rw[if_pos q,getElem?_pos (pendingOf st') ((pendingOf st').size - 2) ⋯]
       dsimp only;split
       ·exact wpS_pure ⟨rfl,TM,Ul,SF⟩
       ·refine wpS_bind (Dh h0 TM Ul ⋯ ⋯ λst2 hB2 XX _ hk=> ?_)
        simp only[gn,qu,if_false];exact wpS_pure ⟨rfl,hB2,XX,λp q a1 a2 a3=>by rw[hk p ⋯,hk q ⋯];exact SF p q a1 a2 a3⟩
      ·rw[if_neg q]
       exact wpS_pure ⟨rfl,TM,Ul,SF⟩
     case ipo1=>
      rintro c st' ⟨rfl,TM,Ul,SF⟩;dsimp only;exact wpS_bind (wpS_modify (wpS_bind (wpS_modify (wpS_pure ⟨_,rfl,⋯,⋯,⟨TM.perm,TM.kind,TM.failed⟩,(Ul.mod (f:=λx=>(x.1,x.2.1,power' a₀.size (2*s1+n1) (2*s1+n1+n1+min (a₀.size - lo) M) a₀.size)) (λ_=>⟨rfl,rfl⟩)).push ⋯ SF⟩))))
   ·rw[if_neg hlt]
    refine wpS_bind (wpS_get ?_);cases e:(pendingOf st2).back? with
    | none=>exact wpS_bind (wpS_modify (wpS_pure ⟨_,rfl,⋯,⋯,⟨U2.ok.perm,U2.ok.kind,U2.ok.failed⟩,XX.push hm1 XT⟩))
    | some r=>
     obtain⟨s1,n1,p1⟩:=r;dsimp only;refine wpS_bind (wpS_mono (wpS_forRange (I:=λ_ c st'=>c=(none,())/\Ok a₀ st'/\Runs (arrOf st') (pendingOf st') lo/\Ut (arrOf st') lo (lo+m)) (Q:=λc st'=>c=(none,())/\Ok a₀ st'/\Runs (arrOf st') (pendingOf st') lo/\Ut (arrOf st') lo (lo+m)) ?ist2 (λ_ _ hh=>hh) ⟨rfl,U2.ok,XX,XT⟩) ?ipo2)
     case ist2=>
      rintro x c st' _ _ ⟨rfl,TM,Ul,SF⟩;refine wpS_bind (wpS_get ?_);by_cases q:(pendingOf st').size>1
      ·rw[if_pos q,getElem?_pos (pendingOf st') ((pendingOf st').size - 2) ⋯]
       dsimp only;split
       ·exact wpS_pure ⟨rfl,TM,Ul,SF⟩
       ·refine wpS_bind (Dh h0 TM Ul ⋯ ⋯ λst2 hB2 XX _ hk=> ?_)
        simp only[gn,qu,if_false];exact wpS_pure ⟨rfl,hB2,XX,λp q a1 a2 a3=>by rw[hk p ⋯,hk q ⋯];exact SF p q a1 a2 a3⟩
      ·rw[if_neg q]
       exact wpS_pure ⟨rfl,TM,Ul,SF⟩
     case ipo2=>
      rintro c st' ⟨rfl,TM,Ul,SF⟩;dsimp only;exact wpS_bind (wpS_modify (wpS_bind (wpS_modify (wpS_pure ⟨_,rfl,⋯,⋯,⟨TM.perm,TM.kind,TM.failed⟩,(Ul.mod (f:=λx=>(x.1,x.2.1,power' a₀.size (2*s1+n1) (2*s1+n1+n1+m) a₀.size)) (λ_=>⟨rfl,rfl⟩)).push hm1 SF⟩))))
 case post=>
  rintro c st' ⟨rfl,TM,Ul⟩;dsimp only;have len:∀(P:Array fC) (arr:Array Keyed),Runs arr P a₀.size->P.size<=a₀.size:=λP arr hh=>by
   have:=(tZ hh.Y0).2.1;rw[Array.length_toList]at this
   lia
  refine wpS_bind (wpS_mono (wpS_forRange (I:=λx c st'=>c=(none,())/\Ok a₀ st'/\Runs (arrOf st') (pendingOf st') a₀.size/\(pendingOf st').size<=max 1 (a₀.size - x)) (Q:=λc st'=>c=(none,())/\Ok a₀ st'/\Runs (arrOf st') (pendingOf st') a₀.size/\(pendingOf st').size<=1) ?st2 ?fi2 ⟨rfl,TM,Ul,by have:=len _ _ Ul;lia⟩) ?po2)
  case fi2=>
   rintro c st' ⟨rfl,TM,Ul,hz⟩;exact⟨rfl,TM,Ul,⋯⟩
  case st2=>
   rintro x c st' _ hx ⟨rfl,TM,Ul,hz⟩;refine wpS_bind (wpS_get ?_);by_cases q:(pendingOf st').size<=1
   ·rw[if_pos q]
    exact wpS_pure ⟨rfl,TM,Ul,q⟩
   ·rw[if_neg q]
    refine wpS_bind (Dh h0 TM Ul (qd _) (zg (Nat.add_le_add_right (rM (m:=(pendingOf st').size - 2) ⋯ (qd _)) 1) ⋯) λst2 hB2 XX hz2 _=> ?_);simp only[gn,qu,if_false];exact wpS_pure ⟨rfl,hB2,XX,⋯⟩
  case po2=>
   rintro c st' ⟨rfl,TM,Ul,hz⟩;refine wpS_pure (h st' TM.perm TM.failed λi j a1 a2=> ?_);have hc:=Ul.Y0;have hl:(pendingOf st').toList.length<=1:=by rw[Array.length_toList];exact hz
   cases e:(pendingOf st').toList with
   | nil=>
    rw[e]at hc;have hc:0=a₀.size:=hc
    lia
   | cons r l=>
    rw[e]at hc hl;have:l=[]:=k9 (by simp at hl;simpa using hl);subst this;obtain⟨c1,c2,c3⟩:=hc;have c3:0+r.2.1=a₀.size:=c3;have:=Ul.TR r (by rw[e];simp) i j ⋯ a1 ⋯;exact this
end
section
variable {prog : Program} {w : World} {A : Around} {E : Value -> Shared -> Prop} {s : Shared}
theorem Vw{P:Fin->Shared->Prop}(ho:s.heap.get? a=⇑(seqObj "list" vs.toArray n))(hI:IntsAre vs ns)(hz:vs.length<=100000)
  (h:∀(out:Array Value) (ms:List Int),IntsAre out.toList ms->ms.Perm ns->ms.Pairwise (·<=·)->P (.done (.ret .none)) {s with heap:=sortedHeap s.heap a vs out}):
  wpAny (model prog w) A (Builtin.«list.sort» ⟨[.ref a],[]⟩) P E s:=by
 by_cases Z7:vs.length<64
 ·exact list_sort_tree ho hI Z7 h
 ·have hvs:vs.toArray.size=vs.length:=by simp
  have ha:a<s.heap.objs.size:=qe ho;rw[list_sort_plain];refine wpAny_bind (listItems_at ho rfl (wpAny_bind (listUpdate_at ho rfl ?_)));have g1:=get?_update_seq ho (λ_=>#[]);refine wpAny_bind (seqEpoch_at g1 rfl (wpAny_bind (wpAny_newTuple (wpAny_bind (wpAny_newList (wpAny_holding ?_))))));have g2:(((s.heap.update a (Obj.mapSeq λ_=>#[])).push (seqObj "tuple" vs.toArray 0)).push (seqObj "list" #[] 0)).get? a=_:=
   (Heap.get?_push_ne _ _ _ (by rw[size_push',Heap.size_update];exact qo (km ha))).trans ((Heap.get?_push_ne _ _ _ (by rw[Heap.size_update];exact qo ha)).trans g1)
  obtain⟨v1,v2,r,rfl⟩:∃v1 v2 r,vs=v1::v2::r:=by
   match vs,Z7 with
   | [],Z7=>exact absurd (by simp:([]:List Value).length<64) Z7
   | [x],Z7=>exact absurd (by simp:[x].length<64) Z7
   | v1::v2::r,_=>exact⟨v1,v2,r,rfl⟩
  have h2:¬(v1::v2::r).toArray.size<2:=by rw[hvs];lia
  dsimp only;rw[if_neg h2,if_neg h2,keyKind_ints hI];refine wpAny_bind (wpAny_pure (wpAny_bind (wpAny_mono (Mz (a₀:=pairsOf (v1::v2::r)) (st:=SortSt.mk' oneType' ((v1::v2::r).toArray.zip (v1::v2::r).toArray) #[] 7 none)
   (Q:=λ_ st'=>(arrOf st').Perm (pairsOf (v1::v2::r))/\failedOf st'=none/\SortedTo (arrOf st') (pairsOf (v1::v2::r)).size) hI.intKeys ⟨Array.Perm.refl _,rfl,rfl⟩ rfl λst' b1 b2 b3=>⟨b1,b2,b3⟩) ?_ λ_ _ e=>e)))
  rintro⟨u,st'⟩ s' ⟨rfl,b1,b2,b3⟩;dsimp only;refine wpAny_bind (seqEpoch_at g2 rfl (wpAny_bind (listUpdate_at g2 rfl ?_ (hsz2:= ?_))))
  ·rw[b2]
   simp only[bne_self_eq_false,qu,if_false];obtain⟨ms,c1,c2,c3⟩:=sorted_out hI b1 b3;exact wpAny_pure (h _ ms c1 c2 c3)
  ·have e1:(arrOf st').size=(v1::v2::r).length:=b1.size_eq.trans (pairsOf_size _)
   rw[Array.size_map,e1,sizeLine_eq]
   lia
theorem V6{Q:Value->Shared->Prop}(hl:s.heap.IsList l vs.toArray)(hI:IntsAre vs ns)(hz:vs.length<=100000)
  (h:∀(out:Array Value) (ms:List Int),IntsAre out.toList ms->ms.Perm ns->ms.Pairwise (·<=·)->Q (.ref (s.heap.objs.size+1)) {s with heap:=sortedAll s.heap vs out}):
  wpAny (model prog w) A (call (.builtin "sorted") [.ref l]) Q E s:=by
 refine Calls.call_function_entry kind_sorted plain_sorted entry_sorted (args_sorted1 _) ?_;unfold Builtin.«sorted»;have e1:((s.heap.push (seqObj "list" #[] 0)).update s.heap.objs.size (Obj.mapSeq (·++vs.toArray))).objs.size=s.heap.objs.size+1:=(Heap.size_update ..).trans (size_push' ..);have e2:(((s.heap.push (seqObj "list" #[] 0)).update s.heap.objs.size (Obj.mapSeq (·++vs.toArray))).push (seqObj "list" vs.toArray 0)).get? (s.heap.objs.size+1)=⇑(seqObj "list" vs.toArray 0):=e1▸qq _ rfl;refine wpAny_bind (m:=checkCount "sorted" 1 1 _) (wpAny_pure (wpAny_bind (collect_list hl (wpAny_bind (wpAny_newList ?_)) (by rw[sizeLine_eq];lia))));show wpAny _ _ _ _ _ {s with heap:=((s.heap.push (seqObj "list" #[] 0)).update s.heap.objs.size (Obj.mapSeq (·++vs.toArray))).push (seqObj "list" vs.toArray 0)};rw[e1];exact wpAny_bind (wpAny_holding (wpAny_call_entry slot_list_sort ⟨_,e2,rfl⟩ entry_list_sort (Vw e2 hI hz λout ms c1 c2 c3=>⟨_,rfl,wpAny_pure ⟨_,rfl,h out ms c1 c2 c3⟩⟩) (args_list_sort _)))
end
end ES
namespace L2
open PySem PySem.Spec PyProof.Rows
theorem Oy:typeLookup (.type "list_reverseiterator") "__len__"=pure none:=by rw[typeLookup_type,builtinLookup_eq_fast];kernel_rfl
theorem Nk:typeLookup (.type "list_reverseiterator") "__length_hint__"=pure ⇑(.builtin "list_reverseiterator.__length_hint__"):=by rw[typeLookup_type,builtinLookup_eq_fast];kernel_rfl
section
variable {prog : Program} {w : World} {A : Around} {s : Shared} {R : Result -> Shared -> Prop}
variable {I : Addr} {fp wr : List Addr} {G : Array GenState -> Array GenState -> Prop} {n : Nat} {P : Nat -> Value -> Prop} {St : Nat -> Shared -> Prop}
theorem Qq(W:WalksS prog w A.in1 I fp wr G n P St)(hT:∀i s,St i s->s.TypeIs (.ref I) "list_reverseiterator")(S:Addr)(res:Value)(c₀:Nat)(Tg:St 0 s)(YU:S∉fp)(hI:I∈fp)
  (hS:s.heap.get? S=some {cls:=.type "list",data:=.seq #[] c₀})
  (hR:∀s' Uh c',Moved (S::wr) G s s'->s'.heap.get? S=some {cls:=.type "list",dict:=none,data:=.seq Uh c',slots:=#[]}->ItemsOf P Uh n->R (.ok (.ret res)) s') (hn:n<=sizeLine):
  wpAny (model prog w) A.in1 (Builtin.List.listExtendWith (.ref S) (.ref I) res)
   (λfin s'=>match fin with|.done f=>R (.ok f) s'|.again c'=>c'.quiet=true/\codeAny (model prog w) A c' R s') (λe s'=>R (.error e) s') s:=by
 have hSI:S≠I:=λe=>YU (e▸hI);unfold Builtin.List.listExtendWith;refine wpAny_bind (wpAny_typeOf (hT 0 _ Tg) ?_);have h1:Builtin.List.listSameRef (.ref S) (.ref I)=false:=by simp[Builtin.List.listSameRef,hSI]
 rw[if_neg (by rw[h1];decide)];refine wpAny_bind (W.self 0 _ _ _ Tg ?_);refine wpAny_bind (wpAny_holding ?_);unfold Builtin.List.listLengthHint;refine wpAny_bind (wpAny_specialOf (hT 0 _ Tg) Oy ?_);show wpAny _ A.in1 (specialOf (Value.ref I) ("__length_hint__":Str) >>= _) _ _ _;refine wpAny_bind (wpAny_specialOf (hT 0 _ Tg) Nk ?_)
 (generalize VZ:("list_reverseiterator.__length_hint__":String)=id0;(fail_if_success (clear VZ id0));wp_delta;rw[show splitId id0=⇑("list_reverseiterator","__length_hint__")from by subst VZ;decide+kernel];subst VZ)
 refine wpAny_bind (wpAny_isInstance (b:=true) (hT 0 _ Tg) (by rw[isSubtype_type];kernel_rfl) ?_);refine wpAny_pure ?_;rw[if_neg ⋯];exact wpAny_pure ⟨plainId_quiet F.plain_extend_loop _,codeAny_extend_loopS W hn _ YU _ n 0 _ _ _ rfl (w6 _) Tg hS (ItemsOf.nil P) hR⟩
theorem NZ(W:WalksS prog w A.in1 I fp wr G n P St)(hT:∀i s,St i s->s.TypeIs (.ref I) "list_reverseiterator")(S:Addr)(Tg:St 0 s)(YU:S∉fp)(hI:I∈fp)
  (hS:s.heap.get? S=some {cls:=.type "list",data:=.seq #[]})
  (hR:∀s' Uh c',Moved (S::wr) G s s'->s'.heap.get? S=some {cls:=.type "list",dict:=none,data:=.seq Uh c',slots:=#[]}->ItemsOf P Uh n->R (.ok (.ret .none)) s') (hn:n<=sizeLine):
  wpAny (model prog w) A.in1 (Builtin.«list.__init__» ⟨[.ref S,.ref I],[]⟩)
   (λfin s'=>match fin with|.done f=>R (.ok f) s'|.again c'=>c'.quiet=true/\codeAny (model prog w) A c' R s') (λe s'=>R (.error e) s') s:=by
 show wpAny _ A.in1 (do let old<-Builtin.List.listItems (.ref S);Builtin.List.listUpdate (.ref S) (λ_=>#[]);letGo old.toList.reverse;Builtin.List.listExtendWith (.ref S) (.ref I) .none) _ _ s;refine wpAny_bind ?_;unfold Builtin.List.listItems;refine wpAny_bind (wpAny_seqItems hS rfl (wpAny_pure ?_));show wpAny _ A.in1 (updateSeq S (λ_=>#[]) >>= λ_=>letGo (#[]:Array Value).toList.reverse >>= λ_=>Builtin.List.listExtendWith (.ref S) (.ref I) .none) _ _ s;refine wpAny_bind (wpAny_updateSeq hS rfl ?_);have hS₂:=Heap.get?_update_self (Obj.mapSeq (λ_=>(#[]:Array Value))) hS rfl;have oth:∀b o,b≠S->s.heap.get? b=⇑o->(s.heap.update S (Obj.mapSeq (λ_=>(#[]:Array Value)))).get? b=⇑o:=
  λb o hb e=>(Heap.get?_update_other _ _ (Ne.symm hb)).trans e
 refine wpAny_bind (wpAny_letGo ?_);refine Qq (hn:=hn) W hT S .none _ (W.frame 0 s _ s.toks Tg (qd _) λb hb o e=>oth b o (λh=>YU (h▸hb)) e) YU hI hS₂ λs' Uh c' hm hS' VE=> ?_;exact hR s' Uh c' (Moved.trans W.gtrans ((Moved.refl W.grefl).then_heap (qd _) λb o hb e=>oth b o (λh=>hb (h▸qa)) e) hm) hS' VE
end
section
variable {prog : Program} {w : World} {A : Around} {E : Value -> Shared -> Prop} {s : Shared}
theorem Pg{Q:Value->Shared->Prop}(hh:A.handled=none)(hne:l≠it)(hit:s.heap.IsRevIter it l ((items.size:Int) - 1))(hl:s.heap.IsList l items)(hn:items.size<=sizeLine)
  (hQ:∀h' tk Uh c',(∀b o,b≠it->s.heap.get? b=⇑o->h'.get? b=⇑o)->h'.get? s.heap.objs.size=some {cls:=.type "list",dict:=none,data:=.seq Uh c',slots:=#[]}->
   ItemsOf (λi v=>items[items.size - 1 - i]?=⇑v) Uh items.size->Q (.ref s.heap.objs.size) {s with heap:=h',toks:=tk}):
  wpAny (model prog w) A (call (.type "list") [.ref it]) Q E s:=by
 have W:=(Walks.listRev (prog:=prog) (w:=w) (A:=A.in1.in1) hh it l hne items).toS;have Tg:(0:Nat)<=items.size/\s.heap.IsRevIter it l ((items.size:Int) - 1 - ((0:Nat):Int))/\s.heap.IsList l items:=⟨w6 _,by simpa using hit,hl⟩;have UX:∀b∈[it,l],b<s.heap.objs.size:=λb hb=>by
  rcases qg.mp hb with rfl|hb
  ·obtain⟨o,ho,_⟩:=hit;exact qe ho
  ·rw[z6.mp hb];obtain⟨o,ho,_⟩:=hl;exact qe ho
 have YU:s.heap.objs.size∉[it,l]:=λhm=>wd _ (UX _ hm);refine callType_codes (Q₁:=λobj s₁=>obj=.ref s.heap.objs.size/\s₁={s with heap:=s.heap.push {cls:=.type "list",data:=.seq #[]}}) F.called_list (F.typeCall_list_1 _) F.entry_list_init
  (code_list_new _ ⟨rfl,rfl⟩) λobj s₁ h₁=> ?_
 obtain⟨rfl,rfl⟩:=h₁;have hS:(s.heap.push {cls:=.type "list",data:=.seq #[]}).get? s.heap.objs.size=some {cls:=.type "list",data:=.seq #[]}:=qq _ rfl;refine⟨⟨_,hS,rfl⟩,F.args_list_init_2 _ _,NZ (A:=A.in1) (hn:=hn) W (λi s x=>Heap.IsRevIter.typeIs x.2.1) _ (W.frame 0 s _ s.toks Tg (qd _) λb _ o e=>qb _ e) YU (by simp) hS λs' Uh c' hm hS' VE=> ?_⟩;refine⟨rfl,?_⟩;rw[Moved.eq_with hm];refine hQ s'.heap s'.toks Uh c' (λb o hb e=> ?_) hS' VE;refine hm.heap b o (λz=> ?_) (qb _ e);rcases qg.mp z with z|z
 ·exact absurd (qe e) (by rw[z];exact wd _)
 ·exact hb (z6.mp z)
end
section
variable {X : Cx}
theorem Qx(r:Vals xs RX)(h:ItemsOf (λi v=>RX.toArray[RX.toArray.size - 1 - i]?=⇑v) acc RX.toArray.size):Vals xs.reverse acc.toList:=by
 have e:acc.toList=RX.reverse:=by
  apply gg;intro i;have hsz:=h.1;simp only[ql]at hsz;by_cases hi:i<RX.length
  ·have e1:acc.toList[i]?=⇑(acc[i]'⋯):=by rw[Array.getElem?_toList,Array.getElem?_eq_getElem ⋯]
   have e2:=h.2 i _ (Array.getElem?_eq_getElem (show i<acc.size by lia));rw[e1,<-e2];simp only[ql,List.getElem?_toArray];rw[List.getElem?_reverse hi]
  ·rw[wv (by simp;lia),wv (by simp;lia)]
 rw[e];clear h e
 induction r with
 | nil=>exact .nil
 | cons r rr ih=>
  rw[List.reverse_cons,List.reverse_cons];exact ih.append (.cons r .nil)
def Ck(K:W.Frag)(ta:TA):TE:=λσ H Q=>ta σ H λvs H1=>∃a xs,vs=[.ref a]/\R8 K H1 a xs/\∀l,H1 l=none->Q (.ref l) (az H1 l (.lst xs.reverse))
theorem Nj{e:Expr}{ta:TA}{p p2 pos Xl:Pos}(hc:X.calm=true)(hgl:Gl X "list")(hml:X.mg "list"=none)(hgr:Gl X "reversed")(hmr:X.mg "reversed"=none)(ha:PA X [e] ta)
  (hs:starEach [e] X.env=[(false,eval e X.env)]:=by rfl)
  (XT:starEach [.Call (.Name "reversed" p2) [e] [] Xl] X.env=[(false,eval (.Call (.Name "reversed" p2) [e] [] Xl) X.env)]:=by rfl):
  PE X (.Call (.Name "list" p) [.Call (.Name "reversed" p2) [e] [] Xl] [] pos) (Ck X.K ta):=by
 intro pins s σ H Q I h;refine wpAny_Call_Name_kw (nD I hgl hml K0 ?_);refine PyProof.Rows.callWith_type1 ?_ XT rfl;rw[XT];show wpAny _ _ (spliced ((false,eval (.Call (.Name "reversed" p2) [e] [] Xl) X.env)::[])) _ _ s;refine Calls.spliced_cons (Call_ (nD I hgr hmr N5 (PyProof.Rows.callWith_type1 (aJ (ha Xl pins s σ H _ I h) λus s1 ⟨vs,H1,I1,r1,q1⟩=> ?_) hs rfl)));obtain⟨a,xs,rfl,hq,q⟩:=q1;obtain⟨u,rfl,rx⟩:=eR r1;cases rx;obtain⟨RX,rv,pl,hz⟩:=I1.list hq;have hlen:=rv.length;refine call_reversed_list pl.isList ?_;refine Calls.spliced_nil ?_;have hne:a≠s1.heap.objs.size:=by
  obtain⟨o,ho,_⟩:=pl.isList;exact qo (qe ho)
 have pl':=pl.isList;refine Pg (l:=a) (items:=RX.toArray) (I.ok.hd hc) hne ⟨_,qq _ rfl,rfl,rfl⟩ (pl'.at λo e=>qb _ e) (by rw[ql,<-hlen];exact hz) λh' tk Uh c' hk hS VE=> ?_;rw[wq]at hS;have kp:∀b o,s1.heap.get? b=⇑o->h'.get? b=⇑o:=λb o e=>hk b o (qo (qe e)) (qb _ e);refine⟨.ref _,_,I1.laid (t':=tk) kp (a:=s1.heap.objs.size+1) (o:=.lst xs.reverse) (k6 _) ⟨by simpa using hz,Uh.toList,c',Qx rv VE,by simpa using hS⟩,?_,q _ (I1.RZ.fresh (k6 _))⟩;show Value.ref _=Value.ref _;rw[wq]
end
theorem NH(h:oF (.inl i) v=true):∃t,v=.int i t:=by
 exact Value.isInt_shape (k:=i) (v:=v) h
section
variable {X : Cx}
def Jd(H:Hp)(a:Addr)(ns:List Int):Prop:=∃kvs:List (aW×V),H a=⇑(.dK kvs)/\kvs.map (·.1)=ns.map Sum.inl
theorem qY{kvs:List (aW×V)}{ns:List Int}(rel:KV kvs vs)(ek:kvs.map (·.1)=ns.map Sum.inl):vs.length=ns.length/\∀(i:Nat) (k:aW) (x:Value),vs[i]?=⇑(k,x)->k=Sum.inl (ns.getD i 0):=by
 have e1:vs.map (·.1)=ns.map Sum.inl:=by rw[<-rel.keys];exact ek
 have hl:vs.length=ns.length:=by have:=congrArg List.length e1;simpa using this
 refine⟨hl,λi k x hx=> ?_⟩;have hi:i<ns.length:=by rw[<-hl];exact(q9.mp hx).1
 have e2:(vs.map (·.1))[i]?=⇑k:=by rw[z9,hx];rfl
 rw[e1,z9,qk hi]at e2;simp at e2;rw[<-e2];simp[List.getD,qk hi]
def Fm(ns ms:List Int):Prop:=ms.Perm ns/\ms.Pairwise (·<=·)
def KJ(K:W.Frag):List V->Hp->VK->Prop:=λxs H Q=>∃(p:Addr) (ns:List Int),xs=[.ref p]/\R8 K H p (ns.map V.int)/\ns.length<=100000/\∀l ms,Fm ns ms->H l=none->Q (.ref l) (az H l (.lst (ms.map V.int)))
theorem Me:S3 X (.builtin "sorted") (KJ X.K):=by
 intro pins s σ H xs us Q I r h;obtain⟨p,ns,rfl,hq,hn,q⟩:=h;obtain⟨u,rfl,rx⟩:=eR r;cases rx;obtain⟨RX,r',pl,hz⟩:=I.list hq;have hl:=r'.length;rw[qf]at hl hz;refine ES.V6 pl.isList (Ju r') ⋯ λout ns' hI hp hs=> ?_;obtain⟨ep,hat⟩:=PyProof.Rows.sortedAll_at s.heap RX out;have hl':=hp.length_eq;refine⟨.ref _,_,I.laid (t':=s.toks) (a:=s.heap.objs.size+1) (o:=.lst (ns'.map V.int)) (λb o e=>PyProof.Rows.sortedAll_old e) (k6 _) ⟨by rw[qf];lia,out.toList,ep,B7 hI,by simpa using hat⟩,rfl,q _ ns' ⟨hp,hs⟩ (I.RZ.fresh (k6 _))⟩
def IZ:List V->Hp->VK->Prop:=λxs H Q=>∃(a:Addr) (ns:List Int),xs=[.ref a]/\Jd H a ns/\ns.length<=100000/\∀l ms,Fm ns ms->H l=none->Q (.ref l) (az H l (.lst (ms.map V.int)))
theorem Kf:∀{vs:List Value} {ns:List Int},vs.length=ns.length->(∀(j:Nat) (v:Value),vs[j]?=⇑v->∃t,v=.int (ns.getD j 0) t)->IntsAre vs ns
 | [],[],_,_=>.nil
 | v::vs,n::ns,hl,h=>by
  obtain⟨t,e⟩:=h 0 v rfl;have e':v=.int n t:=e;rw[e'];exact .cons n t (Kf (by simpa using hl) λj w hw=>h (j+1) w hw)
 | [],_::_,hl,_=>by simp at hl
 | _::_,[],hl,_=>by simp at hl
theorem Lr(hc:X.calm=true):S3 X (.builtin "sorted") IZ:=by
 intro pins s σ H xs us Q I r h;obtain⟨a,ns,rfl,⟨kvs,e,ek⟩,hn,q⟩:=h;obtain⟨u,rfl,rx⟩:=eR r;cases rx;obtain⟨z,hd,vs,rel,dd⟩:=B0 I.RZ e;obtain⟨ep,hat⟩:=dd.dictAt;obtain⟨hl,hk⟩:=qY rel ek;refine Calls.call_function_entry kind_sorted plain_sorted entry_sorted (args_sorted1 _) ?_;unfold Builtin.«sorted»;refine wpAny_bind (m:=checkCount "sorted" 1 1 _) (wpAny_pure ?_);have hz:vs.length<=sizeLine:=by rw[<-rel.length];exact z
 refine wpAny_bind (W.kdu_collect (A:=X.A.in1) (W.kdl_dict (knd:=cV X.prog X.w) (kvs:=vs) (ep:=ep) hd) (I.ok.hd hc) hat hz λh' tk acc kp VE=> ?_);have hal:acc.toList.length=vs.length:=by rw[Array.length_toList];exact VE.1
 refine wpAny_bind (wpAny_newList ?_ (by rw[hal];exact hz));have hI:IntsAre acc.toList ns:=Kf (by rw[hal,hl]) λj v hv=>by
  obtain⟨k,x,hx,hkk⟩:=VE.2 j v (by rw[<-Array.getElem?_toList];exact hv);rw[hk j k x hx]at hkk;exact NH hkk
 have hoL:(h'.push (seqObj "list" acc.toList.toArray 0)).get? h'.objs.size=⇑(seqObj "list" acc.toList.toArray 0):=qq _ rfl;refine wpAny_bind (wpAny_holding (wpAny_call_entry slot_list_sort ⟨_,hoL,rfl⟩ entry_list_sort (ES.Vw (A:=X.A.in1.in1) hoL hI ⋯ λout ns' a1 a2 a3=>⟨_,rfl,?_⟩) (args_list_sort _)));refine wpAny_pure ⟨_,rfl,?_⟩;obtain⟨e2,hat2⟩:=sortedHeap_at (vs:=acc.toList) (out:=out) (n:=0) hoL;have hl':=a2.length_eq;have I1:Inv X pins σ H {s with heap:=h',toks:=tk}:=I.kept (t':=tk) kp;refine⟨.ref _,_,I1.laid (t':=tk) (a:=h'.objs.size) (o:=.lst (ns'.map V.int)) (λb o e=> ?_) (qd _) ⟨by rw[qf,hl',<-hl];exact hz,out.toList,e2,B7 a1,by simpa using hat2⟩,rfl,q _ ns' ⟨a2,a3⟩ (I1.RZ.fresh (qd _))⟩;have hlt:=qe e;rw[sortedHeap_old (qo hlt) (by rw[wq];exact km hlt)];exact qb _ e
def Ec(K:W.Frag):List V->Hp->VK->Prop:=λxs H Q=>KJ K xs H Q\/IZ xs H Q
theorem Q0(hc:X.calm=true):S3 X (.builtin "sorted") (Ec X.K):=S3.or Me (Lr hc)
def nr:V->List V->Hp->VK->Prop:=λx xs H Q=>∃i:Int,x=.int i/\xs=[]/\Q (.int (Builtin.Int.intBits i:Nat)) H
theorem Pp:so X "int.bit_length" nr:=by
 intro pins s σ H x xs v us Q I rx rv h;obtain⟨i,rfl,rfl,q⟩:=h;obtain⟨t,rfl⟩:=rx;cases rv;refine call_gives PySem.F.slot_int_bit_length (typeIs_int _ _ _) PySem.F.entry_int_bit_length (PySem.F.args_int_bit_length_1 _) (AutoIntG2.int_bit_length_int_0 i t) ?_;exact⟨.int _,H,I.tok _,⟨_,rfl⟩,q⟩
end
section
variable {X : Cx} {k : Nat} {m : Str} {p pos apos : Pos} {e o : Expr} {es : List Expr} {ta : TE} {t : TA}
def B8(P:Program)(w:World)(K:W.Frag)(mg:Str->Option Value)(base:Heap)(k:Nat)(m:Str)(ta:TE)(t:TA):(Addr->Hp->Prop)->TE:=λF=>kR P w K mg base (CXE P w) k m (FE F) ta t
theorem pW{pl:Sem Bool}(he:PE X.nox o ta)(hr:Sf k X.A)(ha:PA X.nox (e::es) t)
  (Tg:starEach (e::es) X.env=(false,eval e X.env)::starEach es X.env:=by rfl) (VY:(backTo pos (starEach es X.env)).any (·.1)=false:=by rfl)
  (ht:eval (.Call (.Attribute o m apos) (e::es) [] pos) X.env=(do
   let ov<-eval o X.env
   standAt apos.atName
   let (f,first)<-holding [ov] (getMethod ov m pl)
   callWith pos f first (backTo pos (starEach (e::es) X.env)) (backToKw pos (keywordEach [] X.env))):=by rfl):
  Cm X (.Call (.Attribute o m apos) (e::es) [] pos) (B8 X.prog X.w X.K X.mg X.base k m ta t):=by
 intro pins s σ H Q Fx I h;refine W.methodCall_KW (pl:=pl) (Kt (he pins s σ H _ (I.Ve _) h) λu s1 ⟨x,H1,I1,rx,a,C,dx,fs,sp,ex,ea,c,⟨f,fd,ps,hm,F,hb⟩,l,q⟩=> ?_) ht;subst ex;obtain rfl:u=Value.ref a:=rx;refine Dp I1.Vf ea c hm l ?_;refine W.callWith_K (first:=[.ref a]) (h₀:=X.base) I.ok.mod.YK hm.kp (Kt (ha pos pins s1 σ H1 _ I1 q) λus s2 ⟨vs,H2,I2,r,q2⟩=>⟨I2.TK,?_⟩) Tg VY;exact PK (us:=.ref a::us) (vs:=.ref a::vs) (UC:=[]) (ds:=[]) F hr hb .nil I2.Vf (.cons rfl r) (by simpa using q2)
theorem L_{K:W.Frag}{mg:Str->Option Value}(h1:X.prog=P)(h2:X.w=w)(h3:X.K=K)(h4:X.mg=mg)(h5:X.base=base)
  (h:Cm X e (B8 X.prog X.w X.K X.mg X.base k m ta t)):Cm X e (B8 P w K mg base k m ta t):=by subst h1 h2 h3 h4 h5;exact h
end
noncomputable def oT(a:Addr)(o:Obj)(kvs:List (aW×V)):It:=
 ⟨λi H=>H a=⇑(.SY o (.dK kvs))/\i<kvs.length,λi H x H'=>H'=H/\(kvs[i]?).map (·.2)=⇑x,λi H=>H a=⇑(.SY o (.dK kvs))/\kvs.length<=i⟩
theorem KV.get{kvs:List (aW×V)}(r:KV kvs vs){i:Nat}{k:aW}{u:Value}(h:vs[i]?=⇑(k,u)):∃x,kvs[i]?=⇑(k,x)/\RelV x u:=by
 induction r generalizing i with
 | nil=>simp at h
 | @cons p q ps qs hq t ih=>
  cases i with
  | zero=>
   simp only[qy,Option.some.injEq]at h;subst h;obtain⟨h1,h2⟩:=hq;exact⟨p.2,congrArg some (Prod.ext h1 rfl),h2⟩
  | succ i=>exact ih h
theorem II{h:Heap}(e:h.get? a=⇑o)(hep:∀es x,o.data=.dict es x->x=ep)(dd:h.DictOf (cV prog w) a vs):h.DictAt (cV prog w) a vs ep:=by
 obtain⟨ep',hat⟩:=dd.dictAt;obtain⟨o',es,h1,h2,h3,h4⟩:=id hat;rw[e]at h1;cases h1;rw[hep es ep' h3]at hat;exact hat
theorem Qt{K:W.Frag}(a it:Addr)(o:Obj)(kvs:List (aW×V))(ep:Nat)(hep:∀es x,o.data=.dict es x->x=ep):Turn P w K tg (oT a o kvs) [it] it (λi h=>h.IsValIter it a i kvs.length ep)where
 mem:=by simp
 obj:=λi h st b hb=>by
  have e:b=it:=by simpa using hb
  subst e;obtain⟨o,e,c,d⟩:=st;exact⟨o,e,λv z=>by rw[d]at z;cases z⟩
 keep:=λi h h' st k=>st.at λo e=>k it (by simp) o e
 item:=by
  intro X hP hw hK hc i pins s σ H E I hf st hg;subst hP hw hK;obtain⟨hq,hi⟩:=hg;obtain⟨f0,f1,f2,f3,f4,f5⟩:=hf it (by simp);obtain⟨eo,z,hd,vs,rel,dd⟩:=(show Tt X.prog X.w H s.heap a (.SY o (.dK kvs))from I.RZ a _ hq);have hl:=rel.length;have hat:=II eo hep dd;have hlt:i<vs.length:=⋯;obtain⟨⟨k,u⟩,hx⟩:∃p,vs[i]?=⇑p:=⟨vs[i],by simp[hlt]⟩;obtain⟨x,hkx,rx⟩:=rel.get hx;rw[hl]at st;refine wpAny_pyNext_values_item st hat hx λh' st' sb=> ?_;have I1:Inv X pins σ H {s with heap:=h'}:=I.turned (t':=s.toks) (λb o hb e=>(sb.2 b hb).trans e) f0 f1 f3 f4 f5;obtain⟨o',e,c,d⟩:=id st';rw[<-hl]at st';exact⟨u,rfl,sR (s:={s with heap:=h'}) e c d ⋯ ⟨x,H,I1,rx,⟨rfl,by rw[hkx];rfl⟩,st',λb hb=>(hf b hb).1⟩⟩
 done:=by
  intro X hP hw hK hc i pins s σ H E I hf st hg;subst hP hw hK;obtain⟨hq,hi⟩:=hg;obtain⟨f0,f1,f2,f3,f4,f5⟩:=hf it (by simp);obtain⟨eo,z,hd,vs,rel,dd⟩:=(show Tt X.prog X.w H s.heap a (.SY o (.dK kvs))from I.RZ a _ hq);have hl:=rel.length;have hat:=II eo hep dd;rw[hl]at st;exact wpAny_pyNext_values_end (I.ok.hd hc) st hat (wv ⋯) λh' eb=>⟨rfl,I.turned (t':=s.toks) (λb o hb e=>eb b o hb e) f0 f1 f3 f4 f5⟩
 self:=λ_ _ _ _ _ st h=>wpAny_pyIter_valiter st h
def NF(X:Cx)(a:Addr):Prop:=∀o u,X.H₀ a≠⇑(.SY o u)
theorem Inv.Xj{σ:St}(I:Inv X pins σ H s)(e:H a=⇑u)(n:NF X a)(h1:∀xs,u≠ .tup xs)(h2:∀ps,u≠ .X9 ps)(h3:∀y,u≠ .own y)(new:Tt X.prog X.w (az H a v) s.heap a v):Inv X pins σ (az H a v) s:=by
 have ne:∀b,H b=none->b≠a:=λb hb z=>by rw[z,e]at hb;cases hb
 refine⟨I.ok,I.os,I.bare,⟨I.base.keep,I.base.slot,λb ob q m x=> ?_,I.base.there,λb xs q=> ?_,λb ob w q=> ?_,λb ps q=> ?_⟩,I.loc,I.cell,?_,λx c q=> ?_,λp hp=> ?_,λb ob q=> ?_,I.len⟩
 ·have:=I.base.free b ob q m x
  rw[aE (ne b this)];exact this
 ·have:=I.base.tups b xs q
  rw[aE (λz=>by rw[z,e]at this;exact h1 xs (Option.some.inj this))];exact this
 ·have nb:b≠a:=λz=>by subst z;exact n ob w q
  rw[aE nb];exact I.base.TF b ob w q
 ·obtain⟨more,this⟩:=I.base.T5 b ps q
  exact⟨more,by rw[aE (λz=>by rw[z,e]at this;exact h2 _ (Option.some.inj this))];exact this⟩
 ·rw[aE (ne _ I.free)];exact I.free
 ·rw[aE (ne _ (I.SK x c q))];exact I.SK x c q
 ·obtain⟨p1,p2,p3⟩:=I.pin p hp
  exact⟨p1,by rw[aE (ne _ p2)];exact p2,p3⟩
 ·by_cases hb:b=a
  ·subst hb;rw[b7]at q;cases q;exact new
  ·rw[aE hb]at q
   exact(I.RZ b ob q).UD (λ_ _ _ r=>r) (λc r=>by rw[aE (λz=>by rw[z,e]at r;exact h3 b (Option.some.inj r))];exact r) λc xs r=>by
    rw[aE (λz=>by rw[z,e]at r;exact h1 xs (Option.some.inj r))];exact r
theorem Inv.nf{σ:St}(I:Inv X pins σ H s)(e:H a=⇑u)(h:∀o w,u≠ .SY o w):NF X a:=λo w q=>by
 have:=I.base.TF a o w q;rw[e]at this;exact h o w (Option.some.inj this)
theorem Inv.thaw{σ:St}(I:Inv X pins σ H s)(n:NF X a)(e:H a=⇑(.SY o (.dK kvs))):Inv X pins σ (az H a (.dK kvs)) s:=by
 obtain⟨_,z,hd,vs,rel,dd⟩:=(show Tt X.prog X.w H s.heap a (.SY o (.dK kvs))from I.RZ a _ e);exact I.Xj e n (λ_ z=>nomatch z) (λ_ z=>nomatch z) (λ_ z=>nomatch z) ⟨z,hd,vs,rel,dd⟩
def kJ(N:Addr->Prop)(te:TE):TI:=λσ H R=>te σ H λx H1=>∃a kvs,x=.ref a/\H1 a=⇑(.dK kvs)/\∀o,o.cls=.type "dict"->N a->R (oT a o kvs) (az H1 a (.SY o (.dK kvs)))
theorem Qs{X:Cx}{tg e:Expr}{te:TE}{apos SV:Pos}(he:PE X e te)(UP:attributeBase e "values" X.env (eval e X.env)=eval e X.env:=by rfl)(UO:(apos.endLine==SV.line)=true:=by rfl):
  PI X tg (.Call (.Attribute e "values" apos) [] [] SV) (kJ (NF X) te):=by
 intro pins s σ H R I h;refine wpAny_Call_method0_late UP UO (aJ (he pins s σ H _ I h) λv s1 hh=> ?_);obtain⟨x,H1,I1,r1,q1⟩:=hh;obtain⟨a,kvs,rfl,ea,q⟩:=q1;cases r1;obtain⟨z,hd,vs,rel,dd⟩:=B0 I1.RZ ea;obtain⟨h1,h2⟩:=CC I1 (show RelV (.ref a) (.ref a)from rfl) (T:="dict") (.inr (.inr (.inl ⟨rfl,.inl ⟨_,ea⟩⟩)));refine⟨"dict","dict.values",PySem.F.plainAttrs_dict,PySem.F.slot_dict_values,PySem.F.type_dict_values,h1,h2,Calls.callWith_builtin rfl (PySem.evalArgs_none ?_)⟩;refine call_meetsIn PySem.F.slot_dict_values dd.typeIs PySem.F.entry_dict_values (PySem.F.args_dict_values_1 _) (meets_dict_values (cV X.prog X.w) a hd) ⟨⟨vs,dd⟩,?_⟩;obtain⟨ep,hat⟩:=dd.dictAt;obtain⟨o,es,eo,ec,edat,_⟩:=id hat;have kp:∀b ob,s1.heap.get? b=⇑ob->((s1.heap.push {cls:=.type "dict_values",data:=.fields #[.ref a]}).push {cls:=.type "dict_valueiterator",data:=.fields #[.ref a,.int 0 0,.int vs.length 0,.int ep 0]}).get? b=⇑ob:=λb ob e=>qb _ (qb _ e);have I2:Inv X pins σ H1 {s1 with heap:=(s1.heap.push {cls:=.type "dict_values",data:=.fields #[.ref a]}).push {cls:=.type "dict_valueiterator",data:=.fields #[.ref a,.int 0 0,.int vs.length 0,.int ep 0]}}:=I1.kept (t':=s1.toks) kp;have nf:NF X a:=I1.nf ea λ_ _ z=>nomatch z;have YM:=I2.RZ a _ ea;have I3:=I2.Xj (v:=.SY o (.dK kvs)) ea nf (λ_ z=>nomatch z) (λ_ z=>nomatch z) (λ_ z=>nomatch z) ⟨kp a o eo,YM.1,YM.2.1,YM.2.2⟩;show wpAny (model X.prog X.w) X.A (pyIter (.ref s1.heap.objs.size)) (Ef X pins σ tg R) X.xe {s1 with heap:=s1.heap.push {cls:=.type "dict_values",data:=.fields #[.ref a]}};refine wpAny_pyIter_values (knd:=cV X.prog X.w) (kvs:=vs) (ep:=ep) ⟨_,qq _ rfl,rfl,rfl⟩ (hat.push _) ?_;have hl:=rel.length;have gz:s1.heap.objs.size<=(s1.heap.push {cls:=.type "dict_values",data:=.fields #[.ref a]}).objs.size:=by rw[wq];lia
 have na:a≠(s1.heap.push {cls:=.type "dict_values",data:=.fields #[.ref a]}).objs.size:=qo (qt (qe eo) gz);refine⟨_,[(s1.heap.push {cls:=.type "dict_values",data:=.fields #[.ref a]}).objs.size],_,_,_,rfl,I3,Qt a _ o kvs ep (λZ_ x e=> ?_),?_,λb hb=> ?_,q o ec.1 nf⟩
 ·rw[edat]at e;cases e;rfl
 ·rw[hl];exact⟨_,qq _ rfl,rfl,rfl⟩
 ·have e:b=(s1.heap.push {cls:=.type "dict_values",data:=.fields #[.ref a]}).objs.size:=by simpa using hb
  subst e;refine I1.Xv gz ?_;rw[aE (Ne.symm na)];exact I1.RZ.fresh gz
def l6(N:Addr->Prop)(D:Ends):Ends:=
 ⟨λσ H=>∃a o kvs,N a/\H a=⇑(.SY o (.dK kvs))/\D.nx σ (az H a (.dK kvs)),λv H=>∃a o kvs,N a/\H a=⇑(.SY o (.dK kvs))/\D.rt v (az H a (.dK kvs)),λ_ _=>False,λ_ _=>False⟩
def lh(te:TE)(g:TG)(tb:TS):TS:=λD σ H=>∀N:Addr->Prop,oG (kJ N te) g tb (l6 N D) σ H
theorem QU{X:Cx}{tg e:Expr}{te:TE}{apos SV:Pos}{body:List Stmt}{g:TG}{tb:TS}{pos:Pos}(hp:PassesOwn (model X.prog X.w) X.A X.env X.xe)(hc:X.calm=true)(he:PE X e te)(hg:PG X tg g)(hb:VP X body tb)
  (hs:∀x,foldedSetIterable (.Call (.Attribute e "values" apos) [] [] SV) X.env x=pure x:=by intro _;rfl) (UP:attributeBase e "values" X.env (eval e X.env)=eval e X.env:=by rfl) (UO:(apos.endLine==SV.line)=true:=by rfl):
  PS X (.For tg (.Call (.Attribute e "values" apos) [] [] SV) body [] pos) (lh te g tb):=by
 intro pins s σ H D I h;refine aJ (y9 hp hc (Qs he UP UO) hg hb hs pins s σ H (l6 (NF X) D) I (h (NF X))) λf s1 q=> ?_;cases f with
 | next=>obtain⟨σ1,H1,I1,a,o,kvs,n,e,q⟩:=q;exact⟨σ1,_,I1.thaw n e,q⟩
 | ret u=>obtain⟨v,σ1,H1,I1,r,a,o,kvs,n,e,q⟩:=q;exact⟨v,σ1,_,I1.thaw n e,r,q⟩
 | brk=>obtain⟨_,_,_,q⟩:=q;exact q.elim
 | cont=>obtain⟨_,_,_,q⟩:=q;exact q.elim
def Gn(K:W.Frag)(a b:Addr):It:=
 ⟨λi H=>∃xs x ys y,R8 K H a xs/\xs[i]?=⇑x/\R8 K H b ys/\ys[i]?=⇑y,λi H v H'=>∃p x y,H p=none/\(∀xs,R8 K H a xs->xs[i]?=⇑x)/\(∀ys,R8 K H b ys->ys[i]?=⇑y)/\v=.ref p/\H'=az H p (.tup [x,y]),λi H=>∃xs ys,R8 K H a xs/\R8 K H b ys/\(xs.length<=i\/ys.length<=i)⟩
theorem Mr{K:W.Frag}{x1}(a b z TI TO i1 i2:Addr)(D:ZipApart z TI TO i1 i2 a b):Turn P w K (.Tuple elts x1 V3) (Gn K a b) [z,TI,TO,i1,i2] z (λi h=>IsZip h z TI TO .none/\IsPair h TI (.ref i1) (.ref i2)/\(∃u v,IsPair h TO u v)/\h.IsListIter i1 a i/\h.IsListIter i2 b i)where
 mem:=by simp
 obj:=λi h st c hc=>by
  obtain⟨h1,h2,⟨u,v,h3⟩,h4,h5⟩:=st;simp only[qg,zv,or_false]at hc;rcases hc with rfl|rfl|rfl|rfl|rfl
  ·exact⟨_,h1,λv z=>by
    have z':Data.fields _=Data.cell v:=z;cases z'⟩
  ·exact⟨_,h2,λv z=>by
    have z':Data.seq _=Data.cell v:=z;cases z'⟩
  ·exact⟨_,h3,λv z=>by
    have z':Data.seq _=Data.cell v:=z;cases z'⟩
  ·obtain⟨o,e,c,d⟩:=h4
   exact⟨o,e,λv z=>by rw[d]at z;cases z⟩
  ·obtain⟨o,e,c,d⟩:=h5
   exact⟨o,e,λv z=>by rw[d]at z;cases z⟩
 keep:=λi h h' st k=>by
  obtain⟨h1,h2,⟨u,v,h3⟩,h4,h5⟩:=st;exact⟨k z (by simp) _ h1,k TI (by simp) _ h2,⟨u,v,k TO (by simp) _ h3⟩,h4.at λo e=>k i1 (by simp) o e,h5.at λo e=>k i2 (by simp) o e⟩
 item:=by
  intro X hP hw hK hc i pins s σ H E I hf st hg;subst hP hw hK;obtain⟨xs,x,ys,y,hq,hx,UB,hy⟩:=hg;obtain⟨RX,rv,p,hz⟩:=I.list hq;obtain⟨u,hu,ru⟩:=rv.get hx;obtain⟨WS,Z3,p2,hz2⟩:=I.list UB;obtain⟨u2,hu2,ru2⟩:=Z3.get hy;obtain⟨h1,h2,⟨v1,v2,h3⟩,h4,h5⟩:=st;refine wpAny_pyNext_zip_item D h1 h2 h3 h4 h5 p.isList p2.isList (x:=u) (y:=u2) (by simpa using hu) (by simpa using hu2) λh₁ XG hTO gN iA ht₁ hz₁ hk₁=> ?_;refine⟨.ref s.heap.objs.size,rfl,wpAny_letOwnedTupleGo_zip XG λh₂ he₂ VX=> ?_⟩
  replace VX:Heap.SameBut z h₁ h₂:=VX
  have fr:H s.heap.objs.size=none:=I.RZ.fresh (qd _);have kp:∀c o,c∉[z,TI,TO,i1,i2]->s.heap.get? c=⇑o->h₂.get? c=⇑o:=λc o n e=>VX.extBut c o (λq=>n (by simp[q])) (hk₁ c o (λq=>n (by simp[q])) (λq=>n (by simp[q])) (λq=>n (by simp[q])) (λq=>n (by simp[q])) e);have zlt:z<s.heap.objs.size:=qe h1;have tup:h₂.get? s.heap.objs.size=some {cls:=.type "tuple",data:=.seq #[u,u2]}:=VX.extBut _ _ (wj zlt) ht₁;have tr:∀{c u},H c=⇑u->c∉[z,TI,TO,i1,i2]:=fun{c u} e m=>by rw[(hf c m).1]at e;cases e
  have RZ:SW X.prog X.w (az H s.heap.objs.size (.tup [x,y])) h₂:=by
   intro c o e;by_cases hb:c=s.heap.objs.size
   ·subst hb
    rw[b7]at e;cases e;exact⟨(show 2<=sizeLine by decide),[u,u2],.cons ru (.cons ru2 .nil),⟨_,tup,rfl,_,rfl⟩⟩
   ·rw[aE hb]at e
    refine(I.RZ c o e).UD (λc' v WJ q=> ?_) (λc' q=>by rw[aE (eU q fr)];exact q) λc' ys q=>by rw[aE (eU q fr)];exact q
    refine kp c' v ?_ q;rcases WJ with rfl|WJ
    ·exact tr e
    ·exact tr WJ
  have un:Un (bp X.stack) [z,TI,TO,i1,i2] H (az H s.heap.objs.size (.tup [x,y])) s.heap h₂:=by
   refine⟨λc o e _ _ hb=>kp c o hb e,λc o e _ _ hb=>⟨o.slots,kp c o hb e⟩,λc o e n _=> ?_,λc o e hb=>⟨o,kp c o hb e⟩,λc ys e=> ?_,λc o v e=> ?_,λc ps e=>⟨#[],?_⟩⟩
   ·rw[aE (qo (qe e))];exact n
   ·rw[aE (eU e fr)];exact e
   ·rw[aE (eU e fr)];exact e
   ·rw[aE (eU e fr)];simpa using e
  have I2:Inv X pins σ (az H s.heap.objs.size (.tup [x,y])) {s with heap:=h₂}:=
   I.Vd (s':={s with heap:=h₂}) (ch:=[z,TI,TO,i1,i2]) rfl un RZ I.bare λc hb=>⟨(hf c hb).2.2.2.1,(hf c hb).2.1,(hf c hb).2.2.2.2.1,(hf c hb).2.2.2.2.2⟩
  refine⟨.ref s.heap.objs.size,_,I2,rfl,⟨s.heap.objs.size,x,y,fr,λzs hy=>by rw[I.Ud hy hq];exact hx,λzs hz=>by rw[I.Ud hz UB];exact hy,rfl,rfl⟩,⟨he₂,VX.extBut _ _ D.TIz (hk₁ _ _ D.TIz D.TITO D.TIi1 D.TIi2 h2),⟨_,_,VX.extBut _ _ D.TOz hTO⟩,gN.extBut VX.extBut D.i1z,iA.extBut VX.extBut D.i2z⟩,λc hc=> ?_⟩;have:c<s.heap.objs.size:=by
   simp only[qg,zv,or_false]at hc;rcases hc with rfl|rfl|rfl|rfl|rfl
   ·exact zlt
   ·exact qe h2
   ·exact qe h3
   ·obtain⟨o,e,_⟩:=h4;exact qe e
   ·obtain⟨o,e,_⟩:=h5;exact qe e
  rw[aE (qo this)];exact(hf c hc).1
 done:=by
  intro X hP hw hK hc i pins s σ H E I hf st hg;subst hP hw hK;obtain⟨xs,ys,hq,UB,hx⟩:=hg;obtain⟨RX,rv,p,hz⟩:=I.list hq;obtain⟨WS,Z3,p2,hz2⟩:=I.list UB;have hl:=rv.length;have hl2:=Z3.length;obtain⟨h1,h2,⟨v1,v2,h3⟩,h4,h5⟩:=st;refine wpAny_pyNext_zip_end (I.ok.hd hc) D h1 h2 h3 h4 h5 p.isList p2.isList (by simp;lia) λh' hk=>⟨rfl,?_⟩;have kp:∀c o,c∉[z,TI,TO,i1,i2]->s.heap.get? c=⇑o->h'.get? c=⇑o:=λc o n e=>hk c o (λq=>n (by simp[q])) (λq=>n (by simp[q])) (λq=>n (by simp[q])) (λq=>n (by simp[q])) e;have tr:∀{c u},H c=⇑u->c∉[z,TI,TO,i1,i2]:=fun{c u} e m=>by rw[(hf c m).1]at e;cases e
  have RZ:SW X.prog X.w H h':=by
   intro c o e;refine(I.RZ c o e).UD (λc' v WJ q=> ?_) (λc' q=>q) λc' ys q=>q;refine kp c' v ?_ q;rcases WJ with rfl|WJ
   ·exact tr e
   ·exact tr WJ
  have un:Un (bp X.stack) [z,TI,TO,i1,i2] H H s.heap h':=
   ⟨λc o e _ _ hb=>kp c o hb e,λc o e _ _ hb=>⟨o.slots,kp c o hb e⟩,λc o e n _=>n,λc o e hb=>⟨o,kp c o hb e⟩,λc ys e=>e,λc o v e=>e,λc ps e=>⟨#[],by simpa using e⟩⟩
  exact I.Vd (s':={s with heap:=h'}) (ch:=[z,TI,TO,i1,i2]) rfl un RZ I.bare λc hb=>⟨(hf c hb).2.2.2.1,(hf c hb).2.1,(hf c hb).2.2.2.2.1,(hf c hb).2.2.2.2.2⟩
 self:=λ_ _ _ _ _ st h=>wpAny_pyIter_zip st.1 h
theorem pD:bootBuiltins "zip"=⇑(.type "zip"):=⋯
def j2(K:W.Frag)(ta:TA):TI:=λσ H R=>ta σ H λvs H1=>∃a b xs ys,vs=[.ref a,.ref b]/\R8 K H1 a xs/\R8 K H1 b ys/\R (Gn K a b) H1
theorem pL{X:Cx}{elts:List Expr}{x1}{V3:Pos}{e1 e2:Expr}{ta:TA}{p pos:Pos}(hg:Gl X "zip")(hm:X.mg "zip"=none)(ha:PA X [e1,e2] ta)
  (hs:starEach [e1,e2] X.env=(false,eval e1 X.env)::starEach [e2] X.env:=by rfl) (hp:(backTo pos (starEach [e2] X.env)).any (·.1)=false:=by rfl):PI X (.Tuple elts x1 V3) (.Call (.Name "zip" p) [e1,e2] [] pos) (j2 X.K ta):=by
 intro pins s σ H R I h;refine Call_ (nD I hg hm pD (PyProof.Rows.callWith_type1 (aJ (ha pos pins s σ H _ I h) λus s1 ⟨vs,H1,I1,r1,q1⟩=> ?_) hs hp));obtain⟨a,b,xs,ys,rfl,hq,UB,q⟩:=q1;cases r1 with
 | cons r rr=>
  cases r
  cases rr with
  | cons r2 rr2=>
   cases r2
   cases rr2
   obtain⟨RX,rv,pl,hz⟩:=I1.list hq;obtain⟨WS,Z3,pl2,hz2⟩:=I1.list UB;have la:a<s1.heap.objs.size:=by obtain⟨o,e,_⟩:=pl.isList;exact qe e
   have lb:b<s1.heap.objs.size:=by obtain⟨o,e,_⟩:=pl2.isList;exact qe e
   refine call_zip_2 pl.isList pl2.isList λh' hzz hTI hTO gN iA hsz kp=>wpAny_pyIter_zip (s:={s1 with heap:=h'}) hzz ?_;have I2:Inv X pins σ H1 {s1 with heap:=h'}:=I1.kept (t':=s1.toks) kp;have D:ZipApart (s1.heap.objs.size+4) (s1.heap.objs.size+2) (s1.heap.objs.size+3) s1.heap.objs.size (s1.heap.objs.size+1) a b:=by
    have la:@LT.lt Nat _ a s1.heap.objs.size:=la;have lb:@LT.lt Nat _ b s1.heap.objs.size:=lb;constructor<;>intro q<;>(have q:@Eq Nat _ _:=q)<;>lia
   refine⟨s1.heap.objs.size+4,[s1.heap.objs.size+4,s1.heap.objs.size+2,s1.heap.objs.size+3,s1.heap.objs.size,s1.heap.objs.size+1],_,_,H1,rfl,I2,Mr a b _ _ _ _ _ D,⟨hzz,hTI,⟨_,_,hTO⟩,gN,iA⟩,λc hc=> ?_,q⟩;have Ue:s1.heap.objs.size<=c:=by
    simp only[qg,zv,or_false]at hc;rcases hc with rfl|rfl|rfl|rfl|rfl
    ·exact gm _ _
    ·exact gm _ _
    ·exact gm _ _
    ·exact qd _
    ·exact gm _ _
   exact I1.Xv Ue (I1.RZ.fresh Ue)
theorem Np{K:W.Frag}(k:X.K=K)(h:PI X tg e (j2 X.K ta)):PI X tg e (j2 K ta):=by subst k;exact h
def p7(K:W.Frag):List V->Hp->VK->Prop:=λxs H Q=>∃(p:Addr) (bs:List Bool),xs=[.ref p]/\R8 K H p (bs.map V.bl)/\Q (.bl (bs.any id)) H
section
variable {X : Cx}
theorem N0(hc:X.calm=true):S3 X (.builtin "any") (p7 X.K):=by
 intro pins s σ H xs us Q I r h;obtain⟨p,bs,rfl,hq,q⟩:=h;obtain⟨u,rfl,rx⟩:=eR r;cases rx;obtain⟨RX,r',pl,hz⟩:=I.list hq;have e:=Fk r';have hh:X.A.in1.handled=none:=I.ok.hd hc;refine call_any_walk (wpAny_pyIter_list pl.isList ?_);have hne:p≠s.heap.objs.size:=by
  obtain⟨o,ho,_⟩:=pl.isList;exact qo (qe ho)
 refine⟨s.heap.objs.size,_,_,_,_,_,λi=>bs.getD i false,rfl,Walks.list hh _ p hne RX.toArray,?_,?_,λh' tk hk=> ?_⟩
 ·exact⟨⟨_,qq _ rfl,rfl,rfl⟩,pl.isList.at λo e=>qb _ e⟩
 ·intro i v s' Q' E' hP hQ
  have hv:RX[i]?=⇑v:=by simpa using hP
  rw[e,z9]at hv;obtain⟨b,hb,rfl⟩:=qi.mp hv;have:bs.getD i false=b:=by simp[List.getD,hb]
  have hQ':Q' (bs.getD i false) s':=hQ;rw[this]at hQ';exact wpAny_truthy_bool hQ'
 ·have k:∀b o,s.heap.get? b=⇑o->h'.get? b=⇑o:=λb o e=>hk b o (by
   intro hm;have:b=s.heap.objs.size:=by simpa using hm
   exact absurd (qe e) (by rw[this];exact wd _)) (qb _ e)
  refine⟨.bl (bs.any id),H,I.kept (t':=tk) k,?_,q⟩;have hl:=r'.length;simp only[qf]at hl;have e2:(List.range RX.toArray.size).any (λi=>bs.getD i false)=bs.any id:=by
   rw[ql,<-hl];rw[kg,u5,u5];constructor
   ·rintro⟨i,hi,hb⟩
    have hi':=w5.mp hi;exact⟨bs[i],kt hi',by simpa [List.getD,hi']using hb⟩
   ·rintro⟨x,hx,hb⟩
    obtain⟨i,hi,rfl⟩:=gu hx;exact⟨i,w5.mpr hi,by simpa [List.getD,hi]using hb⟩
  rw[e2];rfl
end
theorem Rb{K:W.Frag}(k:X.K=K)(hc:X.calm=true):S3 X (.builtin "any") (p7 K):=by subst k;exact N0 hc
end L2
namespace Z
open PySem
inductive D where
 | RY|bl (b:Bool)|int (i:Int)|str (x:Str)|tup (xs:List D)|lst (xs:List D)|arg (ns:List Int)|ref (k:Nat)
 | ty (n:String)|cls (n:String)|exc (n:String)|obj (c:String) (fs:List (Str×D))|VJ (kvs:List (Sum Int Str×D))
inductive Cell where
 | lst (xs:List D)|Sl (kvs:List (Sum Int Str×D))|ins (c:String) (fs:List (Str×D))|YW (kvs:List (Sum Int Str×D))
noncomputable def Cell.live:Cell->Bool
 | .YW _=>false|_=>true
noncomputable abbrev MH:=List (Option Cell)
noncomputable abbrev Ro:=List (Option D)
inductive Res (α:Type)where
 | ok (a:α) (h:MH)|exc (c:String) (h:MH)|stuck
inductive RS where
 | nx (ρ:Ro) (h:MH)|rt (d:D) (h:MH)|bk (ρ:Ro) (h:MH)|ct (ρ:Ro) (h:MH)|exc (c:String) (h:MH)|stuck
def Res.bind{α β:Type}(r:Res α)(f:α->MH->Res β):Res β:=match r with
 | .ok a h=>f a h|.exc c h=>.exc c h|.stuck=>.stuck
@[simp] theorem bU{α β:Type}{a:α}{f:α->MH->Res β}:(Res.ok a h).bind f=f a h:=rfl
@[simp] theorem xW{α β:Type}{f:α->MH->Res β}:(Res.exc c h).bind f= .exc c h:=rfl
@[simp] theorem qP{α β:Type}{f:α->MH->Res β}:(Res.stuck).bind f= .stuck:=rfl
def Res.toS{α:Type}(r:Res α)(f:α->MH->RS):RS:=match r with
 | .ok a h=>f a h|.exc c h=>.exc c h|.stuck=>.stuck
@[simp] theorem cG{α:Type}{a:α}{f:α->MH->RS}:(Res.ok a h).toS f=f a h:=rfl
@[simp] theorem BF{α:Type}{f:α->MH->RS}:(Res.exc c h).toS f= .exc c h:=rfl
@[simp] theorem tQ{α:Type}{f:α->MH->RS}:(Res.stuck).toS f= .stuck:=rfl
abbrev ME:=Ro->MH->Res D
abbrev MT:=Ro->MH->Res Bool
abbrev ML:=Ro->MH->Res (List D)
abbrev MO:=Ro->MH->Res (Option Int)
abbrev MI:=Ro->MH->Res (Option Nat×List D)
abbrev MS:=Ro->MH->RS
abbrev MG:=D->Ro->MH->RS
abbrev MF:=List D->MH->Res D
abbrev B2:=D->D->MH->Res D
@[simp] noncomputable def R7{α:Type}(c:Prop)[Decidable c](r:Res α):Res α:=if c then r else .stuck
@[simp] noncomputable def aa(i:Nat):ME:=λρ h=>match ρ[i]? with
 | some ⇑d=>.ok d h|_=>.stuck
@[simp] noncomputable def mC(d:D):ME:=λ_ h=> .ok d h
@[simp] noncomputable def af(f:B2)(a b:ME):ME:=λρ h=>(a ρ h).bind λx h1=>(b ρ h1).bind λy h2=>f x y h2
@[simp] def iZ(f:D->MH->Res D)(a:ME):ME:=λρ h=>(a ρ h).bind f
@[simp] noncomputable def ae:ML:=λ_ h=> .ok [] h
@[simp] noncomputable def ag(a:ME)(l:ML):ML:=λρ h=>(a ρ h).bind λx h1=>(l ρ h1).bind λxs h2=> .ok (x::xs) h2
@[simp] def bD(l:ML):ME:=λρ h=>(l ρ h).bind λxs h1=>R7 (xs.length<=16777216) (.ok (.tup xs) h1)
@[simp] def bz(l:ML):ML:=λρ h=>(l ρ h).bind λxs h1=>R7 (xs.length<=16777216) (.ok xs h1)
@[simp] noncomputable def aO(l:ML):ME:=λρ h=>(l ρ h).bind λxs h1=> .ok (.lst xs) h1
@[simp] noncomputable def h9(l:ML):ME:=λρ h=>(l ρ h).bind λxs h1=> .ok (.ref h1.length) (h1++[⇑(.lst xs)])
@[simp] noncomputable def ax(z:MF)(l:ML):ME:=λρ h=>(l ρ h).bind z
@[simp] def bh(f:List D->MH->Res D)(l:ML):ME:=λρ h=>(l ρ h).bind f
@[simp] noncomputable def tB(m:ME):MT:=λρ h=>(m ρ h).bind λd h1=>match d with
 | .bl b=>.ok b h1|_=>.stuck
@[simp] noncomputable def bW(a b:MT):MT:=λρ h=>(a ρ h).bind λc h1=>if c=true then b ρ h1 else .ok false h1
@[simp] noncomputable def dZ(a b:MT):MT:=λρ h=>(a ρ h).bind λc h1=>if c=true then .ok true h1 else b ρ h1
@[simp] noncomputable def aY(a:MT):MT:=λρ h=>(a ρ h).bind λc h1=> .ok (!c) h1
@[simp] noncomputable def HU(t:MT)(a b:ME):ME:=λρ h=>(t ρ h).bind λc h1=>if c=true then a ρ h1 else b ρ h1
@[simp] noncomputable def jx(a b:ME):ME:=λρ h=>(a ρ h).bind λd h1=>match d with
 | .bl c=>if c=true then b ρ h1 else .ok (.bl false) h1
 | _=>.stuck
@[simp] noncomputable def J3(a b:ME):ME:=λρ h=>(a ρ h).bind λd h1=>match d with
 | .bl c=>if c=true then .ok (.bl true) h1 else b ρ h1
 | _=>.stuck
@[simp] noncomputable def B5(f g:B2)(a b c:ME):ME:=λρ h=>(a ρ h).bind λx h1=>(b ρ h1).bind λy h2=>(f x y h2).bind λz h3=>match z with
 | .bl k=>if k=true then(c ρ h3).bind λw h4=>g y w h4 else .ok (.bl false) h3
 | _=>.stuck
@[simp] def eB(h:MH):D->Option (List D)
 | .lst xs=>⇑xs
 | .ref k=>match h[k]? with
  | some ⇑(.lst xs)=>⇑xs
  | _=>none
 | _=>none
@[simp] def c7(h:MH):D->Option (List D)
 | .lst xs=>⇑xs
 | .tup xs=>⇑xs
 | .arg ns=>⇑(ns.map .int)
 | .ref k=>match h[k]? with
  | some ⇑(.lst xs)=>⇑xs
  | _=>none
 | _=>none
@[simp] def Av(h:MH):D->Option (List (Sum Int Str×D))
 | .VJ kvs=>⇑kvs
 | .ref k=>match h[k]? with
  | some ⇑(.Sl kvs)=>⇑kvs
  | _=>none
 | _=>none
@[simp] def Cg(h:MH):D->Option (List (Sum Int Str×D))
 | .VJ kvs=>⇑kvs
 | .ref k=>match h[k]? with
  | some ⇑(.Sl kvs)=>⇑kvs
  | some ⇑(.YW kvs)=>⇑kvs
  | _=>none
 | _=>none
@[simp] def gF(h:MH):D->Option Bool
 | .RY=>⇑false
 | .bl b=>⇑b
 | .int i=>⇑(i !=0)
 | .str y=>if y.length<=16777216 then some ((y.length:Int)!=0)else none
 | d=>match c7 h d with
  | some xs=>⇑(!xs.isEmpty)
  | none=>match d with
   | .ref _=>(Av h d).map λkvs=> !kvs.isEmpty
   | _=>none
def oR{α:Type}(o:Option α)(h:MH):Res α:=match o with
 | some a=>.ok a h|none=>.stuck
@[simp] theorem DB{α:Type}{a:α}:oR ⇑a h= .ok a h:=rfl
@[simp] theorem AH{α:Type}:oR (none:Option α) h= .stuck:=rfl
@[simp] def aA(m:ME):MT:=λρ h=>(m ρ h).bind λd h1=>oR (gF h1 d) h1
@[simp] def lM(m:ME):ME:=λρ h=>(m ρ h).bind λd h1=>(oR (gF h1 d) h1).bind λb h2=> .ok (.bl (!b)) h2
def nL(i j:Int):Prop:=0<=j/\j<=1000000/\i.natAbs<18446744073709551616
instance (i j:Int):Decidable (nL i j):=by unfold nL;infer_instance
@[simp] def aB:B2:=λx y h=>match x,y with
 | .int i,.int j=>.ok (.int (i+j)) h
 | .str a,.str b=>R7 (a.length+b.length<=16777216) (.ok (.str (a++b)) h)
 | .tup a,.tup b=>R7 (a≠[]/\a.length+b.length<=16777216) (.ok (.tup (a++b)) h)
 | _,_=>(oR (eB h x) h).bind λa h=>(oR (eB h y) h).bind λb h=>R7 (a.length+b.length<=16777216) (.ok (.lst (a++b)) h)
@[simp] noncomputable def fS(f:Int->Int->Int):B2:=λx y h=>match x,y with
 | .int i,.int j=>.ok (.int (f i j)) h|_,_=>.stuck
@[simp] def sV(c:Int->Int->Prop)[∀i j,Decidable (c i j)](f:Int->Int->Int):B2:=λx y h=>match x,y with
 | .int i,.int j=>R7 (c i j) (.ok (.int (f i j)) h)|_,_=>.stuck
@[simp] def uv:B2:=fS (· - ·)
@[simp] def aU:B2:=sV (λ_ j=>0<j /\ j<1073741824) (· / ·)
@[simp] def aP:B2:=sV (λ_ j=>0<j) (· % ·)
@[simp] def cp:B2:=sV nL (λi j=>i*2^j.toNat)
@[simp] def wJ:B2:=sV (λ_ j=>0<=j) (λi j=>i / 2^j.toNat)
@[simp] def bZ:B2:=fS Builtin.bitAnd
@[simp] def eJ:B2:=fS Builtin.bitOr
@[simp] def zV:B2:=fS Builtin.bitXor
@[simp] def iK:D->MH->Res D:=λx h=>match x with
 | .int i=>.ok (.int (-i)) h|_=>.stuck
@[simp] def dX:D->MH->Res D:=λx h=>match x with
 | .int i=>.ok (.int (Builtin.bitNot i)) h|_=>.stuck
@[simp] noncomputable def fO(f:Int->Int->Bool):B2:=λx y h=>match x,y with
 | .int i,.int j=>.ok (.bl (f i j)) h|_,_=>.stuck
@[simp] def uZ:B2:=fO λi j=>decide (i<j)
@[simp] def tH:B2:=fO λi j=>decide (i<=j)
@[simp] def kY:B2:=fO λi j=>decide (j<i)
@[simp] def kW:B2:=fO λi j=>decide (j<=i)
@[simp] noncomputable def jN:D->Bool
 | .RY=>true|_=>false
@[simp] def mJ:B2:=λx y h=>match x,y with
 | .bl a,.bl b=>.ok (.bl (a==b)) h
 | x,.RY=>.ok (.bl (jN x)) h
 | _,_=>.stuck
@[simp] def As:B2:=λx y h=>match x,y with
 | .bl a,.bl b=>.ok (.bl (!(a==b))) h
 | x,.RY=>.ok (.bl (!jN x)) h
 | _,_=>.stuck
noncomputable def nA(x:Str):Bool:=x.cps.all (·<0x110000)
mutual
def D.py:D->Option PyData
 | .RY=>⇑.none
 | .bl b=>⇑(.bool b)
 | .int i=>⇑(.int i)
 | .str x=>if nA x then some (.str x)else none
 | .tup xs=>(D.Uu xs).map .tuple
 | .lst xs=>(D.Uu xs).map .list
 | _=>none
def D.Uu:List D->Option (List PyData)
 | []=>⇑[]
 | d::ds=>match D.py d,D.Uu ds with
  | some p,⇑ps=>⇑(p::ps)
  | _,_=>none
end
mutual
noncomputable def D.deep:D->Nat
 | .tup xs|.lst xs=>D.Us xs+1
 | _=>0
noncomputable def D.Us:List D->Nat
 | []=>0
 | d::ds=>max (D.deep d) (D.Us ds)
end
mutual
noncomputable def D.eq:D->D->Bool
 | .RY,.RY=>true
 | .bl a,.bl b=>a==b
 | .bl a,.int j=>(if a then 1 else 0)==j
 | .int i,.bl b=>i==(if b then 1 else 0)
 | .int i,.int j=>i==j
 | .str x,.str y=>x==y
 | .tup xs,.tup ys=>D.eqs xs ys
 | .lst xs,.lst ys=>D.eqs xs ys
 | _,_=>false
noncomputable def D.eqs:List D->List D->Bool
 | [],[]=>true
 | x::xs,y::ys=>D.eq x y&&D.eqs xs ys
 | _,_=>false
end
noncomputable def D.dat(d:D):Bool:=d.py.isSome&&decide (d.deep<=64)
def res:Nat->MH->D->D
 | 0,_,d=>d
 | n+1,h,.ref k=>match h[k]? with
  | some ⇑(.lst xs)=>.lst (xs.map (res n h))
  | _=>.ref k
 | n+1,h,.tup xs=>.tup (xs.map (res n h))
 | n+1,h,.lst xs=>.lst (xs.map (res n h))
 | _+1,_,d=>d
def sP(h:MH)(d:D):D:=res 8 h d
@[simp] noncomputable def iE:D->Bool
 | .RY|.bl _|.int _|.str _=>true
 | _=>false
@[simp] def a9:B2:=λx y h=>match x,y with
 | .int i,.int j=>.ok (.bl (decide (i=j))) h
 | .str i,.str j=>.ok (.bl (decide (i=j))) h
 | .bl i,.bl j=>.ok (.bl (i==j)) h
 | _,_=>if x.dat=true/\y.dat=true then .ok (.bl (x.eq y)) h else R7 ((sP h x).dat=true/\(sP h y).dat=true) (.ok (.bl ((sP h x).eq (sP h y))) h)
@[simp] def cA:B2:=λx y h=>(a9 x y h).bind λz h=>match z with
 | .bl b=>.ok (.bl (!b)) h|_=>.stuck
noncomputable def aV(n:Int):Str:=Str.ofString (toString n)
noncomputable def fK(n:Nat)(i:Int):Option Nat:=if 0<=i then(if i<n then some i.toNat else none)else if -(n:Int)<=i then some (i+n).toNat else none
def cx{α:Type}(xs:List α)(i:Int):Option α:=(fK xs.length i).bind λj=>xs[j]?
@[simp] noncomputable def iQ:D->Option (Sum Int Str)
 | .int i=>⇑(.inl i)
 | .str x=>⇑(.inr x)
 | _=>none
noncomputable def bI(kvs:List (Sum Int Str×D))(k:Sum Int Str):Option D:=(kvs.find? λkv=>decide (kv.1=k)).map (·.2)
noncomputable def bj(kvs:List (Sum Int Str×D))(k:Sum Int Str)(v:D):List (Sum Int Str×D):=
 if kvs.any (λkv=>decide (kv.1=k))then kvs.map λkv=>if kv.1=k then(kv.1,v)else kv else kvs++[(k,v)]
@[simp] def ay:B2:=λx y h=>match x,y with
 | .str z,.int i=>R7 (z.length<=16777216) ((oR (cx z.cps.toList i) h).bind λc h=>.ok (.str ⟨#[c]⟩) h)
 | x,y=>match c7 h x with
  | some xs=>match y with
   | .int i=>oR (cx xs i) h
   | _=>.stuck
  | none=>match Cg h x,iQ y with
   | some kvs,⇑k=>oR (bI kvs k) h
   | _,_=>.stuck
noncomputable def fM:D->D->Bool
 | .RY,.RY=>true
 | .bl a,.bl b=>a==b
 | .bl a,.int b=>(if a then 1 else 0)==b
 | .int a,.bl b=>a==(if b then 1 else 0)
 | .int a,.int b=>a==b
 | .str a,.str b=>a==b
 | _,_=>false
@[simp] def cW(neg:Bool):B2:=λx y h=>match x,y with
 | .str i,.str j=>.ok (.bl (if neg then !(!(Builtin.Str.occurrences j i 0 j.length 1).isEmpty)else !(Builtin.Str.occurrences j i 0 j.length 1).isEmpty)) h
 | x,y=>match c7 h y with
  | some ys=>R7 (iE x=true/\ys.all iE=true) (.ok (.bl (if neg then !(ys.any λy=>fM y x)else ys.any λy=>fM y x)) h)
  | none=>match Cg h y,iQ x with
   | some kvs,⇑k=>.ok (.bl (if neg then !(bI kvs k).isSome else(bI kvs k).isSome)) h
   | _,_=>.stuck
noncomputable def aT(n d:Nat):Option Int->Nat
 | none=>d
 | some v=>if v<0 then(v+(n:Int)).toNat else min v.toNat n
def cut{α:Type}(xs:List α)(lo hi:Option Int):List α:=(xs.drop (aT xs.length 0 lo)).take (aT xs.length xs.length hi - aT xs.length 0 lo)
@[simp] noncomputable def cL:MO:=λ_ h=> .ok none h
@[simp] noncomputable def cN(m:ME):MO:=λρ h=>(m ρ h).bind λd h1=>match d with
 | .int i=>.ok ⇑i h1|_=>.stuck
@[simp] def cQ(m:ME)(lo hi:MO):ME:=λρ h=>(m ρ h).bind λd h1=>(lo ρ h1).bind λl h2=>(hi ρ h2).bind λu h3=>match d with
 | .tup xs=>R7 (¬(aT xs.length 0 l=0/\aT xs.length xs.length u=xs.length)) (.ok (.tup (cut xs l u)) h3)
 | .str z=>R7 (z.length<=16777216) (.ok (.str (Txt.slice z l u)) h3)
 | d=>(oR (c7 h3 d) h3).bind λxs h4=>.ok (.lst (cut xs l u)) h4
@[simp] noncomputable def nJ:List D->Option (List Int)
 | []=>⇑[]
 | .int i::r=>(nJ r).map (i::·)
 | _::_=>none
@[simp] noncomputable def pO:List D->Option (List Str)
 | []=>⇑[]
 | .str i::r=>(pO r).map (i::·)
 | _::_=>none
@[simp] noncomputable def sZ:List D->Option (List Bool)
 | []=>⇑[]
 | .bl i::r=>(sZ r).map (i::·)
 | _::_=>none
@[simp] def fQ(h:MH)(d:D):Option (List Int):=match d with
 | .arg ns=>⇑ns
 | d=>(eB h d).bind nJ
@[simp] def bJ:List D->MH->Res D:=λl h=>match l with
 | [.str z]=>R7 (z.length<=16777216) (.ok (.int z.length) h)
 | [d]=>match c7 h d with
  | some xs=>.ok (.int xs.length) h
  | none=>match d with
   | .ref _=>(oR (Av h d) h).bind λkvs h=>.ok (.int kvs.length) h
   | _=>.stuck
 | _=>.stuck
@[simp] def oN:List D->MH->Res D:=λl h=>match l with
 | [d]=>(oR (fQ h d) h).bind λns h=>.ok (.int ns.sum) h
 | _=>.stuck
noncomputable def ck:List Int->Int
 | []=>0
 | [a]=>a
 | a::r=>if ck r>a then ck r else a
@[simp] def oW:List D->MH->Res D:=λl h=>match l with
 | [.int i,.int j]=>.ok (.int (if j>i then j else i)) h
 | [.tup xs]=>(oR (nJ xs) h).bind λns h=>R7 (0<ns.length) (.ok (.int (ck ns)) h)
 | _=>.stuck
@[simp] def jV:List D->MH->Res D:=λl h=>match l with
 | [d]=>(oR ((eB h d).bind sZ) h).bind λbs h=>.ok (.bl (bs.all id)) h
 | _=>.stuck
@[simp] def dj:List D->MH->Res D:=λl h=>match l with
 | [.int i]=>.ok (.int i) h
 | [.bl k]=>.ok (.int (if k then 1 else 0)) h
 | [.str z]=>R7 (z.length<=640) ((oR (intText? z) h).bind λn h=>.ok (.int n) h)
 | _=>.stuck
@[simp] def aX:List D->MH->Res D:=λl h=>match l with
 | [.int i]=>R7 (i.natAbs.log2<1920) (.ok (.str (aV i)) h)
 | _=>.stuck
@[simp] def m9(m:ML):ML:=λρ h=>(m ρ h).bind λl h1=>match l with
 | [d]=>oR (c7 h1 d) h1
 | _=>.stuck
@[simp] def EV:List D->MH->Res D:=λl h=>match l with
 | [.tup xs]=>.ok (.tup xs) h
 | [d]=>(oR (c7 h d) h).bind λxs h=>.ok (.tup xs) h
 | _=>.stuck
@[simp] def iI(h:MH):D->Option String
 | .RY=>⇑"NoneType"|.bl _=>⇑"bool"|.int _=>⇑"int"|.str _=>⇑"str"|.tup _=>⇑"tuple"|.lst _=>⇑"list"
 | .ref k=>match h[k]? with
  | some ⇑(.lst _)=>⇑"list"
  | some ⇑(.Sl _)=>⇑"dict"
  | _=>none
 | _=>none
@[simp] noncomputable def B_(a b:String):Bool:=a==b||(a=="bool"&&b=="int")
@[simp] noncomputable def yO(b:String):Bool:=b=="int"||b=="bool"||b=="str"||b=="tuple"||b=="list"
@[simp] def jo:List D->MH->Res D:=λl h=>match l with
 | [d,.ty n]=>R7 (yO n=true) ((oR (iI h d) h).bind λt h=>.ok (.bl (B_ t n)) h)
 | _=>.stuck
@[simp] def tK(f:Str->List D->MH->Res D)(m:ME)(l:ML):ME:=λρ h=>(m ρ h).bind λd h1=>match d with
 | .str z=>(l ρ h1).bind λxs h2=>f z xs h2
 | _=>.stuck
@[simp] def kD:Str->List D->MH->Res D:=λz l h=>match l with
 | [d]=>(oR ((eB h d).bind pO) h).bind λys h=>R7 ((ys.map (·.length)).sum+ys.length*z.length<=16777216) (.ok (.str (Txt.join z ys)) h)
 | _=>.stuck
@[simp] def lN(m:ME)(l:ML):ML:=λρ h=>(m ρ h).bind λd h1=>match d with
 | .str z=>(l ρ h1).bind λxs h2=>match xs with
  | [.str y]=>R7 (y.length≠0/\z.length<=16777216/\(Txt.split z y).length<=16777216) (.ok ((Txt.split z y).map .str) h2)
  | _=>.stuck
 | _=>.stuck
/-- f"..{x}..":the parts,in order -/
abbrev MJ:=Str->Ro->MH->Res Str
@[simp] noncomputable def vA:MJ:=λout _ h=> .ok out h
@[simp] def Gs(m:ME)(j:MJ):MJ:=λout ρ h=>(m ρ h).bind λd h1=>match d with
 | .str y=>R7 ((out++y).length<=16777216) (j (out++y) ρ h1)
 | _=>.stuck
@[simp] def He(j:MJ):ME:=λρ h=>(j Str.empty ρ h).bind λz h1=>R7 (z.length<=16777216) (.ok (.str z) h1)
@[simp] def Ac(m:ME):ME:=λρ h=>(m ρ h).bind λd h1=>match d with
 | .int i=>R7 (i.natAbs.log2<1920) (.ok (.str (aV i)) h1)
 | .str z=>R7 (z.length<=16777216) (.ok (.str z) h1)
 | _=>.stuck
@[simp] noncomputable def aH:MS:=λρ h=> .nx ρ h
@[simp] noncomputable def ah(a b:MS):MS:=λρ h=>match a ρ h with
 | .nx ρ1 h1=>b ρ1 h1
 | r=>r
@[simp] noncomputable def aG(t:MT)(a b:MS):MS:=λρ h=>(t ρ h).toS λc h1=>if c=true then a ρ h1 else b ρ h1
@[simp] noncomputable def ai(m:ME):MS:=λρ h=>(m ρ h).toS .rt
@[simp] noncomputable def jc(m:ME):MS:=λρ h=>(m ρ h).toS λ_ h1=> .nx ρ h1
@[simp] noncomputable def aj(m:ME)(g:MG):MS:=λρ h=>(m ρ h).toS λd h1=>g d ρ h1
@[simp] noncomputable def cJ(c:String)(m:ME):MS:=λρ h=>(m ρ h).toS λ_ h1=> .exc c h1
@[simp] noncomputable def ak(i:Nat):MG:=λd ρ h=> .nx (ρ.set i ⇑d) h
@[simp] def AS:List Nat->List D->Ro->MH->RS
 | [],[],ρ,h=>.nx ρ h
 | i::is,d::ds,ρ,h=>AS is ds (ρ.set i ⇑d) h
 | _,_,_,_=>.stuck
@[simp] def fY(is:List Nat):MG:=λd ρ h=>match d with
 | .tup xs=>AS is xs ρ h
 | .lst xs=>AS is xs ρ h
 | _=>.stuck
@[simp] def Ep(mo mi me:ME):MS:=λρ h=>(me ρ h).toS λd h0=>(mo ρ h0).toS λo h1=>(mi ρ h1).toS λi h2=>match o with
 | .ref k=>match h2[k]? with
  | some ⇑(.Sl kvs)=>match iQ i with
   | some j=>if kvs.length<16777216 then .nx ρ (h2.set k ⇑(.Sl (bj kvs j d)))else .stuck
   | none=>.stuck
  | _=>.stuck
 | _=>.stuck
@[simp] noncomputable def mQ(mo me:ME):MS:=λρ h=>(mo ρ h).toS λo h1=>match o with
 | .ref k=>match h1[k]? with
  | some ⇑(.lst _)=>(me ρ h1).toS λd h2=>match h2[k]? with
   | some ⇑(.lst xs)=>if xs.length<16777216 then .nx ρ (h2.set k ⇑(.lst (xs++[d])))else .stuck
   | _=>.stuck
  | _=>.stuck
 | _=>.stuck
@[simp] noncomputable def gZ(i:Nat)(b:MS):MS:=λρ h=>match ρ[i]? with
 | some ⇑(.ref k)=>match h[k]? with
  | some ⇑(.lst xs)=>b (ρ.set i ⇑(.lst xs)) (h.set k none)
  | _=>.stuck
 | _=>.stuck
@[simp] noncomputable def kZ:ME:=λ_ h=> .ok (.ref h.length) (h++[⇑(.Sl [])])
def bO(g:MG)(b:MS):List D->Ro->MH->RS
 | [],ρ,h=>.nx ρ h
 | d::ds,ρ,h=>match g d ρ h with
  | .nx ρ1 h1=>match b ρ1 h1 with
   | .nx ρ2 h2=>bO g b ds ρ2 h2
   | .ct ρ2 h2=>bO g b ds ρ2 h2
   | .bk ρ2 h2=>.nx ρ2 h2
   | r=>r
  | _=>.stuck
def rW(q:Option Nat)(all:List D)(h:MH):Prop:=match q with
 | none=>True
 | some k=>h[k]?=⇑⇑(.lst all)
open Classical in
def gM(q:Option Nat)(all:List D)(g:MG)(b:MS):List D->Ro->MH->RS
 | [],ρ,h=>if rW q all h then .nx ρ h else .stuck
 | d::ds,ρ,h=>if rW q all h then(match g d ρ h with
  | .nx ρ1 h1=>match b ρ1 h1 with
   | .nx ρ2 h2=>gM q all g b ds ρ2 h2
   | .ct ρ2 h2=>gM q all g b ds ρ2 h2
   | .bk ρ2 h2=>.nx ρ2 h2
   | r=>r
  | _=>.stuck)else .stuck
@[simp] theorem iz(all:List D)(g:MG)(b:MS):∀(ds:List D) (ρ:Ro) (h:MH),gM none all g b ds ρ h=bO g b ds ρ h
 | [],ρ,h=>by unfold gM bO;exact if_pos trivial
 | d::ds,ρ,h=>by
  unfold gM bO;rw[if_pos (show rW none all h from trivial)];split
  ·split
   ·exact iz all g b ds _ _
   ·exact iz all g b ds _ _
   ·rfl
   ·rfl
  ·rfl
def bB(l:MI)(g:MG)(b:MS):MS:=λρ h=>(l ρ h).toS λs h1=>gM s.1 s.2 g b s.2 ρ h1
@[simp] theorem kL(l:MI)(g:MG)(b:MS)(ρ:Ro)(h:MH):bB l g b ρ h=(l ρ h).toS λs h1=>gM s.1 s.2 g b s.2 ρ h1:=rfl
@[simp] noncomputable def bC(m:ME):MI:=λρ h=>(m ρ h).bind λd h1=>match d with
 | .lst xs=>.ok (none,xs) h1
 | .tup xs=>.ok (none,xs) h1
 | .arg ns=>.ok (none,ns.map .int) h1
 | .str z=>.ok (none,z.cps.toList.map λc=>.str ⟨#[c]⟩) h1
 | .ref k=>match h1[k]? with
  | some ⇑(.lst xs)=>.ok (⇑k,xs) h1
  | _=>.stuck
 | _=>.stuck
noncomputable def Vx(lo:Int)(n:Nat):List D:=(List.range n).map λ(k:Nat)=>.int (lo+k)
@[simp] def jL(m:ML):MI:=λρ h=>(m ρ h).bind λl h1=>match l with
 | [.int j]=>R7 (j.natAbs<4611686018427387904) (.ok (none,Vx 0 j.toNat) h1)
 | _=>.stuck
def cP(c:MT)(b:MS):Nat->Ro->MH->RS
 | 0,_,_=>.stuck
 | n+1,ρ,h=>match c ρ h with
  | .ok true h1=>match b ρ h1 with
   | .nx ρ2 h2=>cP c b n ρ2 h2
   | .ct ρ2 h2=>cP c b n ρ2 h2
   | .bk ρ2 h2=>.nx ρ2 h2
   | r=>r
  | .ok false h1=>.nx ρ h1
  | .exc e h1=>.exc e h1
  | .stuck=>.stuck
open Classical in
def cw(c:MT)(b:MS):MS:=λρ h=>if e:∃n,cP c b n ρ h≠ .stuck then cP c b e.choose ρ h else .stuck
theorem Bv(c:MT)(b:MS):∀(n k:Nat) (ρ:Ro) (h:MH),cP c b n ρ h≠ .stuck->cP c b (n+k) ρ h=cP c b n ρ h
 | 0,k,ρ,h,q=>absurd rfl q
 | n+1,k,ρ,h,q=>by
  rw[show n+1+k=(n+k)+1 by lia];unfold cP at q ⊢;cases e:c ρ h with
  | ok b0 h1=>
   cases b0 with
   | false=>rfl
   | true=>
    simp only[e]at q ⊢;cases e2:b ρ h1 with
    | nx ρ2 h2=>simp only[e2]at q ⊢;exact Bv c b n k ρ2 h2 q
    | ct ρ2 h2=>simp only[e2]at q ⊢;exact Bv c b n k ρ2 h2 q
    | bk ρ2 h2=>rfl
    | rt d h2=>rfl
    | exc x h2=>rfl
    | stuck=>rfl
  | exc x h1=>rfl
  | stuck=>rfl
theorem Aw(q:cP c b n ρ h≠ .stuck):cw c b ρ h=cP c b n ρ h:=by
 have e:∃n,cP c b n ρ h≠ .stuck:=⟨n,q⟩;unfold cw;rw[dif_pos e];have h1:=Bv c b e.choose n ρ h e.choose_spec;have h2:=Bv c b n e.choose ρ h q;rw[<-h1,<-h2,Nat.add_comm]
theorem Eb(q:cw c b ρ h≠ .stuck):∃n,cP c b n ρ h=cw c b ρ h:=by
 unfold cw at q;by_cases e:∃n,cP c b n ρ h≠ .stuck
 ·exact⟨e.choose,by unfold cw;rw[dif_pos e]⟩
 ·rw[dif_neg e]at q;exact absurd rfl q
theorem AQ(ec:c ρ h=.ok true h1)(eb:b ρ h1=.nx ρ2 h2):cw c b ρ h=cw c b ρ2 h2:=by
 by_cases q:cw c b ρ2 h2=.stuck
 ·rw[q]
  by_cases q1:cw c b ρ h=.stuck
  ·exact q1
  ·obtain⟨n,e⟩:=Eb q1
   cases n with
   | zero=>rw[<-e];rfl
   | succ n=>
    rw[<-e]at q1 ⊢;unfold cP at q1 ⊢;simp only[ec,eb]at q1 ⊢;rw[<-Aw q1];exact q
 ·obtain⟨n,e⟩:=Eb q
  have e1:cP c b (n+1) ρ h=cP c b n ρ2 h2:=by
   conv=>lhs;unfold cP
   simp only[ec,eb]
  rw[Aw (n:=n+1) (by rw[e1,e];exact q),e1,e]
theorem AR(ec:c ρ h=.ok false h1):cw c b ρ h=.nx ρ h1:=by
 have e1:cP c b 1 ρ h=.nx ρ h1:=by unfold cP;simp only[ec]
 rw[Aw (n:=1) (by rw[e1];exact λz=>nomatch z),e1]
@[simp] def Td(idx:List Nat)(ρ:Ro):Ro:=idx.map λj=>(ρ[j]?).getD none
def compLoop(g:MG)(t:MT)(m:ME)(ρ0:Ro):List D->MH->Res (List D)
 | [],h=>.ok [] h
 | d::ds,h=>match g d ρ0 h with
  | .nx ρ1 h1=>match t ρ1 h1 with
   | .ok true h2=>match m ρ1 h2 with
    | .ok y h3=>match compLoop g t m ρ0 ds h3 with
     | .ok ys h4=>.ok (y::ys) h4
     | _=>.stuck
    | _=>.stuck
   | .ok false h2=>compLoop g t m ρ0 ds h2
   | _=>.stuck
  | _=>.stuck
@[simp] noncomputable def aR:MT:=λ_ h=> .ok true h
open Classical in
def eK(q:Option Nat)(all:List D)(g:MG)(t:MT)(m:ME)(ρ0:Ro):List D->MH->Res (List D)
 | [],h=>if rW q all h then .ok [] h else .stuck
 | d::ds,h=>if rW q all h then(match g d ρ0 h with
  | .nx ρ1 h1=>match t ρ1 h1 with
   | .ok true h2=>match m ρ1 h2 with
    | .ok y h3=>match eK q all g t m ρ0 ds h3 with
     | .ok ys h4=>.ok (y::ys) h4
     | _=>.stuck
    | _=>.stuck
   | .ok false h2=>eK q all g t m ρ0 ds h2
   | _=>.stuck
  | _=>.stuck)else .stuck
@[simp] theorem BJ(all:List D)(g:MG)(t:MT)(m:ME)(ρ0:Ro):∀(ds:List D) (h:MH),eK none all g t m ρ0 ds h=compLoop g t m ρ0 ds h
 | [],h=>by unfold eK compLoop;exact if_pos trivial
 | d::ds,h=>by
  unfold eK compLoop;rw[if_pos (show rW none all h from trivial)];split
  ·split
   ·split
    ·rw[BJ all g t m ρ0 ds]
    ·rfl
   ·exact BJ all g t m ρ0 ds _
   ·rfl
  ·rfl
def cM(nt:Nat)(idx:List Nat)(l:MI)(g:MG)(t:MT)(m:ME):ML:=λρ h=>(l ρ h).bind λs h1=>R7 (s.2.length<16777216) (eK s.1 s.2 g t m (List.replicate nt none++Td idx ρ) s.2 h1)
@[simp] theorem BG(nt:Nat)(idx:List Nat)(l:MI)(g:MG)(t:MT)(m:ME)(ρ:Ro)(h:MH):cM nt idx l g t m ρ h=(l ρ h).bind λs h1=>R7 (s.2.length<16777216) (eK s.1 s.2 g t m (List.replicate nt none++Td idx ρ) s.2 h1):=rfl
@[simp] def rh(h:MH):D->Option (String×List (Str×D))
 | .obj c fs=>⇑(c,fs)
 | .ref k=>match h[k]? with
  | some ⇑(.ins c fs)=>⇑(c,fs)
  | _=>none
 | _=>none
def aI(f:Str)(d:D):List (Str×D)->List (Str×D)
  | []=>[(f,d)]
  | (g,x)::r=>if g=f then(g,d)::r else(g,x)::aI f d r
@[simp] def ao(tab:List String)(f:Str)(m:ME):ME:=λρ h=>(m ρ h).bind λd h1=>(oR (rh h1 d) h1).bind λo h2=>R7 (o.1∈tab) (oR (o.2.lookup f) h2)
@[simp] def c8(tab:List String)(f:Str)(mo me:ME):MS:=λρ h=>(me ρ h).toS λd h1=>(mo ρ h1).toS λo h2=>match o with
 | .ref k=>match h2[k]? with
  | some ⇑(.ins c fs)=>if c∈tab/\fs.length<1000 then .nx ρ (h2.set k ⇑(.ins c (aI f d fs)))else .stuck
  | _=>.stuck
 | _=>.stuck
@[simp] def aw(tab:List (String×MF))(f:Str)(m:ME)(l:ML):ME:=λρ h=>(m ρ h).bind λd h1=>(oR (rh h1 d) h1).bind λo h2=>(oR (tab.lookup o.1) h2).bind λz h2=>R7 (o.2.lookup f=none) ((l ρ h1).bind λds h3=>z (d::ds) h3)
@[simp] noncomputable def dP(c:String)(z:MF)(l:ML):ME:=λρ h=>(l ρ h).bind λds h1=>(z (.ref h1.length::ds) (h1++[⇑(.ins c [])])).bind λd h2=>match d with
 | .RY=>match h2[h1.length]? with
  | some ⇑(.ins c' fs)=>.ok (.obj c' fs) (h2.set h1.length none)
  | _=>.stuck
 | _=>.stuck
@[simp] noncomputable def pG(c:String)(z:MF)(l:ML):ME:=λρ h=>(l ρ h).bind λds h1=>(z (.ref h1.length::ds) (h1++[⇑(.ins c [])])).bind λd h2=>match d with
 | .RY=>.ok (.ref h1.length) h2
 | _=>.stuck
noncomputable def g_(ds:List D):List D:=ds.mapIdx λi d=>.tup [.int i,d]
@[simp] def mV(m:ML):MI:=λρ h=>(m ρ h).bind λl h1=>match l with
 | [.lst xs]=>.ok (none,g_ xs) h1
 | [.arg ns]=>.ok (none,g_ (ns.map .int)) h1
 | _=>.stuck
noncomputable def Res.Vt{α:Type}(r:Res α):Res α:=match r with
 | .ok a h=>.ok a h|.exc _ _=>.stuck|.stuck=>.stuck
@[simp] theorem Gi{α:Type}{a:α}:(Res.ok a h).Vt= .ok a h:=rfl
@[simp] theorem Ar{α:Type}:(Res.exc c h:Res α).Vt= .stuck:=rfl
@[simp] theorem tJ{α:Type}:(Res.stuck:Res α).Vt= .stuck:=rfl
@[simp] noncomputable def f7(l:ML):ML:=λρ h=>(l ρ h).Vt
noncomputable def RS.Vt:RS->RS
 | .exc _ _=>.stuck|r=>r
@[simp] theorem AD:(RS.nx ρ h).Vt= .nx ρ h:=rfl
@[simp] theorem AF:(RS.rt d h).Vt= .rt d h:=rfl
@[simp] theorem Bk:(RS.bk ρ h).Vt= .bk ρ h:=rfl
@[simp] theorem AI:(RS.ct ρ h).Vt= .ct ρ h:=rfl
@[simp] theorem Ad:(RS.exc c h).Vt= .stuck:=rfl
@[simp] theorem qZ:RS.stuck.Vt= .stuck:=rfl
@[simp] noncomputable def q_(b:MS)(f:String->MS):MS:=λρ h=>match b ρ h with
 | .exc c h1=>f c ρ h1|r=>r
@[simp] noncomputable def xE:String->MS:=λ_ _ _=> .stuck
@[simp] noncomputable def E7(tab:List (String×Bool))(m:MS)(r:String->MS):String->MS:=λc ρ h=>match tab.lookup c with
 | some true=>(m ρ h).Vt
 | some false=>r c ρ h
 | none=>.stuck
mutual
noncomputable def D.R5(n:Nat):D->Bool
 | .ref k=>k<n
 | .tup xs|.lst xs=>D.R_ n xs
 | .obj _ fs=>D.TX n fs
 | _=>true
noncomputable def D.R_(n:Nat):List D->Bool
 | []=>true
 | d::ds=>D.R5 n d&&D.R_ n ds
noncomputable def D.TX(n:Nat):List (Str×D)->Bool
  | []=>true
  | (_,d)::ds=>D.R5 n d&&D.TX n ds
end
def Cell.R5(n:Nat):Option Cell->Bool
 | none=>true
 | some (.lst xs)=>D.R_ n xs
 | some (.Sl kvs)=>D.R_ n (kvs.map (·.2))
 | some (.YW kvs)=>D.R_ n (kvs.map (·.2))
 | some (.ins _ fs)=>D.R_ n (fs.map (·.2))
@[simp] def fin(n:Nat)(d:D)(h:MH):Res D:=
 if h.length<=n then .ok d h else if(d.R5 n&&(h.take n).all (Cell.R5 n))=true then .ok d (h.take n)else .ok d h
@[simp] def aq(np nn:Nat)(b:MS):MF:=λds h=>if ds.length=np then match b (ds.map some++List.replicate (nn - ds.length) none) h with
 | .nx _ h1=>fin h.length .RY h1
 | .rt d h1=>fin h.length d h1
 | .exc c h1=>if h1.length<=h.length then .exc c h1 else if(h1.take h.length).all (Cell.R5 h.length)=true then .exc c (h1.take h.length)else .exc c h1
 | _=>.stuck
 else .stuck
@[simp] def AN(m:ML):ML:=λρ h=>(m ρ h).bind λl h1=>match l with
 | [d]=>(oR (eB h1 d) h1).bind λxs h2=>.ok xs.reverse h2
 | _=>.stuck
@[simp] noncomputable def mG:List (Sum Int Str×D)->Option (List Int)
  | []=>⇑[]
  | (.inl i,_)::r=>(mG r).map (i::·)
  | (.inr _,_)::_=>none
@[simp] def uH(h:MH):D->Option (List Int)
 | .ref k=>match h[k]? with
  | some ⇑(.Sl kvs)=>mG kvs
  | _=>none
 | _=>none
noncomputable def TR(ns:List Int):List Int:=ns.mergeSort (λa b=>decide (a<=b))
@[simp] def mK(m:ML):ML:=λρ h=>(m ρ h).bind λl h1=>match l with
 | [d]=>match fQ h1 d with
  | some ns=>R7 (ns.length<=100000) (.ok ((TR ns).map D.int) h1)
  | none=>(oR (uH h1 d) h1).bind λns h2=>R7 (ns.length<=100000) (.ok ((TR ns).map D.int) h2)
 | _=>.stuck
@[simp] noncomputable def mZ(m:ME):ME:=λρ h=>(m ρ h).bind λd h1=>match d with
 | .int i=>.ok (.int (Builtin.Int.intBits i:Nat)) h1
 | _=>.stuck
@[simp] def yr(mk mv:ME):ME:=λρ h=>(mk ρ h).bind λx h1=>(mv ρ h1).bind λy h2=>match iQ x with
 | some k=>.ok (.ref h2.length) (h2++[⇑(.Sl [(k,y)])])
 | none=>.stuck
@[simp] noncomputable def CP(k:Nat)(kvs:List (Sum Int Str×D)):RS->RS
 | .nx ρ h=>match h[k]? with
  | some none=>.nx ρ (h.set k ⇑(.Sl kvs))
  | _=>.stuck
 | .rt d h=>match h[k]? with
  | some none=>.rt d (h.set k ⇑(.Sl kvs))
  | _=>.stuck
 | .exc c h=>.exc c h
 | _=>.stuck
@[simp] def kP(mo:ME)(g:MG)(b:MS):MS:=λρ h=>(mo ρ h).toS λo h1=>match o with
 | .ref k=>match h1[k]? with
  | some ⇑(.Sl kvs)=>CP k kvs (bO g b (kvs.map (·.2)) ρ (h1.set k none))
  | _=>.stuck
 | _=>.stuck
noncomputable def cg:List D->List D->List D
 | x::xs,y::ys=>.tup [x,y]::cg xs ys
 | _,_=>[]
@[simp] def vF(m:ML):MI:=λρ h=>(m ρ h).bind λl h1=>match l with
 | [.lst xs,.lst ys]=>.ok (none,cg xs ys) h1
 | _=>.stuck
@[simp] def nG:List D->MH->Res D:=λl h=>match l with
 | [d]=>(oR ((eB h d).bind sZ) h).bind λbs h=>.ok (.bl (bs.any id)) h
 | _=>.stuck
end Z
set_option maxHeartbeats 4000000
namespace L2
open PySem PySem.Spec
structure Ct where
 P:Program
 w:World
 K:W.Frag
 cm:String->Addr
noncomputable def fv:Z.D->Option V
 | .RY=>⇑.RY
 | .bl b=>⇑(.bl b)
 | .int i=>⇑(.int i)
 | .str x=>⇑(.str x)
 | _=>none
section
variable (C : Ct)
mutual
def RV(bs:List Addr)(G:Hp):V->Z.D->Prop
 | v,.RY=>v=.RY
 | v,.bl b=>v=.bl b
 | v,.int i=>v=.int i
 | v,.str x=>v=.str x
 | v,.tup ds=>∃a vs,v=.ref a/\G a=⇑(.tup vs)/\RQ bs G vs ds
 | v,.lst ds=>∃a vs,v=.ref a/\G a=⇑(.lst vs)/\RQ bs G vs ds
 | v,.arg ns=>∃a,v=.ref a/\R8 C.K G a (ns.map V.int)
 | v,.ref k=>∃a,v=.ref a/\bs[k]?=⇑a
 | v,.ty n=>v=.ty n
 | v,.cls n=>v=.ref (C.cm n)
 | v,.exc c=>∃a oe u,v=.ref a/\G a=⇑(.SY oe u)/\oe.cls=.ref (C.cm c)
 | v,.obj c fs=>∃a dx Uz,v=.ref a/\G a=⇑(.ins (C.cm c) dx Uz)/\So bs G Uz fs
 | v,.VJ kvs=>∃a Sy,v=.ref a/\BU C.P C.w C.K a Sy/\kvs.map (λp=>(p.1,fv p.2))=Sy.map (λp=>(p.1,⇑p.2))
def RQ(bs:List Addr)(G:Hp):List V->List Z.D->Prop
 | [],[]=>True
 | v::vs,d::ds=>RV bs G v d/\RQ bs G vs ds
 | _,_=>False
def So(bs:List Addr)(G:Hp):List (Str×V)->List (Str×Z.D)->Prop
  | [],[]=>True
  | (x,v)::vs,(y,d)::ds=>x=y/\RV bs G v d/\So bs G vs ds
  | _,_=>False
def R9(bs:List Addr)(G:Hp):List (aW×V)->List (Sum Int Str×Z.D)->Prop
  | [],[]=>True
  | (x,v)::vs,(y,d)::ds=>x=y/\RV bs G v d/\R9 bs G vs ds
  | _,_=>False
end
end
theorem R4.W6(e:R4 H H')(h:R8 K H a xs):R8 K H' a xs:=by
 rcases h with(h|⟨o,h⟩)|h
 ·exact .inl (.inl (e _ _ h))
 ·exact .inl (.inr ⟨o,e _ _ h⟩)
 ·exact .inr h
section
variable {C : Ct}
mutual
theorem RV.mono{bs R0:List Addr}{G G':Hp}(hb:∀(k:Nat) (a:Addr),bs[k]?=⇑a->R0[k]?=⇑a)(hs:R4 G G'):∀{d:Z.D} {v:V},RV C bs G v d->RV C R0 G' v d
 | .RY,v,h=>by simp only[RV]at h ⊢;exact h
 | .bl b,v,h=>by simp only[RV]at h ⊢;exact h
 | .int i,v,h=>by simp only[RV]at h ⊢;exact h
 | .str x,v,h=>by simp only[RV]at h ⊢;exact h
 | .tup ds,v,h=>by
  simp only[RV]at h ⊢;obtain⟨a,vs,h1,h2,h3⟩:=h;exact⟨a,vs,h1,hs _ _ h2,RQ.mono hb hs h3⟩
 | .lst ds,v,h=>by
  simp only[RV]at h ⊢;obtain⟨a,vs,h1,h2,h3⟩:=h;exact⟨a,vs,h1,hs _ _ h2,RQ.mono hb hs h3⟩
 | .arg ns,v,h=>by
  simp only[RV]at h ⊢;obtain⟨a,h1,h2⟩:=h;exact⟨a,h1,hs.W6 h2⟩
 | .ref k,v,h=>by
  simp only[RV]at h ⊢;obtain⟨a,h1,h2⟩:=h;exact⟨a,h1,hb _ _ h2⟩
 | .ty n,v,h=>by simp only[RV]at h ⊢;exact h
 | .cls n,v,h=>by simp only[RV]at h ⊢;exact h
 | .exc n,v,h=>by
  simp only[RV]at h ⊢;obtain⟨a,oe,u,h1,h2,h3⟩:=h;exact⟨a,oe,u,h1,hs _ _ h2,h3⟩
 | .obj c fs,v,h=>by
  simp only[RV]at h ⊢;obtain⟨a,dx,Uz,h1,h2,h3⟩:=h;exact⟨a,dx,Uz,h1,hs _ _ h2,So.mono hb hs h3⟩
 | .VJ kvs,v,h=>by simp only[RV]at h ⊢;exact h
theorem RQ.mono{bs R0:List Addr}{G G':Hp}(hb:∀(k:Nat) (a:Addr),bs[k]?=⇑a->R0[k]?=⇑a)(hs:R4 G G'):∀{ds:List Z.D} {vs:List V},RQ C bs G vs ds->RQ C R0 G' vs ds
 | [],[],_=>by simp only[RQ]
 | d::ds,v::vs,h=>by
  simp only[RQ]at h ⊢;exact⟨RV.mono hb hs h.1,RQ.mono hb hs h.2⟩
 | [],_::_,h=>by simp only[RQ]at h
 | _::_,[],h=>by simp only[RQ]at h
theorem So.mono{bs R0:List Addr}{G G':Hp}(hb:∀(k:Nat) (a:Addr),bs[k]?=⇑a->R0[k]?=⇑a)(hs:R4 G G'):∀{ds:List (Str×Z.D)} {vs:List (Str×V)},So C bs G vs ds->So C R0 G' vs ds
  | [],[],_=>by simp only[So]
  | (y,d)::ds,(x,v)::vs,h=>by
    simp only[So]at h ⊢;exact⟨h.1,RV.mono hb hs h.2.1,So.mono hb hs h.2.2⟩
  | [],_::_,h=>by simp only[So]at h
  | _::_,[],h=>by simp only[So]at h
theorem R9.mono{bs R0:List Addr}{G G':Hp}(hb:∀(k:Nat) (a:Addr),bs[k]?=⇑a->R0[k]?=⇑a)(hs:R4 G G'):∀{ds:List (Sum Int Str×Z.D)} {vs:List (aW×V)},R9 C bs G vs ds->R9 C R0 G' vs ds
  | [],[],_=>by simp only[R9]
  | (y,d)::ds,(x,v)::vs,h=>by
    simp only[R9]at h ⊢;exact⟨h.1,RV.mono hb hs h.2.1,R9.mono hb hs h.2.2⟩
  | [],_::_,h=>by simp only[R9]at h
  | _::_,[],h=>by simp only[R9]at h
end
def lv(bs:List Addr)(h:Z.MH)(a:Addr):Prop:=∃(k:Nat) (c:Z.Cell),bs[k]?=⇑a/\h[k]?=⇑⇑c/\c.live=true
open Classical in
noncomputable def gh(ex bs:List Addr)(h:Z.MH)(H:Hp):Hp:=λa=>if a∈ex\/lv bs h a then none else H a
theorem cz:gh ex bs h H a=⇑o↔a∉ex/\¬lv bs h a/\H a=⇑o:=by
 unfold gh;by_cases q:a∈ex\/lv bs h a
 ·rw[if_pos q]
  constructor
  ·intro z;cases z
  ·rintro⟨h1,h2,_⟩
   rcases q with q|q
   ·exact absurd q h1
   ·exact absurd q h2
 ·rw[if_neg q]
  exact⟨λz=>⟨λm=>q (.inl m),λm=>q (.inr m),z⟩,λz=>z.2.2⟩
theorem bq:R4 (gh ex bs h H) H:=λa o e=>(cz.mp e).2.2
def Xa(C:Ct)(bs:List Addr)(G H:Hp)(a:Addr):Z.Cell->Prop
 | .lst ds=>∃vs,H a=⇑(.lst vs)/\RQ C bs G vs ds
 | .Sl kvs=>∃Sy,H a=⇑(.dK Sy)/\R9 C bs G Sy kvs
 | .ins c fs=>∃dx Uz,H a=⇑(.ins (C.cm c) dx Uz)/\So C bs G Uz fs
 | .YW kvs=>∃o Sy,G a=⇑(.SY o (.dK Sy))/\o.cls=.type "dict"/\R9 C bs G Sy kvs
theorem Xa.mono(hb:∀(k:Nat) (a:Addr),bs[k]?=⇑a->R0[k]?=⇑a)(hs:R4 G G')(e:H' a=H a)(h:Xa C bs G H a c):Xa C R0 G' H' a c:=by
 cases c with
 | lst ds=>obtain⟨vs,h1,h2⟩:=h;exact⟨vs,by rw[e];exact h1,h2.mono hb hs⟩
 | Sl kvs=>obtain⟨vs,h1,h2⟩:=h;exact⟨vs,by rw[e];exact h1,h2.mono hb hs⟩
 | ins c fs=>obtain⟨dx,vs,h1,h2⟩:=h;exact⟨dx,vs,by rw[e];exact h1,h2.mono hb hs⟩
 | YW kvs=>obtain⟨o,vs,h1,hc,h2⟩:=h;exact⟨o,vs,hs _ _ h1,hc,h2.mono hb hs⟩
structure HR (C:Ct) (ex bs:List Addr) (h:Z.MH) (H:Hp):Prop where
 len:bs.length=h.length
 inj:∀(i j:Nat) (a:Addr),bs[i]?=⇑a->bs[j]?=⇑a->i=j
 sep:∀a∈ex,a∉bs
 Uo:∀a∈bs,H a≠none
 Sk:∀a∈ex,H a≠none
 cell:∀(k:Nat) (a:Addr) (c:Z.Cell),bs[k]?=⇑a->h[k]?=⇑⇑c->Xa C bs (gh ex bs h H) H a c
structure Ev (C:Ct) (ex bs:List Addr) (h:Z.MH) (H:Hp) (R0:List Addr) (h':Z.MH) (H':Hp):Prop where
 pre:∀(k:Nat) (a:Addr),bs[k]?=⇑a->R0[k]?=⇑a
 hr:HR C ex R0 h' H'
 same:R4 (gh ex bs h H) (gh ex R0 h' H')
 We:∀a∈ex,H' a=H a
variable {ex bs RT Sq : List Addr} {h h1 h2 : Z.MH} {H H1 H2 : Hp}
theorem Ev.refl(r:HR C ex bs h H):Ev C ex bs h H bs h H:=⟨λ_ _ e=>e,r,R4.refl _,λ_ _=>rfl⟩
theorem Ev.trans(a:Ev C ex bs h H RT h1 H1)(b:Ev C ex RT h1 H1 Sq h2 H2):Ev C ex bs h H Sq h2 H2:=
 ⟨λk x e=>b.pre k x (a.pre k x e),b.hr,a.same.trans b.same,λx hx=>(b.We x hx).trans (a.We x hx)⟩
theorem RV.ev(e:Ev C ex bs h H RT h1 H1)(r:RV C bs (gh ex bs h H) v d):RV C RT (gh ex RT h1 H1) v d:=r.mono e.pre e.same
theorem RQ.ev(e:Ev C ex bs h H RT h1 H1)(r:RQ C bs (gh ex bs h H) v d):RQ C RT (gh ex RT h1 H1) v d:=r.mono e.pre e.same
def RE(C:Ct)(bs:List Addr)(G:Hp)(ρ:Z.Ro)(σ:St):Prop:=ρ.length=σ.length/\∀(i:Nat) (d:Z.D),ρ[i]?=⇑⇑d->∃v,σ[i]?=⇑⇑v/\RV C bs G v d
theorem RE.ev(e:Ev C ex bs h H RT h1 H1)(r:RE C bs (gh ex bs h H) ρ σ):RE C RT (gh ex RT h1 H1) ρ σ:=
 ⟨r.1,λi d q=>by obtain⟨v,h1,h2⟩:=r.2 i d q;exact⟨v,h1,h2.ev e⟩⟩
theorem RE.set(r:RE C bs G ρ σ)(q:RV C bs G v d):RE C bs G (ρ.set i ⇑d) (σ.set i ⇑v):=by
 refine⟨by simp[r.1],λj e hj=> ?_⟩;by_cases Th:i=j
 ·subst Th
  rw[List.getElem?_set_self']at hj;have hl:i<ρ.length:=by
   by_cases hl:i<ρ.length
   ·exact hl
   ·rw[wv ⋯]at hj;simp at hj
  rw[qk hl]at hj;simp at hj;subst hj;refine⟨v,?_,q⟩;rw[qj (by rw[<-r.1];exact hl)]
 ·rw[qh Th]at hj
  obtain⟨u,h1,h2⟩:=r.2 j e hj;exact⟨u,by rw[qh Th];exact h1,h2⟩
def RW(C:Ct)(ex:List Addr)(E:XK)(bs:List Addr)(h:Z.MH)(H:Hp){α β:Type}(R:List Addr->Hp->β->α->Prop)(r:Z.Res α)(Q:β->Hp->Prop):Prop:=match r with
 | .ok a h'=>∀b R0 H',Ev C ex bs h H R0 h' H'->R R0 (gh ex R0 h' H') b a->Q b H'
 | .exc c h'=>∀R0 H',Ev C ex bs h H R0 h' H'->E (.ref (C.cm c)) none H'
 | .stuck=>False
variable {E : XK} {α β γ δ : Type} {R : List Addr -> Hp -> β -> α -> Prop} {R1 : List Addr -> Hp -> β -> α -> Prop} {R3 : List Addr -> Hp -> δ -> γ -> Prop}
theorem RW.from{Q:β->Hp->Prop}(e:Ev C ex bs h H RT h1 H1)(p:RW C ex E bs h H R r Q):RW C ex E RT h1 H1 R r Q:=by
 cases r with
 | ok a h'=>exact λb R0 H' e' q=>p b R0 H' (e.trans e') q
 | exc c h'=>exact λR0 H' e'=>p R0 H' (e.trans e')
 | stuck=>exact p
theorem RW.bind{f:α->Z.MH->Z.Res γ}{Q:δ->Hp->Prop}{Q1:β->Hp->Prop}(p:RW C ex E bs h H R3 (r.bind f) Q)
  (k:∀a b h1 RT H1,Ev C ex bs h H RT h1 H1->R1 RT (gh ex RT h1 H1) b a->RW C ex E RT h1 H1 R3 (f a h1) Q->Q1 b H1):RW C ex E bs h H R1 r Q1:=by
 cases r with
 | ok a h'=>exact λb R0 H' e' q=>k a b h' R0 H' e' q (RW.from e' p)
 | exc c h'=>exact p
 | stuck=>exact p
theorem RW.now{Q:β->Hp->Prop}(hr:HR C ex bs h H)(p:RW C ex E bs h H R (.ok a h) Q)(q:R bs (gh ex bs h H) b a):Q b H:=p b bs H (Ev.refl hr) q
theorem RW.R7{c:Prop}[Decidable c]{r:Z.Res α}{Q:β->Hp->Prop}(p:RW C ex E bs h H R (Z.R7 c r) Q):c/\RW C ex E bs h H R r Q:=by
 unfold Z.R7 at p;by_cases q:c
 ·rw[if_pos q]at p;exact⟨q,p⟩
 ·rw[if_neg q]at p;exact p.elim
theorem RW.oR{f:α->Z.MH->Z.Res γ}{Q:δ->Hp->Prop}(p:RW C ex E bs h H R3 ((Z.oR o h1).bind f) Q):∃a,o=⇑a/\RW C ex E bs h H R3 (f a h1) Q:=by
 cases o with
 | none=>exact p.elim
 | some a=>exact⟨a,rfl,p⟩
theorem RW.oR1{Q:β->Hp->Prop}(p:RW C ex E bs h H R (Z.oR o h1) Q):∃a,o=⇑a/\RW C ex E bs h H R (.ok a h1) Q:=by
 cases o with
 | none=>exact p.elim
 | some a=>exact⟨a,rfl,p⟩
def sG(C:Ct)(E:XK){α β:Type}(R:List Addr->Hp->β->α->Prop)(t:St->Hp->(β->Hp->Prop)->Prop)(m:Z.Ro->Z.MH->Z.Res α):Prop:=
 ∀(ex bs:List Addr) (h:Z.MH) (ρ:Z.Ro) (σ:St) (H:Hp) (Q:β->Hp->Prop),HR C ex bs h H->RE C bs (gh ex bs h H) ρ σ->RW C ex E bs h H R (m ρ h) Q->t σ H Q
abbrev SE(C:Ct)(E:XK)(t:TE)(m:Z.ME):Prop:=sG C E (RV C) t m
abbrev SA(C:Ct)(E:XK)(t:TA)(m:Z.ML):Prop:=sG C E (RQ C) t m
def F7{α:Type}:List Addr->Hp->α->α->Prop:=λ_ _ b a=>b=a
abbrev ST(C:Ct)(E:XK)(t:TT)(m:Z.MT):Prop:=sG C E F7 t m
abbrev SO(C:Ct)(E:XK)(t:TO)(m:Z.MO):Prop:=sG C E F7 t m
def S2(C:Ct)(r:R2)(f:Z.B2):Prop:=∀(ex bs:List Addr) (h:Z.MH) (H:Hp) (E:XK) (x y:V) (dx dy:Z.D) (Q:VK),HR C ex bs h H->RV C bs (gh ex bs h H) x dx->RV C bs (gh ex bs h H) y dy->RW C ex E bs h H (RV C) (f dx dy h) Q->r x y H Q
def S1(C:Ct)(r:V->Hp->VK->Prop)(f:Z.D->Z.MH->Z.Res Z.D):Prop:=∀(ex bs:List Addr) (h:Z.MH) (H:Hp) (E:XK) (x:V) (dx:Z.D) (Q:VK),HR C ex bs h H->RV C bs (gh ex bs h H) x dx->RW C ex E bs h H (RV C) (f dx h) Q->r x H Q
def SL(C:Ct)(r:List V->Hp->VK->Prop)(f:List Z.D->Z.MH->Z.Res Z.D):Prop:=∀(ex bs:List Addr) (h:Z.MH) (H:Hp) (E:XK) (xs:List V) (ds:List Z.D) (Q:VK),HR C ex bs h H->RQ C bs (gh ex bs h H) xs ds->RW C ex E bs h H (RV C) (f ds h) Q->r xs H Q
theorem aS:SE C E (p6 i) (Z.aa i):=by
 intro ex bs h ρ σ H Q hr re p;unfold Z.aa at p;cases q:ρ[i]? with
 | none=>rw[q]at p;exact p.elim
 | some o=>
  cases o with
  | none=>rw[q]at p;exact p.elim
  | some d=>
   rw[q]at p;obtain⟨v,h1,h2⟩:=re.2 i d q;exact⟨v,h1,p.now hr h2⟩
theorem mr(q:∀bs G,RV C bs G v d):SE C E (tC v) (Z.mC d):=λex bs h ρ σ H Q hr re p=>RW.now hr p (q _ _)
theorem iw:SE C E (tC (.int i)) (Z.mC (.int i)):=mr λ_ _=>by simp only[RV]
theorem vU:SE C E (tC (.str i)) (Z.mC (.str i)):=mr λ_ _=>by simp only[RV]
theorem nT:SE C E (tC (.bl i)) (Z.mC (.bl i)):=mr λ_ _=>by simp only[RV]
theorem EG:SE C E (tC .RY) (Z.mC .RY):=mr λ_ _=>by simp only[RV]
theorem C9:SE C E (tC (.ty n)) (Z.mC (.ty n)):=mr λ_ _=>by simp only[RV]
theorem dr(o:S2 C r f)(ha:SE C E ta ma)(hb:SE C E tb mb):SE C E (oa r ta tb) (Z.af f ma mb):=by
 intro ex bs h ρ σ H Q hr re p;refine ha ex bs h ρ σ H _ hr re (p.bind λdx x h1 RT H1 e1 rx p1=> ?_);refine hb ex RT h1 ρ σ H1 _ e1.hr (re.ev e1) (p1.bind λdy y h2 Sq H2 e2 ry p2=> ?_);exact o ex Sq h2 H2 E x y dx dy Q e2.hr (rx.ev e2) ry p2
theorem CO{r:V->Hp->VK->Prop}{f:Z.D->Z.MH->Z.Res Z.D}(o:S1 C r f)(ha:SE C E ta ma):SE C E (JE r ta) (Z.iZ f ma):=by
 intro ex bs h ρ σ H Q hr re p;refine ha ex bs h ρ σ H _ hr re (p.bind λdx x h1 RT H1 e1 rx p1=> ?_);exact o ex RT h1 H1 E x dx Q e1.hr rx p1
theorem cH:SA C E f_ Z.ae:=λex bs h ρ σ H Q hr re p=>RW.now hr p (by simp only[RQ])
theorem bF(ha:SE C E ta ma)(hl:SA C E tl ml):SA C E (Cw ta tl) (Z.ag ma ml):=by
 intro ex bs h ρ σ H Q hr re p;refine ha ex bs h ρ σ H _ hr re (p.bind λdx x h1 RT H1 e1 rx p1=> ?_);refine hl ex RT h1 ρ σ H1 _ e1.hr (re.ev e1) (p1.bind λdy y h2 Sq H2 e2 ry p2=> ?_);exact RW.now e2.hr p2 (by simp only[RQ];exact⟨rx.ev e2,ry⟩)
theorem qU{r:List V->Hp->VK->Prop}{f:List Z.D->Z.MH->Z.Res Z.D}(o:SL C r f)(hl:SA C E tl ml):SE C E (vN r tl) (Z.bh f ml):=by
 intro ex bs h ρ σ H Q hr re p;refine hl ex bs h ρ σ H _ hr re (p.bind λdx x h1 RT H1 e1 rx p1=> ?_);exact o ex RT h1 H1 E x dx Q e1.hr rx p1
theorem RQ.len:∀{ds:List Z.D} {vs:List V},RQ C bs G vs ds->vs.length=ds.length
 | [],[],_=>rfl
 | d::ds,v::vs,h=>by simp only[RQ]at h;simp[RQ.len h.2]
 | [],_::_,h=>by simp only[RQ]at h
 | _::_,[],h=>by simp only[RQ]at h
theorem Ev.alloc(hr:HR C ex bs h H)(hp:H p=none):Ev C ex bs h H bs h (az H p o)/\gh ex bs h (az H p o) p=⇑o:=by
 have nx:p∉ex:=λm=>hr.Sk p m hp;have nb:p∉bs:=λm=>hr.Uo p m hp;have nl:¬lv bs h p:=λ⟨k,c,e,_⟩=>nb (qm e);have ne:∀{a},H a≠none->a≠p:=fun{a} q e=>q (by rw[e];exact hp);have sm:R4 (gh ex bs h H) (gh ex bs h (az H p o)):=λa u e=>by
  obtain⟨h1,h2,h3⟩:=cz.mp e;exact cz.mpr ⟨h1,h2,by rw[aE (ne (by rw[h3];exact λz=>nomatch z))];exact h3⟩
 refine⟨⟨λ_ _ e=>e,⟨hr.len,hr.inj,hr.sep,λa m=> ?_,λa m=> ?_,λk a c e1 e2=> ?_⟩,sm,λa m=> ?_⟩,cz.mpr ⟨nx,nl,b7⟩⟩
 ·rw[aE (ne (hr.Uo a m))];exact hr.Uo a m
 ·rw[aE (ne (hr.Sk a m))];exact hr.Sk a m
 ·exact(hr.cell k a c e1 e2).mono (λ_ _ e=>e) sm (by rw[aE (ne (hr.Uo a (qm e1)))])
 ·rw[aE (ne (hr.Sk a m))]
theorem Bs(hl:SA C E tl ml):SE C E (zE tl) (Z.bD ml):=by
 intro ex bs h ρ σ H Q hr re p;refine hl ex bs h ρ σ H _ hr re (p.bind λds xs h1 RT H1 e1 rx p1=> ?_);obtain⟨hz,p1⟩:=p1.R7;refine⟨by rw[rx.len];exact hz,λa ha=> ?_⟩;obtain⟨e2,g⟩:=Ev.alloc (o:=.tup xs) e1.hr ha;exact p1 (.ref a) RT _ e2 (by simp only[RV];exact⟨a,xs,rfl,g,rx.ev e2⟩)
def T3(C:Ct)(ex:List Addr)(E:XK)(bs:List Addr)(h:Z.MH)(H:Hp)(r:Z.Res (List Z.D))(Q:VK):Prop:=match r with
 | .ok ds h'=>∀p vs R0 H1,Ev C ex bs h H R0 h' H1->H1 p=none->RQ C R0 (gh ex R0 h' H1) vs ds->Q (.ref p) (az H1 p (.lst vs))
 | .exc c h'=>∀R0 H',Ev C ex bs h H R0 h' H'->E (.ref (C.cm c)) none H'
 | .stuck=>False
def SN(C:Ct)(E:XK)(t:TE)(m:Z.ML):Prop:=
 ∀(ex bs:List Addr) (h:Z.MH) (ρ:Z.Ro) (σ:St) (H:Hp) (Q:VK),HR C ex bs h H->RE C bs (gh ex bs h H) ρ σ->T3 C ex E bs h H (m ρ h) Q->t σ H Q
theorem T3.from(e:Ev C ex bs h H RT h1 H1)(p:T3 C ex E bs h H r Q):T3 C ex E RT h1 H1 r Q:=by
 cases r with
 | ok a h'=>exact λb vs R0 H' e' hn q=>p b vs R0 H' (e.trans e') hn q
 | exc c h'=>exact λR0 H' e'=>p R0 H' (e.trans e')
 | stuck=>exact p
theorem T3.bind{f:α->Z.MH->Z.Res (List Z.D)}{Q1:β->Hp->Prop}(p:T3 C ex E bs h H (r.bind f) Q)
  (k:∀a b h1 RT H1,Ev C ex bs h H RT h1 H1->R1 RT (gh ex RT h1 H1) b a->T3 C ex E RT h1 H1 (f a h1) Q->Q1 b H1):RW C ex E bs h H R1 r Q1:=by
 cases r with
 | ok a h'=>exact λb R0 H' e' q=>k a b h' R0 H' e' q (T3.from e' p)
 | exc c h'=>exact p
 | stuck=>exact p
theorem T3.R7{c:Prop}[Decidable c]{r:Z.Res (List Z.D)}{Q:VK}(p:T3 C ex E bs h H (Z.R7 c r) Q):c/\T3 C ex E bs h H r Q:=by
 unfold Z.R7 at p;by_cases q:c
 ·rw[if_pos q]at p;exact⟨q,p⟩
 ·rw[if_neg q]at p;exact p.elim
theorem T3.now(hr:HR C ex bs h H)(q:T3 C ex E bs h H (.ok ds h) Q)(hp:H p=none)(r:RQ C bs (gh ex bs h H) vs ds):Q (.ref p) (az H p (.lst vs)):=q p vs bs H (Ev.refl hr) hp r
theorem lF(hn:SN C E t m):SE C E t (Z.aO m):=by
 intro ex bs h ρ σ H Q hr re p;refine hn ex bs h ρ σ H Q hr re ?_;unfold Z.aO at p;cases e:m ρ h with
 | ok ds h1=>
  rw[e]at p;intro a vs RT H1 e1 ha rv;obtain⟨e2,g⟩:=Ev.alloc (o:=.lst vs) e1.hr ha;exact p (.ref a) RT _ (e1.trans e2) (by simp only[RV];exact⟨a,vs,rfl,g,rv.ev e2⟩)
 | exc c h1=>rw[e]at p;exact p
 | stuck=>rw[e]at p;exact p
theorem Mt{α:Type}{l:List α}{a x:α}{k:Nat}(e:l[k]?=⇑a):(l++[x])[k]?=⇑a:=by
 rw[qr (q9.mp e).1];exact e
theorem lO{α:Type}{l:List α}{a x:α}(e:(l++[x])[k]?=⇑a):l[k]?=⇑a\/(k=l.length/\a=x):=by
 by_cases hk:k<l.length
 ·rw[qr hk]at e;exact .inl e
 ·rw[ze ⋯]at e
  by_cases hk2:k=l.length
  ·subst hk2;simp at e;exact .inr ⟨rfl,e.symm⟩
  ·rw[wv (by simp;lia)]at e;cases e
theorem Ev.cell(hr:HR C ex bs h H)(hp:H p=none)(hc:Xa C bs (gh ex bs h H) (az H p o) p c):Ev C ex bs h H (bs++[p]) (h++[⇑c]) (az H p o):=by
 have nx:p∉ex:=λm=>hr.Sk p m hp;have nb:p∉bs:=λm=>hr.Uo p m hp;have ne:∀{a},H a≠none->a≠p:=fun{a} q e=>q (by rw[e];exact hp);have hb:∀(k:Nat) (a:Addr),bs[k]?=⇑a->(bs++[p])[k]?=⇑a:=λk a e=>Mt e;have WE:∀a,lv (bs++[p]) (h++[⇑c]) a->lv bs h a\/a=p:=λa ⟨k,c',e1,e2,l2⟩=>by
  rcases lO e1 with e1|⟨_,e1⟩
  ·rcases lO e2 with e2|⟨e2,_⟩
   ·exact .inl ⟨k,c',e1,e2,l2⟩
   ·have:=(q9.mp e1).1
    have:=hr.len
    lia
  ·exact .inr e1
 have sm:R4 (gh ex bs h H) (gh ex (bs++[p]) (h++[⇑c]) (az H p o)):=λa u e=>by
  obtain⟨h1,h2,h3⟩:=cz.mp e;have na:a≠p:=ne (by rw[h3];exact λz=>nomatch z);refine cz.mpr ⟨h1,λl=> ?_,by rw[aE na];exact h3⟩;rcases WE a l with l|l
  ·exact h2 l
  ·exact na l
 refine⟨hb,⟨by simp[hr.len],λi j a e1 e2=> ?_,λa m=> ?_,λa m=> ?_,λa m=> ?_,λk a c' e1 e2=> ?_⟩,sm,λa m=> ?_⟩
 ·rcases lO e1 with e1|⟨k1,e1⟩
  ·rcases lO e2 with e2|⟨k2,e2⟩
   ·exact hr.inj i j a e1 e2
   ·rw[e2]at e1;exact absurd (qm e1) nb
  ·rcases lO e2 with e2|⟨k2,e2⟩
   ·rw[e1]at e2;exact absurd (qm e2) nb
   ·lia
 ·intro z
  rcases qv.mp z with z|z
  ·exact hr.sep a m z
  ·exact nx (by rw[<-(show a=p by simpa using z)];exact m)
 ·rcases qv.mp m with m|m
  ·rw[aE (ne (hr.Uo a m))];exact hr.Uo a m
  ·rw[show a=p by simpa using m,b7];exact λz=>nomatch z
 ·rw[aE (ne (hr.Sk a m))];exact hr.Sk a m
 ·rcases lO e1 with e1|⟨k1,e1⟩
  ·rcases lO e2 with e2|⟨k2,e2⟩
   ·exact(hr.cell k a c' e1 e2).mono hb sm (by rw[aE (ne (hr.Uo a (qm e1)))])
   ·have:=(q9.mp e1).1
    have:=hr.len
    lia
  ·rcases lO e2 with e2|⟨k2,e2⟩
   ·have:=(q9.mp e2).1
    have:=hr.len
    lia
   ·rw[e1]
    injection e2 with e2;subst e2;exact hc.mono hb sm rfl
 ·rw[aE (ne (hr.Sk a m))]
theorem CN(hn:SN C E t m):SE C E t (Z.h9 m):=by
 intro ex bs h ρ σ H Q hr re p;refine hn ex bs h ρ σ H Q hr re ?_;unfold Z.h9 at p;cases e:m ρ h with
 | ok ds h1=>
  rw[e]at p;intro a vs RT H1 e1 ha rv;have e2:=Ev.cell (o:=.lst vs) (c:=.lst ds) e1.hr ha ⟨vs,b7,rv⟩;refine p (.ref a) (RT++[a]) _ (e1.trans e2) ?_;simp only[RV];exact⟨a,rfl,by rw[<-e1.hr.len];simp⟩
 | exc c h1=>rw[e]at p;exact p
 | stuck=>rw[e]at p;exact p
theorem xI(hl:SA C E tl ml):SN C E (vt tl) (Z.bz ml):=by
 intro ex bs h ρ σ H Q hr re p;refine hl ex bs h ρ σ H _ hr re (T3.bind p λds xs h1 RT H1 e1 rx p1=> ?_);obtain⟨hz,p1⟩:=p1.R7;exact⟨by rw[rx.len];exact hz,λa ha=>p1.now e1.hr ha rx⟩
theorem Jx(hk:bs[k]?=⇑a)(h0:h[k]?=⇑⇑c0)(l1:c.live=true)(l0:c0.live=true):lv bs (h.set k ⇑c) x↔lv bs h x:=by
 constructor
 ·rintro⟨j,c',e1,e2,l2⟩
  by_cases hj:k=j
  ·subst hj;exact⟨k,c0,e1,h0,l0⟩
  ·rw[qh hj]at e2;exact⟨j,c',e1,e2,l2⟩
 ·rintro⟨j,c',e1,e2,l2⟩
  by_cases hj:k=j
  ·subst hj;exact⟨k,c,e1,by rw[qj (q9.mp h0).1],l1⟩
  ·exact⟨j,c',e1,by rw[qh hj];exact e2,l2⟩
theorem Ev.put{k:Nat}{a:Addr}{o:HO}{c c0:Z.Cell}(hr:HR C ex bs h H)(hk:bs[k]?=⇑a)(h0:h[k]?=⇑⇑c0)(hc:Xa C bs (gh ex bs h H) (az H a o) a c)(l1:c.live=true:=by rfl)(l0:c0.live=true:=by rfl):
  Ev C ex bs h H bs (h.set k ⇑c) (az H a o):=by
 have la:lv bs h a:=⟨k,c0,hk,h0,l0⟩;have ab:a∈bs:=qm hk;have ge:gh ex bs (h.set k ⇑c) (az H a o)=gh ex bs h H:=by
  funext x;unfold gh;by_cases q:x∈ex\/lv bs h x
  ·rw[if_pos q,if_pos (q.imp id (Jx hk h0 l1 l0).mpr)]
  ·rw[if_neg q,if_neg (λz=>q (z.imp id (Jx hk h0 l1 l0).mp)),aE (λz=>q (.inr (by rw[z];exact la)))]
 have na:∀{x},x∈ex->x≠a:=fun{x} m z=>hr.sep x m (by rw[z];exact ab);refine⟨λ_ _ e=>e,⟨by simp[hr.len],hr.inj,hr.sep,λx m=> ?_,λx m=> ?_,λj x c' e1 e2=> ?_⟩,by rw[ge];exact R4.refl _,λx m=>by rw[aE (na m)]⟩
 ·by_cases q:x=a
  ·rw[q,b7];exact λz=>nomatch z
  ·rw[aE q];exact hr.Uo x m
 ·rw[aE (na m)];exact hr.Sk x m
 ·rw[ge]
  by_cases hj:k=j
  ·subst hj
   rw[hk]at e1;cases e1;rw[qj (q9.mp h0).1]at e2;cases e2;exact hc
  ·rw[qh hj]at e2
   refine(hr.cell j x c' e1 e2).mono (λ_ _ e=>e) (R4.refl _) ?_;rw[aE (λz=>hj (hr.inj k j a hk (by rw[<-z];exact e1)))]
theorem Ev.freeze(hr:HR C ex bs h H)(hk:bs[k]?=⇑a)(h0:h[k]?=⇑⇑(.lst ds)):
  Ev C ex bs h H bs (h.set k none) H/\RV C bs (gh ex bs (h.set k none) H) (.ref a) (.lst ds):=by
 have ab:a∈bs:=qm hk;have WE:∀x,lv bs (h.set k none) x->lv bs h x/\x≠a:=λx ⟨j,c',e1,e2,l2⟩=>by
  by_cases hj:k=j
  ·subst hj;rw[qj (q9.mp h0).1]at e2;cases e2
  ·rw[qh hj]at e2
   exact⟨⟨j,c',e1,e2,l2⟩,λz=>hj (hr.inj k j a hk (by rw[<-z];exact e1))⟩
 have sm:R4 (gh ex bs h H) (gh ex bs (h.set k none) H):=λx u e=>by
  obtain⟨h1,h2,h3⟩:=cz.mp e;exact cz.mpr ⟨h1,λl=>h2 (WE x l).1,h3⟩
 obtain⟨vs,h1,h2⟩:=hr.cell k a _ hk h0;refine⟨⟨λ_ _ e=>e,⟨by simp[hr.len],hr.inj,hr.sep,hr.Uo,hr.Sk,λj x c' e1 e2=> ?_⟩,sm,λ_ _=>rfl⟩,?_⟩
 ·by_cases hj:k=j
  ·subst hj;rw[qj (q9.mp h0).1]at e2;cases e2
  ·rw[qh hj]at e2
   exact(hr.cell j x c' e1 e2).mono (λ_ _ e=>e) sm rfl
 ·simp only[RV]
  exact⟨a,vs,rfl,cz.mpr ⟨λm=>hr.sep a m ab,λl=>(WE a l).2 rfl,h1⟩,h2.mono (λ_ _ e=>e) sm⟩
def fD(C:Ct)(z:Z.MF):Sp:=λvs H Q E=>∃ex bs h ds,HR C ex bs h H/\RQ C bs (gh ex bs h H) vs ds/\RW C ex E bs h H (RV C) (z ds h) Q
theorem iU(hl:SA C E tl ml):SE C E (FD (fD C z) [] E tl) (Z.ax z ml):=by
 intro ex bs h ρ σ H Q hr re p;refine hl ex bs h ρ σ H _ hr re (p.bind λds xs h1 RT H1 e1 rx p1=> ?_);exact⟨ex,RT,h1,ds,e1.hr,by rw[zm];exact rx,p1⟩
theorem Dx(h0:SE C E t m):ST C E (tB t) (Z.tB m):=by
 intro ex bs h ρ σ H Q hr re p;refine h0 ex bs h ρ σ H _ hr re (p.bind λd x h1 RT H1 e1 rx p1=> ?_);cases d with
 | bl b=>simp only[RV]at rx;exact⟨b,rx,RW.now e1.hr p1 rfl⟩
 | _=>exact p1.elim
theorem vG(h0:SE C E t m):ST C E (ER t) (Z.tB m):=Dx h0
theorem Eg(ht:ST C E t m)(hu:ST C E u n):ST C E (bW t u) (Z.bW m n):=by
 intro ex bs h ρ σ H Q hr re p;refine ht ex bs h ρ σ H _ hr re (p.bind λc b h1 RT H1 e1 rx p1=> ?_);cases rx;cases c with
 | true=>exact hu ex RT h1 ρ σ H1 Q e1.hr (re.ev e1) p1
 | false=>exact RW.now e1.hr p1 rfl
theorem lS(ht:ST C E t m)(hu:ST C E u n):ST C E (dZ t u) (Z.dZ m n):=by
 intro ex bs h ρ σ H Q hr re p;refine ht ex bs h ρ σ H _ hr re (p.bind λc b h1 RT H1 e1 rx p1=> ?_);cases rx;cases c with
 | false=>exact hu ex RT h1 ρ σ H1 Q e1.hr (re.ev e1) p1
 | true=>exact RW.now e1.hr p1 rfl
theorem DQ(ht:ST C E t m):ST C E (aY t) (Z.aY m):=by
 intro ex bs h ρ σ H Q hr re p;refine ht ex bs h ρ σ H _ hr re (p.bind λc b h1 RT H1 e1 rx p1=> ?_);cases rx;exact RW.now e1.hr p1 rfl
theorem DZ(hc:ST C E c mc)(ht:SE C E t m)(hu:SE C E u n):SE C E (KR c t u) (Z.HU mc m n):=by
 intro ex bs h ρ σ H Q hr re p;refine hc ex bs h ρ σ H _ hr re (p.bind λc b h1 RT H1 e1 rx p1=> ?_);cases rx;cases c with
 | true=>exact ht ex RT h1 ρ σ H1 Q e1.hr (re.ev e1) p1
 | false=>exact hu ex RT h1 ρ σ H1 Q e1.hr (re.ev e1) p1
theorem rq(ht:SE C E t m)(hu:SE C E u n):SE C E (mO t u) (Z.jx m n):=by
 intro ex bs h ρ σ H Q hr re p;refine ht ex bs h ρ σ H _ hr re (p.bind λd x h1 RT H1 e1 rx p1=> ?_);cases d with
 | bl b=>
  simp only[RV]at rx;refine⟨b,rx,?_⟩;cases b with
  | true=>exact hu ex RT h1 ρ σ H1 Q e1.hr (re.ev e1) p1
  | false=>exact RW.now e1.hr p1 (by simp only[RV])
 | _=>exact p1.elim
theorem wO(ht:SE C E t m)(hu:SE C E u n):SE C E (xw t u) (Z.J3 m n):=by
 intro ex bs h ρ σ H Q hr re p;refine ht ex bs h ρ σ H _ hr re (p.bind λd x h1 RT H1 e1 rx p1=> ?_);cases d with
 | bl b=>
  simp only[RV]at rx;refine⟨b,rx,?_⟩;cases b with
  | false=>exact hu ex RT h1 ρ σ H1 Q e1.hr (re.ev e1) p1
  | true=>exact RW.now e1.hr p1 (by simp only[RV])
 | _=>exact p1.elim
theorem L0(o:S2 C r f)(o':S2 C r' g)(ha:SE C E ta ma)(hb:SE C E tb mb)(hc:SE C E tc mc):SE C E (Iy r r' ta tb tc) (Z.B5 f g ma mb mc):=by
 intro ex bs h ρ σ H Q hr re p;refine ha ex bs h ρ σ H _ hr re (p.bind λdx x h1 RT H1 e1 rx p1=> ?_);refine hb ex RT h1 ρ σ H1 _ e1.hr (re.ev e1) (p1.bind λdy y h2 Sq H2 e2 ry p2=> ?_);refine o ex Sq h2 H2 E x y dx dy _ e2.hr (rx.ev e2) ry (p2.bind λdz z h3 bs3 H3 e3 rz p3=> ?_);cases dz with
 | bl k=>
  simp only[RV]at rz;refine⟨k,rz,?_⟩;cases k with
  | false=>exact RW.now e3.hr p3 (by simp only[RV])
  | true=>
   refine hc ex bs3 h3 ρ σ H3 _ e3.hr ((re.ev e1).ev (e2.trans e3)) (p3.bind λdw w' h4 bs4 H4 e4 V7 p4=> ?_);exact o' ex bs4 h4 H4 E y w' dy dw Q e4.hr ((ry.ev e3).ev e4) V7 p4
 | _=>exact p3.elim
end
end L2
namespace L2
open PySem PySem.Spec
section
variable {C : Ct} {ex bs RT Sq : List Addr} {h h1 h2 : Z.MH} {H H1 H2 : Hp} {E : XK} {α β : Type} {R1 : List Addr -> Hp -> β -> α -> Prop}
def Vo(C:Ct)(ex:List Addr)(E:XK)(bs:List Addr)(h:Z.MH)(H:Hp)(r:Z.RS)(D:Ends):Prop:=match r with
 | .nx ρ' h'=>∀σ' R0 H',Ev C ex bs h H R0 h' H'->RE C R0 (gh ex R0 h' H') ρ' σ'->D.nx σ' H'
 | .rt d h'=>∀v R0 H',Ev C ex bs h H R0 h' H'->RV C R0 (gh ex R0 h' H') v d->D.rt v H'
 | .bk ρ' h'=>∀σ' R0 H',Ev C ex bs h H R0 h' H'->RE C R0 (gh ex R0 h' H') ρ' σ'->D.bk σ' H'
 | .ct ρ' h'=>∀σ' R0 H',Ev C ex bs h H R0 h' H'->RE C R0 (gh ex R0 h' H') ρ' σ'->D.ct σ' H'
 | .exc c h'=>∀R0 H',Ev C ex bs h H R0 h' H'->E (.ref (C.cm c)) none H'
 | .stuck=>False
def SS(C:Ct)(E:XK)(t:TS)(m:Z.MS):Prop:=
 ∀(ex bs:List Addr) (h:Z.MH) (ρ:Z.Ro) (σ:St) (H:Hp) (D:Ends),HR C ex bs h H->RE C bs (gh ex bs h H) ρ σ->Vo C ex E bs h H (m ρ h) D->t D σ H
theorem Vo.from(e:Ev C ex bs h H RT h1 H1)(p:Vo C ex E bs h H r D):Vo C ex E RT h1 H1 r D:=by
 cases r with
 | nx ρ h'=>exact λb R0 H' e' q=>p b R0 H' (e.trans e') q
 | rt d h'=>exact λb R0 H' e' q=>p b R0 H' (e.trans e') q
 | bk ρ h'=>exact λb R0 H' e' q=>p b R0 H' (e.trans e') q
 | ct ρ h'=>exact λb R0 H' e' q=>p b R0 H' (e.trans e') q
 | exc c h'=>exact λR0 H' e'=>p R0 H' (e.trans e')
 | stuck=>exact p
theorem Vo.bind{f:α->Z.MH->Z.RS}{Q1:β->Hp->Prop}(p:Vo C ex E bs h H (r.toS f) D)
  (k:∀a b h1 RT H1,Ev C ex bs h H RT h1 H1->R1 RT (gh ex RT h1 H1) b a->Vo C ex E RT h1 H1 (f a h1) D->Q1 b H1):RW C ex E bs h H R1 r Q1:=by
 cases r with
 | ok a h'=>exact λb R0 H' e' q=>k a b h' R0 H' e' q (Vo.from e' p)
 | exc c h'=>exact p
 | stuck=>exact p
theorem Cb:SS C E AU Z.aH:=λex bs h ρ σ H D hr re p=>p σ bs H (Ev.refl hr) re
theorem cy(ht:SS C E t m)(hu:SS C E u n):SS C E (ud t u) (Z.ah m n):=by
 intro ex bs h ρ σ H D hr re p;refine ht ex bs h ρ σ H _ hr re ?_;unfold Z.ah at p;cases e:m ρ h with
 | nx ρ1 h1=>rw[e]at p;exact λσ1 RT H1 e1 re1=>hu ex RT h1 ρ1 σ1 H1 D e1.hr re1 (p.from e1)
 | rt d h1=>rw[e]at p;exact p
 | bk ρ1 h1=>rw[e]at p;exact p
 | ct ρ1 h1=>rw[e]at p;exact p
 | exc c h1=>rw[e]at p;exact p
 | stuck=>rw[e]at p;exact p
theorem vc(hc:ST C E c mc)(ht:SS C E t m)(hu:SS C E u n):SS C E (Ae c t u) (Z.aG mc m n):=by
 intro ex bs h ρ σ H D hr re p;refine hc ex bs h ρ σ H _ hr re (p.bind λc b h1 RT H1 e1 rx p1=> ?_);cases rx;cases c with
 | true=>exact ht ex RT h1 ρ σ H1 D e1.hr (re.ev e1) p1
 | false=>exact hu ex RT h1 ρ σ H1 D e1.hr (re.ev e1) p1
theorem jA(ht:SE C E t m):SS C E (tT t) (Z.ai m):=by
 intro ex bs h ρ σ H D hr re p;exact ht ex bs h ρ σ H _ hr re (p.bind λd x h1 RT H1 e1 rx p1=>p1 x RT H1 (Ev.refl e1.hr) rx)
theorem EJ(ht:SE C E t m):SS C E (FP t) (Z.jc m):=by
 intro ex bs h ρ σ H D hr re p;exact ht ex bs h ρ σ H _ hr re (p.bind λd x h1 RT H1 e1 rx p1=>p1 σ RT H1 (Ev.refl e1.hr) (re.ev e1))
def SG(C:Ct)(E:XK)(g:TG)(m:Z.MG):Prop:=
 ∀(ex bs:List Addr) (h:Z.MH) (ρ:Z.Ro) (σ:St) (H:Hp) (v:V) (d:Z.D) (D:Ends),HR C ex bs h H->RE C bs (gh ex bs h H) ρ σ->RV C bs (gh ex bs h H) v d->Vo C ex E bs h H (m d ρ h) D->g v σ H D.nx
theorem dg(ht:SE C E t m)(hg:SG C E g mg):SS C E (y2 t g) (Z.aj m mg):=by
 intro ex bs h ρ σ H D hr re p;exact ht ex bs h ρ σ H _ hr re (p.bind λd x h1 RT H1 e1 rx p1=>hg ex RT h1 ρ σ H1 x d D e1.hr (re.ev e1) rx p1)
theorem cY:SG C E (ak i) (Z.ak i):=λex bs h ρ σ H v d D hr re rv p=>p _ bs H (Ev.refl hr) (re.set rv)
theorem Jl(ht:SE C E t m):SS C E (λD σ H=>t σ H λx H1=>D.nx (σ.set i ⇑x) H1) (Z.aj m (Z.ak i)):=dg (g:=ak i) ht cY
def Ah(C:Ct)(E:XK)(g:hV)(is:List Nat):Prop:=
 ∀(ex bs:List Addr) (h:Z.MH) (ρ:Z.Ro) (σ:St) (H:Hp) (vs:List V) (ds:List Z.D) (D:Ends),HR C ex bs h H->RE C bs (gh ex bs h H) ρ σ->RQ C bs (gh ex bs h H) vs ds->Vo C ex E bs h H (Z.AS is ds ρ h) D->g vs σ H D.nx/\vs.length=is.length
theorem Nb:Ah C E qI []:=by
 intro ex bs h ρ σ H vs ds D hr re rv p;cases ds with
 | nil=>
  cases vs with
  | nil=>exact⟨⟨rfl,p σ bs H (Ev.refl hr) re⟩,rfl⟩
  | cons _ _=>simp only[RQ]at rv
 | cons d ds=>exact p.elim
theorem QG(hg:Ah C E g is):Ah C E (Gu (ak i) g) (i::is):=by
 intro ex bs h ρ σ H vs ds D hr re rv p;cases ds with
 | nil=>exact p.elim
 | cons d ds=>
  cases vs with
  | nil=>simp only[RQ]at rv
  | cons v vs=>
   simp only[RQ]at rv;have:=hg ex bs h (ρ.set i ⇑d) (σ.set i ⇑v) H vs ds D hr (re.set rv.1) rv.2 p;exact⟨⟨v,vs,rfl,this.1⟩,by simp[this.2]⟩
theorem oS(hn:n=is.length)(hg:Ah C E g is):SG C E (iC C.K n g) (Z.fY is):=by
 intro ex bs h ρ σ H v d D hr re rv p;cases d with
 | tup ds=>
  simp only[RV]at rv;obtain⟨a,vs,rfl,ga,rs⟩:=rv;have:=hg ex bs h ρ σ H vs ds D hr re rs p;exact⟨a,vs,rfl,.inl (S7.of (bq _ _ ga)),by rw[hn];exact this.2,this.1⟩
 | lst ds=>
  simp only[RV]at rv;obtain⟨a,vs,rfl,ga,rs⟩:=rv;have:=hg ex bs h ρ σ H vs ds D hr re rs p;exact⟨a,vs,rfl,.inr (R8.of (bq _ _ ga)),by rw[hn];exact this.2,this.1⟩
 | _=>exact p.elim
theorem RQ.append{G:Hp}:∀{ds es:List Z.D} {vs ws:List V},RQ C bs G vs ds->RQ C bs G ws es->RQ C bs G (vs++ws) (ds++es)
 | [],es,[],ws,_,k=>k
 | d::ds,es,v::vs,ws,h,k=>by
  simp only[RQ,wz]at h ⊢;exact⟨h.1,RQ.append h.2 k⟩
 | [],_,_::_,_,h,_=>by simp only[RQ]at h
 | _::_,_,[],_,h,_=>by simp only[RQ]at h
theorem RQ.one(q:RV C bs G v d):RQ C bs G [v] [d]:=by simp only[RQ];exact⟨q,trivial⟩
theorem RQ.get{G:Hp}:∀{ds:List Z.D} {vs:List V} {i:Nat} {d:Z.D},RQ C bs G vs ds->ds[i]?=⇑d->∃v,vs[i]?=⇑v/\RV C bs G v d
 | [],_,i,d,_,e=>by simp at e
 | d::ds,v::vs,0,d',h,e=>by
  simp only[RQ]at h;simp at e;subst e;exact⟨v,rfl,h.1⟩
 | d::ds,v::vs,i+1,d',h,e=>by
  simp only[RQ]at h;obtain⟨u,h1,h2⟩:=RQ.get (i:=i) (d:=d') h.2 (by simpa using e);exact⟨u,by simpa using h1,h2⟩
 | _::_,[],_,_,h,_=>by simp only[RQ]at h
theorem RQ.drop:∀{ds:List Z.D} {vs:List V} (n:Nat),RQ C bs G vs ds->RQ C bs G (vs.drop n) (ds.drop n)
 | _,_,0,h=>h
 | [],[],n+1,h=>h
 | d::ds,v::vs,n+1,h=>by
  simp only[RQ]at h;simpa using RQ.drop n h.2
 | [],_::_,_+1,h=>by simp only[RQ]at h
 | _::_,[],_+1,h=>by simp only[RQ]at h
theorem RQ.take:∀{ds:List Z.D} {vs:List V} (n:Nat),RQ C bs G vs ds->RQ C bs G (vs.take n) (ds.take n)
 | _,_,0,_=>by simp[RQ]
 | [],[],n+1,h=>by simp[RQ]
 | d::ds,v::vs,n+1,h=>by
  simp only[RQ]at h;simp only[List.take_succ_cons,RQ];exact⟨h.1,RQ.take n h.2⟩
 | [],_::_,_+1,h=>by simp only[RQ]at h
 | _::_,[],_+1,h=>by simp only[RQ]at h
theorem BP(ho:SE C E to mo)(he:SE C E te me):SS C E (FP (sM C.K "list" K4 to (Cw te f_))) (Z.mQ mo me):=by
 intro ex bs h ρ σ H D hr re p;refine ho ex bs h ρ σ H _ hr re (p.bind λo x h1 RT H1 e1 rx p1=> ?_);cases o with
 | ref k=>
  simp only[RV]at rx;obtain⟨a,rfl,hk⟩:=rx;dsimp only at p1;split at p1
  ·rename_i xs0 hc0
   obtain⟨vs0,ha0,_⟩:=e1.hr.cell k a _ hk hc0;refine⟨.inl ⟨rfl,vs0,R8.of ha0⟩,?_⟩;refine he ex RT h1 ρ σ H1 _ e1.hr (re.ev e1) (p1.bind λd y h2 Sq H2 e2 ry p2=> ?_);split at p2
   ·rename_i xs hc
    split at p2
    ·rename_i hz
     obtain⟨vs,ha,rs⟩:=e2.hr.cell k a _ (e2.pre k a hk) hc;refine⟨a,vs,y,rfl,rfl,ha,by rw[rs.len];exact hz,?_⟩;have e3:=Ev.put (o:=.lst (vs++[y])) (c:=.lst (xs++[d])) e2.hr (e2.pre k a hk) hc ⟨_,b7,rs.append (.one ry)⟩;exact p2 σ Sq _ e3 (((re.ev e1).ev e2).ev e3)
    ·exact p2.elim
   ·exact p2.elim
  ·exact p1.elim
 | _=>exact p1.elim
theorem Az(ht:SS C E t m):SS C E t (Z.gZ i m):=by
 intro ex bs h ρ σ H D hr re p;unfold Z.gZ at p;split at p
 ·rename_i k hk
  split at p
  ·rename_i xs hc
   obtain⟨v,hv,rv⟩:=re.2 i _ hk;simp only[RV]at rv;obtain⟨a,rfl,ha⟩:=rv;obtain⟨e1,r1⟩:=Ev.freeze hr ha hc;refine ht ex bs (h.set k none) (ρ.set i ⇑(.lst xs)) σ H D e1.hr ?_ (p.from e1);have r2:=(re.ev e1).set (i:=i) r1;have:σ.set i ⇑(.ref a)=σ:=gg λj=>by
    by_cases hj:i=j
    ·subst hj;rw[qj (q9.mp hv).1,hv]
    ·rw[qh hj]
   rw[this]at r2;exact r2
  ·exact p.elim
 ·exact p.elim
end
section
variable {C : Ct} {ex bs RT Sq : List Addr} {h h1 h2 : Z.MH} {H H1 H2 : Hp} {E : XK}
def TY(C:Ct)(bs:List Addr)(G:Hp)(J:It)(s:Option Nat×List Z.D):Prop:=
 ∀(Xd Sq:List Addr) (h2:Z.MH) (H2:Hp),HR C Xd Sq h2 H2->(∀(k:Nat) (a:Addr),bs[k]?=⇑a->Sq[k]?=⇑a)->R4 G (gh Xd Sq h2 H2)->Z.rW s.1 s.2 h2->∀i:Nat,
  (∀d,s.2[i]?=⇑d->J.go i H2/\∀x H3,J.Yr i H2 x H3->Ev C Xd Sq h2 H2 Sq h2 H3/\RV C Sq (gh Xd Sq h2 H3) x d)/\(s.2.length<=i->J.stop i H2)
abbrev SI(C:Ct)(E:XK)(t:TI)(m:Z.MI):Prop:=sG C E (TY C) t m
theorem Ih(hg:SG C E g mg)(hb:SS C E tb mb)(hr:HR C ex RT h1 H1)(re:RE C RT (gh ex RT h1 H1) ρ σ)(it:TY C RT (gh ex RT h1 H1) J (gd,items))(p1:Vo C ex E RT h1 H1 (Z.gM gd items mg mb items ρ h1) D):
  ∃W:Nat->Nat->St->Hp->Prop,(∃m,W 0 m σ H1)/\∀i m σ H,W i m σ H->(J.stop i H/\D.nx σ H)\/(J.go i H/\∃N:St->Hp->Prop,(∀σ' H',N σ' H'->∃m',m'<m/\W (i+1) m' σ' H')/\∀x H',J.Yr i H x H'->g x σ H' λσ2 H2=>tb {D with nx:=N,ct:=N,bk:=D.nx} σ2 H2):=by
 have lo:∀(i:Nat) (hl:i<items.length),items.drop i=items[i]::items.drop (i+1):=λi hl=>zl hl;refine⟨λi m σ' H'=>m=items.length - i/\i<=items.length/\∃ρ' R0 h',Ev C ex RT h1 H1 R0 h' H'/\RE C R0 (gh ex R0 h' H') ρ' σ'/\Vo C ex E R0 h' H' (Z.gM gd items mg mb (items.drop i) ρ' h') D,
  ⟨items.length,by simp,w6 _,ρ,RT,h1,Ev.refl hr,re,p1⟩,?_⟩
 rintro i m σ' H' ⟨rfl,hle,ρ',R0,h',ev,XO,p'⟩;by_cases hlt:i<items.length
 ·rw[lo i hlt]at p'
  unfold Z.gM at p';split at p'
  case isFalse=>exact p'.elim
  rename_i XR;obtain⟨go,yl⟩:=(it ex R0 h' H' ev.hr ev.pre ev.same XR i).1 items[i] (qk hlt);refine .inr ⟨go,λσ2 H2=>∃m',m'<items.length - i/\(m'=items.length - (i+1)/\i+1<=items.length/\∃ρ' R0 h',Ev C ex RT h1 H1 R0 h' H2/\RE C R0 (gh ex R0 h' H2) ρ' σ2/\Vo C ex E R0 h' H2 (Z.gM gd items mg mb (items.drop (i+1)) ρ' h') D),λ_ _ q=>q,λx H3 y=> ?_⟩;obtain⟨X1,rx⟩:=yl x H3 y;have p3:=p'.from X1;refine hg ex R0 h' ρ' σ' H3 x items[i] ⟨_,λ_ _=>False,λ_ _=>False,λ_ _=>False⟩ X1.hr (XO.ev X1) rx ?_;cases e:mg items[i] ρ' h' with
  | nx ρ1 WV=>
   rw[e]at p3;intro σ2 Sq H2 Z9 re2;refine hb ex Sq WV ρ1 σ2 H2 _ Z9.hr re2 ?_;have p4:=p3.from Z9;have Z8:=(ev.trans X1).trans Z9;cases e5:mb ρ1 WV with
   | nx ρ2 Xc=>
    dsimp only at p4;rw[e5]at p4;exact λσ5 XJ H5 VG Yy=>⟨_,⋯,rfl,hlt,ρ2,XJ,Xc,Z8.trans VG,Yy,p4.from VG⟩
   | ct ρ2 Xc=>
    dsimp only at p4;rw[e5]at p4;exact λσ5 XJ H5 VG Yy=>⟨_,⋯,rfl,hlt,ρ2,XJ,Xc,Z8.trans VG,Yy,p4.from VG⟩
   | bk ρ2 Xc=>dsimp only at p4;rw[e5]at p4;exact p4
   | rt d Xc=>dsimp only at p4;rw[e5]at p4;exact p4
   | exc c Xc=>dsimp only at p4;rw[e5]at p4;exact p4
   | stuck=>dsimp only at p4;rw[e5]at p4;exact p4
  | rt _ _=>rw[e]at p3;exact p3.elim
  | bk _ _=>rw[e]at p3;exact p3.elim
  | ct _ _=>rw[e]at p3;exact p3.elim
  | exc _ _=>rw[e]at p3;exact p3.elim
  | stuck=>rw[e]at p3;exact p3.elim
 ·have ei:i=items.length:=⋯
  subst ei;rw[List.drop_length]at p';unfold Z.gM at p';split at p'
  case isFalse=>exact p'.elim
  rename_i XR;exact .inl ⟨(it ex R0 h' H' ev.hr ev.pre ev.same XR items.length).2 (qd _),p' σ' R0 H' (Ev.refl ev.hr) XO⟩
theorem va(hi:SI C E wi l)(hg:SG C E g mg)(hb:SS C E tb mb):SS C E (oG wi g tb) (Z.bB l mg mb):=by
 intro ex bs h ρ σ H D hr re p;refine hi ex bs h ρ σ H _ hr re (p.bind λsrc J h1 RT H1 e1 it p1=> ?_);obtain⟨gd,items⟩:=src;dsimp only at p1;exact Ih hg hb e1.hr (re.ev e1) it p1
theorem AZ(hc:ST C E c mc)(hb:SS C E tb mb):SS C E (JU c tb) (Z.cw mc mb):=by
 intro ex bs h ρ σ H D hr re p;have ns:Z.cw mc mb ρ h≠ .stuck:=λz=>by rw[z]at p;exact p
 obtain⟨n,en⟩:=Z.Eb ns;rw[<-en]at p;refine⟨λm σ' H'=>∃ρ' R0 h',HR C ex R0 h' H'/\RE C R0 (gh ex R0 h' H') ρ' σ'/\Vo C ex E R0 h' H' (Z.cP mc mb m ρ' h') D,⟨n,ρ,bs,h,hr,re,p⟩,?_⟩;rintro m σ' H' ⟨ρ',R0,h',Ur,XO,p'⟩;cases m with
 | zero=>exact p'.elim
 | succ m=>
  unfold Z.cP at p';refine hc ex R0 h' ρ' σ' H' _ Ur XO ?_;cases e:mc ρ' h' with
  | exc x h1=>rw[e]at p';exact p'
  | stuck=>rw[e]at p';exact p'
  | ok b h1=>
   rw[e]at p';rintro b' RT H1 e1 rfl;have p1:=p'.from e1;cases b' with
   | false=>exact p1 σ' RT H1 (Ev.refl e1.hr) (XO.ev e1)
   | true=>
    dsimp only at p1;refine⟨λσ2 H2=>∃m',m'<m+1/\∃ρ' R0 h',HR C ex R0 h' H2/\RE C R0 (gh ex R0 h' H2) ρ' σ2/\Vo C ex E R0 h' H2 (Z.cP mc mb m' ρ' h') D,λ_ _ q=>q,?_⟩;refine hb ex RT h1 ρ' σ' H1 _ e1.hr (XO.ev e1) ?_;cases e5:mb ρ' h1 with
    | nx ρ2 h2=>rw[e5]at p1;exact λσ5 XJ H5 VG Yy=>⟨m,⋯,ρ2,XJ,h2,VG.hr,Yy,p1.from VG⟩
    | ct ρ2 h2=>rw[e5]at p1;exact λσ5 XJ H5 VG Yy=>⟨m,⋯,ρ2,XJ,h2,VG.hr,Yy,p1.from VG⟩
    | bk ρ2 h2=>rw[e5]at p1;exact p1
    | rt d h2=>rw[e5]at p1;exact p1
    | exc c h2=>rw[e5]at p1;exact p1
    | stuck=>rw[e5]at p1;exact p1
noncomputable def VZ(l:Addr)(H:Hp):Hp:=λb=>if b=l then none else H b
theorem kN(n:b≠l):VZ l H b=H b:=if_neg n
theorem AX:gh ex bs h (VZ l H)=gh (l::ex) bs h H:=by
 funext x;unfold gh;by_cases q:x∈ex\/lv bs h x
 ·rw[if_pos q,if_pos (q.imp (q8 _) id)]
 ·by_cases e:x=l
  ·subst e
   rw[if_neg q,if_pos (.inl (qa ..))];exact if_pos rfl
  ·rw[if_neg q,kN e,if_neg]
   rintro(z|z)
   ·rcases qg.mp z with z|z
    ·exact e z
    ·exact q (.inl z)
   ·exact q (.inr z)
theorem HR.VZ(hl:l∉ex)(r:HR C (l::ex) bs h H):HR C ex bs h (VZ l H):=by
 have lb:l∉bs:=r.sep l (qa ..);have nb:∀{a},a∈bs->a≠l:=fun{a} m z=>lb (by rw[<-z];exact m);refine⟨r.len,r.inj,λa m=>r.sep a (q8 _ m),λa m=> ?_,λa m=> ?_,λk a c e1 e2=> ?_⟩
 ·rw[kN (nb m)];exact r.Uo a m
 ·rw[kN (λz=>hl (by rw[<-z];exact m))];exact r.Sk a (q8 _ m)
 ·rw[AX]
  exact(r.cell k a c e1 e2).mono (λ_ _ e=>e) (R4.refl _) (by rw[kN (nb (qm e1))])
theorem Je(hl:H l=none):gh (l::ex) bs h (az H l o)=gh ex bs h H:=by
 rw[<-AX];have:VZ l (az H l o)=H:=by
  funext x;unfold VZ;by_cases e:x=l
  ·rw[if_pos e,e,hl]
  ·rw[if_neg e,aE e]
 rw[this]
theorem HR.show(hl:H l=none)(r:HR C ex bs h H):HR C (l::ex) bs h (az H l o):=by
 have lb:l∉bs:=λm=>r.Uo l m hl;have lx:l∉ex:=λm=>r.Sk l m hl;have nb:∀{a},a∈bs->a≠l:=fun{a} m z=>lb (by rw[<-z];exact m);refine⟨r.len,r.inj,λa m=> ?_,λa m=> ?_,λa m=> ?_,λk a c e1 e2=> ?_⟩
 ·rcases qg.mp m with m|m
  ·rw[m];exact lb
  ·exact r.sep a m
 ·rw[aE (nb m)];exact r.Uo a m
 ·rcases qg.mp m with m|m
  ·rw[m,b7];exact λz=>nomatch z
  ·rw[aE (λz=>lx (by rw[<-z];exact m))];exact r.Sk a m
 ·rw[Je hl]
  exact(r.cell k a c e1 e2).mono (λ_ _ e=>e) (R4.refl _) (by rw[aE (nb (qm e1))])
theorem GH:gh (l::ex) bs h (az H l o)=gh (l::ex) bs h H:=by
 funext x;unfold gh;by_cases q:x∈l::ex\/lv bs h x
 ·rw[if_pos q,if_pos q]
 ·rw[if_neg q,if_neg q,aE (λz=>q (.inl (by rw[z];exact qa ..)))]
theorem HR.exput(r:HR C (l::ex) bs h H):HR C (l::ex) bs h (az H l o):=by
 have lb:l∉bs:=r.sep l (qa ..);have nb:∀{a},a∈bs->a≠l:=fun{a} m z=>lb (by rw[<-z];exact m);refine⟨r.len,r.inj,r.sep,λa m=> ?_,λa m=> ?_,λk a c e1 e2=> ?_⟩
 ·rw[aE (nb m)];exact r.Uo a m
 ·by_cases e:a=l
  ·rw[e,b7];exact λz=>nomatch z
  ·rw[aE e];exact r.Sk a m
 ·rw[GH]
  exact(r.cell k a c e1 e2).mono (λ_ _ e=>e) (R4.refl _) (by rw[aE (nb (qm e1))])
theorem RE.mono(hb:∀(k:Nat) (a:Addr),bs[k]?=⇑a->R0[k]?=⇑a)(hs:R4 G G')(r:RE C bs G ρ σ):RE C R0 G' ρ σ:=
 ⟨r.1,λi d q=>by obtain⟨v,h1,h2⟩:=r.2 i d q;exact⟨v,h1,h2.mono hb hs⟩⟩
theorem RE.Td(nt:Nat)(idx:List Nat)(r:RE C bs G ρ σ):RE C bs G (List.replicate nt none++Z.Td idx ρ) (List.replicate nt none++iB idx σ):=by
 refine⟨by simp[Z.Td,iB],λi d hi=> ?_⟩;by_cases hn:i<nt
 ·rw[qr (by simpa using hn),wg]at hi
  simp[hn]at hi
 ·rw[ze (by simp;lia)]at hi ⊢
  simp only[gl]at hi ⊢;unfold Z.Td at hi;unfold iB;rw[z9]at hi ⊢;cases e:idx[i - nt]? with
  | none=>rw[e]at hi;cases hi
  | some j=>
   rw[e]at hi;simp only[g9,Option.some.injEq]at hi ⊢;cases e2:ρ[j]? with
   | none=>rw[e2]at hi;cases hi
   | some z=>
    rw[e2]at hi;simp only[Option.getD_some]at hi;subst hi;obtain⟨v,h1,h2⟩:=r.2 j d e2;exact⟨v,by rw[h1];rfl,h2⟩
theorem JS(q:Option Nat)(all:List Z.D)(g:Z.MG)(t:Z.MT)(m:Z.ME)(ρ0:Z.Ro):∀(ds:List Z.D) (h:Z.MH) (c:String) (h':Z.MH),Z.eK q all g t m ρ0 ds h≠ .exc c h'
 | [],h,c,h'=>by unfold Z.eK;split<;>exact λz=>nomatch z
 | d::ds,h,c,h'=>by
  unfold Z.eK;split
  case isFalse=>exact λz=>nomatch z
  split
  ·split
   ·split
    ·split
     ·exact λz=>nomatch z
     ·exact λz=>nomatch z
    ·exact λz=>nomatch z
   ·exact JS q all g t m ρ0 ds _ c h'
   ·exact λz=>nomatch z
  ·exact λz=>nomatch z
theorem NL{mt:Z.MT}(hg:SG C E0 g mg)(ht:ST C E0 tc mt)(he:SE C E0 te me)(hr:HR C ex RT h1 H1)(re:RE C RT (gh ex RT h1 H1) ρ σ)(it:TY C RT (gh ex RT h1 H1) J (gd,items))(hz:items.length<16777216)
  (p1:T3 C ex E RT h1 H1 (Z.eK gd items mg mt me (List.replicate nt none++Z.Td idx ρ) items h1) Q):∀l,H1 l=none->
 ∃W:Nat->Nat->List V->Hp->Prop,(∃m,W 0 m [] (az H1 l (.lst [])))/\∀i m ys H2,W i m ys H2->H2 l=⇑(.lst ys)/\ys.length<sizeLine/\
  ((J.stop i H2/\Q (.ref l) H2)\/(J.go i H2/\∀x H3,J.Yr i H2 x H3->g x (List.replicate nt none++iB idx σ) H3 λσ4 H4=>tc σ4 H4 λc H5=>
   if c=true then te σ4 H5 λy H6=>H6 l=⇑(.lst ys)/\∃m',m'<m/\W (i+1) m' (ys++[y]) (az H6 l (.lst (ys++[y])))else ∃m',m'<m/\W (i+1) m' ys H5)):=by
 intro a ha;have hax:a∉ex:=λm=>hr.Sk a m ha;cases ec:Z.eK gd items mg mt me (List.replicate nt none++Z.Td idx ρ) items h1 with
 | exc _ _=>
  exact absurd ec (JS _ _ _ _ _ _ items h1 _ _)
 | stuck=>rw[ec]at p1;exact p1.elim
 | ok all hf=>
  rw[ec]at p1;have lo:∀(i:Nat) (hl:i<items.length),items.drop i=items[i]::items.drop (i+1):=λi hl=>zl hl;refine⟨λi m ys H2=>m=items.length - i/\i<=items.length/\∃R0 h' dys rest,HR C (a::ex) R0 h' H2/\(∀(k:Nat) (b:Addr),RT[k]?=⇑b->R0[k]?=⇑b)/\R4 (gh ex RT h1 H1) (gh (a::ex) R0 h' H2)/\(∀b∈ex,H2 b=H1 b)/\
    H2 a=⇑(.lst ys)/\RQ C R0 (gh (a::ex) R0 h' H2) ys dys/\ys.length<=i/\Z.eK gd items mg mt me (List.replicate nt none++Z.Td idx ρ) (items.drop i) h'=.ok rest hf/\dys++rest=all,
   ⟨items.length,by simp,w6 _,RT,h1,[],all,hr.show ha,λ_ _ e=>e,by rw[Je ha];exact R4.refl _,λb m=>by rw[aE (λz=>hax (by rw[<-z];exact m))],b7,by simp only[RQ],w6 _,ec,rfl⟩,?_⟩
  rintro i m ys H2 ⟨rfl,hle,R0,h',dys,rest,Ur,pre,sm,We,hl,rv,hy,er,VI⟩;refine⟨hl,by have:sizeLine=16777216:=rfl;lia,?_⟩;by_cases hlt:i<items.length
  ·rw[lo i hlt]at er
   unfold Z.eK at er;split at er
   case isFalse=>cases er
   rename_i XR;obtain⟨go,yl⟩:=(it (a::ex) R0 h' H2 Ur pre sm XR i).1 items[i] (qk hlt);refine .inr ⟨go,λx H3 y=> ?_⟩;obtain⟨X1,rx⟩:=yl x H3 y;have re0:=(((re.mono pre sm).ev X1).Td nt idx);refine hg (a::ex) R0 h' _ _ H3 x items[i] ⟨_,λ_ _=>False,λ_ _=>False,λ_ _=>False⟩ X1.hr re0 rx ?_;cases e:mg items[i] (List.replicate nt none++Z.Td idx ρ) h' with
   | nx ρ1 WV=>
    rw[e]at er;dsimp only at er;intro σ4 bs4 H4 Z8 re4;refine ht (a::ex) bs4 WV ρ1 σ4 H4 _ Z8.hr re4 ?_;cases e5:mt ρ1 WV with
    | exc _ _=>rw[e5]at er;cases er
    | stuck=>rw[e5]at er;cases er
    | ok c h5=>
     rw[e5]at er;rintro c' XJ H5 VG rfl;cases c' with
     | false=>
      dsimp only at er;have ev:=(X1.trans Z8).trans VG;exact⟨_,⋯,rfl,hlt,XJ,h5,dys,rest,VG.hr,λk b q=>ev.pre k b (pre k b q),sm.trans ev.same,λb m=>(ev.We b (q8 _ m)).trans (We b m),
       (ev.We a (qa ..)).trans hl,rv.ev ev,⋯,er,VI⟩
     | true=>
      dsimp only at er;refine he (a::ex) XJ h5 ρ1 σ4 H5 _ VG.hr (re4.ev VG) ?_;cases e6:me ρ1 h5 with
      | exc _ _=>rw[e6]at er;cases er
      | stuck=>rw[e6]at er;cases er
      | ok d h6=>
       rw[e6]at er;dsimp only at er;intro v bs6 H6 ev6 rv6;have ev:=((X1.trans Z8).trans VG).trans ev6;have hl6:=(ev.We a (qa ..)).trans hl;refine⟨hl6,?_⟩;cases e7:Z.eK gd items mg mt me (List.replicate nt none++Z.Td idx ρ) (items.drop (i+1)) h6 with
       | exc _ _=>rw[e7]at er;cases er
       | stuck=>rw[e7]at er;cases er
       | ok rest' hf'=>
        rw[e7]at er;dsimp only at er;cases er;refine⟨_,⋯,rfl,hlt,bs6,h6,dys++[d],rest',ev6.hr.exput,λk b q=>ev.pre k b (pre k b q),by rw[GH];exact sm.trans ev.same,λb m=> ?_,b7,?_,by simp;lia,e7,by simpa using VI⟩
        ·rw[aE (λz=>hax (by rw[<-z];exact m))]
         exact(ev.We b (q8 _ m)).trans (We b m)
        ·rw[GH];exact(rv.ev ev).append (.one rv6)
   | rt _ _=>rw[e]at er;cases er
   | bk _ _=>rw[e]at er;cases er
   | ct _ _=>rw[e]at er;cases er
   | exc _ _=>rw[e]at er;cases er
   | stuck=>rw[e]at er;cases er
  ·have ei:i=items.length:=⋯
   subst ei;rw[List.drop_length]at er;unfold Z.eK at er;split at er
   case isFalse=>cases er
   rename_i XR;cases er;rw[zm]at VI;subst VI;refine .inl ⟨(it (a::ex) R0 _ H2 Ur pre sm XR items.length).2 (qd _),?_⟩;have q:=p1 a ys R0 (VZ a H2) ⟨pre,Ur.VZ hax,by rw[AX];exact sm,λb m=>by rw[kN (λz=>hax (by rw[<-z];exact m))];exact We b m⟩ (if_pos rfl) (by rw[AX];exact rv);have eq:az (VZ a H2) a (.lst ys)=H2:=by
    funext x;by_cases e:x=a
    ·rw[e,b7,hl]
    ·rw[aE e,kN e]
   rw[eq]at q;exact q
theorem qX{mt:Z.MT}(hi:SI C E wi l)(hg:SG C E0 g mg)(ht:ST C E0 tc mt)(he:SE C E0 te me):
  SN C E (Gc nt idx wi g tc te) (Z.cM nt idx l mg mt me):=by
 intro ex bs h ρ σ H Q hr re p;refine hi ex bs h ρ σ H _ hr re (T3.bind p λsrc J h1 RT H1 e1 it p1=> ?_);obtain⟨gd,items⟩:=src;obtain⟨hz,p1⟩:=p1.R7;dsimp only at hz p1;exact NL hg ht he e1.hr (re.ev e1) it hz p1
end
end L2
namespace L2
open PySem PySem.Spec PyProof.Rows
section
variable {C : Ct} {ex bs RT Sq : List Addr} {h h1 h2 : Z.MH} {H H1 H2 : Hp} {E : XK}
theorem tM{α:Type}{l:List α}{a:α}(e:(l.take n)[k]?=⇑a):l[k]?=⇑a/\k<n:=by
 rw[gy]at e;by_cases hk:k<n
 ·rw[if_pos hk]at e;exact⟨e,hk⟩
 ·rw[if_neg hk]at e;cases e
theorem G1{α:Type}{l:List α}{a:α}(e:l[k]?=⇑a)(hk:k<n):(l.take n)[k]?=⇑a:=by
 rw[gy,if_pos hk];exact e
mutual
theorem RV.R5{G:Hp}{n:Nat}:∀{d:Z.D} {v:V},RV C bs G v d->Z.D.R5 n d=true->RV C (bs.take n) G v d
 | .RY,v,h,_=>by simp only[RV]at h ⊢;exact h
 | .bl b,v,h,_=>by simp only[RV]at h ⊢;exact h
 | .int i,v,h,_=>by simp only[RV]at h ⊢;exact h
 | .str x,v,h,_=>by simp only[RV]at h ⊢;exact h
 | .tup ds,v,h,q=>by
  simp only[RV]at h ⊢;simp only[Z.D.R5]at q;obtain⟨a,vs,h1,h2,h3⟩:=h;exact⟨a,vs,h1,h2,RQ.R5 h3 q⟩
 | .lst ds,v,h,q=>by
  simp only[RV]at h ⊢;simp only[Z.D.R5]at q;obtain⟨a,vs,h1,h2,h3⟩:=h;exact⟨a,vs,h1,h2,RQ.R5 h3 q⟩
 | .arg ns,v,h,_=>by simp only[RV]at h ⊢;exact h
 | .ref k,v,h,q=>by
  simp only[RV]at h ⊢;simp only[Z.D.R5,decide_eq_true_eq]at q;obtain⟨a,h1,h2⟩:=h;exact⟨a,h1,G1 h2 q⟩
 | .ty n,v,h,_=>by simp only[RV]at h ⊢;exact h
 | .cls n,v,h,_=>by simp only[RV]at h ⊢;exact h
 | .exc n,v,h,_=>by simp only[RV]at h ⊢;exact h
 | .obj c fs,v,h,q=>by
  simp only[RV]at h ⊢;simp only[Z.D.R5]at q;obtain⟨a,dx,Uz,h1,h2,h3⟩:=h;exact⟨a,dx,Uz,h1,h2,So.R5 h3 q⟩
 | .VJ kvs,v,h,_=>by simp only[RV]at h ⊢;exact h
theorem RQ.R5{G:Hp}{n:Nat}:∀{ds:List Z.D} {vs:List V},RQ C bs G vs ds->Z.D.R_ n ds=true->RQ C (bs.take n) G vs ds
 | [],[],_,_=>by simp only[RQ]
 | d::ds,v::vs,h,q=>by
  simp only[RQ]at h ⊢;simp only[Z.D.R_,z4]at q;exact⟨RV.R5 h.1 q.1,RQ.R5 h.2 q.2⟩
 | [],_::_,h,_=>by simp only[RQ]at h
 | _::_,[],h,_=>by simp only[RQ]at h
theorem So.R5{G:Hp}{n:Nat}:∀{ds:List (Str×Z.D)} {vs:List (Str×V)},So C bs G vs ds->Z.D.TX n ds=true->So C (bs.take n) G vs ds
  | [],[],_,_=>by simp only[So]
  | (y,d)::ds,(x,v)::vs,h,q=>by
    simp only[So]at h ⊢;simp only[Z.D.TX,z4]at q;exact⟨h.1,RV.R5 h.2.1 q.1,So.R5 h.2.2 q.2⟩
  | [],_::_,h,_=>by simp only[So]at h
  | _::_,[],h,_=>by simp only[So]at h
end
theorem HJ:∀(fs:List (Str×Z.D)),Z.D.TX n fs=Z.D.R_ n (fs.map (·.2))
  | []=>by simp only[Z.D.TX,zo,Z.D.R_]
  | (y,d)::fs=>by simp only[Z.D.TX,List.map_cons,Z.D.R_,HJ fs]
theorem R9.R5{G:Hp}{n:Nat}:∀{ds:List (Sum Int Str×Z.D)} {vs:List (aW×V)},R9 C bs G vs ds->Z.D.R_ n (ds.map (·.2))=true->R9 C (bs.take n) G vs ds
  | [],[],_,_=>by simp only[R9]
  | (y,d)::ds,(x,v)::vs,h,q=>by
    simp only[R9]at h ⊢;simp only[List.map_cons,Z.D.R_,z4]at q;exact⟨h.1,RV.R5 h.2.1 q.1,R9.R5 h.2.2 q.2⟩
  | [],_::_,h,_=>by simp only[R9]at h
  | _::_,[],h,_=>by simp only[R9]at h
theorem Xa.R5(hc:Xa C bs G H a c)(q:Z.Cell.R5 n ⇑c=true):Xa C (bs.take n) G H a c:=by
 cases c with
 | lst ds=>obtain⟨vs,h1,h2⟩:=hc;exact⟨vs,h1,h2.R5 q⟩
 | Sl kvs=>obtain⟨vs,h1,h2⟩:=hc;exact⟨vs,h1,h2.R5 q⟩
 | ins c fs=>obtain⟨dx,vs,h1,h2⟩:=hc;exact⟨dx,vs,h1,h2.R5 (by rw[HJ];exact q)⟩
 | YW kvs=>obtain⟨o,vs,h1,h2,h3⟩:=hc;exact⟨o,vs,h1,h2,h3.R5 q⟩
theorem Fy(n:Nat):R4 (gh ex bs h H) (gh ex (bs.take n) (h.take n) H):=λa o e=>by
 obtain⟨h1,h2,h3⟩:=cz.mp e;exact cz.mpr ⟨h1,λ⟨k,c,e1,e2,l2⟩=>h2 ⟨k,c,(tM e1).1,(tM e2).1,l2⟩,h3⟩
theorem HR.take(r:HR C ex bs h H)(q:(h.take n).all (Z.Cell.R5 n)=true):HR C ex (bs.take n) (h.take n) H:=by
 refine⟨by simp[r.len],λi j a e1 e2=>r.inj i j a (tM e1).1 (tM e2).1,λa m z=>r.sep a m (zx z),λa m=>r.Uo a (zx m),r.Sk,λk a c e1 e2=> ?_⟩;have hc:=r.cell k a c (tM e1).1 (tM e2).1;have qc:Z.Cell.R5 n ⇑c=true:=List.all_eq_true.mp q _ (qm e2);exact(hc.R5 qc).mono (λ_ _ e=>e) (Fy n) rfl
theorem Ev.take(hr:HR C ex bs h H)(e:Ev C ex bs h H R0 h' H')(q:(h'.take h.length).all (Z.Cell.R5 h.length)=true):Ev C ex bs h H (R0.take h.length) (h'.take h.length) H':=
 ⟨λk a z=>G1 (e.pre k a z) (by rw[<-hr.len];exact(q9.mp z).1),e.hr.take q,e.same.trans (Fy _),e.We⟩
theorem Hq{Q:VK}(hr:HR C ex bs h H)(p:RW C ex E bs h H (RV C) (Z.fin h.length d h') Q)(e:Ev C ex bs h H R0 h' H')(rv:RV C R0 (gh ex R0 h' H') v d):Q v H':=by
 unfold Z.fin at p;split at p
 ·exact p v R0 H' e rv
 ·split at p
  ·rename_i q
   rw[z4]at q;exact p v _ H' (e.take hr q.2) ((rv.R5 q.1).mono (λ_ _ e=>e) (Fy _))
  ·exact p v R0 H' e rv
theorem RE.start(r:RQ C bs G vs ds)(hn:ds.length<=N.length):RE C bs G (ds.map some++List.replicate (N.length - ds.length) none) (L2.start N vs):=by
 have hl:=r.len;unfold L2.start;refine⟨by simp[hl],λi d hi=> ?_⟩;by_cases hlt:i<ds.length
 ·rw[qr (by simpa using hlt),z9]at hi
  rw[qr (by simp;lia),z9];cases e:ds[i]? with
  | none=>rw[e]at hi;cases hi
  | some z=>
   rw[e]at hi;simp at hi;subst hi;obtain⟨v,h1,h2⟩:=r.get e;exact⟨v,by rw[h1];rfl,h2⟩
 ·rw[ze (by simp;lia),wg]at hi
  split at hi<;>cases hi
theorem PB{K:W.Frag}{mg:Str->Option Value}{st:Stmt}(F:XM K x qual st f fd)(S:Sg N ps (cu st))
  (hz:z=Z.aq np nn b) (hp:ps.length=np) (hn:N.length=nn) (hle:np<=nn)
  (hb:∀(Sz:Value) (A:Around) (outer:List Env) (s:Shared) (H:Hp) (E:XK),Sf k (A.deeper (envOfC qual (cu st) s.heap.objs.size f Sz))->
   ∃t,VP (aL (CXE P w) P w K mg base N qual (cu st) f Sz A outer s H E) (fT st) t/\SS C E t b):Si P w K mg base (CXE P w) (k+1) f fd ps (fD C z):=by
 subst hz;refine F.okE S (λvs H Q E q=> ?_) λSz A outer s H vs Q E hr q=> ?_
 ·obtain⟨ex,bs,h,ds,hr,rv,p⟩:=q
  unfold Z.aq at p;split at p
  ·rename_i hd;rw[rv.len,hd,hp]
  ·exact p.elim
 ·obtain⟨ex,bs,h,ds,Ur,rv,p⟩:=q
  obtain⟨t,hps,hss⟩:=hb Sz A outer s H E hr;refine⟨t,hps,?_⟩;unfold Z.aq at p;split at p
  ·rename_i hd
   refine hss ex bs h (ds.map some++List.replicate (nn - ds.length) none) (L2.start N vs) H _ Ur (by rw[<-hn];exact RE.start rv ⋯) ?_;cases e:b (ds.map some++List.replicate (nn - ds.length) none) h with
   | nx ρ' h'=>rw[e]at p;exact λσ' R0 H' ev re=>Hq Ur p ev (by simp only[RV])
   | rt d h'=>rw[e]at p;exact λv R0 H' ev rv=>Hq Ur p ev rv
   | exc c h'=>
    rw[e]at p;intro R0 H' ev;dsimp only at p;split at p
    ·exact p R0 H' ev
    ·split at p
     ·rename_i q;exact p _ H' (ev.take Ur q)
     ·exact p R0 H' ev
   | bk _ _=>rw[e]at p;exact p.elim
   | ct _ _=>rw[e]at p;exact p.elim
   | stuck=>rw[e]at p;exact p.elim
  ·exact p.elim
theorem sQ(hr:HR C ex bs h H)(r:RV C bs (gh ex bs h H) v d)(e:Z.c7 h d=⇑xs):∃a vs,v=.ref a/\(R8 C.K H a vs\/S7 C.K H a vs)/\RQ C bs (gh ex bs h H) vs xs:=by
 cases d with
 | lst ds=>
  simp only[RV]at r;obtain⟨a,vs,rfl,ga,rs⟩:=r;cases e;exact⟨a,vs,rfl,.inl (R8.of (bq _ _ ga)),rs⟩
 | tup ds=>
  simp only[RV]at r;obtain⟨a,vs,rfl,ga,rs⟩:=r;cases e;exact⟨a,vs,rfl,.inr (S7.of (bq _ _ ga)),rs⟩
 | arg ns=>
  simp only[RV]at r;obtain⟨a,rfl,ga⟩:=r;cases e;refine⟨a,_,rfl,.inl (bq.W6 ga),?_⟩;clear ga hr
  induction ns with
  | nil=>simp only[zo,RQ]
  | cons n ns ih=>simp only[List.map_cons,RQ,RV];exact⟨trivial,ih⟩
 | ref k=>
  simp only[RV]at r;obtain⟨a,rfl,hk⟩:=r;simp only[Z.c7]at e;split at e
  ·rename_i ys hc
   cases e
   obtain⟨vs,ha,rs⟩:=hr.cell k a _ hk hc;exact⟨a,vs,rfl,.inl (R8.of ha),rs⟩
  ·cases e
 | _=>cases e
theorem TY.list(hq:R8 C.K G a vs)(r:RQ C bs G vs ds):TY C bs G (Gy C.K a) (none,ds):=by
 intro Xd Sq h2 H2 hr pre sm _ i;have UB:R8 C.K H2 a vs:=(sm.trans bq).W6 hq;refine⟨λd e=> ?_,λhle=>⟨vs,UB,by rw[r.len];exact hle⟩⟩;obtain⟨v,hv,rv⟩:=r.get e;refine⟨⟨vs,v,UB,hv⟩,λx H3 y=> ?_⟩;obtain⟨rfl,y⟩:=y;have:=y vs UB;rw[hv]at this;cases this;exact⟨Ev.refl hr,rv.mono pre sm⟩
theorem R4.sqt{K:W.Frag}(e:R4 H H')(h:S7 K H a xs):S7 K H' a xs:=by
 rcases h with(h|⟨o,h⟩)|h
 ·exact .inl (.inl (e _ _ h))
 ·exact .inl (.inr ⟨o,e _ _ h⟩)
 ·exact .inr h
theorem TY.tup(hq:S7 C.K G a vs)(r:RQ C bs G vs ds):TY C bs G (CM C.K a) (none,ds):=by
 intro Xd Sq h2 H2 hr pre sm _ i;have UB:S7 C.K H2 a vs:=(sm.trans bq).sqt hq;refine⟨λd e=> ?_,λhle=>⟨vs,UB,by rw[r.len];exact hle⟩⟩;obtain⟨v,hv,rv⟩:=r.get e;refine⟨⟨vs,v,UB,hv⟩,λx H3 y=> ?_⟩;obtain⟨rfl,y⟩:=y;have:=y vs UB;rw[hv]at this;cases this;exact⟨Ev.refl hr,rv.mono pre sm⟩
theorem TY.Vx{lo:Int}:TY C bs G (AO lo n) (none,Z.Vx lo n):=by
 intro Xd Sq h2 H2 hr pre sm _ i;unfold Z.Vx;refine⟨λd e=> ?_,λhle=>by show n<=i;simpa using hle⟩;rw[z9]at e;cases e2:(List.range n)[i]? with
 | none=>rw[e2]at e;cases e
 | some j=>
  rw[e2]at e;simp at e;subst e;obtain⟨hi,hj⟩:=q9.mp e2;simp at hi hj;subst hj;refine⟨hi,λx H3 y=> ?_⟩;obtain⟨rfl,rfl⟩:=y;exact⟨Ev.refl hr,by simp only[RV]⟩
theorem jr(ht:SE C E t m):SI C E (iV C.K t) (Z.bC m):=by
 intro ex bs h ρ σ H Q hr re p;refine ht ex bs h ρ σ H _ hr re (p.bind λd x h1 RT H1 e1 rx p1=> ?_);cases d with
 | lst ds=>
  simp only[RV]at rx;obtain⟨a,vs,rfl,ga,rs⟩:=rx;exact .inl ⟨a,rfl,.inl ⟨⟨vs,R8.of (bq _ _ ga)⟩,RW.now e1.hr p1 (.list (R8.of ga) rs)⟩⟩
 | tup ds=>
  simp only[RV]at rx;obtain⟨a,vs,rfl,ga,rs⟩:=rx;exact .inl ⟨a,rfl,.inr ⟨⟨vs,S7.of (bq _ _ ga)⟩,RW.now e1.hr p1 (.tup (S7.of ga) rs)⟩⟩
 | arg ns=>
  have:=sQ e1.hr rx (xs:=ns.map .int) rfl;simp only[RV]at rx;obtain⟨a,rfl,ga⟩:=rx;refine .inl ⟨a,rfl,.inl ⟨⟨_,bq.W6 ga⟩,RW.now e1.hr p1 (.list ga ?_)⟩⟩;clear this ga p1 p
  induction ns with
  | nil=>simp only[zo,RQ]
  | cons n ns ih=>simp only[List.map_cons,RQ,RV];exact⟨trivial,ih⟩
 | str z=>
  simp only[RV]at rx;subst rx;refine .inr ⟨z,rfl,RW.now e1.hr p1 ?_⟩;intro Xd Sq h2 H2 hr pre sm _ i;refine⟨λd e=> ?_,λhle=>by show z.length<=i;simpa [Str.length]using hle⟩;rw[z9]at e;cases e2:z.cps.toList[i]? with
  | none=>rw[e2]at e;cases e
  | some c=>
   rw[e2]at e;simp at e;subst e;have hi:=(q9.mp e2).1;refine⟨by show i<z.length;simpa [Str.length]using hi,λx H3 y=> ?_⟩;obtain⟨rfl,c',hc,rfl⟩:=y;have:z.cps[i]?=⇑c:=by simpa using e2
   rw[this]at hc;cases hc;exact⟨Ev.refl hr,by simp only[RV]⟩
 | ref k=>
  simp only[RV]at rx;obtain⟨a,rfl,hk⟩:=rx;dsimp only at p1;split at p1
  ·rename_i xs hc
   obtain⟨vs,ha,rs⟩:=e1.hr.cell k a _ hk hc;refine .inl ⟨a,rfl,.inl ⟨⟨vs,R8.of ha⟩,RW.now e1.hr p1 ?_⟩⟩;intro Xd Sq h2 H2 hr pre sm XR i;obtain⟨ws,ha2,rs2⟩:=hr.cell k a _ (pre k a hk) XR;refine⟨λd e=> ?_,λhle=>⟨ws,R8.of ha2,by rw[rs2.len];exact hle⟩⟩;obtain⟨v,hv,rv⟩:=rs2.get e;refine⟨⟨ws,v,R8.of ha2,hv⟩,λx H3 y=> ?_⟩;obtain⟨rfl,y⟩:=y;have:=y ws (R8.of ha2);rw[hv]at this;cases this;exact⟨Ev.refl hr,rv⟩
  ·exact p1.elim
 | _=>exact p1.elim
theorem Ls(ht:SA C E t m):SI C E (m_ t) (Z.jL m):=by
 intro ex bs h ρ σ H Q hr re p;refine ht ex bs h ρ σ H _ hr re (p.bind λds xs h1 RT H1 e1 rx p1=> ?_);split at p1
 ·rename_i j
  obtain⟨hj,p1⟩:=p1.R7;cases xs with
  | nil=>simp only[RQ]at rx
  | cons v vs=>
   cases vs with
   | cons _ _=>simp only[RQ]at rx;exact rx.2.elim
   | nil=>
    simp only[RQ,RV]at rx;rw[rx.1];exact⟨j,rfl,⋯,⋯,RW.now e1.hr p1 .Vx⟩
 ·exact p1.elim
end
section
variable {C : Ct} {ex bs RT Sq : List Addr} {h h1 h2 : Z.MH} {H H1 H2 : Hp} {E : XK}
theorem Ax{f:Int->Int->Int}:S2 C (dc λi j=>.int (f i j)) (Z.fS f):=by
 intro ex bs h H E x y dx dy Q hr rx ry p;unfold Z.fS at p;split at p
 ·simp only[RV]at rx ry
  exact⟨_,_,rx,ry,p.now hr (by simp only[RV])⟩
 ·exact p.elim
theorem BL{c c':Int->Int->Prop}[∀i j,Decidable (c i j)]{f:Int->Int->Int}(hc:∀i j,c i j->c' i j):S2 C (rI c' λi j=>.int (f i j)) (Z.sV c f):=by
 intro ex bs h H E x y dx dy Q hr rx ry p;unfold Z.sV at p;split at p
 ·obtain⟨q,p⟩:=p.R7
  simp only[RV]at rx ry;exact⟨_,_,rx,ry,hc _ _ q,p.now hr (by simp only[RV])⟩
 ·exact p.elim
theorem A1{f:Int->Int->Bool}:S2 C (dc λi j=>.bl (f i j)) (Z.fO f):=by
 intro ex bs h H E x y dx dy Q hr rx ry p;unfold Z.fO at p;split at p
 ·simp only[RV]at rx ry
  exact⟨_,_,rx,ry,p.now hr (by simp only[RV])⟩
 ·exact p.elim
theorem sC:S2 C (dc λi j=>.int (i - j)) Z.uv:=Ax
theorem oj:S2 C (dc λi j=>.int (Builtin.bitAnd i j)) Z.bZ:=Ax
theorem lV:S2 C (dc λi j=>.int (Builtin.bitOr i j)) Z.eJ:=Ax
theorem oV:S2 C (dc λi j=>.int (Builtin.bitXor i j)) Z.zV:=Ax
theorem rJ:S2 C (rI vM λi j=>.int (i / j)) Z.aU:=BL λ_ _ q=>q
theorem su:S2 C (rI (λ_ j=>0<j) λi j=>.int (i % j)) Z.aP:=BL λ_ _ q=>q
theorem Lv(q:Z.nL i j):jI i j:=by unfold Z.nL at q;unfold jI;exact⟨q.1,q.2.1,by have:=q.2.2;lia⟩
theorem nN:S2 C (rI jI λi j=>.int (i*2^j.toNat)) Z.cp:=BL λ_ _ q=>Lv q
theorem rP:S2 C (rI (λ_ j=>0<=j) λi j=>.int (i / 2^j.toNat)) Z.wJ:=BL λ_ _ q=>q
theorem zS:S2 C (dc λi j=>.bl (decide (i<j))) Z.uZ:=A1
theorem xC:S2 C (dc λi j=>.bl (decide (i<=j))) Z.tH:=A1
theorem uE:S2 C (dc λi j=>.bl (decide (j<i))) Z.kY:=A1
theorem vY:S2 C (dc λi j=>.bl (decide (j<=i))) Z.kW:=A1
theorem sk:S1 C (rU λi=>.int (-i)) Z.iK:=by
 intro ex bs h H E x dx Q hr rx p;unfold Z.iK at p;split at p
 ·simp only[RV]at rx;exact⟨_,rx,p.now hr (by simp only[RV])⟩
 ·exact p.elim
theorem oz:S1 C (rU λi=>.int (Builtin.bitNot i)) Z.dX:=by
 intro ex bs h H E x dx Q hr rx p;unfold Z.dX at p;split at p
 ·simp only[RV]at rx;exact⟨_,rx,p.now hr (by simp only[RV])⟩
 ·exact p.elim
theorem Hv(r:RV C bs G v d):decide (v=.RY)=Z.jN d:=by
 cases d<;>simp only[RV]at r
 case RY=>subst r;rfl
 case bl=>subst r;rfl
 case int=>subst r;rfl
 case str=>subst r;rfl
 case tup=>obtain⟨_,_,rfl,_⟩:=r;rfl
 case lst=>obtain⟨_,_,rfl,_⟩:=r;rfl
 case arg=>obtain⟨_,rfl,_⟩:=r;rfl
 case ref=>obtain⟨_,rfl,_⟩:=r;rfl
 case ty=>subst r;rfl
 case cls=>subst r;rfl
 case exc=>obtain⟨_,_,_,rfl,_⟩:=r;rfl
 case obj=>obtain⟨_,_,_,rfl,_⟩:=r;rfl
 case VJ=>obtain⟨_,_,rfl,_⟩:=r;rfl
theorem zD:S2 C (λx y H Q=>(y=.RY/\Q (.bl (decide (x=.RY))) H)\/∃a b,x=.bl a/\y=.bl b/\Q (.bl ((a==b))) H) Z.mJ:=by
 intro ex bs h H E x y dx dy Q hr rx ry p;unfold Z.mJ at p;split at p
 ·simp only[RV]at rx ry
  exact .inr ⟨_,_,rx,ry,p.now hr (by simp only[RV])⟩
 ·simp only[RV]at ry
  exact .inl ⟨ry,by rw[Hv rx];exact p.now hr (by simp only[RV])⟩
 ·exact p.elim
theorem Mf:S2 C (λx y H Q=>(y=.RY/\Q (.bl (!decide (x=.RY))) H)\/∃a b,x=.bl a/\y=.bl b/\Q (.bl (!(a==b))) H) Z.As:=by
 intro ex bs h H E x y dx dy Q hr rx ry p;unfold Z.As at p;split at p
 ·simp only[RV]at rx ry
  exact .inr ⟨_,_,rx,ry,p.now hr (by simp only[RV])⟩
 ·simp only[RV]at ry
  exact .inl ⟨ry,by rw[Hv rx];exact p.now hr (by simp only[RV])⟩
 ·exact p.elim
theorem nR(hr:HR C ex bs h H)(r:RV C bs (gh ex bs h H) v d)(e:Z.eB h d=⇑xs):∃a vs,v=.ref a/\H a=⇑(.lst vs)/\RQ C bs (gh ex bs h H) vs xs:=by
 cases d with
 | lst ds=>
  simp only[RV]at r;obtain⟨a,vs,rfl,ga,rs⟩:=r;cases e;exact⟨a,vs,rfl,bq _ _ ga,rs⟩
 | ref k=>
  simp only[RV]at r;obtain⟨a,rfl,hk⟩:=r;simp only[Z.eB]at e;split at e
  ·rename_i ys hc
   cases e
   obtain⟨vs,ha,rs⟩:=hr.cell k a _ hk hc;exact⟨a,vs,rfl,ha,rs⟩
  ·cases e
 | _=>cases e
theorem RW.tree{Q:VK}(hr:HR C ex bs h H)(q:RW C ex E bs h H (RV C) (.ok (.lst ds) h) Q)(hp:H p=none)(r:RQ C bs (gh ex bs h H) vs ds):Q (.ref p) (az H p (.lst vs)):=by
 obtain⟨e2,g⟩:=Ev.alloc (o:=.lst vs) hr hp;exact q (.ref p) bs _ e2 (by simp only[RV];exact⟨p,vs,rfl,g,r.ev e2⟩)
theorem RW.Yt{Q:VK}(hr:HR C ex bs h H)(q:RW C ex E bs h H (RV C) (.ok (.tup ds) h) Q)(hp:H p=none)(r:RQ C bs (gh ex bs h H) vs ds):Q (.ref p) (az H p (.tup vs)):=by
 obtain⟨e2,g⟩:=Ev.alloc (o:=.tup vs) hr hp;exact q (.ref p) bs _ e2 (by simp only[RV];exact⟨p,vs,rfl,g,r.ev e2⟩)
theorem Cv:S2 C (qO C.K) Z.aB:=by
 intro ex bs h H E x y dx dy Q hr rx ry p;unfold Z.aB at p;split at p
 ·simp only[RV]at rx ry
  subst rx ry;exact p.now hr (by simp only[RV])
 ·obtain⟨q,p⟩:=p.R7
  simp only[RV]at rx ry;subst rx ry;exact⟨q,p.now hr (by simp only[RV])⟩
 ·obtain⟨q,p⟩:=p.R7
  simp only[RV]at rx ry;obtain⟨a,vs,rfl,ga,rs⟩:=rx;obtain⟨b,ws,rfl,gb,qs⟩:=ry;have hl:=rs.len;have hl':=qs.len;refine .inr ⟨a,b,vs,ws,rfl,rfl,S7.of (bq _ _ ga),S7.of (bq _ _ gb),λz=>q.1 (k9 (by rw[<-hl,z];rfl)),by rw[hl,hl'];exact q.2,λz=> ?_,λ_ l hl=>RW.Yt hr p hl (rs.append qs)⟩;subst z;refine p.now hr ?_;simp only[RV];have:=rs.append qs;rw[zm]at this;exact⟨a,vs,rfl,ga,this⟩
 ·obtain⟨xs,e1,p⟩:=p.oR
  obtain⟨ys,e2,p⟩:=p.oR;obtain⟨q,p⟩:=p.R7;obtain⟨a,vs,rfl,ha,rs⟩:=nR hr rx e1;obtain⟨b,ws,rfl,hb,qs⟩:=nR hr ry e2;exact .inl ⟨a,b,vs,ws,rfl,rfl,ha,hb,by rw[rs.len,qs.len];exact q,λl hl=>RW.tree hr p hl (rs.append qs)⟩
theorem R9.len:∀{ds:List (Sum Int Str×Z.D)} {vs:List (aW×V)},R9 C bs G vs ds->vs.length=ds.length
  | [],[],_=>rfl
  | (_,_)::ds,(_,_)::vs,h=>by simp only[R9]at h;simp[R9.len h.2.2]
  | [],_::_,h=>by simp only[R9]at h
  | _::_,[],h=>by simp only[R9]at h
theorem K_(hr:HR C ex bs h H)(r:RV C bs (gh ex bs h H) v d)(e:Z.gF h d=⇑k):dB C.K v H k:=by
 have sq:∀{xs:List Z.D},Z.c7 h d=⇑xs->k= !xs.isEmpty->dB C.K v H k:=fun{xs} e1 e2=>by
  obtain⟨a,vs,rfl,hq,rs⟩:=sQ hr r e1;have:k= !vs.isEmpty:=by
   rw[e2];have:=rs.len;cases vs<;>cases xs<;>first|rfl|(simp at this)
  rcases hq with hq|hq
  ·exact .inl ⟨vs,hq,this⟩
  ·exact .inr (.inl ⟨vs,hq,this⟩)
 cases d with
 | RY=>simp only[RV]at r;subst r;cases e;rfl
 | bl b=>simp only[RV]at r;subst r;cases e;rfl
 | int i=>simp only[RV]at r;subst r;cases e;rfl
 | str y=>
  simp only[RV]at r;subst r;simp only[Z.gF]at e;split at e
  ·rename_i hz;cases e;exact⟨hz,rfl⟩
  ·cases e
 | lst xs=>simp only[Z.gF,Z.c7,Option.some.injEq]at e;exact sq rfl e.symm
 | tup xs=>simp only[Z.gF,Z.c7,Option.some.injEq]at e;exact sq rfl e.symm
 | arg ns=>simp only[Z.gF,Z.c7,Option.some.injEq]at e;exact sq rfl e.symm
 | ref j=>
  simp only[Z.gF]at e;split at e
  ·rename_i xs hx
   simp only[Option.some.injEq]at e;exact sq hx e.symm
  ·simp only[Z.Av]at e
   split at e
   ·rename_i kvs hc
    simp only[g9,Option.some.injEq]at e;simp only[RV]at r;obtain⟨a,rfl,hk⟩:=r;obtain⟨Sy,ha,rk⟩:=hr.cell j a _ hk hc;refine .inr (.inr ⟨Sy,ha,?_⟩);rw[<-e];have:=rk.len;cases Sy<;>cases kvs<;>first|rfl|(simp at this)
   ·cases e
 | ty n=>simp[Z.gF,Z.c7]at e
 | cls n=>simp[Z.gF,Z.c7]at e
 | exc n=>simp[Z.gF,Z.c7]at e
 | obj c fs=>simp[Z.gF,Z.c7]at e
 | VJ kvs=>simp[Z.gF,Z.c7]at e
theorem yC(ht:SE C E t m):ST C E (λσ H Q=>t σ H λx H'=>∃k,dB C.K x H' k/\Q k H') (Z.aA m):=by
 intro ex bs h ρ σ H Q hr re p;refine ht ex bs h ρ σ H _ hr re (p.bind λd x h1 RT H1 e1 rx p1=> ?_);obtain⟨k,ek,p1⟩:=p1.oR1;exact⟨k,K_ e1.hr rx ek,RW.now e1.hr p1 rfl⟩
theorem pj(ht:SE C E t m):SE C E (λσ H Q=>t σ H λx H1=>∃k,dB C.K x H1 k/\Q (.bl (!k)) H1) (Z.lM m):=by
 intro ex bs h ρ σ H Q hr re p;refine ht ex bs h ρ σ H _ hr re (p.bind λd x h1 RT H1 e1 rx p1=> ?_);obtain⟨k,ek,p1⟩:=p1.oR;exact⟨k,K_ e1.hr rx ek,p1.now e1.hr (by simp only[RV])⟩
mutual
theorem RV.rep{G:Hp}:∀{d:Z.D} {v:V} {q:PyData},RV C bs G v d->d.py=⇑q->Rep G v q
 | .RY,v,q,h,e=>by simp only[RV]at h;simp only[Z.D.py,Option.some.injEq]at e;subst e;simp only[Rep];exact h
 | .bl b,v,q,h,e=>by simp only[RV]at h;simp only[Z.D.py,Option.some.injEq]at e;subst e;simp only[Rep];exact h
 | .int i,v,q,h,e=>by simp only[RV]at h;simp only[Z.D.py,Option.some.injEq]at e;subst e;simp only[Rep];exact h
 | .str x,v,q,h,e=>by
  simp only[RV]at h;simp only[Z.D.py]at e;split at e
  ·simp only[Option.some.injEq]at e;subst e;simp only[Rep];exact h
  ·cases e
 | .tup ds,v,q,h,e=>by
  simp only[RV]at h;simp only[Z.D.py]at e;obtain⟨a,vs,h1,h2,h3⟩:=h;cases e2:Z.D.Uu ds with
  | none=>rw[e2]at e;cases e
  | some ps=>
   rw[e2]at e;simp only[g9,Option.some.injEq]at e;subst e;simp only[Rep];exact⟨a,vs,h1,h2,RQ.Yw h3 e2⟩
 | .lst ds,v,q,h,e=>by
  simp only[RV]at h;simp only[Z.D.py]at e;obtain⟨a,vs,h1,h2,h3⟩:=h;cases e2:Z.D.Uu ds with
  | none=>rw[e2]at e;cases e
  | some ps=>
   rw[e2]at e;simp only[g9,Option.some.injEq]at e;subst e;simp only[Rep];exact⟨a,vs,h1,h2,RQ.Yw h3 e2⟩
 | .arg _,_,_,_,e=>by simp only[Z.D.py]at e;cases e
 | .ref _,_,_,_,e=>by simp only[Z.D.py]at e;cases e
 | .ty _,_,_,_,e=>by simp only[Z.D.py]at e;cases e
 | .cls _,_,_,_,e=>by simp only[Z.D.py]at e;cases e
 | .exc _,_,_,_,e=>by simp only[Z.D.py]at e;cases e
 | .obj _ _,_,_,_,e=>by simp only[Z.D.py]at e;cases e
 | .VJ _,_,_,_,e=>by simp only[Z.D.py]at e;cases e
theorem RQ.Yw{G:Hp}:∀{ds:List Z.D} {vs:List V} {qs:List PyData},RQ C bs G vs ds->Z.D.Uu ds=⇑qs->SQ G vs qs
 | [],[],qs,_,e=>by simp only[Z.D.Uu,Option.some.injEq]at e;subst e;simp only[SQ]
 | d::ds,v::vs,qs,h,e=>by
  simp only[RQ]at h;simp only[Z.D.Uu]at e;split at e
  ·rename_i p ps e1 e2
   simp only[Option.some.injEq]at e;subst e;simp only[SQ];exact⟨RV.rep h.1 e1,RQ.Yw h.2 e2⟩
  ·cases e
 | [],_::_,_,h,_=>by simp only[RQ]at h
 | _::_,[],_,h,_=>by simp only[RQ]at h
end
mutual
theorem Di:∀{d e:Z.D} {p q:PyData},d.py=⇑p->e.py=⇑q->PyData.eqv p q=d.eq e
  | .RY,e,p,q,hd,he=>by
    simp only[Z.D.py,Option.some.injEq]at hd;subst hd;cases e<;>simp only[Z.D.py,Option.some.injEq]at he<;>(try cases he)<;>first
      | (subst he;simp[PyData.eqv,Z.D.eq];done)
      | (split at he<;>first|(cases he;simp[PyData.eqv,Z.D.eq];done)|cases he)
      | (simp only[qi]at he;obtain⟨_,_,rfl⟩:=he;simp[PyData.eqv,Z.D.eq];done)
      | (simp[PyData.eqv,Z.D.eq];done)
  | .bl b,e,p,q,hd,he=>by
    simp only[Z.D.py,Option.some.injEq]at hd;subst hd;cases e<;>simp only[Z.D.py,Option.some.injEq]at he<;>(try cases he)<;>first
      | (subst he;simp[PyData.eqv,Z.D.eq];done)
      | (split at he<;>first|(cases he;simp[PyData.eqv,Z.D.eq];done)|cases he)
      | (simp only[qi]at he;obtain⟨_,_,rfl⟩:=he;simp[PyData.eqv,Z.D.eq];done)
      | (simp[PyData.eqv,Z.D.eq];done)
  | .int b,e,p,q,hd,he=>by
    simp only[Z.D.py,Option.some.injEq]at hd;subst hd;cases e<;>simp only[Z.D.py,Option.some.injEq]at he<;>(try cases he)<;>first
      | (subst he;simp[PyData.eqv,Z.D.eq];done)
      | (split at he<;>first|(cases he;simp[PyData.eqv,Z.D.eq];done)|cases he)
      | (simp only[qi]at he;obtain⟨_,_,rfl⟩:=he;simp[PyData.eqv,Z.D.eq];done)
      | (simp[PyData.eqv,Z.D.eq];done)
  | .str b,e,p,q,hd,he=>by
    simp only[Z.D.py]at hd;split at hd
    · cases hd
      cases e<;>simp only[Z.D.py,Option.some.injEq]at he<;>(try cases he)<;>first
        | (subst he;simp[PyData.eqv,Z.D.eq];done)
        | (split at he<;>first|(cases he;simp[PyData.eqv,Z.D.eq];done)|cases he)
        | (simp only[qi]at he;obtain⟨_,_,rfl⟩:=he;simp[PyData.eqv,Z.D.eq];done)
        | (simp[PyData.eqv,Z.D.eq];done)
    · cases hd
  | .tup xs,e,p,q,hd,he=>by
    simp only[Z.D.py,qi]at hd;obtain⟨ps,h1,rfl⟩:=hd;cases e with
    | tup ys=>
      simp only[Z.D.py,qi]at he;obtain⟨qs,h2,rfl⟩:=he;simp only[PyData.eqv,Z.D.eq];exact C3 h1 h2
    | _=>
      simp only[Z.D.py,Option.some.injEq]at he<;>(try cases he)<;>first
        | (subst he;simp[PyData.eqv,Z.D.eq];done)
        | (split at he<;>first|(cases he;simp[PyData.eqv,Z.D.eq];done)|cases he)
        | (simp only[qi]at he;obtain⟨_,_,rfl⟩:=he;simp[PyData.eqv,Z.D.eq];done)
        | (simp[PyData.eqv,Z.D.eq];done)
  | .lst xs,e,p,q,hd,he=>by
    simp only[Z.D.py,qi]at hd;obtain⟨ps,h1,rfl⟩:=hd;cases e with
    | lst ys=>
      simp only[Z.D.py,qi]at he;obtain⟨qs,h2,rfl⟩:=he;simp only[PyData.eqv,Z.D.eq];exact C3 h1 h2
    | _=>
      simp only[Z.D.py,Option.some.injEq]at he<;>(try cases he)<;>first
        | (subst he;simp[PyData.eqv,Z.D.eq];done)
        | (split at he<;>first|(cases he;simp[PyData.eqv,Z.D.eq];done)|cases he)
        | (simp only[qi]at he;obtain⟨_,_,rfl⟩:=he;simp[PyData.eqv,Z.D.eq];done)
        | (simp[PyData.eqv,Z.D.eq];done)
  | .arg _,_,_,_,e,_=>by simp only[Z.D.py]at e;cases e
  | .ref _,_,_,_,e,_=>by simp only[Z.D.py]at e;cases e
  | .ty _,_,_,_,e,_=>by simp only[Z.D.py]at e;cases e
  | .cls _,_,_,_,e,_=>by simp only[Z.D.py]at e;cases e
  | .exc _,_,_,_,e,_=>by simp only[Z.D.py]at e;cases e
  | .obj _ _,_,_,_,e,_=>by simp only[Z.D.py]at e;cases e
  | .VJ _,_,_,_,e,_=>by simp only[Z.D.py]at e;cases e
theorem C3:∀{ds es:List Z.D} {ps qs:List PyData},Z.D.Uu ds=⇑ps->Z.D.Uu es=⇑qs->PyData.eqvAll ps qs=Z.D.eqs ds es
 | [],[],ps,qs,h1,h2=>by
  simp only[Z.D.Uu,Option.some.injEq]at h1 h2;subst h1 h2;simp only[PyData.eqvAll,Z.D.eqs]
 | d::ds,e::es,ps,qs,h1,h2=>by
  simp only[Z.D.Uu]at h1 h2;split at h1
  ·split at h2
   ·rename_i p1 ps1 a1 a2 _ _ q1 qs1 b1 b2
    simp only[Option.some.injEq]at h1 h2;subst h1 h2;simp only[PyData.eqvAll,Z.D.eqs];rw[Di a1 b1,C3 a2 b2]
   ·cases h2
  ·cases h1
 | [],e::es,ps,qs,h1,h2=>by
  simp only[Z.D.Uu]at h1 h2;split at h2
  ·simp only[Option.some.injEq]at h1 h2;subst h1 h2;simp only[PyData.eqvAll,Z.D.eqs]
  ·cases h2
 | d::ds,[],ps,qs,h1,h2=>by
  simp only[Z.D.Uu]at h1 h2;split at h1
  ·simp only[Option.some.injEq]at h1 h2;subst h1 h2;simp only[PyData.eqvAll,Z.D.eqs]
  ·cases h1
end
end
section
variable {C : Ct} {ex bs RT Sq : List Addr} {h h1 h2 : Z.MH} {H H1 H2 : Hp} {E : XK}
mutual
theorem GX:∀{d:Z.D} {q:PyData},d.py=⇑q->q.canLay0=true/\q.depth=d.deep
 | .RY,q,e=>by simp only[Z.D.py,Option.some.injEq]at e;subst e;exact⟨by simp only[PyData.canLay0],by simp only[PyData.depth,Z.D.deep]⟩
 | .bl b,q,e=>by simp only[Z.D.py,Option.some.injEq]at e;subst e;exact⟨by simp only[PyData.canLay0],by simp only[PyData.depth,Z.D.deep]⟩
 | .int b,q,e=>by simp only[Z.D.py,Option.some.injEq]at e;subst e;exact⟨by simp only[PyData.canLay0],by simp only[PyData.depth,Z.D.deep]⟩
 | .str b,q,e=>by
  simp only[Z.D.py]at e;split at e
  ·rename_i hs;cases e;exact⟨by simp only[PyData.canLay0];exact hs,by simp only[PyData.depth,Z.D.deep]⟩
  ·cases e
 | .tup ds,q,e=>by
  simp only[Z.D.py,qi]at e;obtain⟨ps,h1,rfl⟩:=e;have:=DR h1;exact⟨by simp only[PyData.canLay0];exact this.1,by simp only[PyData.depth,Z.D.deep];rw[this.2]⟩
 | .lst ds,q,e=>by
  simp only[Z.D.py,qi]at e;obtain⟨ps,h1,rfl⟩:=e;have:=DR h1;exact⟨by simp only[PyData.canLay0];exact this.1,by simp only[PyData.depth,Z.D.deep];rw[this.2]⟩
 | .arg _,_,e=>by simp only[Z.D.py]at e;cases e
 | .ref _,_,e=>by simp only[Z.D.py]at e;cases e
 | .ty _,_,e=>by simp only[Z.D.py]at e;cases e
 | .cls _,_,e=>by simp only[Z.D.py]at e;cases e
 | .exc _,_,e=>by simp only[Z.D.py]at e;cases e
 | .obj _ _,_,e=>by simp only[Z.D.py]at e;cases e
 | .VJ _,_,e=>by simp only[Z.D.py]at e;cases e
theorem DR:∀{ds:List Z.D} {qs:List PyData},Z.D.Uu ds=⇑qs->PyData.canLayAll0 qs=true/\PyData.depthAll qs=Z.D.Us ds
 | [],qs,e=>by simp only[Z.D.Uu,Option.some.injEq]at e;subst e;exact⟨by simp only[PyData.canLayAll0],by simp only[PyData.depthAll,Z.D.Us]⟩
 | d::ds,qs,e=>by
  simp only[Z.D.Uu]at e;split at e
  ·rename_i p ps e1 e2
   simp only[Option.some.injEq]at e;subst e;have a:=GX e1;have b:=DR e2;exact⟨by simp only[PyData.canLayAll0,a.1,b.1,Bool.and_self],by simp only[PyData.depthAll,Z.D.Us,a.2,b.2]⟩
  ·cases e
end
theorem EH{d:Z.D}(e:d.dat=true):∃q,d.py=⇑q/\mF q:=by
 unfold Z.D.dat at e;rw[z4,decide_eq_true_eq,we]at e;obtain⟨⟨q,hq⟩,hd⟩:=e;refine⟨q,hq,?_⟩;have:=GX hq;show SeqAt.shaped q=true;unfold SeqAt.shaped;rw[z4,decide_eq_true_eq];exact⟨this.1,by rw[this.2];exact hd⟩
mutual
theorem Kr(hr:HR C ex bs h H):∀(n:Nat) {d:Z.D} {v:V} {q:PyData},RV C bs (gh ex bs h H) v d->(Z.res n h d).py=⇑q->Rep H v q
 | 0,d,v,q,r,e=>by unfold Z.res at e;exact(r.rep e).same bq
 | n+1,.ref k,v,q,r,e=>by
  unfold Z.res at e;split at e
  ·rename_i xs hc
   simp only[RV]at r;obtain⟨a,rfl,hk⟩:=r;obtain⟨vs,ha,rs⟩:=hr.cell k a _ hk hc;simp only[Z.D.py,qi]at e;obtain⟨ps,h1,rfl⟩:=e;simp only[Rep];exact⟨a,vs,rfl,ha,A7 hr n rs h1⟩
  ·simp only[Z.D.py]at e;cases e
 | n+1,.tup xs,v,q,r,e=>by
  unfold Z.res at e;simp only[RV]at r;obtain⟨a,vs,rfl,ga,rs⟩:=r;simp only[Z.D.py,qi]at e;obtain⟨ps,h1,rfl⟩:=e;simp only[Rep];exact⟨a,vs,rfl,bq _ _ ga,A7 hr n rs h1⟩
 | n+1,.lst xs,v,q,r,e=>by
  unfold Z.res at e;simp only[RV]at r;obtain⟨a,vs,rfl,ga,rs⟩:=r;simp only[Z.D.py,qi]at e;obtain⟨ps,h1,rfl⟩:=e;simp only[Rep];exact⟨a,vs,rfl,bq _ _ ga,A7 hr n rs h1⟩
 | n+1,.RY,v,q,r,e=>by unfold Z.res at e;exact(r.rep e).same bq
 | n+1,.bl _,v,q,r,e=>by unfold Z.res at e;exact(r.rep e).same bq
 | n+1,.int _,v,q,r,e=>by unfold Z.res at e;exact(r.rep e).same bq
 | n+1,.str _,v,q,r,e=>by unfold Z.res at e;exact(r.rep e).same bq
 | n+1,.arg _,v,q,r,e=>by unfold Z.res at e;exact(r.rep e).same bq
 | n+1,.ty _,v,q,r,e=>by unfold Z.res at e;exact(r.rep e).same bq
 | n+1,.cls _,v,q,r,e=>by unfold Z.res at e;exact(r.rep e).same bq
 | n+1,.exc _,v,q,r,e=>by unfold Z.res at e;exact(r.rep e).same bq
 | n+1,.obj _ _,v,q,r,e=>by unfold Z.res at e;exact(r.rep e).same bq
 | n+1,.VJ _,v,q,r,e=>by unfold Z.res at e;exact(r.rep e).same bq
theorem A7(hr:HR C ex bs h H):∀(n:Nat) {ds:List Z.D} {vs:List V} {qs:List PyData},RQ C bs (gh ex bs h H) vs ds->Z.D.Uu (ds.map (Z.res n h))=⇑qs->SQ H vs qs
 | n,[],[],qs,_,e=>by simp only[zo,Z.D.Uu,Option.some.injEq]at e;subst e;simp only[SQ]
 | n,d::ds,v::vs,qs,r,e=>by
  simp only[RQ]at r;simp only[List.map_cons,Z.D.Uu]at e;split at e
  ·rename_i p ps e1 e2
   simp only[Option.some.injEq]at e;subst e;simp only[SQ];exact⟨Kr hr n r.1 e1,A7 hr n r.2 e2⟩
  ·cases e
 | n,[],_::_,_,r,_=>by simp only[RQ]at r
 | n,_::_,[],_,r,_=>by simp only[RQ]at r
end
theorem Jm(hr:HR C ex bs h H)(r:RV C bs (gh ex bs h H) v d)(e:(Z.sP h d).dat=true):∃q,(Z.sP h d).py=⇑q/\Rep H v q/\mF q:=by
 obtain⟨q,h1,h2⟩:=EH e;exact⟨q,h1,Kr hr 8 r h1,h2⟩
theorem JQ(hr:HR C ex bs h H)(rx:RV C bs (gh ex bs h H) x dx)(ry:RV C bs (gh ex bs h H) y dy):Z.a9 dx dy h=.stuck\/∃b,Z.a9 dx dy h=.ok (.bl b) h/\
  ((gX x y=true/\decide (x=y)=b)\/∃d e,Rep H x d/\Rep H y e/\mF d/\mF e/\PyData.eqv d e=b):=by
 unfold Z.a9;split
 ·simp only[RV]at rx ry;subst rx ry
  exact .inr ⟨_,rfl,.inl ⟨rfl,by simp⟩⟩
 ·simp only[RV]at rx ry;subst rx ry
  exact .inr ⟨_,rfl,.inl ⟨rfl,by simp⟩⟩
 ·simp only[RV]at rx ry;subst rx ry
  exact .inr ⟨_,rfl,.inl ⟨rfl,CD⟩⟩
 ·split
  ·rename_i q
   obtain⟨d,h1,h3⟩:=EH q.1;obtain⟨e,k1,k3⟩:=EH q.2;exact .inr ⟨_,rfl,.inr ⟨d,e,(rx.rep h1).same bq,(ry.rep k1).same bq,h3,k3,Di h1 k1⟩⟩
  ·unfold Z.R7
   split
   ·rename_i q
    obtain⟨d,h1,h2,h3⟩:=Jm hr rx q.1;obtain⟨e,k1,k2,k3⟩:=Jm hr ry q.2;exact .inr ⟨_,rfl,.inr ⟨d,e,h2,k2,h3,k3,Di h1 k1⟩⟩
   ·exact .inl rfl
theorem t8:S2 C Kj Z.a9:=by
 intro ex bs h H E x y dx dy Q hr rx ry p;rcases JQ hr rx ry with e|⟨b,e,q⟩
 ·rw[e]at p;exact p.elim
 ·rw[e]at p
  have:=p.now (b:=.bl b) hr (by simp only[RV]);rcases q with⟨q1,q2⟩|⟨d,e,h1,h2,h3,h4,h5⟩
  ·exact .inl ⟨q1,by rw[q2];exact this⟩
  ·exact .inr ⟨d,e,h1,h2,h3,h4,by rw[h5];exact this⟩
theorem ny:S2 C JM Z.cA:=by
 intro ex bs h H E x y dx dy Q hr rx ry p;unfold Z.cA at p;rcases JQ hr rx ry with e|⟨b,e,q⟩
 ·rw[e]at p;exact p.elim
 ·rw[e]at p
  have:=RW.now (b:=.bl (!b)) hr p (by simp only[RV]);rcases q with⟨q1,q2⟩|⟨d,e,h1,h2,h3,h4,h5⟩
  ·exact .inl ⟨q1,by rw[q2];exact this⟩
  ·exact .inr ⟨d,e,h1,h2,h3,h4,by rw[h5];exact this⟩
theorem Hr(r:RV C bs G v d)(f:Z.iE d=true):fv d=⇑v/\iN v=true:=by
 cases d<;>simp only[RV]at r<;>first|(subst r;exact⟨rfl,rfl⟩)|(cases f)
theorem Fn(f:fv d=⇑v):RV C bs G v d:=by
 cases d<;>simp only[fv,Option.some.injEq]at f<;>first|(subst f;simp only[RV];done)|(cases f)
theorem yH(a:fv d=⇑v)(b:fv e=⇑u):iY v u=Z.fM d e:=by
 cases d<;>simp only[fv,Option.some.injEq]at a<;>(try cases a)<;>cases e<;>simp only[fv,Option.some.injEq]at b<;>(try cases b)<;>(try subst a)<;>(try subst b)<;>rfl
theorem HA{G:Hp}{e:Z.D}{u:V}(b:fv e=⇑u):∀{ds:List Z.D} {vs:List V},RQ C bs G vs ds->ds.all Z.iE=true->vs.all iN=true/\(vs.any λy=>iY y u)=ds.any λy=>Z.fM y e
 | [],[],_,_=>⟨rfl,rfl⟩
 | d::ds,v::vs,h,f=>by
  simp only[RQ]at h;rw[wm,z4]at f;obtain⟨h1,h2⟩:=Hr h.1 f.1;obtain⟨h3,h4⟩:=HA b h.2 f.2;rw[wm,zz,zz,h2,h3,h4,yH h1 b];exact⟨rfl,rfl⟩
 | [],_::_,h,_=>by simp only[RQ]at h
 | _::_,[],h,_=>by simp only[RQ]at h
theorem BH(r:RV C bs G v d)(e:Z.iQ d=⇑k):v=kV k:=by
 cases d<;>simp only[Z.iQ,Option.some.injEq]at e<;>(try cases e)<;>simp only[RV]at r<;>exact r
theorem R9.val:∀{ds:List (Sum Int Str×Z.D)} {vs:List (aW×V)},R9 C bs G vs ds->
    (Z.bI ds k=none/\bX vs k=none)\/∃d v,Z.bI ds k=⇑d/\bX vs k=⇑v/\RV C bs G v d
  | [],[],_=>.inl ⟨rfl,rfl⟩
  | (y,d)::ds,(x,v)::vs,h=>by
    simp only[R9]at h;obtain⟨rfl,h1,h2⟩:=h;unfold Z.bI bX;rw[zt,zt];by_cases e:x=k
    · simp only[e,decide_true]
      exact .inr ⟨d,v,rfl,rfl,h1⟩
    · simp only[e,decide_false]
      exact R9.val h2
  | [],_::_,h=>by simp only[R9]at h
  | _::_,[],h=>by simp only[R9]at h
theorem R9.of:∀{ds:List (Sum Int Str×Z.D)} {vs:List (aW×V)},ds.map (λp=>(p.1,fv p.2))=vs.map (λp=>(p.1,⇑p.2))->R9 C bs G vs ds
  | [],[],_=>by simp only[R9]
  | (y,d)::ds,(x,v)::vs,e=>by
    simp only[List.map_cons,List.cons.injEq,Prod.mk.injEq]at e;simp only[R9];exact⟨e.1.1.symm,Fn e.1.2,R9.of e.2⟩
  | [],_::_,e=>by simp at e
  | _::_,[],e=>by simp at e
theorem KP(hr:HR C ex bs h H)(r:RV C bs (gh ex bs h H) v d)(e:Z.Cg h d=⇑kvs)(k:Sum Int Str):∃a,v=.ref a/\
  ((Z.bI kvs k=none/\B1 C.P C.w C.K H a (kV k) none)\/∃d' v',Z.bI kvs k=⇑d'/\B1 C.P C.w C.K H a (kV k) ⇑v'/\RV C bs (gh ex bs h H) v' d'):=by
 cases d with
 | VJ YJ=>
  simp only[RV]at r;obtain⟨a,Sy,rfl,hk,em⟩:=r;cases e;refine⟨a,rfl,?_⟩;rcases R9.val (k:=k) (R9.of (C:=C) (bs:=bs) (G:=gh ex bs h H) em)with⟨h1,h2⟩|⟨d',v',h1,h2,h3⟩
  ·exact .inl ⟨h1,.inr (.inl ⟨Sy,k,hk,rfl,h2.symm⟩)⟩
  ·exact .inr ⟨d',v',h1,.inr (.inl ⟨Sy,k,hk,rfl,h2.symm⟩),h3⟩
 | ref j=>
  simp only[RV]at r;obtain⟨a,rfl,hj⟩:=r;simp only[Z.Cg]at e;split at e
  ·rename_i YJ hc
   cases e
   obtain⟨Sy,ha,rk⟩:=hr.cell j a _ hj hc;refine⟨a,rfl,?_⟩;rcases rk.val (k:=k)with⟨h1,h2⟩|⟨d',v',h1,h2,h3⟩
   ·exact .inl ⟨h1,.inl (by rw[<-h2];exact Vr.k ha)⟩
   ·exact .inr ⟨d',v',h1,.inl (by rw[<-h2];exact Vr.k ha),h3⟩
  ·rename_i YJ hc
   cases e
   obtain⟨o,Sy,hg,_,rk⟩:=hr.cell j a _ hj hc;have ha:=bq _ _ hg;refine⟨a,rfl,?_⟩;rcases rk.val (k:=k)with⟨h1,h2⟩|⟨d',v',h1,h2,h3⟩
   ·exact .inl ⟨h1,.inr (.inr ⟨o,Sy,k,ha,rfl,h2.symm⟩)⟩
   ·exact .inr ⟨d',v',h1,.inr (.inr ⟨o,Sy,k,ha,rfl,h2.symm⟩),h3⟩
  ·cases e
 | _=>cases e
theorem CV:S2 C (wG C.P C.w C.K neg) (Z.cW neg):=by
 intro ex bs h H E x y dx dy Q hr rx ry p;unfold Z.cW at p;split at p
 ·simp only[RV]at rx ry;subst rx ry
  exact .inr (.inl ⟨_,_,rfl,rfl,p.now hr (by simp only[RV])⟩)
 ·split at p
  ·rename_i ys hy
   obtain⟨q,p⟩:=p.R7;obtain⟨a,vs,rfl,hq,rs⟩:=sQ hr ry hy;obtain⟨fx,fx'⟩:=Hr rx q.1;obtain⟨h1,h2⟩:=HA fx rs q.2;refine .inl ⟨a,vs,rfl,hq,fx',h1,?_⟩;unfold DY;rw[h2];exact p.now hr (by simp only[RV])
  ·split at p
   ·rename_i kvs k e1 e2
    obtain⟨a,rfl,hd⟩:=KP hr ry e1 k;have ek:=BH rx e2;subst ek;rcases hd with⟨h1,h2⟩|⟨d',v',h1,h2,h3⟩
    ·refine .inr (.inr ⟨a,none,rfl,h2,?_⟩)
     rw[h1]at p;exact p.now hr (by simp only[RV];rfl)
    ·refine .inr (.inr ⟨a,⇑v',rfl,h2,?_⟩)
     rw[h1]at p;exact p.now hr (by simp only[RV];rfl)
   ·exact p.elim
theorem ET(r:RQ C bs G vs ds)(e:Z.cx ds i=⇑d):∃v,cx vs i=⇑v/\RV C bs G v d:=by
 unfold Z.cx at e;unfold cx;rw[r.len];have:fK ds.length i=Z.fK ds.length i:=rfl;rw[this];cases e2:Z.fK ds.length i with
 | none=>rw[e2]at e;cases e
 | some j=>
  rw[e2]at e;exact r.get e
theorem mH:S2 C (vO C.P C.w C.K) Z.ay:=by
 intro ex bs h H E x y dx dy Q hr rx ry p;unfold Z.ay at p;split at p
 ·obtain⟨q,p⟩:=p.R7
  obtain⟨c,e1,p⟩:=p.oR;simp only[RV]at rx ry;subst rx ry;exact .inl (.inr (.inr ⟨_,_,c,rfl,rfl,q,e1,p.now hr (by simp only[RV])⟩))
 ·split at p
  ·rename_i xs hx
   split at p
   ·obtain⟨d,e1,p⟩:=p.oR1
    obtain⟨a,vs,rfl,hq,rs⟩:=sQ hr rx hx;obtain⟨v,hv,rv⟩:=ET rs e1;simp only[RV]at ry;subst ry;rcases hq with hq|hq
    ·exact .inl (.inl ⟨a,vs,_,v,rfl,rfl,hq,hv,p.now hr rv⟩)
    ·exact .inl (.inr (.inl ⟨a,vs,_,v,rfl,rfl,hq,hv,p.now hr rv⟩))
   ·exact p.elim
  ·split at p
   ·rename_i kvs k e1 e2
    obtain⟨d,ev,p⟩:=p.oR1;obtain⟨a,rfl,hd⟩:=KP hr rx e1 k;have ek:=BH ry e2;subst ek;rcases hd with⟨h1,h2⟩|⟨d',v',h1,h2,h3⟩
    ·rw[h1]at ev;cases ev
    ·rw[h1]at ev;cases ev
     exact .inr ⟨a,v',rfl,h2,p.now hr h3⟩
   ·exact p.elim
theorem fu(ha:SE C E ta ma)(hb:SE C E tb mb):SE C E (oa (vO C.P C.w C.K) ta tb) (Z.af Z.ay ma mb):=dr mH ha hb
theorem lW:SO C E Jp Z.cL:=λex bs h ρ σ H Q hr re p=>RW.now hr p rfl
theorem nh(ht:SE C E t m):SO C E (lD t) (Z.cN m):=by
 intro ex bs h ρ σ H Q hr re p;refine ht ex bs h ρ σ H _ hr re (p.bind λd x h1 RT H1 e1 rx p1=> ?_);cases d with
 | int i=>simp only[RV]at rx;exact⟨i,rx,RW.now e1.hr p1 rfl⟩
 | _=>exact p1.elim
theorem RQ.cut(r:RQ C bs G vs ds)(l u:Option Int):RQ C bs G (dQ vs l u) (Z.cut ds l u):=by
 unfold dQ Z.cut;rw[r.len];exact(r.drop _).take _
theorem IV(hr:HR C ex bs h H)(r:RV C bs (gh ex bs h H) v d)(nt:∀ds,d=.tup ds->False)(e:Z.c7 h d=⇑xs):∃a vs,v=.ref a/\R8 C.K H a vs/\RQ C bs (gh ex bs h H) vs xs:=by
 cases d with
 | lst ds=>
  simp only[RV]at r;obtain⟨a,vs,rfl,ga,rs⟩:=r;cases e;exact⟨a,vs,rfl,R8.of (bq _ _ ga),rs⟩
 | tup ds=>exact(nt ds rfl).elim
 | arg ns=>
  simp only[RV]at r;obtain⟨a,rfl,ga⟩:=r;cases e;refine⟨a,_,rfl,bq.W6 ga,?_⟩;clear ga hr nt
  induction ns with
  | nil=>simp only[zo,RQ]
  | cons n ns ih=>simp only[List.map_cons,RQ,RV];exact⟨trivial,ih⟩
 | ref k=>
  simp only[RV]at r;obtain⟨a,rfl,hk⟩:=r;simp only[Z.c7]at e;split at e
  ·rename_i ys hc
   cases e
   obtain⟨vs,ha,rs⟩:=hr.cell k a _ hk hc;exact⟨a,vs,rfl,R8.of ha,rs⟩
  ·cases e
 | _=>cases e
theorem xr(ht:SE C E t m)(hl:SO C E tl ml)(hh:SO C E th mh):SE C E (GW (oq C.K) t tl th) (Z.cQ m ml mh):=by
 intro ex bs h ρ σ H Q hr re p;refine ht ex bs h ρ σ H _ hr re (p.bind λd x h1 RT H1 e1 rx p1=> ?_);refine hl ex RT h1 ρ σ H1 _ e1.hr (re.ev e1) (p1.bind λl l' h2 Sq H2 e2 rl p2=> ?_);refine hh ex Sq h2 ρ σ H2 _ e2.hr ((re.ev e1).ev e2) (p2.bind λu u' h3 bs3 H3 e3 ru p3=> ?_);cases rl;cases ru;have rx3:=(rx.ev e2).ev e3;split at p3
 ·rename_i ds
  obtain⟨q,p3⟩:=p3.R7;simp only[RV]at rx3;obtain⟨a,vs,rfl,ga,rs⟩:=rx3;refine .inl (.inr ⟨a,vs,rfl,S7.of (bq _ _ ga),by rw[rs.len];exact q,λp hp=>RW.Yt e3.hr p3 hp (rs.cut l u)⟩)
 ·rename_i z
  obtain⟨q,p3⟩:=p3.R7;simp only[RV]at rx3;exact .inr ⟨z,rx3,q,p3.now e3.hr (by simp only[RV])⟩
 ·rename_i hnt hns
  obtain⟨xs,e4,p3⟩:=p3.oR;obtain⟨a,vs,ea,hq,rs⟩:=IV e3.hr rx3 hnt e4;subst ea;exact .inl (.inl ⟨a,vs,rfl,hq,λp hp=>RW.tree e3.hr p3 hp (rs.cut l u)⟩)
theorem DD{G:Hp}:∀{ds:List Z.D} {vs:List V} {ns:List Int},RQ C bs G vs ds->Z.nJ ds=⇑ns->vs=ns.map V.int
  | [],[],ns,_,e=>by cases e;rfl
  | d::ds,v::vs,ns,h,e=>by
    simp only[RQ]at h;cases d<;>simp only[Z.nJ,qi]at e<;>first
      | (obtain⟨ms,h1,rfl⟩:=e
         simp only[RV]at h;rw[List.map_cons,<-DD h.2 h1,h.1])
      | cases e
  | [],_::_,_,h,_=>by simp only[RQ]at h
  | _::_,[],_,h,_=>by simp only[RQ]at h
theorem Hn{G:Hp}:∀{ds:List Z.D} {vs:List V} {ns:List Str},RQ C bs G vs ds->Z.pO ds=⇑ns->vs=ns.map V.str
  | [],[],ns,_,e=>by cases e;rfl
  | d::ds,v::vs,ns,h,e=>by
    simp only[RQ]at h;cases d<;>simp only[Z.pO,qi]at e<;>first
      | (obtain⟨ms,h1,rfl⟩:=e
         simp only[RV]at h;rw[List.map_cons,<-Hn h.2 h1,h.1])
      | cases e
  | [],_::_,_,h,_=>by simp only[RQ]at h
  | _::_,[],_,h,_=>by simp only[RQ]at h
theorem DT{G:Hp}:∀{ds:List Z.D} {vs:List V} {ns:List Bool},RQ C bs G vs ds->Z.sZ ds=⇑ns->vs=ns.map V.bl
  | [],[],ns,_,e=>by cases e;rfl
  | d::ds,v::vs,ns,h,e=>by
    simp only[RQ]at h;cases d<;>simp only[Z.sZ,qi]at e<;>first
      | (obtain⟨ms,h1,rfl⟩:=e
         simp only[RV]at h;rw[List.map_cons,<-DT h.2 h1,h.1])
      | cases e
  | [],_::_,_,h,_=>by simp only[RQ]at h
  | _::_,[],_,h,_=>by simp only[RQ]at h
theorem IU:∀(ns:List Str),RQ C bs G (ns.map V.str) (ns.map Z.D.str)
 | []=>by simp only[zo,RQ]
 | n::ns=>by simp only[List.map_cons,RQ,RV];exact⟨trivial,IU ns⟩
theorem KD(hr:HR C ex bs h H)(r:RV C bs (gh ex bs h H) v d)(e:Z.fQ h d=⇑ns):∃a,v=.ref a/\R8 C.K H a (ns.map V.int):=by
 have gen:(Z.eB h d).bind Z.nJ=⇑ns->∃a,v=.ref a/\R8 C.K H a (ns.map V.int):=λe=>by
  cases e2:Z.eB h d with
  | none=>rw[e2]at e;cases e
  | some ds=>
   rw[e2]at e;obtain⟨a,vs,rfl,ha,rs⟩:=nR hr r e2;exact⟨a,rfl,by rw[<-DD rs e];exact R8.of ha⟩
 cases d with
 | arg ms=>
  cases e
  simp only[RV]at r;obtain⟨a,rfl,ga⟩:=r;exact⟨a,rfl,bq.W6 ga⟩
 | _=>exact gen e
theorem Ev.ext(hr:HR C ex bs h H)(sm:R4 H H'):Ev C ex bs h H bs h H':=by
 have eq:∀{a},H a≠none->H' a=H a:=fun{a} q=>by
  cases e:H a with
  | none=>exact absurd e q
  | some o=>exact sm a o e
 have sg:R4 (gh ex bs h H) (gh ex bs h H'):=λa o e=>by
  obtain⟨h1,h2,h3⟩:=cz.mp e;exact cz.mpr ⟨h1,h2,sm a o h3⟩
 exact⟨λ_ _ e=>e,⟨hr.len,hr.inj,hr.sep,λa m=>by rw[eq (hr.Uo a m)];exact hr.Uo a m,λa m=>by rw[eq (hr.Sk a m)];exact hr.Sk a m,
  λk a c e1 e2=>(hr.cell k a c e1 e2).mono (λ_ _ e=>e) sg (eq (hr.Uo a (qm e1)))⟩,sg,λa m=>eq (hr.Sk a m)⟩
theorem OL(hp:H p=none)(sm:R4 H H'):R4 H (VZ p H'):=λa o e=>by
 rw[kN (λz=>by rw[z,hp]at e;cases e)];exact sm a o e
theorem M7(e:H' p=⇑o):az (VZ p H') p o=H':=by
 funext x;by_cases q:x=p
 ·rw[q,b7,e]
 ·rw[aE q,kN q]
theorem T3.ext(hr:HR C ex bs h H)(q:T3 C ex E bs h H (.ok ds h) Q)(hp:H p=none)(e:H' p=⇑(.lst vs))(sm:R4 H H')(r:RQ C bs (gh ex bs h H) vs ds):Q (.ref p) H':=by
 have ev:=Ev.ext hr (OL hp sm);have:=q p vs bs (VZ p H') ev (if_pos rfl) (r.ev ev);rw[M7 e]at this;exact this
end
section
variable {C : Ct} {ex bs RT Sq : List Addr} {h h1 h2 : Z.MH} {H H1 H2 : Hp} {E : XK}
theorem d_(r:RQ C bs G vs [d]):∃v,vs=[v]/\RV C bs G v d:=by
 match vs,r with
 | [v],r=>simp only[RQ]at r;exact⟨v,rfl,r.1⟩
 | [],r=>simp only[RQ]at r
 | _::_::_,r=>simp only[RQ]at r;exact r.2.elim
theorem Fh(r:RQ C bs G vs [d,e]):∃v u,vs=[v,u]/\RV C bs G v d/\RV C bs G u e:=by
 match vs,r with
 | [v,u],r=>simp only[RQ]at r;exact⟨v,u,rfl,r.1,r.2.1⟩
 | [],r=>simp only[RQ]at r
 | [_],r=>simp only[RQ]at r;exact r.2.elim
 | _::_::_::_,r=>simp only[RQ]at r;exact r.2.2.elim
def FO(P:Program)(w:World)(K:W.Frag):List V->Hp->VK->Prop:=λxs H Q=>lR P w K xs H Q\/∃a kvs,xs=[V.ref a]/\H a=⇑(.dK kvs)/\Q (.int kvs.length) H
theorem Od:S3 X (.builtin "len") (FO X.prog X.w X.K):=S3.or MR Qb
theorem Ko:SL C (FO C.P C.w C.K) Z.bJ:=by
 intro ex bs h H E xs ds Q hr rs p;unfold Z.bJ at p;split at p
 ·obtain⟨q,p⟩:=p.R7
  obtain⟨v,rfl,r⟩:=d_ rs;simp only[RV]at r;subst r;exact .inl (.inr ⟨_,rfl,q,p.now hr (by simp only[RV])⟩)
 ·obtain⟨v,rfl,r⟩:=d_ rs
  split at p
  ·rename_i ys hy
   obtain⟨a,vs,rfl,hq,qs⟩:=sQ hr r hy;exact .inl (.inl ⟨a,vs,rfl,hq,p.now hr (by simp only[RV];rw[qs.len])⟩)
  ·split at p
   ·obtain⟨kvs,e,p⟩:=p.oR
    simp only[Z.Av]at e;split at e
    ·rename_i YJ hc
     cases e
     simp only[RV]at r;obtain⟨a,rfl,hk⟩:=r;obtain⟨Sy,ha,rk⟩:=hr.cell _ a _ hk hc;exact .inr ⟨a,Sy,rfl,ha,p.now hr (by simp only[RV];rw[rk.len])⟩
    ·cases e
   ·exact p.elim
 ·exact p.elim
theorem pT:SL C (qH C.K) Z.oN:=by
 intro ex bs h H E xs ds Q hr rs p;unfold Z.oN at p;split at p
 ·obtain⟨v,rfl,r⟩:=d_ rs
  obtain⟨ns,e,p⟩:=p.oR;obtain⟨a,rfl,hq⟩:=KD hr r e;exact⟨a,ns,rfl,hq,p.now hr (by simp only[RV])⟩
 ·exact p.elim
theorem IS:∀(ns:List Int),0<ns.length->Z.ck ns∈ns
 | [a],_=>by simp[Z.ck]
 | a::b::r,_=>by
  have ih:=IS (b::r) (by simp);unfold Z.ck;split
  ·exact q8 _ ih
  ·exact qa ..
theorem Kh:∀(ns:List Int),∀a∈ns,a<=Z.ck ns
 | [a],x,hx=>by simp at hx;subst hx;simp[Z.ck]
 | a::b::r,x,hx=>by
  have ih:=Kh (b::r);unfold Z.ck;rcases qg.mp hx with rfl|hx
  ·split<;>lia
  ·have:=ih x hx
   split<;>lia
theorem sA:SL C (rC C.K) Z.oW:=by
 intro ex bs h H E xs ds Q hr rs p;unfold Z.oW at p;split at p
 ·obtain⟨v,u,rfl,r1,r2⟩:=Fh rs
  simp only[RV]at r1 r2;subst r1 r2;exact .inl ⟨_,_,rfl,p.now hr (by simp only[RV])⟩
 ·obtain⟨v,rfl,r⟩:=d_ rs
  obtain⟨ns,e,p⟩:=p.oR;obtain⟨q,p⟩:=p.R7;simp only[RV]at r;obtain⟨a,vs,rfl,ga,qs⟩:=r;have:=DD qs e;subst this;refine .inr ⟨a,ns,rfl,S7.of (bq _ _ ga),q,λM hm hle=> ?_⟩;have e1:M=Z.ck ns:=by
   have h1:=Kh ns M hm;have h2:=hle _ (IS ns q)
   lia
  rw[e1];exact p.now hr (by simp only[RV])
 ·exact p.elim
theorem nX:SL C (r_ C.K) Z.jV:=by
 intro ex bs h H E xs ds Q hr rs p;unfold Z.jV at p;split at p
 ·obtain⟨v,rfl,r⟩:=d_ rs
  obtain⟨bb,e,p⟩:=p.oR;rw[z7]at e;obtain⟨ys,e1,e2⟩:=e;obtain⟨a,vs,rfl,ha,qs⟩:=nR hr r e1;have:=DT qs e2;subst this;exact⟨a,bb,rfl,R8.of ha,p.now hr (by simp only[RV])⟩
 ·exact p.elim
theorem pQ:SL C yF Z.dj:=by
 intro ex bs h H E xs ds Q hr rs p;unfold Z.dj at p;split at p
 ·obtain⟨v,rfl,r⟩:=d_ rs
  simp only[RV]at r;subst r;exact .inl (.inl ⟨_,rfl,p.now hr (by simp only[RV])⟩)
 ·obtain⟨v,rfl,r⟩:=d_ rs
  simp only[RV]at r;subst r;exact .inl (.inr ⟨_,rfl,p.now hr (by simp only[RV])⟩)
 ·obtain⟨q,p⟩:=p.R7
  obtain⟨n,e,p⟩:=p.oR;obtain⟨v,rfl,r⟩:=d_ rs;simp only[RV]at r;subst r;exact .inr ⟨_,n,rfl,q,e,p.now hr (by simp only[RV])⟩
 ·exact p.elim
theorem nZ:SL C uw Z.aX:=by
 intro ex bs h H E xs ds Q hr rs p;unfold Z.aX at p;split at p
 ·obtain⟨q,p⟩:=p.R7
  obtain⟨v,rfl,r⟩:=d_ rs;simp only[RV]at r;subst r;exact⟨_,rfl,q,p.now hr (by simp only[RV];rfl)⟩
 ·exact p.elim
theorem pN(hl:SA C E tl ml):SN C E (vN (λxs H Q=>∃p ys,xs=[.ref p]/\(R8 C.K H p ys\/S7 C.K H p ys)/\∀l,H l=none->Q (.ref l) (az H l (.lst ys))) tl) (Z.m9 ml):=by
 intro ex bs h ρ σ H Q hr re p;refine hl ex bs h ρ σ H _ hr re (T3.bind p λds xs h1 RT H1 e1 rx p1=> ?_);split at p1
 ·obtain⟨v,rfl,r⟩:=d_ rx
  rename_i d;cases e:Z.c7 h1 d with
  | none=>rw[e]at p1;exact p1.elim
  | some ys=>
   rw[e]at p1;obtain⟨a,vs,rfl,hq,qs⟩:=sQ e1.hr r e;exact⟨a,vs,rfl,hq,λl hl=>T3.now e1.hr p1 hl qs⟩
 ·exact p1.elim
theorem Qd:SL C (λxs H Q=>∃p ys,xs=[.ref p]/\((R8 C.K H p ys/\∀l,H l=none->Q (.ref l) (az H l (.tup ys)))\/(S7 C.K H p ys/\Q (.ref p) H))) Z.EV:=by
 intro ex bs h H E xs ds Q hr rs p;unfold Z.EV at p;split at p
 ·obtain⟨v,rfl,r⟩:=d_ rs
  have r':=r;simp only[RV]at r;obtain⟨a,vs,rfl,ga,qs⟩:=r;exact⟨a,vs,rfl,.inr ⟨S7.of (bq _ _ ga),p.now hr r'⟩⟩
 ·rename_i d hnt
  obtain⟨v,rfl,r⟩:=d_ rs;obtain⟨ys,e,p⟩:=p.oR;obtain⟨a,vs,rfl,hq,qs⟩:=IV hr r (λds z=>hnt ds (by rw[z])) e;exact⟨a,vs,rfl,.inl ⟨hq,λl hl=>RW.Yt hr p hl qs⟩⟩
 ·exact p.elim
theorem NP{K:W.Frag}(ht:t="NoneType"\/t="bool"\/t="int"\/t="str"\/t="tuple"\/t="list"\/t="dict")(hn:n="int"\/n="bool"\/n="str"\/n="tuple"\/n="list"):
  W.kitOne K (.type t) (.type n)=⇑(Z.B_ t n):=by
 rcases ht with rfl|rfl|rfl|rfl|rfl|rfl|rfl<;>rcases hn with rfl|rfl|rfl|rfl|rfl<;>first|rfl|kernel_rfl
theorem wA(hr:HR C ex bs h H)(r:RV C bs (gh ex bs h H) v d)(e:Z.iI h d=⇑t):Ui C.K H v (.type t)/\(t="NoneType"\/t="bool"\/t="int"\/t="str"\/t="tuple"\/t="list"\/t="dict"):=by
 cases d with
 | RY=>simp only[RV]at r;subst r;cases e;exact⟨.RY,by simp⟩
 | bl b=>simp only[RV]at r;subst r;cases e;exact⟨.bl _,by simp⟩
 | int b=>simp only[RV]at r;subst r;cases e;exact⟨.int _,by simp⟩
 | str b=>simp only[RV]at r;subst r;cases e;exact⟨.str _,by simp⟩
 | tup ds=>
  simp only[RV]at r;obtain⟨a,vs,rfl,ga,_⟩:=r;cases e;exact⟨.tup (bq _ _ ga),by simp⟩
 | lst ds=>
  simp only[RV]at r;obtain⟨a,vs,rfl,ga,_⟩:=r;cases e;exact⟨.lst (bq _ _ ga),by simp⟩
 | ref k=>
  simp only[RV]at r;obtain⟨a,rfl,hk⟩:=r;simp only[Z.iI]at e;split at e
  ·rename_i xs hc
   cases e
   obtain⟨vs,ha,_⟩:=hr.cell k a _ hk hc;exact⟨.lst ha,by simp⟩
  ·rename_i xs hc
   cases e
   obtain⟨vs,ha,_⟩:=hr.cell k a _ hk hc;exact⟨.dK ha,by simp⟩
  ·cases e
 | _=>cases e
theorem Ox(h:Z.yO n=true):n="int"\/n="bool"\/n="str"\/n="tuple"\/n="list":=by
 unfold Z.yO at h;simpa [or_assoc]using h
theorem nV:SL C (rY C.K) Z.jo:=by
 intro ex bs h H E xs ds Q hr rs p;unfold Z.jo at p;split at p
 ·obtain⟨q,p⟩:=p.R7
  obtain⟨t,e,p⟩:=p.oR;obtain⟨v,u,rfl,r1,r2⟩:=Fh rs;simp only[RV]at r2;subst r2;obtain⟨ty,ht⟩:=wA hr r1 e;exact⟨v,_,_,_,rfl,.inl ⟨_,rfl⟩,ty,NP ht (Ox q),p.now hr (by simp only[RV])⟩
 ·exact p.elim
def SM(C:Ct)(r:V->List V->Hp->VK->Prop)(f:Str->List Z.D->Z.MH->Z.Res Z.D):Prop:=∀(ex bs:List Addr) (h:Z.MH) (H:Hp) (E:XK) (z:Str) (xs:List V) (ds:List Z.D) (Q:VK),HR C ex bs h H->RQ C bs (gh ex bs h H) xs ds->RW C ex E bs h H (RV C) (f z ds h) Q->r (.str z) xs H Q
theorem CH{r:V->List V->Hp->VK->Prop}{f:Str->List Z.D->Z.MH->Z.Res Z.D}(o:SM C r f)(ho:SE C E to mo)(hl:SA C E tl ml):SE C E (sM C.K "str" r to tl) (Z.tK f mo ml):=by
 intro ex bs h ρ σ H Q hr re p;refine ho ex bs h ρ σ H _ hr re (p.bind λd x h1 RT H1 e1 rx p1=> ?_);cases d with
 | str z=>
  simp only[RV]at rx;subst rx;refine⟨rfl,hl ex RT h1 ρ σ H1 _ e1.hr (re.ev e1) (p1.bind λds xs h2 Sq H2 e2 rs p2=> ?_)⟩;exact o ex Sq h2 H2 E z xs ds Q e2.hr rs p2
 | _=>exact p1.elim
theorem Ln:SM C (FC C.K) Z.kD:=by
 intro ex bs h H E z xs ds Q hr rs p;unfold Z.kD at p;split at p
 ·obtain⟨ys,e,p⟩:=p.oR
  obtain⟨q,p⟩:=p.R7;obtain⟨v,rfl,r⟩:=d_ rs;rw[z7]at e;obtain⟨ds',e1,e2⟩:=e;obtain⟨a,vs,rfl,ha,qs⟩:=nR hr r e1;have:=Hn qs e2;subst this;exact⟨z,a,ys,rfl,rfl,R8.of ha,q,p.now hr (by simp only[RV])⟩
 ·exact p.elim
theorem JB(ho:SE C E to mo)(hl:SA C E tl ml):SN C E (sM C.K "str" Hx to tl) (Z.lN mo ml):=by
 intro ex bs h ρ σ H Q hr re p;refine ho ex bs h ρ σ H _ hr re (T3.bind p λd x h1 RT H1 e1 rx p1=> ?_);cases d with
 | str z=>
  simp only[RV]at rx;subst rx;refine⟨rfl,hl ex RT h1 ρ σ H1 _ e1.hr (re.ev e1) (T3.bind p1 λds xs h2 Sq H2 e2 rs p2=> ?_)⟩;split at p2
  ·rename_i y
   obtain⟨q,p2⟩:=p2.R7;obtain⟨v,rfl,r⟩:=d_ rs;simp only[RV]at r;subst r;exact⟨z,y,rfl,rfl,q.1,q.2.1,q.2.2,λa H' ha YT sm=>T3.ext e2.hr p2 ha YT sm (IU _)⟩
  ·exact p2.elim
 | _=>exact p1.elim
def SJ(C:Ct)(E:XK)(t:TJ)(m:Z.MJ):Prop:=∀out:Str,sG C E F7 (t out) (m out)
theorem nP:SJ C E mS Z.vA:=λout ex bs h ρ σ H Q hr re p=>RW.now hr p rfl
theorem OC(ht:SE C E t m)(hj:SJ C E j mj):SJ C E (Iq t j) (Z.Gs m mj):=by
 intro out ex bs h ρ σ H Q hr re p;refine ht ex bs h ρ σ H _ hr re (p.bind λd x h1 RT H1 e1 rx p1=> ?_);cases d with
 | str y=>
  simp only[RV]at rx;obtain⟨q,p1⟩:=RW.R7 p1;exact⟨y,rx,q,hj (out++y) ex RT h1 ρ σ H1 Q e1.hr (re.ev e1) p1⟩
 | _=>exact p1.elim
theorem Cs(hj:SJ C E j mj):SE C E (Hc j) (Z.He mj):=by
 intro ex bs h ρ σ H Q hr re p;refine hj Str.empty ex bs h ρ σ H _ hr re (p.bind λz z' h1 RT H1 e1 rz p1=> ?_);cases rz;obtain⟨q,p1⟩:=RW.R7 p1;exact⟨q,RW.now e1.hr p1 (by simp only[RV])⟩
theorem wZ(ht:SE C E t m):SE C E (vB t) (Z.Ac m):=by
 intro ex bs h ρ σ H Q hr re p;refine ht ex bs h ρ σ H _ hr re (p.bind λd x h1 RT H1 e1 rx p1=> ?_);cases d with
 | int i=>
  simp only[RV]at rx;obtain⟨q,p1⟩:=RW.R7 p1;exact .inl ⟨i,rx,q,RW.now e1.hr p1 (by simp only[RV];rfl)⟩
 | str z=>
  simp only[RV]at rx;obtain⟨q,p1⟩:=RW.R7 p1;exact .inr ⟨z,rx,q,RW.now e1.hr p1 (by simp only[RV])⟩
 | _=>exact p1.elim
theorem DA(ea:C.cm c=a)(ht:SE C E t m):SS C E (Iv a E t) (Z.cJ c m):=by
 intro ex bs h ρ σ H D hr re p;refine ht ex bs h ρ σ H _ hr re (p.bind λd x h1 RT H1 e1 rx p1=> ?_);exact⟨x,rfl,by rw[<-ea];exact p1 RT H1 (Ev.refl e1.hr)⟩
theorem pK:SE C E JV Z.kZ:=by
 intro ex bs h ρ σ H Q hr re p;intro a ha;have e2:=Ev.cell (o:=.dK []) (c:=.Sl []) hr ha ⟨[],b7,by simp only[R9]⟩;refine p (.ref a) (bs++[a]) _ e2 ?_;simp only[RV];exact⟨a,rfl,by rw[<-hr.len];simp⟩
theorem R9.put{k:Sum Int Str}(q:RV C bs G v d)(r:R9 C bs G vs ds):R9 C bs G (bj vs k v) (Z.bj ds k d):=by
 have any:∀{ds:List (Sum Int Str×Z.D)} {vs:List (aW×V)},R9 C bs G vs ds->(vs.any λkv=>decide (kv.1=k))=ds.any λkv=>decide (kv.1=k):=by
  intro ds
  induction ds with
  | nil=>intro vs r;cases vs with
   | nil=>rfl
   | cons _ _=>simp only[R9]at r
  | cons p ds ih=>
   intro vs r;cases vs with
   | nil=>simp only[R9]at r
   | cons w vs=>
    obtain⟨y,d'⟩:=p;obtain⟨x,v'⟩:=w;simp only[R9]at r;rw[zz,zz,ih r.2.2,r.1]
 have map:∀{ds:List (Sum Int Str×Z.D)} {vs:List (aW×V)},R9 C bs G vs ds->R9 C bs G (vs.map λkv=>if kv.1=k then(kv.1,v)else kv) (ds.map λkv=>if kv.1=k then(kv.1,d)else kv):=by
  intro ds
  induction ds with
  | nil=>intro vs r;cases vs with
   | nil=>simp only[zo,R9]
   | cons _ _=>simp only[R9]at r
  | cons p ds ih=>
   intro vs r;cases vs with
   | nil=>simp only[R9]at r
   | cons w vs=>
    obtain⟨y,d'⟩:=p;obtain⟨x,v'⟩:=w;simp only[R9]at r;obtain⟨rfl,r1,r2⟩:=r;simp only[List.map_cons];by_cases e:x=k
    ·simp only[e,if_true,R9];exact⟨trivial,q,by simpa [e]using ih r2⟩
    ·simp only[e,if_false,R9];exact⟨trivial,r1,ih r2⟩
 have app:∀{ds:List (Sum Int Str×Z.D)} {vs:List (aW×V)},R9 C bs G vs ds->R9 C bs G (vs++[(k,v)]) (ds++[(k,d)]):=by
  intro ds
  induction ds with
  | nil=>intro vs r;cases vs with
   | nil=>simp only[g8,R9];exact⟨trivial,q,trivial⟩
   | cons _ _=>simp only[R9]at r
  | cons p ds ih=>
   intro vs r;cases vs with
   | nil=>simp only[R9]at r
   | cons w vs=>
    obtain⟨y,d'⟩:=p;obtain⟨x,v'⟩:=w;simp only[R9]at r;simp only[wz,R9];exact⟨r.1,r.2.1,ih r.2.2⟩
 unfold bj Z.bj;rw[any r];split
 ·exact map r
 ·exact app r
theorem N2(ho:SE C E to mo)(hi:SE C E ti mi)(he:SE C E te me):SS C E (mM to ti te) (Z.Ep mo mi me):=by
 intro ex bs h ρ σ H D hr re p;refine he ex bs h ρ σ H _ hr re (p.bind λd v h0 bs0 H0 e0 rv p0=> ?_);refine ho ex bs0 h0 ρ σ H0 _ e0.hr (re.ev e0) (p0.bind λo x h1 RT H1 e1 rx p1=> ?_);refine hi ex RT h1 ρ σ H1 _ e1.hr ((re.ev e0).ev e1) (p1.bind λi y h2 Sq H2 e2 ry p2=> ?_);have Z3:=(rv.ev e1).ev e2;have rx2:=rx.ev e2;cases o with
 | ref k=>
  simp only[RV]at rx2;obtain⟨a,rfl,hk⟩:=rx2;dsimp only at p2;split at p2
  ·rename_i kvs hc
   split at p2
   ·rename_i j hj
    split at p2
    ·rename_i hz
     obtain⟨Sy,ha,rk⟩:=e2.hr.cell k a _ hk hc;have ek:=BH ry hj;subst ek;refine⟨a,_,rfl,XD.k ha (by rw[rk.len];exact hz),?_⟩;have e3:=Ev.put (o:=.dK (bj Sy j v)) (c:=.Sl (Z.bj kvs j d)) e2.hr hk hc ⟨_,b7,rk.put Z3⟩;exact p2 σ Sq _ e3 ((((re.ev e0).ev e1).ev e2).ev e3)
    ·exact p2.elim
   ·exact p2.elim
  ·exact p2.elim
 | _=>exact p2.elim
end
noncomputable def spL(K:W.Frag):Sp:=λvs H Q _=>∃(a:Addr) (ns:List Int),vs=[.ref a]/\R8 K H a (ns.map V.int)/\ns.length<=63/\∀H',Q (.bl true) H'
theorem spL_of(K:W.Frag)(H:Hp)(a:Addr)(ns:List Int)(hl:ns.length<=63)(hO:h7 H)(hS:R8 K H a (ns.map V.int)):spL K [.ref a] H (λv _=>v=.bl true) λ_ _ _=>False:=⟨a,ns,rfl,hS,hl,λ_=>rfl⟩
theorem pA:gh [] [] [] H=H:=by
 funext x;unfold gh;rw[if_neg];rintro(z|⟨k,c,z,_⟩)
 ·cases z
 ·simp at z
theorem law_ok{mg:Str->Option Value}(F:Si P w C.K mg base CX k f fd ps (fD C z))
  (hz:∀ns:List Int,ns.length<=63->∃h,z [.arg ns] []=.ok (.bl true) h):Si P w C.K mg base CX k f fd ps (spL C.K):=by
 refine F.imp λvs H Q E q=> ?_;obtain⟨a,ns,rfl,hS,hl,q⟩:=q;obtain⟨h,e⟩:=hz ns hl;refine⟨[],[],[],[.arg ns],⟨rfl,λi j a e=>by simp at e,λa m=>(by cases m),λa m=>(by cases m),λa m=>(by cases m),λk a c e=>by simp at e⟩,?_,?_⟩
 ·rw[pA];simp only[RQ,RV];exact⟨⟨a,rfl,hS⟩,trivial⟩
 ·rw[e]
  intro v R0 H' _ rv;simp only[RV]at rv;subst rv;exact q H'
theorem walk_ofE{l:W.OpenLaw}{XP:(Str->Option Value)->Heap->Prop}{YP:World->Heap->Prop}{K:Params->W.Frag}{CX:World->fL}{sp:W.Frag->Sp}
  (hn:l.most=⇑n) (Xb:n<=sizeLine) (hdf:d.params.defaults=[]) (hr:Sf k callerA)
  (hY:∀(w:World) (h:Heap),YP w h->(K w.params).In h)
  (F:∀(w:World) (mg:Str->Option Value) (fa:Addr) (h:Heap),(K w.params).In h->h.Ns mainGlobals mg->mg d.name=⇑(.ref fa)->
   ∃fd:FuncData,(∀(s:Shared) (u:Value),BindsTo s fd ⟨[u],[]⟩ [(x,u)])/\
    ∀base:Heap,(K w.params).In base->base.Ns mainGlobals mg->Si l.prog w (K w.params) mg base (CX w) k fa fd [x] (sp (K w.params)))
  (XF:∀(K:W.Frag) (H:Hp) (a:Addr) (ns:List Int),ns.length<=n->h7 H->R8 K H a (ns.map V.int)->sp K [.ref a] H (λv _=>v=.bl true) λ_ _ _=>False)
  (hCX:∀(w:World) (H:Hp) (s:Shared) (e:Value) (s':Shared),CX w [] H s (λ_ _ _=>False) e s'->False):
  W.WalkO q loose XP YP l.row.toRowW d [] (λf vs=>PySem.call f vs):=
 Lp (K:=K) (CX:=CX) (sp:=λw=>sp (K w.params)) hn Xb hdf hr hY F (λw H a ns h1 h2 h3=>XF (K w.params) H a ns h1 h2 h3) hCX
def GP:List DictEntry->List (aW×V)->Prop
 | [],[]=>True
 | e::es,(k,v)::r=>(∃x t,e.key=.str x t/\k=Sum.inr x)/\RelV v e.val/\GP es r
 | _,_=>False
theorem Ka:∀{es:List DictEntry} {kvs:List (aW×V)},GP es kvs->∃vs:List (aW×Value),KV kvs vs/\Pairs (cV P w) es vs/\vs.map (·.1)=kvs.map (·.1)
 | [],[],_=>⟨[],.nil,.nil,rfl⟩
 | e::es,(k,v)::r,h=>by
  obtain⟨⟨x,t,h1,h2⟩,h3,h4⟩:=h;obtain⟨vs,a,b,c⟩:=Ka (P:=P) (w:=w) h4;refine⟨(k,e.val)::vs,.cons ⟨rfl,h3⟩ a,.cons ?_ rfl b,by simp[c]⟩;rw[h1,h2];exact Gb P w x t
 | [],_::_,h=>h.elim
 | _::_,[],h=>h.elim
theorem kdict_of{K:W.Frag}(hl:K.lookup a=⇑⟨.type "dict",none,.dict es n,#[]⟩)(ha:(a==sysModules)=false)
  (hk:W.KeysLit w.params es.toList) (hp:GP es.toList kvs) (nd:(kvs.map (·.1)).Nodup):BU P w K a kvs:=by
 intro h X;obtain⟨vs,a1,b,c⟩:=Ka (P:=P) (w:=w) hp;refine⟨ha,vs,a1,_,es,n,X _ _ hl,⟨rfl,rfl,rfl⟩,rfl,λe he=> ?_,b,by rw[c];exact nd⟩;obtain⟨x,t,e1,e2⟩:=hk.all e (Array.mem_toList_iff.mpr he);exact⟨.inr x,by rw[e1];exact Gb P w x t,e2⟩
theorem yP:ST C E aR Z.aR:=λex bs h ρ σ H Q hr re p=>RW.now hr p rfl
section
variable {X : Cx} {P : Program} {w : World} {K : W.Frag}
theorem Fj(k:X.K=K):bA X (binaryOp .Add) (qO K):=by subst k;exact Pq
theorem FI(p:X.prog=P)(w':X.w=w)(k:X.K=K)(hu:X.A.units+64<cLine):W0 X (vO P w K):=by subst p w' k;exact Ed hu
theorem oQ(p:X.prog=P)(w':X.w=w)(k:X.K=K)(hu:X.A.units+64<cLine):bA X (compareOp .In) (wG P w K false):=by subst p w' k;exact oM hu
theorem F4(p:X.prog=P)(w':X.w=w)(k:X.K=K)(hu:X.A.units+64<cLine):bA X (compareOp .NotIn) (wG P w K true):=by subst p w' k;exact M1 hu
theorem uY(k:X.K=K):WY X (oq K):=by subst k;exact E5
theorem LS{r:V->List V->Hp->VK->Prop}(k:X.K=K)(h:PE X e (jX X.K T r to)):PE X e (jX K T r to):=by subst k;exact h
theorem IQ(p:X.prog=P)(w':X.w=w)(k:X.K=K):S3 X (.builtin "len") (FO P w K):=by subst p w' k;exact Od
theorem L8(k:X.K=K)(hc:X.calm=true):S3 X (.builtin "sum") (qH K):=by subst k;exact Of hc
theorem Lw(k:X.K=K)(hc:X.calm=true):S3 X (.builtin "max") (rC K):=by subst k;exact Mv hc
theorem NB(k:X.K=K)(hc:X.calm=true):S3 X (.builtin "all") (r_ K):=by subst k;exact N7 hc
theorem Mj(k:X.K=K):S3 X (.builtin "isinstance") (rY K):=by subst k;exact LU
theorem Ny(k:X.K=K):S3 X (.type "list") (λxs H Q=>∃p ys,xs=[.ref p]/\(R8 K H p ys\/S7 K H p ys)/\∀l,H l=none->Q (.ref l) (az H l (.lst ys))):=by subst k;exact Px
theorem Lx(k:X.K=K):S3 X (.type "tuple") (λxs H Q=>∃p ys,xs=[.ref p]/\((R8 K H p ys/\∀l,H l=none->Q (.ref l) (az H l (.tup ys)))\/(S7 K H p ys/\Q (.ref p) H))):=by subst k;exact LC
theorem Oc(k:X.K=K):so X "str.join" (FC K):=by subst k;exact Q3
theorem uW(k:X.K=K)(ha:PE X a ta)(he:∀whole,isTrue a X.env whole=(do let v<-whole;standAt a.pos;holding [v] (truthy v))):
  PT X a (λσ H Q=>ta σ H λx H'=>∃k,dB K x H' k/\Q k H'):=by subst k;exact QJ ha he
theorem Qp(k:X.K=K)(ha:PE X a ta):PE X (.UnaryOp .Not a pos) (λσ H Q=>ta σ H λx H1=>∃k,dB K x H1 k/\Q (.bl (!k)) H1):=by subst k;exact Qw ha
theorem jy(k:X.K=K)(hl:PE X l tl):PI X tg l (iV K tl):=by subst k;exact DL hl
theorem tF{r:V->List V->Hp->VK->Prop}(k:X.K=K)(h:PE X e (sM X.K T r to t)):PE X e (sM K T r to t):=by subst k;exact h
end
section
variable {C : Ct} {E : XK} {ex bs RT : List Addr} {h : Z.MH} {H : Hp} {α β : Type} {R : List Addr -> Hp -> β -> α -> Prop}
theorem RW.Vt{Q:β->Hp->Prop}(p:RW C ex E bs h H R r.Vt Q):RW C ex E0 bs h H R r Q:=by
 cases r with
 | ok a h'=>exact p
 | exc c h'=>exact p.elim
 | stuck=>exact p
theorem om(q:SA C E0 t m):SA C E t (Z.f7 m):=λex bs hh ρ σ H Q hr re p=>q ex bs hh ρ σ H Q hr re p.Vt
def SX(C:Ct)(t:FK->TS)(m:Z.MS):Prop:=
 ∀(ex bs:List Addr) (h:Z.MH) (ρ:Z.Ro) (σ:St) (H:Hp) (D:Ends) (F:FK),HR C ex bs h H->RE C bs (gh ex bs h H) ρ σ->Vo C ex (FE (F σ)) bs h H (m ρ h) D->t F D σ H
def K1(C:Ct)(t:(Addr->Hp->Prop)->TE)(m:Z.ME):Prop:=∀F,SE C (FE F) (t F) m
theorem LA{t:(Addr->Hp->Prop)->TE}(q:K1 C t m):SX C (G4 t) (Z.jc m):=λex bs h ρ σ H D F hr re p=>EJ (q (F σ)) ex bs h ρ σ H D hr re p
theorem Vo.Vt(p:Vo C ex E bs h H r.Vt D):Vo C ex E0 bs h H r D:=by
 cases r with
 | exc c h'=>exact p.elim
 | _=>exact p
theorem pX{t:FK->TS}(q:SX C t m):SX C (nz t (λ_=>AU)) m:=λex bs h ρ σ H D F hr re p=>q ex bs h ρ σ H D F hr re p
def p9(C:Ct)(W:Addr)(tab:List (String×Bool)):Prop:=∀c b,tab.lookup c=⇑b->PySem.W.subIn C.K (.ref (C.cm c)) (.ref W)=⇑b
theorem Pn:p9 C W []:=λ_ _ e=>nomatch e
theorem MV(q:PySem.W.subIn C.K (.ref (C.cm c)) (.ref W)=⇑b)(r:p9 C W tab):p9 C W ((c,b)::tab):=by
 intro x y e;by_cases z:x=c
 ·subst z
  simp at e;subst e;exact q
 ·rw[u4,beq_eq_false_iff_ne.mpr z]at e;exact r x y e
theorem sD:SS C E (uh (C.cm c)) (Z.xE c):=λex bs h ρ σ H D hr re p=>p.elim
theorem OZ{rest:Addr->TS}{r:String->Z.MS}(ht:p9 C W tab)(hm:SS C E0 th m)(hrest:∀c,SS C E (rest (C.cm c)) (r c))(c:String):
  SS C E (Bh C.K W th rest (C.cm c)) (Z.E7 tab m r c):=by
 intro ex bs h ρ σ H D hr re p;unfold Z.E7 at p;cases e:tab.lookup c with
 | none=>rw[e]at p;exact p.elim
 | some b=>
  rw[e]at p;refine⟨b,ht c b e,?_⟩;cases b with
  | false=>exact hrest c ex bs h ρ σ H D hr re p
  | true=>exact hm ex bs h ρ σ H D hr re p.Vt
theorem qN{tb:FK->TS}{th:Addr->TS}{f:String->Z.MS}(hb:SX C tb m)(hh:∀c,SS C E (th (C.cm c)) (f c)):SS C E (ug tb th) (Z.q_ m f):=by
 intro ex bs h ρ σ H D hr re p;refine hb ex bs h ρ σ H D _ hr re ?_;unfold Z.q_ at p;cases e:m ρ h with
 | exc c h1=>rw[e]at p;exact λR0 H' e'=>⟨C.cm c,rfl,hh c ex R0 h1 ρ σ H' D e'.hr (re.ev e') (p.from e')⟩
 | nx ρ1 h1=>rw[e]at p;exact p
 | rt d h1=>rw[e]at p;exact p
 | bk ρ1 h1=>rw[e]at p;exact p
 | ct ρ1 h1=>rw[e]at p;exact p
 | stuck=>rw[e]at p;exact p
theorem OY{K:PySem.W.Frag}{tr:Addr->TS}(k:X.K=K)(q:PH X hs (Bh X.K W th tr)):PH X hs (Bh K W th tr):=by subst k;exact q
end
end L2
namespace L2
open PySem PySem.Spec
section
variable {C : Ct} {ex bs RT Sq : List Addr} {h h1 h2 : Z.MH} {H H1 H2 : Hp} {E : XK}
theorem So.lookup:∀{fs:List (Str×Z.D)} {vs:List (Str×V)},So C bs G vs fs->(∀d,fs.lookup f=⇑d->∃v,vs.lookup f=⇑v/\RV C bs G v d)/\(fs.lookup f=none->vs.lookup f=none)
  | [],[],_=>⟨λd e=>by simp at e,λ_=>rfl⟩
  | (y,d)::ds,(x,v)::vs,r=>by
    simp only[So]at r;obtain⟨rfl,r1,r2⟩:=r;have ih:=So.lookup (f:=f) r2;by_cases q:(f==x)=true
    · simp only[List.lookup,q]
      exact⟨λd' e=>by cases e;exact⟨v,rfl,r1⟩,λe=>by cases e⟩
    · have q':(f==x)=false:=by simpa using q
      simp only[List.lookup,q'];exact ih
  | [],_::_,r=>by simp only[So]at r
  | _::_,[],r=>by simp only[So]at r
theorem So.put(rv:RV C bs G v d):∀{fs:List (Str×Z.D)} {vs:List (Str×V)},So C bs G vs fs->So C bs G (aI f v vs) (Z.aI f d fs)
  | [],[],_=>by simp only[aI,Z.aI,So];exact⟨trivial,rv,trivial⟩
  | (y,e)::ds,(x,u)::vs,r=>by
    simp only[So]at r;obtain⟨rfl,r1,r2⟩:=r;simp only[aI,Z.aI];by_cases q:x=f
    · rw[if_pos q,if_pos q];simp only[So];exact⟨trivial,rv,r2⟩
    · rw[if_neg q,if_neg q];simp only[So];exact⟨trivial,r1,So.put rv r2⟩
  | [],_::_,r=>by simp only[So]at r
  | _::_,[],r=>by simp only[So]at r
theorem So.len:∀{fs:List (Str×Z.D)} {vs:List (Str×V)},So C bs G vs fs->vs.length=fs.length
  | [],[],_=>rfl
  | (y,d)::ds,(x,v)::vs,r=>by simp only[So]at r;simp[So.len r.2.2]
  | [],_::_,r=>by simp only[So]at r
  | _::_,[],r=>by simp only[So]at r
theorem HS(hr:HR C ex bs h H)(rx:RV C bs (gh ex bs h H) x d)(e:Z.rh h d=⇑(c,fs)):
  ∃a dx Uz,x=.ref a/\H a=⇑(.ins (C.cm c) dx Uz)/\So C bs (gh ex bs h H) Uz fs:=by
 cases d with
 | obj c' fs'=>
  simp only[Z.rh,Option.some.injEq,Prod.mk.injEq]at e;obtain⟨rfl,rfl⟩:=e;simp only[RV]at rx;obtain⟨a,dx,Uz,h1,h2,h3⟩:=rx;exact⟨a,dx,Uz,h1,bq _ _ h2,h3⟩
 | ref k=>
  simp only[RV]at rx;obtain⟨a,rfl,hk⟩:=rx;simp only[Z.rh]at e;split at e
  ·rename_i c' fs' hc
   simp only[Option.some.injEq,Prod.mk.injEq]at e;obtain⟨rfl,rfl⟩:=e;obtain⟨dx,Uz,h1,h2⟩:=hr.cell k a _ hk hc;exact⟨a,dx,Uz,rfl,h1,h2⟩
  ·cases e
 | _=>simp[Z.rh]at e
def di(C:Ct)(f:Str)(tab:List String):Prop:=∀c∈tab,V1 C.K (C.cm c)/\TL C.K (C.cm c) f
theorem iG:di C f []:=λc m=>by simp at m
theorem P2(a:V1 C.K (C.cm c))(b:TL C.K (C.cm c) f)(r:di C f tab):di C f (c::tab):=λc' m=>by
 rcases qg.mp m with rfl|m
 ·exact⟨a,b⟩
 ·exact r c' m
theorem EW(ok:di C f tab)(ht:SE C E t m):SE C E (jH C.K t f) (Z.ao tab f m):=by
 intro ex bs h ρ σ H Q hr re p;refine ht ex bs h ρ σ H _ hr re (p.bind λd x h1 RT H1 e1 rx p1=> ?_);obtain⟨⟨c,fs⟩,eo,p1⟩:=p1.oR;obtain⟨hc,p1⟩:=p1.R7;obtain⟨v,el,p1⟩:=p1.oR1;obtain⟨a,dx,Uz,rfl,ha,rf⟩:=HS e1.hr rx eo;obtain⟨u,hu,ru⟩:=rf.lookup.1 v el;exact⟨a,_,dx,Uz,u,rfl,ha,(ok c hc).1,(ok c hc).2,hu,RW.now e1.hr p1 ru⟩
theorem nC(ok:di C f tab)(ho:SE C E to mo)(he:SE C E te me):SS C E (j0 C.K to te f) (Z.c8 tab f mo me):=by
 intro ex bs h ρ σ H D hr re p;refine he ex bs h ρ σ H _ hr re (p.bind λd v h0 bs0 H0 e0 rv p0=> ?_);refine ho ex bs0 h0 ρ σ H0 _ e0.hr (re.ev e0) (p0.bind λo x h1 RT H1 e1 rx p1=> ?_);cases o with
 | ref k=>
  simp only[RV]at rx;obtain⟨a,rfl,hk⟩:=rx;dsimp only at p1;split at p1
  ·rename_i c fs hc
   split at p1
   case isFalse=>exact p1.elim
   rename_i q;obtain⟨dx,Uz,ha,rf⟩:=e1.hr.cell k a _ hk hc;refine⟨a,_,dx,Uz,rfl,ha,(ok c q.1).1,(ok c q.1).2,by rw[rf.len];exact q.2,?_⟩;have e2:=Ev.put (o:=.ins (C.cm c) dx (aI f v Uz)) (c:=.ins c (Z.aI f d fs)) e1.hr hk hc ⟨dx,_,b7,So.put (rv.ev e1) rf⟩;exact p1 σ RT _ e2 ((re.ev e0).ev (e1.trans e2))
  ·exact p1.elim
 | _=>exact p1.elim
def TB(C:Ct)(mg:Str->Option Value)(base:Heap)(k:Nat)(m:Str)(tab:List (String×Z.MF)):Prop:=
 ∀c z,tab.lookup c=⇑z->V1 C.K (C.cm c)/\mz C.P C.w C.K mg base (CXE C.P C.w) k (C.cm c) m (fD C z)
theorem cO{mg:Str->Option Value}:TB C mg base k m []:=λc z e=>by simp at e
theorem Ni{mg:Str->Option Value}(a:V1 C.K (C.cm c))(b:Meth C.K (C.cm c) m f)(F:Si C.P C.w C.K mg base (CXE C.P C.w) j f fd ps (fD C z))(hj:j<=k)(B:VW C.K fd ps [])(r:TB C mg base k m tab):
  TB C mg base k m ((c,z)::tab):=λc' z' e=>by
 by_cases q:(c'==c)=true
 ·simp only[List.lookup,q]at e
  cases e
  have:c'=c:=by simpa using q
  subst this;exact⟨a,f,fd,ps,b,F.mono hj,B⟩
 ·have q':(c'==c)=false:=by simpa using q
  simp only[List.lookup,q']at e;exact r c' z' e
theorem Ho{mg:Str->Option Value}(ok:TB C mg base k f tab)(ho:SE C E to m)(hl:SA C E ta l):
  SE C E (kR C.P C.w C.K mg base (CXE C.P C.w) k f E to ta) (Z.aw tab f m l):=by
 intro ex bs h ρ σ H Q hr re p;refine ho ex bs h ρ σ H _ hr re (p.bind λd x h1 RT H1 e1 rx p1=> ?_);obtain⟨⟨c,fs⟩,eo,p1⟩:=p1.oR;obtain⟨z,ez,p1⟩:=p1.oR;obtain⟨hn,p1⟩:=p1.R7;obtain⟨a,dx,Uz,rfl,ha,rf⟩:=HS e1.hr rx eo;obtain⟨k1,k2⟩:=ok c z ez;refine⟨a,_,dx,Uz,_,rfl,ha,k1,k2,rf.lookup.2 hn,?_⟩;refine hl ex RT h1 ρ σ H1 _ e1.hr (re.ev e1) (p1.bind λds xs h2 Sq H2 e2 rxs p2=> ?_);exact⟨ex,Sq,h2,d::ds,e2.hr,by simp only[RQ];exact⟨rx.ev e2,rxs⟩,p2⟩
theorem Ev.XY(hr:HR C ex bs h H)(hk:bs[k]?=⇑a)(h0:h[k]?=⇑⇑(.ins c fs)):
  Ev C ex bs h H bs (h.set k none) H/\RV C bs (gh ex bs (h.set k none) H) (.ref a) (.obj c fs):=by
 have ab:a∈bs:=qm hk;have WE:∀x,lv bs (h.set k none) x->lv bs h x/\x≠a:=λx ⟨j,c',e1,e2,l2⟩=>by
  by_cases hj:k=j
  ·subst hj;rw[qj (q9.mp h0).1]at e2;cases e2
  ·rw[qh hj]at e2
   exact⟨⟨j,c',e1,e2,l2⟩,λz=>hj (hr.inj k j a hk (by rw[<-z];exact e1))⟩
 have sm:R4 (gh ex bs h H) (gh ex bs (h.set k none) H):=λx u e=>by
  obtain⟨h1,h2,h3⟩:=cz.mp e;exact cz.mpr ⟨h1,λl=>h2 (WE x l).1,h3⟩
 obtain⟨dx,vs,h1,h2⟩:=hr.cell k a _ hk h0;refine⟨⟨λ_ _ e=>e,⟨by simp[hr.len],hr.inj,hr.sep,hr.Uo,hr.Sk,λj x c' e1 e2=> ?_⟩,sm,λ_ _=>rfl⟩,?_⟩
 ·by_cases hj:k=j
  ·subst hj;rw[qj (q9.mp h0).1]at e2;cases e2
  ·rw[qh hj]at e2
   exact(hr.cell j x c' e1 e2).mono (λ_ _ e=>e) sm rfl
 ·simp only[RV]
  exact⟨a,dx,vs,rfl,cz.mpr ⟨λm=>hr.sep a m ab,λl=>(WE a l).2 rfl,h1⟩,h2.mono (λ_ _ e=>e) sm⟩
theorem Ev.born(hr:HR C ex bs h H)(hx:H x=none)(hd:H dx=none)(ne:dx≠x):
  Ev C ex bs h H (bs++[x]) (h++[⇑(.ins c [])]) (az (az H dx (.own x)) x (.ins (C.cm c) dx [])):=by
 obtain⟨e1,_⟩:=Ev.alloc (o:=.own x) hr hd;exact e1.trans (Ev.cell e1.hr (by rw[aE (Ne.symm ne)];exact hx) ⟨dx,[],b7,by simp only[So]⟩)
theorem Gw(ea:C.cm c=a)(hl:SA C E tl ml):SE C E (tR a (fD C z) [] E tl) (Z.dP c z ml):=by
 intro ex bs h ρ σ H Q hr re p;refine hl ex bs h ρ σ H _ hr re (p.bind λds xs h1 RT H1 e1 rx p1=> ?_);intro x dx hx hd ne;rw[<-ea];have e2:=Ev.born (c:=c) e1.hr hx hd ne;have kx:(RT++[x])[h1.length]?=⇑x:=by rw[<-e1.hr.len];simp
 refine⟨ex,RT++[x],h1++[⇑(.ins c [])],.ref h1.length::ds,e2.hr,?_,?_⟩
 ·simp only[RQ,RV]
  exact⟨⟨x,rfl,kx⟩,by rw[zm];exact rx.ev e2⟩
 ·refine(p1.from e2).bind (R1:=RV C) λd v h2 Sq H2 e3 rv p3=> ?_
  cases d with
  | RY=>
   simp only[RV]at rv;refine⟨rv,?_⟩;dsimp only at p3;split at p3
   ·rename_i c' fs hc
    obtain⟨e4,r4⟩:=Ev.XY e3.hr (e3.pre _ _ kx) hc;exact p3 (.ref x) Sq H2 e4 r4
   ·exact p3.elim
  | _=>exact p3.elim
theorem PY(ea:C.cm c=a)(hl:SA C E tl ml):SE C E (tR a (fD C z) [] E tl) (Z.pG c z ml):=by
 intro ex bs h ρ σ H Q hr re p;refine hl ex bs h ρ σ H _ hr re (p.bind λds xs h1 RT H1 e1 rx p1=> ?_);intro x dx hx hd ne;rw[<-ea];have e2:=Ev.born (c:=c) e1.hr hx hd ne;have kx:(RT++[x])[h1.length]?=⇑x:=by rw[<-e1.hr.len];simp
 refine⟨ex,RT++[x],h1++[⇑(.ins c [])],.ref h1.length::ds,e2.hr,?_,?_⟩
 ·simp only[RQ,RV]
  exact⟨⟨x,rfl,kx⟩,by rw[zm];exact rx.ev e2⟩
 ·refine(p1.from e2).bind (R1:=RV C) λd v h2 Sq H2 e3 rv p3=> ?_
  cases d with
  | RY=>
   simp only[RV]at rv;exact⟨rv,RW.now e3.hr p3 (by simp only[RV];exact⟨x,rfl,e3.pre _ _ kx⟩)⟩
  | _=>exact p3.elim
theorem Ab{mg:Str->Option Value}:Si P w K mg base CX k f fd ps (fD C (λ_ _=>.stuck)):=
 ⟨λvs H Q E ⟨_,_,_,_,_,_,p⟩=>p.elim,λA outer s H args us vs Q E _ _ _ _ ⟨_,_,_,_,_,_,p⟩=>p.elim⟩
theorem NJ(ds:List Z.D)(i:Nat):(Z.g_ ds)[i]?=(ds[i]?).map λd=>Z.D.tup [.int i,d]:=by
 unfold Z.g_;rw[List.getElem?_mapIdx]
theorem TY.enum(hq:R8 C.K G a vs)(r:RQ C bs G vs ds):TY C bs G (F6 C.K a) (none,Z.g_ ds):=by
 intro Xd Sq h2 H2 hr pre sm _ i;have UB:R8 C.K H2 a vs:=(sm.trans bq).W6 hq;refine⟨λd e=> ?_,λhle=>⟨vs,UB,by rw[r.len];simpa [Z.g_]using hle⟩⟩;rw[NJ]at e;cases e2:ds[i]? with
 | none=>rw[e2]at e;cases e
 | some d0=>
  rw[e2]at e;simp only[g9,Option.some.injEq]at e;subst e;obtain⟨v,hv,rv⟩:=r.get e2;refine⟨⟨vs,v,UB,hv⟩,λx H3 y=> ?_⟩;obtain⟨p,x',hp,hx',rfl,rfl⟩:=y;have:=hx' vs UB;rw[hv]at this;cases this;obtain⟨e3,g⟩:=Ev.alloc (o:=.tup [.int i,v]) hr hp;refine⟨e3,?_⟩;simp only[RV,RQ];exact⟨p,_,rfl,g,by simp only[RQ,RV];exact⟨trivial,(rv.mono pre sm).ev e3,trivial⟩⟩
theorem RQ.only(r:RQ C bs G xs [d]):∃x,xs=[x]/\RV C bs G x d:=by
 cases xs with
 | nil=>simp only[RQ]at r
 | cons x xs=>
  simp only[RQ]at r;cases xs with
  | nil=>exact⟨x,rfl,r.1⟩
  | cons y ys=>exact absurd r.2 (by simp only[RQ];exact id)
theorem N3(ht:SA C E t m):SI C E (Bc C.K t) (Z.mV m):=by
 intro ex bs h ρ σ H Q hr re p;refine ht ex bs h ρ σ H _ hr re (p.bind λds xs h1 RT H1 e1 rx p1=> ?_);split at p1
 ·obtain⟨x,rfl,ry⟩:=rx.only
  simp only[RV]at ry;obtain⟨a,vs,rfl,ga,rs⟩:=ry;exact⟨a,vs,rfl,R8.of (bq _ _ ga),RW.now e1.hr p1 (.enum (R8.of ga) rs)⟩
 ·rename_i ns
  obtain⟨x,rfl,ry⟩:=rx.only;simp only[RV]at ry;obtain⟨a,rfl,ga⟩:=ry;refine⟨a,_,rfl,bq.W6 ga,RW.now e1.hr p1 (.enum ga ?_)⟩;clear ga p1 p rx
  induction ns with
  | nil=>simp only[zo,RQ]
  | cons n ns ih=>simp only[List.map_cons,RQ,RV];exact⟨trivial,ih⟩
 ·exact p1.elim
end
section
variable {C : Ct} {ex bs RT Sq : List Addr} {h h1 h2 : Z.MH} {H H1 H2 : Hp} {E : XK}
theorem RQ.rev:∀{ds:List Z.D} {vs:List V},RQ C bs G vs ds->RQ C bs G vs.reverse ds.reverse
 | [],[],_=>by simp only[List.reverse_nil,RQ]
 | d::ds,v::vs,h=>by
  simp only[RQ]at h;rw[List.reverse_cons,List.reverse_cons];exact(RQ.rev h.2).append (.one h.1)
 | [],_::_,h=>by simp only[RQ]at h
 | _::_,[],h=>by simp only[RQ]at h
theorem Mc(hl:SA C E tl ml):SN C E (Ck C.K tl) (Z.AN ml):=by
 intro ex bs h ρ σ H Q hr re p;refine hl ex bs h ρ σ H _ hr re (T3.bind p λds xs h1 RT H1 e1 rx p1=> ?_);split at p1
 ·obtain⟨v,rfl,r⟩:=d_ rx
  rename_i d;cases e:Z.eB h1 d with
  | none=>rw[e]at p1;exact p1.elim
  | some ys=>
   rw[e]at p1;obtain⟨a,vs,rfl,hq,qs⟩:=nR e1.hr r e;exact⟨a,vs,rfl,R8.of hq,λl hl=>T3.now e1.hr p1 hl qs.rev⟩
 ·exact p1.elim
theorem C8:∀(ns:List Int),RQ C bs G (ns.map V.int) (ns.map Z.D.int)
 | []=>by simp only[zo,RQ]
 | n::r=>by simp only[List.map_cons,RQ];exact⟨by simp only[RV],C8 r⟩
theorem K6{G:Hp}:∀{kvs:List (Sum Int Str×Z.D)} {Sy:List (aW×V)} {ns:List Int},R9 C bs G Sy kvs->Z.mG kvs=⇑ns->Sy.map (·.1)=ns.map Sum.inl
  | [],[],ns,_,e=>by simp only[Z.mG]at e;cases e;rfl
  | (k,d)::kvs,(x,v)::Sy,ns,h,e=>by
    simp only[R9]at h;cases k with
    | inl i=>
      simp only[Z.mG]at e;obtain⟨ms,e1,e2⟩:=qi.mp e;subst e2;rw[List.map_cons,List.map_cons,h.1,K6 h.2.2 e1]
    | inr x=>simp only[Z.mG]at e;cases e
  | [],_::_,_,h,_=>by simp only[R9]at h
  | _::_,[],_,h,_=>by simp only[R9]at h
theorem Po(hr:HR C ex bs h H)(r:RV C bs (gh ex bs h H) v d)(e:Z.uH h d=⇑ns):∃a,v=.ref a/\Jd H a ns:=by
 cases d with
 | ref k=>
  simp only[Z.uH]at e;split at e
  ·rename_i kvs hc
   simp only[RV]at r;obtain⟨a,rfl,hk⟩:=r;obtain⟨Sy,ha,rk⟩:=hr.cell k a _ hk hc;exact⟨a,rfl,Sy,ha,K6 rk e⟩
  ·cases e
 | _=>cases e
theorem HF(h:Fm ns ms):ms=Z.TR ns:=by
 have h1:(Z.TR ns).Perm ns:=List.mergeSort_perm ns _;have h2:(Z.TR ns).Pairwise (·<=·):=by
  have:=List.pairwise_mergeSort (le:=λ(a b:Int)=>decide (a<=b)) (λa b c x y=>decide_eq_true (Int.le_trans (of_decide_eq_true x) (of_decide_eq_true y))) (λa b=>by simp;omega) ns;exact this.imp λx=>of_decide_eq_true x
 exact List.Perm.eq_of_pairwise (le:=(·<=·)) (λa b _ _ x y=>Int.le_antisymm x y) h.2 h2 (h.1.trans h1.symm)
theorem Jn(hl:SA C E tl ml):SN C E (vN (Ec C.K) tl) (Z.mK ml):=by
 intro ex bs h ρ σ H Q hr re p;refine hl ex bs h ρ σ H _ hr re (T3.bind p λds xs h1 RT H1 e1 rx p1=> ?_);split at p1
 ·obtain⟨v,rfl,r⟩:=d_ rx
  rename_i d;cases e:Z.fQ h1 d with
  | some ns=>
   rw[e]at p1;obtain⟨q,p1⟩:=p1.R7;obtain⟨a,rfl,hq⟩:=KD e1.hr r e;refine .inl ⟨a,ns,rfl,hq,q,λl ms hs hl=> ?_⟩;rw[HF hs];exact T3.now e1.hr p1 hl (C8 _)
  | none=>
   rw[e]at p1;cases e':Z.uH h1 d with
   | none=>rw[e']at p1;exact p1.elim
   | some ns=>
    rw[e']at p1;obtain⟨q,p1⟩:=T3.R7 (show T3 C ex E RT h1 H1 (Z.R7 (ns.length<=100000) _) Q from p1);obtain⟨a,rfl,hq⟩:=Po e1.hr r e';refine .inr ⟨a,ns,rfl,hq,q,λl ms hs hl=> ?_⟩;rw[HF hs];exact T3.now e1.hr p1 hl (C8 _)
 ·exact p1.elim
theorem rn(ho:SE C E to mo):SE C E (jX C.K "int" nr to) (Z.mZ mo):=by
 intro ex bs h ρ σ H Q hr re p;refine ho ex bs h ρ σ H _ hr re (p.bind λd x h1 RT H1 e1 rx p1=> ?_);cases d with
 | int i=>
  simp only[RV]at rx;subst rx;exact⟨rfl,i,rfl,rfl,RW.now e1.hr p1 (by simp only[RV])⟩
 | _=>exact p1.elim
theorem HR.more(hr:HR C ex bs h H)(hp:H p=none):HR C (p::ex) bs h (az H p o)/\gh (p::ex) bs h (az H p o)=gh ex bs h H:=by
 have nx:p∉ex:=λm=>hr.Sk p m hp;have nb:p∉bs:=λm=>hr.Uo p m hp;have ne:∀{a},H a≠none->a≠p:=fun{a} q e=>q (by rw[e];exact hp);have ge:gh (p::ex) bs h (az H p o)=gh ex bs h H:=by
  funext x;unfold gh;by_cases q:x=p
  ·subst q
   rw[if_pos (.inl (qa ..))];by_cases q2:x∈ex\/lv bs h x
   ·rw[if_pos q2]
   ·rw[if_neg q2,hp]
  ·by_cases q2:x∈ex\/lv bs h x
   ·rw[if_pos q2,if_pos (q2.imp (q8 _) id)]
   ·rw[if_neg q2,if_neg,aE q]
    rintro(z|z)
    ·rcases qg.mp z with z|z
     ·exact q z
     ·exact q2 (.inl z)
    ·exact q2 (.inr z)
 refine⟨⟨hr.len,hr.inj,λa m=> ?_,λa m=> ?_,λa m=> ?_,λk a c e1 e2=> ?_⟩,ge⟩
 ·rcases qg.mp m with rfl|m
  ·exact nb
  ·exact hr.sep a m
 ·rw[aE (ne (hr.Uo a m))];exact hr.Uo a m
 ·rcases qg.mp m with rfl|m
  ·rw[b7];exact λz=>nomatch z
  ·rw[aE (ne (hr.Sk a m))];exact hr.Sk a m
 ·rw[ge]
  exact(hr.cell k a c e1 e2).mono (λ_ _ e=>e) (R4.refl _) (by rw[aE (ne (hr.Uo a (qm e1)))])
theorem Ev.less(hr:HR C ex bs h H)(hp:H p=none)(e:Ev C (p::ex) bs h (az H p o) RT h1 H1):Ev C ex bs h H RT h1 H1:=by
 have ne:∀{a},H a≠none->a≠p:=fun{a} q e=>q (by rw[e];exact hp);have nl:∀a,a∈p::ex->a∉RT:=e.hr.sep;have sm:R4 (gh (p::ex) RT h1 H1) (gh ex RT h1 H1):=λa u q=>by
  obtain⟨q1,q2,q3⟩:=cz.mp q;exact cz.mpr ⟨λm=>q1 (q8 _ m),q2,q3⟩
 refine⟨e.pre,⟨e.hr.len,e.hr.inj,λa m=>e.hr.sep a (q8 _ m),e.hr.Uo,λa m=>e.hr.Sk a (q8 _ m),λk a c e1 e2=> ?_⟩,?_,λa m=> ?_⟩
 ·exact(e.hr.cell k a c e1 e2).mono (λ_ _ e=>e) sm rfl
 ·have:=e.same
  rw[(HR.more (o:=o) hr hp).2]at this;exact this.trans sm
 ·rw[e.We a (q8 _ m),aE (ne (hr.Sk a m))]
noncomputable def wo(H:Hp)(p:Addr):Hp:=λa=>if a=p then none else H a
theorem tf(h:a≠p):wo H p a=H a:=by unfold wo;rw[if_neg h]
theorem Ia:wo H p p=none:=by unfold wo;rw[if_pos rfl]
theorem rp:az (wo H p) p o=az H p o:=by
 funext a;by_cases q:a=p
 ·subst q;rw[b7,b7]
 ·rw[aE q,aE q,tf q]
theorem Ev.wo(hr:HR C ex bs h H)(hp:H p=none)(e:Ev C (p::ex) bs h (az H p o) RT h1 H1):Ev C ex bs h H RT h1 (wo H1 p)/\gh ex RT h1 (L2.wo H1 p)=gh (p::ex) RT h1 H1:=by
 have ne:∀{a},H a≠none->a≠p:=fun{a} q e=>q (by rw[e];exact hp);have nb:p∉RT:=e.hr.sep p (qa ..);have ge:gh ex RT h1 (L2.wo H1 p)=gh (p::ex) RT h1 H1:=by
  funext x;unfold gh;by_cases q:x=p
  ·subst q
   rw[if_pos (show x∈x::ex\/_ from .inl (qa ..)),Ia];split<;>rfl
  ·by_cases q2:x∈ex\/lv RT h1 x
   ·rw[if_pos q2,if_pos (q2.imp (q8 _) id)]
   ·rw[if_neg q2,if_neg,tf q]
    rintro(z|z)
    ·rcases qg.mp z with z|z
     ·exact q z
     ·exact q2 (.inl z)
    ·exact q2 (.inr z)
 refine⟨⟨e.pre,⟨e.hr.len,e.hr.inj,λa m=>e.hr.sep a (q8 _ m),λa m=> ?_,λa m=> ?_,λk a c e1 e2=> ?_⟩,?_,λa m=> ?_⟩,ge⟩
 ·rw[tf (λz=>nb (by rw[<-z];exact m))];exact e.hr.Uo a m
 ·rw[tf (ne (hr.Sk a m))];exact e.hr.Sk a (q8 _ m)
 ·rw[ge]
  exact(e.hr.cell k a c e1 e2).mono (λ_ _ e=>e) (R4.refl _) (by rw[tf (λz=>nb (by rw[<-z];exact qm e1))])
 ·rw[ge]
  have:=e.same;rw[(HR.more (o:=o) hr hp).2]at this;exact this
 ·rw[tf (ne (hr.Sk a m)),e.We a (q8 _ m),aE (ne (hr.Sk a m))]
theorem Nl(hk:SE C E tk mk)(hv:SE C E tv mv):SE C E (mT [(tk,tv)]) (Z.yr mk mv):=by
 intro ex bs h ρ σ H Q hr re p;intro a ha;obtain⟨hr0,ge⟩:=HR.more (o:=.dK []) hr ha;unfold Z.yr at p;refine hk (a::ex) bs h ρ σ _ _ hr0 (by rw[ge];exact re) ?_;cases e1:mk ρ h with
 | stuck=>rw[e1]at p;exact p
 | exc c h1=>rw[e1]at p;exact λRT H1 ev=>p RT H1 (ev.less hr ha)
 | ok x h1=>
  rw[e1]at p;intro vx RT H1 ev1 rx;have p:RW C ex E bs h H (RV C) ((mv ρ h1).bind λy h2=>match Z.iQ x with|some k=>.ok (.ref h2.length) (h2++[⇑(.Sl [(k,y)])])|none=>.stuck) Q:=p;refine hv (a::ex) RT h1 ρ σ H1 _ ev1.hr ((show RE C bs (gh (a::ex) bs h (az H a (.dK []))) ρ σ by rw[ge];exact re).ev ev1) ?_;cases e2:mv ρ h1 with
  | stuck=>rw[e2]at p;exact p
  | exc c h2=>rw[e2]at p;exact λSq H2 ev=>p Sq H2 ((ev1.trans ev).less hr ha)
  | ok y h2=>
   rw[e2]at p;intro vy Sq H2 Z9 ry;have ev:=ev1.trans Z9;refine⟨by rw[ev.We a (qa ..),b7],?_⟩;have p:RW C ex E bs h H (RV C) (match Z.iQ x with|some k=>.ok (.ref h2.length) (h2++[⇑(.Sl [(k,y)])])|none=>.stuck) Q:=p;cases e3:Z.iQ x with
   | none=>rw[e3]at p;exact p.elim
   | some k=>
    rw[e3]at p;have ek:=BH (rx.ev Z9) e3;subst ek;refine⟨[(k,vy)],rfl,gj rfl,?_⟩;obtain⟨evw,gw⟩:=Ev.wo hr ha ev;have evc:=Ev.cell (p:=a) (o:=.dK [(k,vy)]) (c:=.Sl [(k,y)]) evw.hr Ia ⟨[(k,vy)],b7,by simp only[R9];rw[gw];exact⟨trivial,ry,trivial⟩⟩;rw[rp]at evc;exact p (.ref a) (Sq++[a]) _ (evw.trans evc) (by simp only[RV];exact⟨a,rfl,by rw[<-ev.hr.len];simp⟩)
end
section
variable {X : Cx} {K : W.Frag}
theorem oZ(k:X.K=K)(h:PE X e (Ck X.K ta)):PE X e (Ck K ta):=by subst k;exact h
theorem Ib(k:X.K=K)(hc:X.calm=true):S3 X (.builtin "sorted") (Ec K):=by subst k;exact Q0 hc
end
end L2
namespace L2
open PySem PySem.Spec PyProof.Rows
structure Ta (K:W.Frag) (x q:Str) (st:Stmt) (f:Addr) (fd:FuncData) (ps:List Str):Prop where
 F:XM K x q st f fd
 B:VW K fd ps []
structure FnT (K:W.Frag) (mg:Str->Option Value) (x q:Str) (st:Stmt) (f:Addr) (fd:FuncData) (ps:List Str):Prop where
 F:XM K x q st f fd
 B:VW K fd ps []
 m:mg x=⇑(.ref f)
structure TZ (K:W.Frag) (mg:Str->Option Value) (x:Str) (c:Addr):Prop where
 cl:V1 K c
 mc:mg x=⇑(.ref c)
 ms:W.makesIn K c=true
 kc:W.keepIn K (.ref c)=true
section
variable {K : W.Frag} {h : Heap} {mg : Str -> Option Value} {x q : Str} {st : Stmt} {f c : Addr} {oc : Value} {od an : Option Addr} {Yd : Array (Option Value)} {kV doc pm Sz ct : Value} {ps : List Str}
theorem Fo{P:List Value->Prop}(h:P []):∀us:List Value,us.length=([]:List Str).length->P us
 | [],_=>h
theorem D8{P:List Value->Prop}{x:Str}{ps:List Str}(h:∀a,∀us:List Value,us.length=ps.length->P (a::us)):∀us:List Value,us.length=(x::ps).length->P us
 | a::us,e=>h a us (Nat.succ.inj e)
theorem fnm(l:K.lookup f=⇑⟨oc,od,.func (W.fnOf x q (jF st) (fT st) (cu st) .none kV doc pm an Sz ct),Yd⟩)
  (c:W.codeIn K Sz q=true) (k:W.keepIn K (.ref f)=true)
  (b:∀(kV doc pm:Value) (an:Option Addr) (Sz ct:Value) (us:List Value),us.length=ps.length->bindArgs (W.fnOf x q (jF st) (fT st) (cu st) .none kV doc pm an Sz ct) ⟨us,[]⟩=pure (ps.zip us):=by intro _ _ _ _ _ _;repeat (first|exact Fo rfl|refine D8 λ_=> ?_)):
  Ta K x q st f (W.fnOf x q (jF st) (fT st) (cu st) .none kV doc pm an Sz ct) ps:=⟨Jw l c k,(Jw l c k).binds b⟩
theorem fnt(X:K.In h)(G:h.Ns mainGlobals mg)(a:W.nsIn K mainGlobals x=⇑⇑(.ref f))(M:Ta K x q st f (W.fnOf x q (jF st) (fT st) (cu st) .none kV doc pm an Sz ct) ps):
  FnT K mg x q st f (W.fnOf x q (jF st) (fT st) (cu st) .none kV doc pm an Sz ct) ps:=⟨M.F,M.B,W.mg_of X G a⟩
theorem clm(X:K.In h)(G:h.Ns mainGlobals mg)(a:W.nsIn K mainGlobals x=⇑⇑(.ref c))(pg:W.plainGet K c Str.empty=true)(hd:W.hasDictIn K c=true)(po:W.plainOver K c=true)
  (sa:W.findIn K (.ref c) "__setattr__"=⇑⇑(.builtin "object.__setattr__")) (mk:W.makesIn K c=true) (kc:W.keepIn K (.ref c)=true):TZ K mg x c:=⟨⟨pg,hd,po,sa⟩,W.mg_of X G a,mk,kc⟩
theorem naOf(h:W.findIn K (.ref c) a=⇑none):TL K c a:=h
theorem TZ.k(C:TZ K mg x c):GV mg x (.ref c):=⟨_,C.mc,rfl⟩
theorem TZ.mkk(C:TZ K mg x c)(M:Meth K c "__init__" f):Mk K c f:=⟨C.ms,M.at_,M.fn,C.kc⟩
end
theorem bM{K:W.Frag}{mg:Str->Option Value}{st:Stmt}(H:FnT K mg x q st f fd ps)(o:Si P w K mg base CX k f fd ps sp):FnG P w K mg base CX k x sp:=⟨f,fd,ps,o,H.m,H.F.kp,H.B⟩
theorem gT{K:W.Frag}{mg:Str->Option Value}{st:Stmt}(C:TZ K mg x c)(M:Meth K c "__init__" f)(H:Ta K y q st f fd ps)(o:Si P w K mg base CX k f fd ps sp):jw0 P w K mg base CX k x c sp:=⟨f,fd,ps,C.mkk M,o,C.mc,H.B⟩
theorem eg{N P:List Str}{sc:Scope}(a:sc.kind=.function:=by rfl)(b:sc.isCoroutine=false:=by rfl)(c:sc.isGenerator=false:=by rfl)(d:N.Nodup:=by decide+kernel)(e:N.take P.length=P:=by rfl)
  (f:∀x∈P,sc.names.lookup x=⇑.local\/sc.names.lookup x=⇑.cell:=by decide+kernel) (g:∀y∈sc.names,y.2≠ .free:=by decide+kernel):Sg N P sc:=⟨a,b,c,d,e,f,g⟩
theorem eh{C:Ct}{P:Program}{w:World}{K:W.Frag}{mg:Str->Option Value}{base:Heap}{x qual:Str}{st:Stmt}{f:Addr}{fd:FuncData}{N ps:List Str}{k np nn:Nat}{b:Z.MS}{z:Z.MF}(F:XM K x qual st f fd)(S:Sg N ps (cu st))
  (hb:∀(Sz:Value) (A:Around) (outer:List Env) (s:Shared) (H:Hp) (E:XK),Sf k (A.deeper (envOfC qual (cu st) s.heap.objs.size f Sz))->
   ∃t,VP (aL (CXE P w) P w K mg base N qual (cu st) f Sz A outer s H E) (fT st) t/\SS C E t b)
  (hz:z=Z.aq np nn b:=by rfl) (hp:ps.length=np:=by rfl) (hn:N.length=nn:=by rfl) (hle:np<=nn:=by decide):Si P w K mg base (CXE P w) (k+1) f fd ps (fD C z):=
 PB F S hz hp hn hle hb
theorem hm{j k:Nat}{A:Around}(r:Sf k A)(h:j<=k:=by decide):Sf j A:=r.mono h
theorem lJ(P:Program)(w:World)(K:W.Frag){X:Cx}{a b:Expr}{ta tb:TE}{pos:Pos}(hu:X.A.units+64<cLine)(ha:PE X a ta)(hb:PE X b tb)(hs:HQ b:=by exact λ_ _=>rfl)(p:X.prog=P:=by rfl)(w':X.w=w:=by rfl)(k:X.K=K:=by rfl):PE X (.Subscript a b pos) (oa (vO P w K) ta tb):=Ai (FI p w' k hu) ha hb hs
section
variable {C : Ct} {ex bs RT Sq : List Addr} {h h1 h2 : Z.MH} {H H1 H2 : Hp} {E : XK}
theorem Ma{mg:Str->Option Value}(ok:TB C mg base k f tab)(ho:∀F,SE C (FE F) to m)(hl:SA C E0 ta l):
  K1 C (B8 C.P C.w C.K mg base k f to ta) (Z.aw tab f m (Z.f7 l)):=λF=>Ho ok (ho F) (om hl)
def X5(G G':Hp):Prop:=∀x u,G x=⇑u->(∃o kw,u=.SY o (.dK kw)/\o.cls=.type "dict")\/G' x=⇑u
def xX(a:Addr)(G G':Hp):Prop:=X5 G G'/\∀x u,x≠a->G x=⇑u->G' x=⇑u
theorem X5.W6{K:W.Frag}(e:X5 G G')(h:R8 K G a xs):R8 K G' a xs:=by
 rcases h with(h|⟨o,h⟩)|h
 ·rcases e _ _ h with⟨_,_,z,_⟩|z
  ·cases z
  ·exact .inl (.inl z)
 ·rcases e _ _ h with⟨_,_,z,_⟩|z
  ·cases z
  ·exact .inl (.inr ⟨o,z⟩)
 ·exact .inr h
mutual
theorem RV.UY{G G':Hp}(hs:X5 G G'):∀{d:Z.D} {v:V},RV C bs G v d->RV C bs G' v d
 | .RY,v,h=>by simp only[RV]at h ⊢;exact h
 | .bl b,v,h=>by simp only[RV]at h ⊢;exact h
 | .int i,v,h=>by simp only[RV]at h ⊢;exact h
 | .str x,v,h=>by simp only[RV]at h ⊢;exact h
 | .tup ds,v,h=>by
  simp only[RV]at h ⊢;obtain⟨a,vs,h1,h2,h3⟩:=h;rcases hs _ _ h2 with⟨_,_,z,_⟩|z
  ·cases z
  ·exact⟨a,vs,h1,z,RQ.UY hs h3⟩
 | .lst ds,v,h=>by
  simp only[RV]at h ⊢;obtain⟨a,vs,h1,h2,h3⟩:=h;rcases hs _ _ h2 with⟨_,_,z,_⟩|z
  ·cases z
  ·exact⟨a,vs,h1,z,RQ.UY hs h3⟩
 | .arg ns,v,h=>by
  simp only[RV]at h ⊢;obtain⟨a,h1,h2⟩:=h;exact⟨a,h1,hs.W6 h2⟩
 | .ref k,v,h=>by simp only[RV]at h ⊢;exact h
 | .ty n,v,h=>by simp only[RV]at h ⊢;exact h
 | .cls n,v,h=>by simp only[RV]at h ⊢;exact h
 | .exc c,v,h=>by
  simp only[RV]at h ⊢;obtain⟨a,oe,u,h1,h2,h3⟩:=h;rcases hs _ _ h2 with⟨_,_,z,zc⟩|z
  ·cases z;rw[h3]at zc;cases zc
  ·exact⟨a,oe,u,h1,z,h3⟩
 | .obj c fs,v,h=>by
  simp only[RV]at h ⊢;obtain⟨a,dx,Uz,h1,h2,h3⟩:=h;rcases hs _ _ h2 with⟨_,_,z,_⟩|z
  ·cases z
  ·exact⟨a,dx,Uz,h1,z,So.UY hs h3⟩
 | .VJ kvs,v,h=>by simp only[RV]at h ⊢;exact h
theorem RQ.UY{G G':Hp}(hs:X5 G G'):∀{ds:List Z.D} {vs:List V},RQ C bs G vs ds->RQ C bs G' vs ds
 | [],[],_=>by simp only[RQ]
 | d::ds,v::vs,h=>by
  simp only[RQ]at h ⊢;exact⟨RV.UY hs h.1,RQ.UY hs h.2⟩
 | [],_::_,h=>by simp only[RQ]at h
 | _::_,[],h=>by simp only[RQ]at h
theorem So.UY{G G':Hp}(hs:X5 G G'):∀{ds:List (Str×Z.D)} {vs:List (Str×V)},So C bs G vs ds->So C bs G' vs ds
  | [],[],_=>by simp only[So]
  | (y,d)::ds,(x,v)::vs,h=>by
    simp only[So]at h ⊢;exact⟨h.1,RV.UY hs h.2.1,So.UY hs h.2.2⟩
  | [],_::_,h=>by simp only[So]at h
  | _::_,[],h=>by simp only[So]at h
theorem R9.UY{G G':Hp}(hs:X5 G G'):∀{ds:List (Sum Int Str×Z.D)} {vs:List (aW×V)},R9 C bs G vs ds->R9 C bs G' vs ds
  | [],[],_=>by simp only[R9]
  | (y,d)::ds,(x,v)::vs,h=>by
    simp only[R9]at h ⊢;exact⟨h.1,RV.UY hs h.2.1,R9.UY hs h.2.2⟩
  | [],_::_,h=>by simp only[R9]at h
  | _::_,[],h=>by simp only[R9]at h
end
theorem R9.get:∀{ds:List (Sum Int Str×Z.D)} {vs:List (aW×V)},R9 C bs G vs ds->ds.length=vs.length/\∀(i:Nat) (d:Z.D),(ds.map (·.2))[i]?=⇑d->∃k v,vs[i]?=⇑(k,v)/\RV C bs G v d
  | [],[],_=>⟨rfl,λi d e=>by simp at e⟩
  | (y,d)::ds,(x,v)::vs,h=>by
    simp only[R9]at h;obtain⟨h1,h2,h3⟩:=h;obtain⟨i1,i2⟩:=R9.get h3;refine⟨by simp[i1],λi d' e=> ?_⟩;cases i with
    | zero=>simp at e;subst e;exact⟨x,v,rfl,h2⟩
    | succ i=>exact i2 i d' (by simpa using e)
  | [],_::_,h=>by simp only[R9]at h
  | _::_,[],h=>by simp only[R9]at h
theorem TY.vals(hg:G a=⇑(.SY o (.dK Sy)))(r:R9 C bs G Sy kvs):TY C bs G (oT a o Sy) (none,kvs.map (·.2)):=by
 intro Xd Sq h2 H2 hr pre sm _ i;have ha:H2 a=⇑(.SY o (.dK Sy)):=bq _ _ (sm _ _ hg);obtain⟨hl,hget⟩:=r.get;refine⟨λd e=> ?_,λhle=>⟨ha,by simp at hle;lia⟩⟩;obtain⟨k,v,hv,rv⟩:=hget i d e;refine⟨⟨ha,(q9.mp hv).1⟩,λx H3 y=> ?_⟩;obtain⟨rfl,y⟩:=y;rw[hv]at y;simp at y;subst y;exact⟨Ev.refl hr,rv.mono pre sm⟩
theorem Xa.UY(hn:xX b G G')(na:a≠b)(e:H1 a=H a)(q:Xa C bs G H a c):Xa C bs G' H1 a c:=by
 have hs:=hn.1;cases c with
 | lst ds=>obtain⟨vs,h1,h2⟩:=q;exact⟨vs,by rw[e];exact h1,h2.UY hs⟩
 | Sl kvs=>obtain⟨vs,h1,h2⟩:=q;exact⟨vs,by rw[e];exact h1,h2.UY hs⟩
 | ins c fs=>obtain⟨dx,vs,h1,h2⟩:=q;exact⟨dx,vs,by rw[e];exact h1,h2.UY hs⟩
 | YW kvs=>obtain⟨o,vs,h1,hc,h2⟩:=q;exact⟨o,vs,hn.2 _ _ na h1,hc,h2.UY hs⟩
theorem Ev.froze(hr:HR C ex bs h H)(hk:bs[k]?=⇑a)(h0:h[k]?=⇑⇑(.Sl kvs))(ha:H a=⇑(.dK Sy)):
  Ev C ex bs h H bs (h.set k none) (az H a (.SY o (.dK Sy)))/\gh ex bs (h.set k none) (az H a (.SY o (.dK Sy))) a=⇑(.SY o (.dK Sy)):=by
 have ab:a∈bs:=qm hk;have lk:=(q9.mp h0).1;have WE:∀x,lv bs (h.set k none) x->lv bs h x/\x≠a:=λx ⟨j,c',e1,e2,l2⟩=>by
  by_cases hj:k=j
  ·subst hj;rw[qj lk]at e2;cases e2
  ·rw[qh hj]at e2
   exact⟨⟨j,c',e1,e2,l2⟩,λz=>hj (hr.inj k j a hk (by rw[<-z];exact e1))⟩
 have la:lv bs h a:=⟨k,_,hk,h0,rfl⟩;have sm:R4 (gh ex bs h H) (gh ex bs (h.set k none) (az H a (.SY o (.dK Sy)))):=λx u e=>by
  obtain⟨h1,h2,h3⟩:=cz.mp e;have:x≠a:=λz=>h2 (z▸la);exact cz.mpr ⟨h1,λl=>h2 (WE x l).1,by rw[aE this];exact h3⟩
 refine⟨⟨λ_ _ e=>e,⟨by simp[hr.len],hr.inj,hr.sep,λx m=> ?_,λx m=> ?_,λj x c' e1 e2=> ?_⟩,sm,λx m=> ?_⟩,cz.mpr ⟨λm=>hr.sep a m ab,λl=>(WE a l).2 rfl,b7⟩⟩
 ·by_cases q:x=a
  ·subst q;rw[b7];simp
  ·rw[aE q];exact hr.Uo x m
 ·have:x≠a:=λz=>hr.sep x m (z▸ab)
  rw[aE this];exact hr.Sk x m
 ·by_cases hj:k=j
  ·subst hj;rw[qj lk]at e2;cases e2
  ·rw[qh hj]at e2
   have:x≠a:=λz=>hj (hr.inj k j a hk (by rw[<-z];exact e1));exact(hr.cell j x c' e1 e2).mono (λ_ _ e=>e) sm (aE this)
 ·exact aE λz=>hr.sep x m (z▸ab)
theorem Ev.Xg(hr:HR C ex bs h H)(hk:bs[k]?=⇑a)(h0:h[k]?=⇑⇑(.Sl kvs))(rk:R9 C bs (gh ex bs h H) Sy kvs)(hc:o.cls=.type "dict")
  (ev:Ev C ex bs h H RT h1 H1) (lk:k<h1.length) (ha:H1 a=⇑(.SY o (.dK Sy))):X5 (gh ex RT h1 H1) (gh ex RT (h1.set k ⇑(.Sl kvs)) (az H1 a (.dK Sy)))/\Ev C ex bs h H RT (h1.set k ⇑(.Sl kvs)) (az H1 a (.dK Sy)):=by
 have hk1:=ev.pre k a hk;have ab:a∈RT:=qm hk1;have WE:∀x,lv RT (h1.set k ⇑(.Sl kvs)) x->lv RT h1 x\/x=a:=λx ⟨j,c',e1,e2,l2⟩=>by
  by_cases hj:k=j
  ·subst hj;rw[hk1]at e1;cases e1;exact .inr rfl
  ·rw[qh hj]at e2
   exact .inl ⟨j,c',e1,e2,l2⟩
 have nd:X5 (gh ex RT h1 H1) (gh ex RT (h1.set k ⇑(.Sl kvs)) (az H1 a (.dK Sy))):=λx u e=>by
  obtain⟨q1,q2,q3⟩:=cz.mp e;by_cases q:x=a
  ·subst q;rw[ha]at q3;cases q3;exact .inl ⟨o,Sy,rfl,hc⟩
  ·exact .inr (cz.mpr ⟨q1,λl=>(WE x l).elim q2 q,by rw[aE q];exact q3⟩)
 have nda:xX a (gh ex RT h1 H1) (gh ex RT (h1.set k ⇑(.Sl kvs)) (az H1 a (.dK Sy))):=⟨nd,λx u q e=>by
  obtain⟨q1,q2,q3⟩:=cz.mp e;exact cz.mpr ⟨q1,λl=>(WE x l).elim q2 q,by rw[aE q];exact q3⟩⟩
 have la:lv bs h a:=⟨k,_,hk,h0,rfl⟩;refine⟨nd,ev.pre,⟨by simp[ev.hr.len],ev.hr.inj,ev.hr.sep,λx m=> ?_,λx m=> ?_,λj x c' e1 e2=> ?_⟩,λx u e=> ?_,λx m=> ?_⟩
 ·by_cases q:x=a
  ·subst q;rw[b7];simp
  ·rw[aE q];exact ev.hr.Uo x m
 ·have:x≠a:=λz=>ev.hr.sep x m (z▸ab)
  rw[aE this];exact ev.hr.Sk x m
 ·by_cases hj:k=j
  ·subst hj
   rw[qj lk]at e2;cases e2;rw[hk1]at e1;cases e1;exact⟨Sy,b7,(rk.mono ev.pre ev.same).UY nd⟩
  ·rw[qh hj]at e2
   have:x≠a:=λz=>hj (ev.hr.inj k j a hk1 (by rw[<-z];exact e1));exact(ev.hr.cell j x c' e1 e2).UY nda this (aE this)
 ·rcases nd x u (ev.same x u e)with⟨o',kw,rfl,_⟩|z
  ·obtain⟨q1,q2,q3⟩:=cz.mp (ev.same x _ e)
   obtain⟨p1,p2,p3⟩:=cz.mp e;have:x≠a:=λz=>p2 (z▸la);exact cz.mpr ⟨q1,λl=>(WE x l).elim q2 this,by rw[aE this];exact q3⟩
  ·exact z
 ·have:x≠a:=λz=>ev.hr.sep x m (z▸ab)
  rw[aE this];exact ev.We x m
theorem M_(ho:SE C E to mo)(hg:SG C E g mg)(hb:SS C E tb mb):SS C E (lh to g tb) (Z.kP mo mg mb):=by
 intro ex bs h ρ σ H D hr re p N;refine ho ex bs h ρ σ H _ hr re (p.bind λd x h1 RT H1 e1 rx p1=> ?_);cases d with
 | ref k=>
  simp only[RV]at rx;obtain⟨a,rfl,hk⟩:=rx;dsimp only at p1;split at p1
  ·rename_i kvs h0
   obtain⟨Sy,ha,rk⟩:=e1.hr.cell k a _ hk h0;refine⟨a,Sy,rfl,ha,λo oc na=> ?_⟩;obtain⟨e2,ga⟩:=Ev.froze (o:=o) e1.hr hk h0 ha;refine Ih (gd:=none) (items:=kvs.map (·.2)) hg hb e2.hr ((re.ev e1).ev e2) (.vals ga (rk.mono e2.pre e2.same)) ?_;rw[Z.iz];have hfz:∀{R0:List Addr} {h':Z.MH} {H':Hp},Ev C ex RT (h1.set k none) (az H1 a (.SY o (.dK Sy))) R0 h' H'->H' a=⇑(.SY o (.dK Sy)):=λev=>bq _ _ (ev.same _ _ ga);cases er:Z.bO mg mb (kvs.map (·.2)) ρ (h1.set k none)with
   | nx ρ' h'=>
    rw[er]at p1;dsimp only[Z.CP]at p1;split at p1
    ·rename_i hn
     intro σ' R0 H' ev XO;obtain⟨nd,e3⟩:=Ev.Xg e1.hr hk h0 rk oc (e2.trans ev) (q9.mp hn).1 (hfz ev);exact⟨a,o,Sy,na,hfz ev,p1 σ' R0 _ e3 ⟨XO.1,λi d q=>by obtain⟨v,q1,q2⟩:=XO.2 i d q;exact⟨v,q1,q2.UY nd⟩⟩⟩
    ·exact p1.elim
   | rt d h'=>
    rw[er]at p1;dsimp only[Z.CP]at p1;split at p1
    ·rename_i hn
     intro v R0 H' ev rv;obtain⟨nd,e3⟩:=Ev.Xg e1.hr hk h0 rk oc (e2.trans ev) (q9.mp hn).1 (hfz ev);exact⟨a,o,Sy,na,hfz ev,p1 v R0 _ e3 (rv.UY nd)⟩
    ·exact p1.elim
   | exc c h'=>
    rw[er]at p1;exact λR0 H' ev=>p1 R0 H' (e2.trans ev)
   | bk ρ' h'=>rw[er]at p1;exact p1.elim
   | ct ρ' h'=>rw[er]at p1;exact p1.elim
   | stuck=>rw[er]at p1;exact p1.elim
  ·exact p1.elim
 | _=>exact p1.elim
end
section
variable {C : Ct} {ex bs RT Sq : List Addr} {h h1 h2 : Z.MH} {H H1 H2 : Hp} {E : XK}
theorem bR(hc:C.cm c=a)(cl:V1 C.K a)(na:TL C.K a f)(r:di C f tab):di C f (c::tab):=by subst hc;exact P2 cl na r
theorem b9(hc:C.cm c=a)(q:PySem.W.mroIn C.K a (.ref W)=⇑b)(r:p9 C W tab):p9 C W ((c,b)::tab):=by subst hc;exact MV q r
theorem bH{mg:Str->Option Value}(hc:C.cm c=a)(cl:V1 C.K a)(b:Meth C.K a m f)(F:Si C.P C.w C.K mg base (CXE C.P C.w) j f fd ps (fD C z))(hj:j<=k)(B:VW C.K fd ps [])(r:TB C mg base k m tab):TB C mg base k m ((c,z)::tab):=by subst hc;exact Ni cl b F hj B r
end
section
variable {C : Ct} {ex bs RT Sq : List Addr} {h h1 h2 : Z.MH} {H H1 H2 : Hp} {E : XK}
theorem vS:∀(xs ys:List Z.D) (i:Nat) (d:Z.D),(Z.cg xs ys)[i]?=⇑d->∃x y,xs[i]?=⇑x/\ys[i]?=⇑y/\d=.tup [x,y]
 | x::xs,y::ys,0,d,e=>⟨x,y,rfl,rfl,by simpa [Z.cg]using e.symm⟩
 | x::xs,y::ys,i+1,d,e=>by
  obtain⟨a,b,h1,h2,h3⟩:=vS xs ys i d (by simpa [Z.cg]using e);exact⟨a,b,by simpa using h1,by simpa using h2,h3⟩
 | [],_,i,d,e=>by simp[Z.cg]at e
 | _::_,[],i,d,e=>by simp[Z.cg]at e
theorem Jt:∀(xs ys:List Z.D),(Z.cg xs ys).length=min xs.length ys.length
 | x::xs,y::ys=>by simp[Z.cg,Jt xs ys]
 | [],ys=>by simp[Z.cg]
 | _::_,[]=>by simp[Z.cg]
theorem TY.zip(hq:R8 C.K G a vs)(r:RQ C bs G vs ds)(UB:R8 C.K G b us)(r2:RQ C bs G us es):TY C bs G (Gn C.K a b) (none,Z.cg ds es):=by
 intro Xd Sq h2 H2 hr pre sm _ i;have q1:R8 C.K H2 a vs:=(sm.trans bq).W6 hq;have q2:R8 C.K H2 b us:=(sm.trans bq).W6 UB;refine⟨λd e=> ?_,λhle=>⟨vs,us,q1,q2,?_⟩⟩
 ·obtain⟨d0,e0,e1,e2,rfl⟩:=vS ds es i d e
  obtain⟨v,hv,rv⟩:=r.get e1;obtain⟨u,hu,ru⟩:=r2.get e2;refine⟨⟨vs,v,us,u,q1,hv,q2,hu⟩,λx H3 y=> ?_⟩;obtain⟨p,x',y',hp,hx',hy',rfl,rfl⟩:=y;have:=hx' vs q1;rw[hv]at this;cases this;have:=hy' us q2;rw[hu]at this;cases this;obtain⟨e3,g⟩:=Ev.alloc (o:=.tup [v,u]) hr hp;refine⟨e3,?_⟩;simp only[RV,RQ];exact⟨p,_,rfl,g,by simp only[RQ,RV];exact⟨(rv.mono pre sm).ev e3,(ru.mono pre sm).ev e3,trivial⟩⟩
 ·have hle:(Z.cg ds es).length<=i:=hle
  rw[Jt]at hle;rw[r.len,r2.len]
  lia
theorem rG(ht:SA C E t m):SI C E (j2 C.K t) (Z.vF m):=by
 intro ex bs h ρ σ H Q hr re p;refine ht ex bs h ρ σ H _ hr re (p.bind λds xs h1 RT H1 e1 rx p1=> ?_);split at p1
 ·obtain⟨x,y,rfl,rx,ry⟩:=Fh rx
  simp only[RV]at rx ry;obtain⟨a,vs,rfl,ga,rs⟩:=rx;obtain⟨b,us,rfl,gb,rs2⟩:=ry;exact⟨a,b,vs,us,rfl,R8.of (bq _ _ ga),R8.of (bq _ _ gb),RW.now e1.hr p1 (.zip (R8.of ga) rs (R8.of gb) rs2)⟩
 ·exact p1.elim
theorem rV:SL C (p7 C.K) Z.nG:=by
 intro ex bs h H E xs ds Q hr rs p;unfold Z.nG at p;split at p
 ·obtain⟨v,rfl,r⟩:=d_ rs
  obtain⟨bb,e,p⟩:=p.oR;rw[z7]at e;obtain⟨ys,e1,e2⟩:=e;obtain⟨a,vs,rfl,ha,qs⟩:=nR hr r e1;have:=DT qs e2;subst this;exact⟨a,bb,rfl,R8.of ha,p.now hr (by simp only[RV])⟩
 ·exact p.elim
end
end L2
namespace Z
open PySem
theorem rL{α:Type}(e:α->D)(r:α->Ro)(f:α->D):∀(as:List α),(∀a∈as,g (e a) ρ0 h=.nx (r a) h/\t (r a) h=.ok true h/\m (r a) h=.ok (f a) h)->compLoop g t m ρ0 (as.map e) h=.ok (as.map f) h
 | [],_=>by unfold compLoop;rfl
 | a::as,q=>by
  obtain⟨h1,h2,h3⟩:=q a (qa ..);rw[List.map_cons];unfold compLoop;simp only[h1,h2,h3,rL e r f as λb hb=>q b (q8 _ hb),List.map_cons]
@[simp] theorem M3(ns:List Int):nJ (ns.map D.int)=⇑ns:=by
 induction ns with
 | nil=>rfl
 | cons n ns ih=>simp[ih]
@[simp] theorem GU(ns:List Str):pO (ns.map D.str)=⇑ns:=by
 induction ns with
 | nil=>rfl
 | cons n ns ih=>simp[ih]
@[simp] theorem p_(ns:List Bool):sZ (ns.map D.bl)=⇑ns:=by
 induction ns with
 | nil=>rfl
 | cons n ns ih=>simp[ih]
@[simp] theorem qT(lo:Int)(n:Nat):(Vx lo n).length=n:=by simp[Vx]
@[simp] theorem Ap(n:Nat):aT (n+1) 0 ⇑1=1:=by simp[aT]
@[simp] theorem Au{α:Type}(x:α)(xs:List α):cut (x::xs) ⇑1 none=xs:=by
 unfold cut;rw[show aT (x::xs).length 0 ⇑1=1 by simp[aT]];simp[aT]
@[simp] theorem yh{α:Type}(a:α)(l:List α):cx (a::l) 0=⇑a:=by simp[cx,fK]
@[simp] theorem Co{α:Type}(a b:α)(l:List α):cx (a::b::l) 1=⇑b:=by
 unfold cx fK;rw[if_pos ⋯,if_pos (by simp only[qw];lia)];rfl
@[simp] theorem Ca{α:Type}(a b c:α)(l:List α):cx (a::b::c::l) 2=⇑c:=by
 unfold cx fK;rw[if_pos ⋯,if_pos (by simp only[qw];lia)];rfl
theorem KZ{c:Nat}:∀{a b x y:List Nat},c∉a->c∉b->a++c::x=b++c::y->a=b/\x=y
 | [],[],x,y,_,_,e=>⟨rfl,(List.cons.inj e).2⟩
 | [],k::b,x,y,_,hb,e=>by
  have:=(List.cons.inj e).1;exact absurd (by rw[this];exact qa ..) hb
 | k::a,[],x,y,ha,_,e=>by
  have:=(List.cons.inj e).1;exact absurd (by rw[<-this];exact qa ..) ha
 | k::a,j::b,x,y,ha,hb,e=>by
  obtain⟨e1,e2⟩:=List.cons.inj e;obtain⟨h1,h2⟩:=KZ (λm=>ha (q8 _ m)) (λm=>hb (q8 _ m)) e2;exact⟨by rw[e1,h1],h2⟩
theorem Kd{c:Nat}(ha:c∉a)(e:a=b++c::x):False:=ha (by rw[e];simp)
theorem E1{a b:Str}(h:a.cps.toList=b.cps.toList):a=b:=by
 obtain⟨⟨x⟩⟩:=a;obtain⟨⟨y⟩⟩:=b;simp at h;rw[h]
theorem tL:(Str.join ⟨#[c]⟩ (p::q::r)).cps.toList=p.cps.toList++c::(Str.join ⟨#[c]⟩ (q::r)).cps.toList:=by
 show(p++⟨#[c]⟩++Str.join ⟨#[c]⟩ (q::r)).cps.toList=_;simp only[Str.cps_append,zj];simp
theorem HN{c:Nat}:∀{ps qs:List Str},ps≠[]->qs≠[]->(∀p∈ps,c∉p.cps.toList)->(∀q∈qs,c∉q.cps.toList)->Str.join ⟨#[c]⟩ ps=Str.join ⟨#[c]⟩ qs->ps=qs
 | [],_,h,_,_,_,_=>absurd rfl h
 | _,[],_,h,_,_,_=>absurd rfl h
 | [p],[q],_,_,_,_,e=>by rw[show p=q from e]
 | [p],q::q'::r,_,_,hp,_,e=>by
  have:=congrArg (λz:Str=>z.cps.toList) e;rw[tL]at this;exact(Kd (hp p (qa ..)) this).elim
 | p::p'::r,[q],_,_,_,hq,e=>by
  have:=congrArg (λz:Str=>z.cps.toList) e;rw[tL]at this;exact(Kd (hq q (qa ..)) this.symm).elim
 | p::p'::r,q::q'::r',_,_,hp,hq,e=>by
  have:=congrArg (λz:Str=>z.cps.toList) e;rw[tL,tL]at this;obtain⟨h1,h2⟩:=KZ (hp p (qa ..)) (hq q (qa ..)) this;have:=HN (ps:=p'::r) (qs:=q'::r') (λz=>nomatch z) (λz=>nomatch z) (λa ha=>hp a (q8 _ ha)) (λa ha=>hq a (q8 _ ha)) (E1 h2);rw[this,E1 h1]
theorem yj(x y:Str):Txt.split x y≠[]:=by
 unfold Txt.split;split
 ·exact λz=>nomatch z
 ·split
  ·exact λz=>nomatch z
  ·rw[StrLaws.partsBetween_eq]
   obtain⟨p,r,e⟩:=StrLaws.partsFrom_ne x y.length 0 (Builtin.Str.occurrences x y 0 x.length (x.length+1));rw[e];exact λz=>nomatch z
theorem BZ(h0:ps≠[])(h:∀p∈ps,c∉p.cps.toList):Txt.split (Str.join ⟨#[c]⟩ ps) ⟨#[c]⟩=ps:=
 HN (yj _ _) h0 (StrLaws.split_free _ c) h (StrLaws.join_split _ _)
theorem vC(s:Str)(ps:List Str):Txt.join s ps=Str.join s ps:=StrLaws.glued_eq_join s ps
theorem oX:∀(ps:List Str),ps≠[]->(Str.join ⟨#[c]⟩ ps).length+1=(ps.map (·.length)).sum+ps.length
 | [],h=>absurd rfl h
 | [p],_=>by simp[Str.join]
 | p::q::r,_=>by
  have ih:=oX (c:=c) (q::r) (λz=>nomatch z);have e:(Str.join ⟨#[c]⟩ (p::q::r)).length=p.length+1+(Str.join ⟨#[c]⟩ (q::r)).length:=by
   show(p++⟨#[c]⟩++Str.join ⟨#[c]⟩ (q::r)).length=_;rw[Str.length_append,Str.length_append];rfl
  rw[e];simp only[List.map_cons,gp,qw]at ih ⊢
  lia
theorem LB(x:Str)(c:Nat):(Txt.split x ⟨#[c]⟩).length<=x.length+1:=by
 have h:=oX (c:=c) (Txt.split x ⟨#[c]⟩) (yj _ _);rw[StrLaws.join_split]at h
 lia
mutual
theorem Ks:∀{d:D} {p:PyData},d.py=⇑p->d.eq d=true
 | .RY,_,_=>by simp[D.eq]
 | .bl b,_,_=>by simp[D.eq]
 | .int i,_,_=>by simp[D.eq]
 | .str x,_,_=>by simp[D.eq]
 | .tup ds,_,e=>by
  simp only[D.py,qi]at e;obtain⟨ps,h,_⟩:=e;simp only[D.eq];exact Dm h
 | .lst ds,_,e=>by
  simp only[D.py,qi]at e;obtain⟨ps,h,_⟩:=e;simp only[D.eq];exact Dm h
 | .arg _,_,e=>by simp only[D.py]at e;cases e
 | .ref _,_,e=>by simp only[D.py]at e;cases e
 | .ty _,_,e=>by simp only[D.py]at e;cases e
 | .cls _,_,e=>by simp only[D.py]at e;cases e
 | .exc _,_,e=>by simp only[D.py]at e;cases e
 | .obj _ _,_,e=>by simp only[D.py]at e;cases e
 | .VJ _,_,e=>by simp only[D.py]at e;cases e
theorem Dm:∀{ds:List D} {ps:List PyData},D.Uu ds=⇑ps->D.eqs ds ds=true
 | [],_,_=>by simp[D.eqs]
 | d::ds,ps,e=>by
  simp only[D.Uu]at e;split at e
  ·rename_i p qs e1 e2
   simp only[D.eqs,z4];exact⟨Ks e1,Dm e2⟩
  ·cases e
end
theorem rA{d:D}(h:d.dat=true):d.eq d=true:=by
 unfold D.dat at h;rw[z4,we]at h;obtain⟨⟨p,hp⟩,_⟩:=h;exact Ks hp
theorem PR(h:∀d∈ds,d.py.isSome=true/\d.deep<=n):(D.Uu ds).isSome=true/\D.Us ds<=n:=by
 induction ds with
 | nil=>exact⟨by simp[D.Uu],by simp[D.Us]⟩
 | cons d ds ih=>
  obtain⟨h1,h2⟩:=h d (qa ..);obtain⟨h3,h4⟩:=ih λe he=>h e (q8 _ he);rw[we]at h1 h3;obtain⟨p,hp⟩:=h1;obtain⟨ps,hps⟩:=h3;exact⟨by simp[D.Uu,hp,hps],by simp only[D.Us];lia⟩
theorem Nm(h:∀d∈ds,d.py.isSome=true/\d.deep<=n):(D.lst ds).py.isSome=true/\(D.lst ds).deep<=n+1:=by
 obtain⟨h1,h2⟩:=PR h;exact⟨by simp only[D.py];simpa using h1,by simp only[D.deep];lia⟩
theorem oJ{d:D}(h:d.py.isSome=true/\d.deep<=n)(hn:n<=64):d.dat=true:=by
 unfold D.dat;rw[h.1,ki,decide_eq_true_eq];lia
mutual
theorem qW(h:MH):∀(n:Nat) {d:D},D.R5 0 d=true->res n h d=d
 | 0,d,_=>by unfold res;rfl
 | n+1,.ref k,e=>by simp[D.R5]at e
 | n+1,.tup xs,e=>by
  simp only[D.R5]at e;unfold res;rw[Cy h n e]
 | n+1,.lst xs,e=>by
  simp only[D.R5]at e;unfold res;rw[Cy h n e]
 | n+1,.RY,_=>by unfold res;rfl
 | n+1,.bl _,_=>by unfold res;rfl
 | n+1,.int _,_=>by unfold res;rfl
 | n+1,.str _,_=>by unfold res;rfl
 | n+1,.arg _,_=>by unfold res;rfl
 | n+1,.ty _,_=>by unfold res;rfl
 | n+1,.cls _,_=>by unfold res;rfl
 | n+1,.exc _,_=>by unfold res;rfl
 | n+1,.obj _ _,_=>by unfold res;rfl
 | n+1,.VJ _,_=>by unfold res;rfl
theorem Cy(h:MH):∀(n:Nat) {ds:List D},D.R_ 0 ds=true->ds.map (res n h)=ds
 | n,[],_=>rfl
 | n,d::ds,e=>by
  simp only[D.R_,z4]at e;rw[List.map_cons,qW h n e.1,Cy h n e.2]
end
end Z
namespace SR
def sub(a b:Nat):Prop:=∀i,a.testBit i=true->b.testBit i=true
theorem sub.refl(a:Nat):sub a a:=λ_ h=>h
theorem sub.trans(h:sub a b)(g:sub b c):sub a c:=λi q=>g i (h i q)
theorem sub.antisymm(h:sub a b)(g:sub b a):a=b:=zy λi=>by
 cases x:a.testBit i with
 | true=>rw[h i x]
 | false=>cases y:b.testBit i with
  | true=>rw[g i y]at x;cases x
  | false=>rfl
theorem El(a b:Nat):sub a (a|||b):=λi h=>by rw[ko,h];rfl
theorem FY(a b:Nat):sub b (a|||b):=λi h=>by rw[ko,h,Bool.or_true]
theorem Jy(h:sub a c)(g:sub b c):sub (a|||b) c:=λi q=>by
 rw[ko,Bool.or_eq_true]at q;rcases q with q|q
 ·exact h i q
 ·exact g i q
theorem sub.or_eq(h:sub a b):a|||b=b:=sub.antisymm (Jy h (sub.refl _)) (FY _ _)
theorem sub.le(h:sub a b):a<=b:=by rw[<-h.or_eq];exact Nat.left_le_or
theorem Vq:a&&&b≠0↔∃i,a.testBit i=true/\b.testBit i=true:=by
 constructor
 ·intro h
  obtain⟨i,hi⟩:=Nat.exists_testBit_of_ne_zero h;rw[ww,z4]at hi;exact⟨i,hi⟩
 ·rintro⟨i,h1,h2⟩ e
  have:(a&&&b).testBit i=true:=by rw[ww,h1,h2];rfl
  rw[e]at this;simp at this
theorem sub.Vq(h:sub b c)(g:a&&&b≠0):a&&&c≠0:=by
 obtain⟨i,h1,h2⟩:=SR.Vq.mp g;exact SR.Vq.mpr ⟨i,h1,h i h2⟩
def kS(ps:List Nat)(t:Nat):Prop:=∀p∈ps,p&&&t≠0->sub p t
structure Is (ps:List Nat) (s r:Nat):Prop where
 ge:sub s r
 cl:kS ps r
 le:∀t,sub s t->kS ps t->sub r t
theorem Is.uniq(a:Is ps s r)(b:Is ps s q):r=q:=sub.antisymm (a.le q b.ge b.cl) (b.le r a.ge a.cl)
noncomputable def all(ps:List Nat)(s:Nat):Nat:=ps.foldl (·|||·) s
theorem GQ:∀(ps:List Nat) (s:Nat),sub s (all ps s)
 | [],s=>sub.refl _
 | p::ps,s=>(El s p).trans (GQ ps (s|||p))
theorem HC:∀(ps:List Nat) (s p:Nat),p∈ps->sub p (all ps s)
 | q::ps,s,p,m=>by
  rcases qg.mp m with rfl|m
  ·exact(FY s p).trans (GQ ps (s|||p))
  ·exact HC ps (s|||q) p m
theorem LJ(ps:List Nat)(s:Nat):kS ps (all ps s):=λp m _=>HC ps s p m
structure Step (ps:List Nat) (F:Nat->Nat):Prop where
 up:∀r,sub r (F r)
 lo:∀r t,kS ps t->sub r t->sub (F r) t
 fx:∀r,F r=r->kS ps r
structure VQ (ps:List Nat) (s r:Nat):Prop where
 ge:sub s r
 le:∀t,sub s t->kS ps t->sub r t
theorem VQ.start(ps:List Nat)(s:Nat):VQ ps s s:=⟨sub.refl _,λ_ h _=>h⟩
theorem VQ.step{F:Nat->Nat}(f:Step ps F)(m:VQ ps s r):VQ ps s (F r):=⟨m.ge.trans (f.up r),λt h c=>f.lo r t c (m.le t h c)⟩
theorem VQ.fin{F:Nat->Nat}(f:Step ps F)(m:VQ ps s r)(e:F r=r):Is ps s r:=⟨m.ge,f.fx r e,m.le⟩
theorem VQ.R5(m:VQ ps s r):r<=all ps s:=(m.le _ (GQ ps s) (LJ ps s)).le
theorem Step.lt{F:Nat->Nat}(f:Step ps F)(h:F r≠r):r<F r:=Nat.lt_of_le_of_ne (f.up r).le (Ne.symm h)
theorem rD{ps:List Nat}{s:Nat}{F:Nat->Nat}(f:Step ps F){P:Nat->Prop}(h1:∀r,VQ ps s r->F r=r->P r)(h2:∀r,VQ ps s r->F r≠r->P (F r)->P r):∀(n r:Nat),VQ ps s r->all ps s - r<n->P r
 | 0,r,_,h=>absurd h (u9 _)
 | n+1,r,m,h=>by
  by_cases e:F r=r
  ·exact h1 r m e
  ·have:=f.lt e
   have:=(m.step f).R5;exact h2 r m e (rD f h1 h2 n (F r) (m.step f) ⋯)
noncomputable def bK(ps:List Nat)(r:Nat):Nat:=ps.foldl (λr p=>if p&&&r≠0 then r|||p else r) r
theorem EY:∀(ps:List Nat) (r:Nat),sub r (bK ps r)
 | [],r=>sub.refl _
 | p::ps,r=>by
  show sub r (bK ps (if p&&&r≠0 then r|||p else r));refine sub.trans ?_ (EY ps _);split
  ·exact El _ _
  ·exact sub.refl _
theorem Jc:∀(ps:List Nat) (r t:Nat),kS ps t->sub r t->sub (bK ps r) t
 | [],r,t,_,h=>h
 | p::ps,r,t,c,h=>by
  show sub (bK ps (if p&&&r≠0 then r|||p else r)) t;refine Jc ps _ t (λq m=>c q (q8 _ m)) ?_;split
  ·rename_i n
   exact Jy h (c p qa (h.Vq n))
  ·exact h
theorem Ja:∀(ps:List Nat) (r:Nat),bK ps r=r->kS ps r
 | [],r,_=>λp m=>by cases m
 | p::ps,r,e=>by
  have e':bK ps (if p&&&r≠0 then r|||p else r)=r:=e;have u:=EY ps (if p&&&r≠0 then r|||p else r);rw[e']at u;have k:(if p&&&r≠0 then r|||p else r)=r:=by
   by_cases n:p&&&r≠0
   ·rw[if_pos n]at u ⊢;exact sub.antisymm u (El _ _)
   ·rw[if_neg n]
  rw[k]at e';intro q m n;rcases qg.mp m with rfl|m
  ·rw[if_pos n]at u;exact(FY _ _).trans u
  ·exact Ja ps r e' q m n
theorem vR(ps:List Nat):Step ps (bK ps):=⟨EY ps,Jc ps,Ja ps⟩
noncomputable def zC(s:Nat)(ps:List Nat)(f:Nat):Nat:=ps.foldl (λf p=>if s&&&p≠0 then f|||p else f) f
def Nw(ps:List Nat)(s:Nat):Nat:=zC s ps s
theorem ex(ps:List Nat)(s:Nat):∃r,Is ps s r:=rD (P:=λr=>VQ ps s r->∃r,Is ps s r) (vR ps) (λr _ e m=>⟨r,m.fin (vR ps) e⟩) (λr m _ h _=>h (m.step (vR ps))) _ s (VQ.start ps s) (wa _) (VQ.start ps s)
noncomputable def dG(ps:List Nat)(s:Nat):Nat:=(ex ps s).choose
theorem is(ps:List Nat)(s:Nat):Is ps s (dG ps s):=(ex ps s).choose_spec
theorem Is.eq(h:Is ps s r):r=dG ps s:=h.uniq (is ps s)
end SR
namespace Z
open PySem
theorem dY(a b:Nat):Builtin.bitAnd (a:Int) b=((a&&&b:Nat):Int):=by simp[Builtin.bitAnd]
theorem k_(a b:Nat):Builtin.bitOr (a:Int) b=((a|||b:Nat):Int):=by
 rw[PyProof.Rows.bitOr_and,dY];have:=PyProof.Rows.nat_or_add_and a b
 lia
theorem BI(a b:Nat):Builtin.bitAnd (a:Int) (Builtin.bitNot b)=((a - (a&&&b):Nat):Int):=by
 rw[PyProof.Rows.bitAnd_not,dY];have:a&&&b<=a:=Nat.and_le_left
 lia
theorem QS(a b:Nat):a - (a&&&b)=a^^^(a&&&b):=by
 have h:(a^^^(a&&&b))+(a&&&b)=a:=by
  have h1:=PyProof.Rows.nat_or_add_and (a^^^(a&&&b)) (a&&&b);have h2:(a^^^(a&&&b))&&&(a&&&b)=0:=zy λi=>by
   simp only[ww,gf,Nat.zero_testBit];cases a.testBit i<;>cases b.testBit i<;>rfl
  have h3:(a^^^(a&&&b))|||(a&&&b)=a:=zy λi=>by
   simp only[ko,ww,gf];cases a.testBit i<;>cases b.testBit i<;>rfl
  lia
 lia
theorem Dg(a b:Nat):Builtin.bitXor (a:Int) b=((a^^^b:Nat):Int):=by
 unfold Builtin.bitXor;rw[k_,dY];have h:(a^^^b)=(a|||b) - (a&&&b):=by
  have e:a&&&b=(a|||b)&&&(a&&&b):=zy λi=>by
   simp only[ko,ww];cases a.testBit i<;>cases b.testBit i<;>rfl
  rw[e,QS];refine zy λi=> ?_;simp only[ko,ww,gf];cases a.testBit i<;>cases b.testBit i<;>rfl
 have:a&&&b<=a|||b:=zi Nat.and_le_left Nat.left_le_or
 lia
theorem Dc(a k:Nat):Builtin.bitAnd ((a:Int) / 2^((k:Int)).toNat) 1=if a.testBit k then 1 else 0:=by
 have e:((a:Int) / 2^((k:Int)).toNat)=((a / 2^k:Nat):Int):=by simp
 rw[e,show(1:Int)=((1:Nat):Int)from rfl,dY,Nat.and_one_is_mod,Nat.testBit_eq_decide_div_mod_eq];by_cases q:a / 2^k % 2=1
 ·simp[q]
 ·have:a / 2^k % 2=0:=⋯
  simp[this]
theorem GZ(a:Nat):((a:Int)!=0)=decide (a≠0):=by
 cases a with
 | zero=>rfl
 | succ n=>simp;lia
theorem jf{b:Nat}(h:b<=100):nL 1 (b:Int):=⟨⋯,⋯,⋯⟩
theorem Kw(a i:Nat):(2^a).testBit i=decide (a=i):=by rw[ku]
end Z
namespace My
open Z
noncomputable def ur:Z.D:=.VJ [(.inr "bars",(.int 1)),(.inr "feed",(.int 1)),(.inr "earth",(.int 1)),(.inr "breaker",(.int 2)),(.inr "splitter",(.int 2))]
noncomputable def WM:List (String×Bool):=[("Held",true),("Loaded",true),("Locked",true),("NoBar",true),("NoLock",true),("NoMeasure",true),("NoPermit",true),("NoRow",true),("NoSwitch",true),("NotDead",true),("NotEarthed",true),("NotLocked",true),("NotOpen",true),("Same",true),("Shorted",true)]
noncomputable def lL:List String:=["Feed","Earth"]
noncomputable def lP:List String:=["Breaker","Splitter"]
noncomputable def m7:List String:=["Breaker","Splitter"]
noncomputable def gP:List String:=["Net"]
noncomputable def cq:List String:=["Bundle","Board","Desk"]
noncomputable def xJ:List String:=["Bundle","Board"]
noncomputable def sO:List String:=["Bundle"]
noncomputable def yt:List String:=["Bundle"]
noncomputable def ye:List String:=["Bundle"]
noncomputable def uI:List String:=["Bundle"]
noncomputable def zR:List String:=["Bundle"]
noncomputable def kU:List String:=["Board"]
noncomputable def iM:List String:=["Board"]
noncomputable def Bx:List String:=["Board"]
noncomputable def CW:List String:=["Board"]
noncomputable def cn:List String:=["Desk"]
def jB:Z.MS:=(ai (jx (bh jo (ag (aa 0) (ag (mC (.ty "str")) ae))) (af (cW false) (bh aX (ag (aa 1) ae)) (aO (lN (aa 0) (ag (mC (.str " ")) ae))))))
def jQ:Z.MF:=aq 2 2 jB
def oU:Z.MS:=(ah (aG (aY (aA (aa 0)))
      (ai (mC (.str "none")))
      aH)
      (ai (tK kD (mC (.str " ")) (ag (aO (cM 1 [] (bC (aa 0)) (ak 0) aR (bh aX (ag (aa 0) ae)))) ae))))
def cj:Z.MF:=aq 1 1 oU
def yk:Z.MS:=(ah (aG (aY (tB (B5 tH tH (mC (.int 1)) (bh bJ (ag (aa 0) ae)) (mC (.int 9)))))
      (ai (mC (.bl false)))
      aH)
      (ah (aG (bW (tB (af a9 (af ay (aa 0) (mC (.int 0))) (mC (.str "0")))) (tB (af kY (bh bJ (ag (aa 0) ae)) (mC (.int 1)))))
      (ai (mC (.bl false)))
      aH)
      (ai (bh jV (ag (aO (cM 1 [] (bC (aa 0)) (ak 0) aR (af (cW false) (aa 0) (mC (.str "0123456789"))))) ae)))))
def f6:Z.MF:=aq 1 1 yk
def oi:Z.MS:=(ah (aG (aY (aA (bh jV (ag (aO (cM 1 [] (bC (aa 0)) (ak 0) aR (ax f6 (ag (aa 0) ae)))) ae))))
      (cJ "NoRow" (mC (.str "a word of the row is no number")))
      aH)
      (ai (aO (cM 1 [] (bC (aa 0)) (ak 0) aR (bh dj (ag (aa 0) ae))))))
def dF:Z.MF:=aq 1 1 oi
def vL:Z.MS:=(ah (aG (tB (af cA (bh bJ (ag (aa 0) ae)) (mC (.int 1))))
      (cJ "NoRow" (mC (.str "one number is due")))
      aH)
      (ai (af ay (ax dF (ag (aa 0) ae)) (mC (.int 0)))))
def gS:Z.MF:=aq 1 1 vL
def ym:Z.MS:=(ah (aj (ax dF (ag (aa 0) ae)) (ak 2))
      (ah (aG (dZ (aY (aA (aa 2))) (aA (bh nG (ag (aO (cM 2 [] (vF (ag (aa 2) (ag (cQ (aa 2) (cN (mC (.int 1))) cL) ae))) (fY [0,1]) aR (af kW (aa 0) (aa 1)))) ae))))
      (cJ "NoRow" (mC (.str "bars are due, rising, none twice")))
      aH)
      (ah (aG (tB (af kW (af ay (aa 2) (iZ iK (mC (.int 1)))) (aa 1)))
      (cJ "NoBar" (mC (.str "there is no such bar")))
      aH)
      (ai (bh oN (ag (aO (cM 1 [] (bC (aa 2)) (ak 0) aR (af cp (mC (.int 1)) (aa 0)))) ae))))))
def fJ:Z.MF:=aq 2 3 ym
def ow:Z.MS:=(ah (aj (aO (lN (aa 0) (ag (mC (.str " ")) ae))) (ak 1))
      (ah (aj (af ay (aa 1) (mC (.int 0))) (ak 2))
      (ah (aG (dZ (tB (af (cW true) (aa 2) (mC ur))) (tB (af cA (bh bJ (ag (aa 1) ae)) (af aB (mC (.int 1)) (af ay (mC ur) (aa 2))))))
      (cJ "NoRow" (mC (.str "no such row")))
      aH)
      (ai (bh EV (ag (af aB (aO (bz (ag (aa 2) ae))) (ax dF (ag (cQ (aa 1) (cN (mC (.int 1))) cL) ae))) ae))))))
def ee:Z.MF:=aq 1 3 ow
def y3:Z.MS:=(ah (aj (ax ee (ag (aa 0) ae)) (ak 1))
      (ah (aG (tB (af cA (af ay (aa 1) (mC (.int 0))) (mC (.str "bars"))))
      (cJ "NoRow" (mC (.str "the row of the count is due")))
      aH)
      (ah (aG (aY (tB (B5 tH tH (mC (.int 1)) (af ay (aa 1) (mC (.int 1))) (mC (.int 10)))))
      (cJ "NoMeasure" (mC (.str "the count of the bars is out of its bounds")))
      aH)
      (ai (af ay (aa 1) (mC (.int 1)))))))
def iJ:Z.MF:=aq 1 2 y3
noncomputable def yS:Z.MF:=λ_ _=>.stuck
def hZ:Z.MS:=(ah (aj (ax ee (ag (aa 0) ae)) (ak 3))
      (ah (aG (tB (af a9 (af ay (aa 3) (mC (.int 0))) (mC (.str "bars"))))
      (cJ "NoRow" (mC (.str "the row of a switch is due")))
      aH)
      (ah (aG (tB (af kW (aa 2) (mC (.int 12))))
      (cJ "NoRow" (mC (.str "one switch too many")))
      aH)
      (ah (aG (tB (af kW (bh oW (ag (cQ (aa 3) (cN (mC (.int 1))) cL) ae)) (aa 1)))
      (cJ "NoBar" (mC (.str "there is no such bar")))
      aH)
      (ah (aG (bW (tB (af a9 (bh bJ (ag (aa 3) ae)) (mC (.int 3)))) (tB (af a9 (af ay (aa 3) (mC (.int 1))) (af ay (aa 3) (mC (.int 2))))))
      (cJ "Same" (mC (.str "a switch leads from a bar to itself")))
      aH)
      (ai (aa 3)))))))
def dH:Z.MF:=aq 3 4 hZ
def vZ:Z.MS:=(ah (c8 lP "one" (aa 0) (aa 1))
      (c8 m7 "other" (aa 0) (aa 2)))
def rE:Z.MF:=aq 3 3 vZ
def zA:Z.MS:=(c8 lL "bar" (aa 0) (aa 1))
def nE:Z.MF:=aq 2 2 zA
def xu:Z.MS:=(c8 lL "bar" (aa 0) (aa 1))
def r6:Z.MF:=aq 2 2 xu
def y4:Z.MS:=(ah (c8 lP "one" (aa 0) (aa 1))
      (c8 m7 "other" (aa 0) (aa 2)))
def ri:Z.MF:=aq 3 3 y4
def v3:Z.MS:=(ah (aj (af ay (aa 0) (mC (.int 0))) (ak 1))
      (ah (aG (tB (af a9 (aa 1) (mC (.str "feed"))))
      (ai (dP "Feed" r6 (ag (af ay (aa 0) (mC (.int 1))) ae)))
      aH)
      (ah (aG (tB (af a9 (aa 1) (mC (.str "earth"))))
      (ai (dP "Earth" nE (ag (af ay (aa 0) (mC (.int 1))) ae)))
      aH)
      (ah (aG (tB (af a9 (aa 1) (mC (.str "breaker"))))
      (ai (dP "Breaker" rE (ag (af ay (aa 0) (mC (.int 1))) (ag (af ay (aa 0) (mC (.int 2))) ae))))
      aH)
      (ai (dP "Splitter" ri (ag (af ay (aa 0) (mC (.int 1))) (ag (af ay (aa 0) (mC (.int 2))) ae))))))))
def fN:Z.MF:=aq 1 2 v3
def xc:Z.MS:=(c8 gP "switches" (aa 0) (aO (cM 1 [] (bC (af ay (aa 1) (mC (.int 1)))) (ak 0) aR (ax fN (ag (aa 0) ae)))))
def c_:Z.MF:=aq 2 2 xc
def iF:Z.MS:=(ah (c8 cq "yard" (aa 0) (bD (ag (af ay (aa 1) (mC (.int 0))) (ag (aO (m9 (ag (af ay (aa 1) (mC (.int 1))) ae))) ae))))
      (ah (c8 xJ "net" (aa 0) (dP "Net" c_ (ag (ao cq "yard" (aa 0)) ae)))
      (ah (c8 kU "shut" (aa 0) (mC (.int 0)))
      (ah (c8 iM "locks" (aa 0) (mC (.int 0)))
      (ah (c8 Bx "given" (aa 0) kZ)
      (c8 CW "last_number" (aa 0) (mC (.int 0))))))))
def h8:Z.MF:=aq 2 2 iF
def jt:Z.MS:=(ah (c8 cq "yard" (aa 0) (aa 1))
      (ah (c8 cn "board" (aa 0) (pG "Board" h8 (ag (aa 1) ae)))
      (ai (mC (.str "ok")))))
def dh:Z.MF:=aq 2 2 jt
def vm:List (String×Z.MF):=[("Desk",dh)]
def jb:Z.MS:=(ah (aj (af ay (ao cq "yard" (aa 0)) (mC (.int 0))) (ak 2))
      (ah (aj (af ay (ao cq "yard" (aa 0)) (mC (.int 1))) (ak 3))
      (ai (aw vm "begin" (aa 0) (ag (bD (ag (aa 2) (ag (af aB (aa 3) (aO (bz (ag (ax dH (ag (aa 1) (ag (aa 2) (ag (bh bJ (ag (aa 3) ae)) ae)))) ae)))) ae))) ae)))))
def ie:Z.MF:=aq 2 4 jb
def mI:Z.MS:=(ai (af a9 (af bZ (af wJ (aa 0) (aa 1)) (mC (.int 1))) (mC (.int 1))))
def eV:Z.MF:=aq 2 2 mI
noncomputable def xi:Z.MF:=λ_ _=>.stuck
def wN:Z.MS:=(aG (aY (tB (B5 tH uZ (mC (.int 0)) (aa 1) (bh bJ (ag (af ay (aa 0) (mC (.int 1))) ae)))))
      (cJ "NoSwitch" (mC (.str "there is no such switch")))
      aH)
def gA:Z.MF:=aq 2 2 wN
def je:Z.MS:=(ai (mC (.int 0)))
def eE:Z.MF:=aq 1 1 je
def xK:Z.MS:=(ai (af cp (mC (.int 1)) (ao lL "bar" (aa 0))))
def o_:Z.MF:=aq 1 1 xK
def j5:Z.MS:=(ai (mC (.bl false)))
def dW:Z.MF:=aq 1 1 j5
def v7:Z.MS:=(ai (mC (.bl true)))
def oH:Z.MF:=aq 1 1 v7
def iT:List (String×Z.MF):=[("Switch",eE),("Feed",o_),("Earth",eE),("Breaker",eE),("Splitter",eE)]
def i5:List (String×Z.MF):=[("Switch",dW),("Feed",dW),("Earth",dW),("Breaker",dW),("Splitter",oH)]
def nQ:Z.MS:=(ai (J3 (af cA (aw iT "feeds" (aa 0) ae) (mC (.int 0))) (aw i5 "gentle" (aa 0) ae)))
def fV:Z.MF:=aq 1 1 nQ
def ij:Z.MS:=(ah (jc (ax gA (ag (ao cq "yard" (aa 0)) (ag (aa 1) ae))))
      (ah (aG (aY (aA (ax fV (ag (af ay (ao gP "switches" (ao xJ "net" (aa 0))) (aa 1)) ae))))
      (cJ "NoLock" (mC (.str "no lock can be put to a switch of this kind")))
      aH)
      (ah (aG (aA (ax eV (ag (ao kU "shut" (aa 0)) (ag (aa 1) ae))))
      (cJ "NotOpen" (mC (.str "the switch is shut")))
      aH)
      (ah (aG (aA (ax eV (ag (ao iM "locks" (aa 0)) (ag (aa 1) ae))))
      (cJ "Locked" (mC (.str "the switch is locked already")))
      aH)
      (ah (c8 iM "locks" (aa 0) (af eJ (ao iM "locks" (aa 0)) (af cp (mC (.int 1)) (aa 1))))
      (ai (ao iM "locks" (aa 0))))))))
def eG:Z.MF:=aq 2 2 ij
def ub:Z.MS:=(ai (af bZ (aa 0) (iZ iK (aa 0))))
def eX:Z.MF:=aq 1 1 ub
def og:Z.MS:=(ai (mC (.int 0)))
def gG:Z.MF:=aq 1 1 og
def vv:Z.MS:=(ai (af eJ (af cp (mC (.int 1)) (ao lP "one" (aa 0))) (af cp (mC (.int 1)) (ao m7 "other" (aa 0)))))
def pB:Z.MF:=aq 1 1 vv
def xy:Z.MS:=(ai (af eJ (af cp (mC (.int 1)) (ao lP "one" (aa 0))) (af cp (mC (.int 1)) (ao m7 "other" (aa 0)))))
def nU:Z.MF:=aq 1 1 xy
def xq:Z.MS:=(ai (aO (cM 2 [1] (mV (ag (ao gP "switches" (aa 0)) ae)) (fY [0,1]) (aA (ax eV (ag (aa 2) (ag (aa 0) ae)))) (aa 1))))
def i6:Z.MF:=aq 2 2 xq
def gD:List (String×Z.MF):=[("Switch",gG),("Feed",gG),("Earth",gG),("Breaker",pB),("Splitter",nU)]
def jg:List (String×Z.MF):=[("Net",i6)]
def zG:Z.MS:=(ah (aj (aO (cM 1 [] (bC (aw jg "shut_ones" (aa 0) (ag (aa 1) ae))) (ak 0) aR (aw gD "joins" (aa 0) ae))) (ak 3))
      (ah (aj (aa 2) (ak 4))
      (ah (aj (mC .RY) (ak 5))
      (ah (cw (tB (af cA (aa 4) (aa 5)))
      (ah (aj (aa 4) (ak 5))
      (bB (bC (aa 3)) (ak 6)
      (aG (aA (af bZ (aa 6) (aa 4)))
      (aj (af eJ (aa 4) (aa 6)) (ak 4))
      aH))))
      (ai (aa 4))))))
def ji:Z.MF:=aq 3 7 zG
def qR:List (String×Z.MF):=[("Net",ji)]
def zY:Z.MS:=(ah (aj (mC (.int 0)) (ak 2))
      (ah (bB (bC (aw jg "shut_ones" (aa 0) (ag (aa 1) ae))) (ak 3)
      (aj (af eJ (aa 2) (aw iT "feeds" (aa 3) ae)) (ak 2)))
      (ai (aw qR "joined_bars" (aa 0) (ag (aa 1) (ag (aa 2) ae))))))
def jJ:Z.MF:=aq 2 4 zY
def lT:List (String×Z.MF):=[("Net",jJ)]
def vq:Z.MS:=(ah (aj (af ay (ao gP "switches" (aa 0)) (aa 2)) (ak 3))
      (ah (aG (aY (aA (aw i5 "gentle" (aa 3) ae)))
      (ai (mC (.bl false)))
      aH)
      (ah (aj (af bZ (aa 1) (iZ dX (af cp (mC (.int 1)) (aa 2)))) (ak 4))
      (ah (aj (aw gD "joins" (aa 3) ae) (ak 5))
      (ah (aG (aY (aA (af bZ (aa 5) (aw lT "live_bars" (aa 0) (ag (aa 4) ae)))))
      (ai (mC (.bl false)))
      aH)
      (ai (af cA (af bZ (aa 5) (iZ dX (aw qR "joined_bars" (aa 0) (ag (aa 4) (ag (ax eX (ag (aa 5) ae)) ae))))) (mC (.int 0)))))))))
def eZ:Z.MF:=aq 3 6 vq
def zJ:Z.MS:=(ai (af zV (aa 0) (af cp (mC (.int 1)) (aa 1))))
def dD:Z.MF:=aq 2 2 zJ
def i8:Z.MS:=(ai (mC (.int 0)))
def eF:Z.MF:=aq 1 1 i8
def xn:Z.MS:=(ai (af cp (mC (.int 1)) (ao lL "bar" (aa 0))))
def pJ:Z.MF:=aq 1 1 xn
def mE:List (String×Z.MF):=[("Switch",eF),("Feed",eF),("Earth",pJ),("Breaker",eF),("Splitter",eF)]
def xo:Z.MS:=(ah (aj (mC (.int 0)) (ak 2))
      (ah (bB (bC (aw jg "shut_ones" (aa 0) (ag (aa 1) ae))) (ak 3)
      (aj (af eJ (aa 2) (aw mE "earths" (aa 3) ae)) (ak 2)))
      (ai (aa 2))))
def jC:Z.MF:=aq 2 4 xo
def xj:List (String×Z.MF):=[("Net",jC)]
def yf:Z.MS:=(ai (aw qR "joined_bars" (aa 0) (ag (aa 1) (ag (aw xj "led_bars" (aa 0) (ag (aa 1) ae)) ae))))
def jW:Z.MF:=aq 2 2 yf
def tN:List (String×Z.MF):=[("Net",jW)]
def zU:Z.MS:=(ai (af a9 (af bZ (aw lT "live_bars" (aa 0) (ag (aa 1) ae)) (aw tN "earthed_bars" (aa 0) (ag (aa 1) ae))) (mC (.int 0))))
def jU:Z.MF:=aq 2 2 zU
def CL:List (String×Z.MF):=[("Net",jU)]
def v_:Z.MS:=(ai (lM (aw CL "is_safe" (aa 0) (ag (ax dD (ag (aa 1) (ag (aa 2) ae))) ae))))
def fI:Z.MF:=aq 3 3 v_
def j9:Z.MS:=(ah (jc (ax gA (ag (aa 0) (ag (aa 2) ae))))
      (ah (aj (dP "Net" c_ (ag (aa 0) ae)) (ak 3))
      (ah (aG (aA (ax eZ (ag (aa 3) (ag (aa 1) (ag (aa 2) ae)))))
      (cJ "Loaded" (mC (.str "a splitter would part or join a load")))
      aH)
      (ah (aG (aA (ax fI (ag (aa 3) (ag (aa 1) (ag (aa 2) ae)))))
      (cJ "Shorted" (mC (.str "a bar would be live and earthed")))
      aH)
      (ai (ax dD (ag (aa 1) (ag (aa 2) ae))))))))
def fZ:Z.MF:=aq 3 4 j9
def pH:Z.MS:=(ah (aj (mC (.int 0)) (ak 1))
      (ah (kP (ao Bx "given" (aa 0)) (ak 2)
      (aj (af eJ (aa 1) (af ay (aa 2) (mC (.int 1)))) (ak 1)))
      (ai (aa 1))))
def fX:Z.MF:=aq 1 3 pH
def tG:List (String×Z.MF):=[("Board",fX)]
def gE:Z.MS:=(ah (jc (ax gA (ag (ao cq "yard" (aa 0)) (ag (aa 1) ae))))
      (ah (aG (aA (ax eV (ag (ao iM "locks" (aa 0)) (ag (aa 1) ae))))
      (cJ "Locked" (mC (.str "the switch is locked")))
      aH)
      (ah (aG (aA (ax eV (ag (aw tG "held" (aa 0) ae) (ag (aa 1) ae))))
      (cJ "Held" (mC (.str "a permit holds the switch")))
      aH)
      (ah (c8 kU "shut" (aa 0) (ax fZ (ag (ao cq "yard" (aa 0)) (ag (ao kU "shut" (aa 0)) (ag (aa 1) ae)))))
      (ai (ao kU "shut" (aa 0)))))))
def du:Z.MF:=aq 2 2 gE
noncomputable def yp:Z.MF:=λ_ _=>.stuck
def K9:List (String×Z.MF):=[("Board",xi)]
def CG:List (String×Z.MF):=[("Board",eG)]
def EF:List (String×Z.MF):=[("Board",du)]
def JA:List (String×Z.MF):=[("Board",yp)]
def cD:Z.MS:=(ah (aG (tB (af a9 (aa 1) (mC (.str "turn"))))
      (ai (HU (aA (ax eV (ag (aw EF "turn" (ao cn "board" (aa 0)) (ag (aa 2) ae)) (ag (aa 2) ae)))) (mC (.str "shut")) (mC (.str "open"))))
      aH)
      (ah (aG (tB (af a9 (aa 1) (mC (.str "lock"))))
      (jc (aw CG "lock" (ao cn "board" (aa 0)) (ag (aa 2) ae)))
      aH)
      (ah (aG (tB (af a9 (aa 1) (mC (.str "unlock"))))
      (jc (aw JA "unlock" (ao cn "board" (aa 0)) (ag (aa 2) ae)))
      aH)
      (ah (aG (tB (af a9 (aa 1) (mC (.str "back"))))
      (jc (aw K9 "give_back" (ao cn "board" (aa 0)) (ag (aa 2) ae)))
      aH)
      (ai (mC (.str "ok")))))))
def dA:Z.MF:=aq 3 3 cD
noncomputable def t7:Z.MF:=λ_ _=>.stuck
def xN:Z.MS:=(ah (aG (tB (af a9 (aa 0) (mC (.str "live"))))
      (ai (bD (ag (aa 1) (ag (mC (.int 0)) (ag (mC (.int 0)) ae)))))
      aH)
      (ah (aG (tB (af a9 (aa 0) (mC (.str "dead"))))
      (ai (bD (ag (mC (.int 0)) (ag (aa 1) (ag (mC (.int 0)) ae)))))
      aH)
      (ai (bD (ag (mC (.int 0)) (ag (mC (.int 0)) (ag (aa 1) ae)))))))
def jZ:Z.MF:=aq 2 2 xN
def y6:Z.MS:=(ai (aO (cM 1 [1] (jL (ag (bh bJ (ag (af ay (aa 0) (mC (.int 1))) ae)) ae)) (ak 0) (aY (aA (ax eV (ag (aa 1) (ag (aa 0) ae))))) (aa 0))))
def hG:Z.MF:=aq 2 2 y6
def OP:Z.MS:=(ah (aj (ax dD (ag (aa 5) (ag (aa 6) ae))) (ak 7))
      (aG (bW (tB (af (cW true) (aa 7) (aa 3))) (bW (aY (aA (ax eZ (ag (aa 0) (ag (aa 5) (ag (aa 6) ae)))))) (aY (aA (ax fI (ag (aa 0) (ag (aa 5) (ag (aa 6) ae))))))))
      (ah (Ep (aa 3) (aa 7) (aa 6))
      (mQ (aa 4) (aa 7)))
      aH))
def iH:Z.MS:=(ah (aj (h9 (bz ae)) (ak 4))
      (ah (bB (bC (aa 2)) (ak 5)
      (bB (bC (aa 1)) (ak 6)
      OP))
      (gZ 4 (ai (aO (mK (ag (aa 4) ae)))))))
def jK:Z.MF:=aq 4 8 iH
def j8:Z.MS:=(ah (aj (aw lT "live_bars" (aa 0) (ag (aa 1) ae)) (ak 3))
      (ah (aj (aw tN "earthed_bars" (aa 0) (ag (aa 1) ae)) (ak 4))
      (ai (jx (af a9 (af bZ (af ay (aa 2) (mC (.int 0))) (iZ dX (aa 3))) (mC (.int 0))) (jx (af a9 (af bZ (af ay (aa 2) (mC (.int 1))) (aa 3)) (mC (.int 0))) (af a9 (af bZ (af ay (aa 2) (mC (.int 2))) (iZ dX (aa 4))) (mC (.int 0))))))))
def fh:Z.MF:=aq 3 5 j8
def hU:Z.MS:=(ah (aj (h9 (bz ae)) (ak 2))
      (ah (cw (tB (af As (af ay (aa 1) (aa 0)) (mC .RY)))
      (ah (aj (af ay (aa 1) (aa 0)) (ak 3))
      (ah (mQ (aa 2) (aa 3))
      (aj (ax dD (ag (aa 0) (ag (aa 3) ae))) (ak 0)))))
      (gZ 2 (ai (aO (AN (ag (aa 2) ae)))))))
def jk:Z.MF:=aq 2 4 hU
def ON:Z.MS:=(aG (aA (ax fh (ag (aa 4) (ag (aa 8) (ag (aa 3) ae)))))
      (ai (bD (ag (mC (.str "plan")) (ag (ax jk (ag (aa 8) (ag (aa 6) ae))) ae))))
      aH)
def fG:Z.MS:=(ah (aj (dP "Net" c_ (ag (aa 0) ae)) (ak 4))
      (ah (aj (ax hG (ag (aa 0) (ag (aa 2) ae))) (ak 5))
      (ah (aj (yr (aa 1) (mC .RY)) (ak 6))
      (ah (aj (aO (bz (ag (aa 1) ae))) (ak 7))
      (ah (cw (aA (aa 7))
      (ah (bB (bC (aa 7)) (ak 8)
      ON)
      (aj (ax jK (ag (aa 4) (ag (aa 5) (ag (aa 7) (ag (aa 6) ae))))) (ak 7))))
      (ai (bD (ag (mC (.str "never")) (ag (aO (mK (ag (aa 6) ae))) ae)))))))))
def ju:Z.MF:=aq 4 9 fG
def xY:Z.MS:=(ai (ao iM "locks" (aa 0)))
def fH:Z.MF:=aq 1 1 xY
def uO:Z.MS:=(ai (ao kU "shut" (aa 0)))
def dU:Z.MF:=aq 1 1 uO
def uL:List (String×Z.MF):=[("Board",fH)]
def j6:List (String×Z.MF):=[("Board",dU)]
def jj:Z.MS:=(ah (aG (dZ (tB (af cA (bh bJ (ag (aa 1) ae)) (mC (.int 2)))) (tB (af (cW true) (af ay (aa 1) (mC (.int 0))) (bD (ag (mC (.str "live")) (ag (mC (.str "dead")) (ag (mC (.str "earthed")) ae)))))))
      (cJ "NoRow" (mC (.str "a kind and one bar are due")))
      aH)
      (ah (aj (ax jZ (ag (af ay (aa 1) (mC (.int 0))) (ag (ax fJ (ag (cQ (aa 1) (cN (mC (.int 1))) cL) (ag (af ay (ao cq "yard" (aa 0)) (mC (.int 0))) ae))) ae))) (ak 2))
      (ah (aj (ax ju (ag (ao cq "yard" (aa 0)) (ag (aw j6 "standing" (ao cn "board" (aa 0)) ae) (ag (af eJ (aw uL "locked" (ao cn "board" (aa 0)) ae) (aw tG "held" (ao cn "board" (aa 0)) ae)) (ag (aa 2) ae))))) (ak 3))
      (ah (aG (tB (af a9 (af ay (aa 3) (mC (.int 0))) (mC (.str "never"))))
      (ai (mC (.str "never")))
      aH)
      (ai (tK kD (mC (.str " ")) (ag (af aB (aO (bz (ag (mC (.str "plan")) ae))) (aO (cM 1 [] (bC (af ay (aa 3) (mC (.int 1)))) (ak 0) aR (bh aX (ag (aa 0) ae))))) ae)))))))
def h_:Z.MF:=aq 2 4 jj
noncomputable def uj:Z.MF:=λ_ _=>.stuck
def uf:Z.MS:=(ai (aO (cM 1 [0] (jL (ag (mZ (aa 0)) ae)) (ak 0) (aA (ax eV (ag (aa 1) (ag (aa 0) ae)))) (aa 0))))
def e8:Z.MF:=aq 1 1 uf
def v8:Z.MS:=(ai (aw lT "live_bars" (dP "Net" c_ (ag (aa 0) ae)) (ag (aa 1) ae)))
def jS:Z.MF:=aq 2 2 v8
def wV:Z.MS:=(ai (aw tN "earthed_bars" (dP "Net" c_ (ag (aa 0) ae)) (ag (aa 1) ae)))
def i_:Z.MF:=aq 2 2 wV
def cF:Z.MS:=(ah (aG (tB (af a9 (aa 1) (mC (.str "live"))))
      (ai (ax cj (ag (ax e8 (ag (ax jS (ag (ao cq "yard" (aa 0)) (ag (aw j6 "standing" (ao cn "board" (aa 0)) ae) ae))) ae)) ae)))
      aH)
      (ah (aG (tB (af a9 (aa 1) (mC (.str "earthed"))))
      (ai (ax cj (ag (ax e8 (ag (ax i_ (ag (ao cq "yard" (aa 0)) (ag (aw j6 "standing" (ao cn "board" (aa 0)) ae) ae))) ae)) ae)))
      aH)
      (ah (aG (tB (af a9 (aa 1) (mC (.str "locked"))))
      (ai (ax cj (ag (ax e8 (ag (aw uL "locked" (ao cn "board" (aa 0)) ae) ae)) ae)))
      aH)
      (ah (aG (tB (af a9 (aa 1) (mC (.str "shut"))))
      (ai (ax cj (ag (ax e8 (ag (aw j6 "standing" (ao cn "board" (aa 0)) ae) ae)) ae)))
      aH)
      (ah (aG (tB (af a9 (aa 1) (mC (.str "show"))))
      (ai (ax uj (ag (ao cq "yard" (aa 0)) ae)))
      aH)
      (cJ "NoRow" (mC (.str "no such row"))))))))
def kA:Z.MF:=aq 2 2 cF
def Ff:List (String×Z.MF):=[("Desk",ie)]
def EN:List (String×Z.MF):=[("Desk",dA)]
def Ic:List (String×Z.MF):=[("Board",t7)]
def CU:List (String×Z.MF):=[("Desk",h_)]
def EL:List (String×Z.MF):=[("Desk",kA)]
def bQ:Z.MS:=(ah (aj (aO (lN (aa 1) (ag (mC (.str " ")) ae))) (ak 2))
      (ah (aj (af ay (aa 2) (mC (.int 0))) (ak 3))
      (ah (aG (tB (af a9 (aa 3) (mC (.str "bars"))))
      (ai (aw vm "begin" (aa 0) (ag (bD (ag (ax iJ (ag (aa 1) ae)) (ag (aO (bz ae)) ae))) ae)))
      aH)
      (ah (aG (tB (af mJ (ao cq "yard" (aa 0)) (mC .RY)))
      (cJ "NoRow" (mC (.str "there is no yard yet")))
      aH)
      (ah (aG (tB (af (cW false) (aa 3) (bD (ag (mC (.str "feed")) (ag (mC (.str "earth")) (ag (mC (.str "breaker")) (ag (mC (.str "splitter")) ae)))))))
      (ai (aw Ff "add_switch" (aa 0) (ag (aa 1) ae)))
      aH)
      (ah (aG (tB (af (cW false) (aa 3) (bD (ag (mC (.str "turn")) (ag (mC (.str "lock")) (ag (mC (.str "unlock")) (ag (mC (.str "back")) ae)))))))
      (ai (aw EN "done" (aa 0) (ag (aa 3) (ag (ax gS (ag (cQ (aa 2) (cN (mC (.int 1))) cL) ae)) ae))))
      aH)
      (ah (aG (tB (af a9 (aa 3) (mC (.str "permit"))))
      (ah (aj (aw Ic "permit" (ao cn "board" (aa 0)) (ag (ax fJ (ag (cQ (aa 2) (cN (mC (.int 1))) cL) (ag (af ay (ao cq "yard" (aa 0)) (mC (.int 0))) ae))) ae)) (ak 4))
      (ai (He (Gs (mC (.str "permit ")) (Gs (Ac (aa 4)) vA)))))
      aH)
      (ah (aG (tB (af a9 (aa 3) (mC (.str "locks"))))
      (ai (ax cj (ag (af ay (ax yS (ag (ao cq "yard" (aa 0)) (ag (ax fJ (ag (cQ (aa 2) (cN (mC (.int 1))) cL) (ag (af ay (ao cq "yard" (aa 0)) (mC (.int 0))) ae))) ae))) (mC (.int 0))) ae)))
      aH)
      (ah (aG (tB (af a9 (aa 3) (mC (.str "reach"))))
      (ai (aw CU "reach" (aa 0) (ag (cQ (aa 2) (cN (mC (.int 1))) cL) ae)))
      aH)
      (ah (aG (tB (af cA (bh bJ (ag (aa 2) ae)) (mC (.int 1))))
      (cJ "NoRow" (mC (.str "no such row")))
      aH)
      (ai (aw EL "tell" (aa 0) (ag (aa 3) ae)))))))))))))
def br:Z.MF:=aq 2 5 bQ
def eD:List (String×Z.MF):=[("Desk",br)]
def gC:Z.MS:=(ah (aG (tB (af a9 (aa 1) (mC (.str "earthed"))))
      (ai (ax jQ (ag (aw eD "say" (aa 0) (ag (mC (.str "earthed")) ae)) (ag (aa 2) ae))))
      aH)
      (ai (af a9 (ax jQ (ag (aw eD "say" (aa 0) (ag (mC (.str "live")) ae)) (ag (aa 2) ae))) (af a9 (aa 1) (mC (.str "live"))))))
def ft:Z.MF:=aq 3 3 gC
def fW:Z.MS:=(ah (aj (mC (.bl true)) (ak 2))
      (ah (q_ (jc (aw eD "say" (aa 0) (f7 (ag (aa 1) ae)))) (E7 WM
      (aj (mC (.bl false)) (ak 2))
      xE))
      (ai (aa 2))))
def bV:Z.MF:=aq 2 3 fW
def jP:Z.MS:=(aG (bW (tB (af kY (aa 2) (mC (.int 0)))) (aA (ax bV (ag (aa 0) (ag (af aB (mC (.str "turn ")) (bh aX (ag (af aP (af aU (aa 6) (mC (.int 3))) (aa 2)) ae))) ae)))))
      (ah (aj (af aB (aa 5) (mC (.int 1))) (ak 5))
      (aG (aA (ax ft (ag (aa 0) (ag (aa 3) (ag (aa 4) ae)))))
      (ai (aa 5))
      aH))
      aH)
def kB:Z.MS:=(ah (aG (aA (ax ft (ag (aa 0) (ag (aa 3) (ag (aa 4) ae)))))
      (ai (mC (.int 0)))
      aH)
      (ah (aj (mC (.int 0)) (ak 5))
      (ah (bB (bC (aa 1)) (ak 6)
      jP)
      (ai (iZ iK (mC (.int 1)))))))
def iq:Z.MF:=aq 5 7 kB
def uN:Z.MS:=(ah (aG (dZ (tB (af (cW true) (aa 4) (aO (bz (ag (mC (.str "0")) (ag (mC (.str "1")) (ag (mC (.str "2")) (ag (mC (.str "3")) (ag (mC (.str "4")) (ag (mC (.str "5")) (ag (mC (.str "6")) ae))))))))))) (tB (af kW (bh dj (ag (aa 4) ae)) (aa 1))))
      (ai (mC .RY))
      aH)
      (mQ (aa 3) (bh dj (ag (aa 4) ae))))
def jG:Z.MS:=(ah (aG (aY (aA (bh jo (ag (aa 0) (ag (mC (.ty "str")) ae)))))
      (ai (mC .RY))
      aH)
      (ah (aj (aO (lN (aa 0) (ag (mC (.str " ")) ae))) (ak 2))
      (ah (aG (tB (af cA (af ay (aa 2) (mC (.int 0))) (mC (.str "plan"))))
      (ai (mC .RY))
      aH)
      (ah (aj (h9 (bz ae)) (ak 3))
      (ah (bB (bC (cQ (aa 2) (cN (mC (.int 1))) cL)) (ak 4)
      uN)
      (gZ 3 (ai (aa 3))))))))
def ja:Z.MF:=aq 2 5 jG
def B9:Z.MS:=(aG (dZ (aA (ax ft (ag (aa 0) (ag (aa 2) (ag (aa 3) ae))))) (aY (aA (ax bV (ag (aa 0) (ag (af aB (mC (.str "turn ")) (bh aX (ag (af ay (aa 1) (aa 4)) ae))) ae))))))
      (ai (mC (.bl false)))
      aH)
def jq:Z.MS:=(ah (bB (jL (ag (bh bJ (ag (aa 1) ae)) ae)) (ak 4)
      B9)
      (ai (ax ft (ag (aa 0) (ag (aa 2) (ag (aa 3) ae))))))
def j_:Z.MF:=aq 4 5 jq
def gW:Z.MS:=(ah (aj (af aP (af aU (aa 0) (mC (.int 4))) (aa 1)) (ak 2))
      (ah (aj (af aP (af aB (af aB (aa 2) (mC (.int 1))) (af aP (af aU (af aU (aa 0) (mC (.int 4))) (aa 1)) (af uv (aa 1) (mC (.int 1))))) (aa 1)) (ak 3))
      (ah (aG (tB (af a9 (af aP (aa 0) (mC (.int 4))) (mC (.int 0))))
      (ai (aO (bz (ag (mC (.str "feed")) (ag (aa 2) ae)))))
      aH)
      (ah (aG (tB (af a9 (af aP (aa 0) (mC (.int 4))) (mC (.int 1))))
      (ai (aO (bz (ag (mC (.str "earth")) (ag (aa 2) ae)))))
      aH)
      (ai (aO (bz (ag (af ay (aO (bz (ag (mC (.str "breaker")) (ag (mC (.str "splitter")) ae)))) (af aP (aa 0) (mC (.int 2)))) (ag (aa 2) (ag (aa 3) ae))))))))))
def cU:Z.MF:=aq 2 4 gW
def ir:Z.MS:=(ah (aG (tB (af uZ (aa 1) (bh bJ (ag (aa 0) ae))))
      (ai (af ay (aa 0) (aa 1)))
      aH)
      (ai (mC (.int 0))))
def bw:Z.MF:=aq 2 2 ir
def tS:Z.MS:=(mQ (aa 3) (tK kD (mC (.str " ")) (ag (af aB (aO (bz (ag (af ay (aa 4) (mC (.int 0))) ae))) (aO (cM 1 [] (bC (cQ (aa 4) (cN (mC (.int 1))) cL)) (ak 0) aR (bh aX (ag (aa 0) ae))))) ae)))
def jm:Z.MS:=(ah (aj (h9 (bz (ag (af aB (mC (.str "bars ")) (bh aX (ag (aa 1) ae))) ae))) (ak 3))
      (ah (bB (bC (aa 2)) (ak 4)
      tS)
      (gZ 3 (ai (af a9 (aO (cM 1 [0] (bC (aa 3)) (ak 0) (tB (af cA (aw eD "say" (aa 1) (ag (aa 0) ae)) (mC (.str "ok")))) (aa 0))) (aO (bz ae)))))))
def fq:Z.MF:=aq 3 5 jm
def i7:Z.MS:=(ah (c8 cq "yard" (aa 0) (mC .RY))
      (c8 cn "board" (aa 0) (mC .RY)))
def dt:Z.MF:=aq 1 1 i7
def tj:Z.MS:=(aG (tB (af kY (aa 2) (mC (.int 0))))
      (ah (aj (af aB (af ay (aO (bz (ag (mC (.str "turn ")) (ag (mC (.str "lock ")) ae)))) (bh dj (ag (af a9 (af aP (aa 7) (mC (.int 5))) (mC (.int 0))) ae))) (bh aX (ag (af aP (af aU (aa 7) (mC (.int 5))) (aa 2)) ae))) (ak 8))
      (aG (tB (af cA (ax bV (ag (af ay (aa 4) (mC (.int 0))) (ag (aa 8) ae))) (ax bV (ag (af ay (aa 4) (mC (.int 1))) (ag (aa 8) ae)))))
      (ai (mC (.bl false)))
      aH))
      aH)
def AG:Z.MS:=(ah (aj (af aB (mC (.int 2)) (af aP (ax bw (ag (aa 0) (ag (mC (.int 0)) ae))) (mC (.int 7)))) (ak 1))
      (ah (aj (af aP (af aU (ax bw (ag (aa 0) (ag (mC (.int 0)) ae))) (mC (.int 7))) (mC (.int 8))) (ak 2))
      (ah (aj (aO (cM 1 [1,0] (jL (ag (aa 2) ae)) (ak 0) aR (ax cU (ag (af aU (ax bw (ag (aa 2) (ag (af aB (mC (.int 1)) (aa 0)) ae))) (mC (.int 3))) (ag (aa 1) ae))))) (ak 3))
      (ah (aj (aO (bz (ag (pG "Desk" dt ae) (ag (pG "Desk" dt ae) ae)))) (ak 4))
      (ah (aG (dZ (aY (aA (ax fq (ag (af ay (aa 4) (mC (.int 0))) (ag (aa 1) (ag (aa 3) ae)))))) (aY (aA (ax fq (ag (af ay (aa 4) (mC (.int 1))) (ag (aa 1) (ag (aa 3) ae)))))))
      (ai (mC (.bl false)))
      aH)
      (ah (aj (cQ (aa 0) cL (cN (mC (.int 64)))) (ak 5))
      (ah (aj (af aU (bh bJ (ag (aa 5) ae)) (mC (.int 2))) (ak 6))
      (ah (bB (bC (cQ (aa 5) cL (cN (aa 6)))) (ak 7)
      tj)
      (ah (aj (af aP (af aU (ax bw (ag (aa 0) (ag (mC (.int 0)) ae))) (mC (.int 56))) (aa 1)) (ak 9))
      (ah (aj (af ay (aO (bz (ag (mC (.str "live")) (ag (mC (.str "dead")) (ag (mC (.str "earthed")) ae))))) (af aP (af aU (ax bw (ag (aa 0) (ag (mC (.int 0)) ae))) (mC (.int 448))) (mC (.int 3)))) (ak 10))
      (ah (aj (aO (bz (ag (aw eD "say" (af ay (aa 4) (mC (.int 0))) (ag (mC (.str "shut")) ae)) (ag (aw eD "say" (af ay (aa 4) (mC (.int 0))) (ag (mC (.str "locked")) ae)) ae)))) (ak 11))
      (ah (aj (aw eD "say" (af ay (aa 4) (mC (.int 0))) (ag (af aB (af aB (af aB (mC (.str "reach ")) (aa 10)) (mC (.str " "))) (bh aX (ag (aa 9) ae))) ae)) (ak 12))
      (ah (aG (dZ (tB (af cA (aO (bz (ag (aw eD "say" (af ay (aa 4) (mC (.int 0))) (ag (mC (.str "shut")) ae)) (ag (aw eD "say" (af ay (aa 4) (mC (.int 0))) (ag (mC (.str "locked")) ae)) ae)))) (aa 11))) (tB (af cA (af ay (aa 11) (mC (.int 0))) (aw eD "say" (af ay (aa 4) (mC (.int 1))) (ag (mC (.str "shut")) ae)))))
      (ai (mC (.bl false)))
      aH)
      (ah (aj (ax iq (ag (af ay (aa 4) (mC (.int 1))) (ag (cQ (aa 5) (cN (aa 6)) cL) (ag (aa 2) (ag (aa 10) (ag (aa 9) ae)))))) (ak 13))
      (ah (aG (tB (af a9 (aa 12) (mC (.str "never"))))
      (ai (af uZ (aa 13) (mC (.int 0))))
      aH)
      (ah (aj (ax ja (ag (aa 12) (ag (aa 2) ae))) (ak 14))
      (ah (aG (dZ (tB (af mJ (aa 14) (mC .RY))) (bW (tB (af kW (aa 13) (mC (.int 0)))) (tB (af kY (bh bJ (ag (aa 14) ae)) (aa 13)))))
      (ai (mC (.bl false)))
      aH)
      (ai (ax j_ (ag (af ay (aa 4) (mC (.int 0))) (ag (aa 14) (ag (aa 10) (ag (aa 9) ae)))))))))))))))))))))))
def Fl:Z.MF:=aq 1 15 AG
end My
namespace My
open Z PySem
noncomputable def sd(s:Str×List Int):D:=.tup (.str s.1::s.2.map .int)
def SwOk(c:Int)(s:Str×List Int):Prop:=
 (∃b,0<=b/\b<c/\(s=(("feed":Str),[b])\/s=(("earth":Str),[b])))\/∃a b,0<=a/\a<c/\0<=b/\b<c/\a≠b/\(s=(("breaker":Str),[a,b])\/s=(("splitter":Str),[a,b]))
abbrev W(n:Int):Str:=aV n
theorem uP:∀n:Fin 13,(W n.val).cps.toList.length<=2/\1<=(W n.val).cps.toList.length/\(32∉(W n.val).cps.toList)/\(10∉(W n.val).cps.toList):=⋯
theorem bY(h0:0<=n)(h1:n<=12):(W n).length<=2/\1<=(W n).length/\(32∉(W n).cps.toList)/\(10∉(W n).cps.toList):=by
 obtain⟨m,rfl⟩:∃m:Nat,n=m:=⟨n.toNat,⋯⟩;have:=uP ⟨m,⋯⟩;simpa [Str.length]using this
def bL(s:Str×List Int):Str:=Str.join ⟨#[32]⟩ (s.1::s.2.map W)
theorem SwOk.bars(ok:SwOk c s):(∀b∈s.2,0<=b/\b<c)/\s.2.length<=2/\s.2≠[]/\s.1.length<=8/\(32∉s.1.cps.toList)/\(10∉s.1.cps.toList):=by
 have hs:∀k:Str,(k="feed"\/k="earth"\/k="breaker"\/k="splitter")->k.length<=8/\(32∉k.cps.toList)/\(10∉k.cps.toList):=by
  rintro k (rfl|rfl|rfl|rfl)<;>decide+kernel
 rcases ok with⟨b,h0,h1,rfl|rfl⟩|⟨a,b,h0,h1,h2,h3,_,rfl|rfl⟩
 ·exact⟨by simp;lia,by simp,by simp,hs _ (by simp)⟩
 ·exact⟨by simp;lia,by simp,by simp,hs _ (by simp)⟩
 ·exact⟨by simp;lia,by simp,by simp,hs _ (by simp)⟩
 ·exact⟨by simp;lia,by simp,by simp,hs _ (by simp)⟩
theorem uD{l:List Nat}(h:∀x∈l,x<=m):l.sum<=l.length*m:=by
 induction l with
 | nil=>simp
 | cons a l ih=>
  have h1:=h a (qa ..);have h2:=ih λx hx=>h x (q8 _ hx);simp only[gp,qw,Nat.succ_mul]
  lia
theorem iS:(" ":Str)=⟨#[32]⟩:=⋯
def cX(c:Int):Str:=bL (("bars":Str),[c])
theorem BO(hk:k.length<=8)(k32:32∉k.cps.toList)(k10:10∉k.cps.toList)(hb:∀b∈bs,0<=b/\b<=12)(hl:bs.length<=2):
  (bL (k,bs)).length<=20/\(10∉(bL (k,bs)).cps.toList)/\Txt.split (bL (k,bs)) ⟨#[32]⟩=k::bs.map W:=by
 have hw:∀p∈k::bs.map W,32∉p.cps.toList/\10∉p.cps.toList/\p.length<=8:=by
  intro p hp;rcases qg.mp hp with rfl|hp
  ·exact⟨k32,k10,hk⟩
  ·obtain⟨b,Ue,rfl⟩:=qz.mp hp
   have:=bY (hb b Ue).1 (hb b Ue).2;exact⟨this.2.2.1,this.2.2.2,⋯⟩
 refine⟨?_,?_,BZ (λz=>nomatch z) λp hp=>(hw p hp).1⟩
 ·have:=oX (c:=32) (k::bs.map W) (λz=>nomatch z)
  show(Str.join ⟨#[32]⟩ (k::bs.map W)).length<=20;have h2:((k::bs.map W).map (·.length)).sum<=8+2*2:=by
   have:=uD (l:=(bs.map W).map (·.length)) (m:=2) (by
    intro x hx;simp only[qz]at hx;obtain⟨y,⟨b,Ue,rfl⟩,rfl⟩:=hx;exact(bY (hb b Ue).1 (hb b Ue).2).1)
   simp only[qf]at this;simp only[List.map_cons,gp]
   lia
  simp only[qw,qf]at this
  lia
 ·unfold bL
  have gen:∀ps:List Str,(∀p∈ps,10∉p.cps.toList)->10∉(Str.join ⟨#[32]⟩ ps).cps.toList:=by
   intro ps
   induction ps with
   | nil=>intro _;simp[Str.join,Str.empty]
   | cons p ps ih=>
    intro hp;cases ps with
    | nil=>exact hp p (qa ..)
    | cons q r=>
     rw[tL];intro hm;rcases qv.mp hm with hm|hm
     ·exact hp p (qa ..) hm
     ·rcases qg.mp hm with hm|hm
      ·exact absurd hm ⋯
      ·exact ih (λa ha=>hp a (q8 _ ha)) hm
  exact gen _ λp hp=>(hw p hp).2.1
theorem tx:("bars":Str).length<=8/\32∉("bars":Str).cps.toList/\10∉("bars":Str).cps.toList:=⋯
noncomputable def mD(c:Nat):Bool:=decide (48<=c/\c<=57)
def fi(w:Str):Bool:=decide (1<=w.length)&&decide (w.length<=9)&& !(decide (w.cps.toList[0]?=⇑48)&&decide (1<w.length))&&w.cps.toList.all mD
theorem DJ(c:Nat):(!(Builtin.Str.occurrences ("0123456789":Str) ⟨#[c]⟩ 0 ("0123456789":Str).length 1).isEmpty)=mD c:=by
 rw[StrLaws.found_one];have e:("0123456789":Str).cps.toList=[48,49,50,51,52,53,54,55,56,57]:=⋯;rw[e];unfold mD;by_cases h:48<=c/\c<=57
 ·rw[decide_eq_true h,decide_eq_true]
  simp;omega
 ·rw[decide_eq_false h,decide_eq_false]
  simp;omega
theorem Cu(c:Nat):decide ((⟨#[c]⟩:Str)=("0":Str))=decide (c=48):=by
 have e:("0":Str)=⟨#[48]⟩:=⋯;rw[e];simp
theorem Qa(w:Str)(h:MH)(hw:w.length<16777216):f6 [.str w] h=.ok (.bl (fi w)) h:=by
 have hl:w.cps.toList.length=w.length:=by simp[Str.length]
 have hle:w.length<=16777216:=⋯;have hsz:w.cps.size<16777216:=hw;have comp:compLoop (ak 0) aR (af (cW false) (aa 0) (mC (.str "0123456789"))) [none] (w.cps.toList.map λc=>D.str ⟨#[c]⟩) h=.ok ((w.cps.toList.map mD).map D.bl) h:=by
  have:=rL (g:=ak 0) (t:=aR) (h:=h) (m:=af (cW false) (aa 0) (mC (.str "0123456789"))) (ρ0:=[none]) (λc:Nat=>D.str ⟨#[c]⟩) (λc=>[⇑(D.str ⟨#[c]⟩)]) (λc=>D.bl (mD c)) w.cps.toList (λc hm=>by
   refine⟨by simp,by simp,?_⟩;simp only[af,aa,mC,cW,bU,qy];have:=DJ c;simp only[qu,if_false];rw[this])
  rw[this,List.map_map];rfl
 have hlt:(w.cps.toList.map λc=>D.str ⟨#[c]⟩).length<16777216:=by rw[qf,hl];exact hw
 have e9:((w.length:Int)<=9)↔w.length<=9:=⋯;have VI:(w.cps.toList.map mD).all id=w.cps.toList.all mD:=by simp[List.all_map]
 simp only[f6,yk];unfold fi;by_cases h1:1<=w.length
 ·by_cases h2:w.length<=9
  ·obtain⟨c,r,ec⟩:∃c r,w.cps.toList=c::r:=by
    cases e:w.cps.toList with
    | nil=>rw[e]at hl;simp at hl;lia
    | cons c r=>exact⟨c,r,rfl⟩
   have i0:cx w.cps.toList 0=⇑c:=by rw[ec];simp
   have g0:w.cps.toList[0]?=⇑c:=by rw[ec];rfl
   have WV:(1:Int)<=(w.length:Int):=⋯;have Xc:(w.length:Int)<=9:=⋯;by_cases h3:c=48
   ·by_cases h4:1<w.length
    ·have h4':(1:Int)<(w.length:Int):=⋯
     simp[-List.map_map, -Array.toList_map,R7,hle,h1,h2,WV,Xc,i0,Cu,h3,h4,h4',g0]
    ·have h4':¬(1:Int)<(w.length:Int):=⋯
     simp[-List.map_map, -Array.toList_map,R7,hle,h1,h2,WV,Xc,i0,Cu,h3,h4,h4',g0,comp,hsz]
   ·simp[-List.map_map, -Array.toList_map,R7,hle,h1,h2,WV,Xc,i0,Cu,h3,g0,comp,hsz]
  ·have Xc:¬(w.length:Int)<=9:=⋯
   have WV:(1:Int)<=(w.length:Int):=⋯;simp[R7,hle,h1,h2,WV,Xc]
 ·have WV:¬(1:Int)<=(w.length:Int):=⋯
  simp[R7,hle,h1,WV]
noncomputable def fm(k:Str):Option Int:=if k="bars"then some 1 else if k="feed"then some 1 else if k="earth"then some 1 else if k="breaker"then some 2 else if k="splitter"then some 2 else none
theorem qS(k:Str):∃kvs,ur=.VJ kvs/\bI kvs (.inr k)=(fm k).map D.int:=by
 refine⟨_,rfl,?_⟩;unfold bI fm;simp only[zt,List.find?_nil];by_cases h1:k="bars"
 ·subst h1;simp
 by_cases h2:k="feed"
 ·subst h2;rfl
 by_cases h3:k="earth"
 ·subst h3;rfl
 by_cases h4:k="breaker"
 ·subst h4;rfl
 by_cases h5:k="splitter"
 ·subst h5;rfl
 have e:∀x:Str,k≠x->¬(x=k):=λx hx z=>hx z.symm;simp[e _ h1,e _ h2,e _ h3,e _ h4,e _ h5,h1,h2,h3,h4,h5]
noncomputable def dk(w:Str):Int:=(intText? w).getD 0
theorem oy(h:fi w=true):intText? w=⇑(dk w)/\w.length<=640:=by
 unfold fi at h;simp only[z4,decide_eq_true_eq]at h;obtain⟨⟨⟨h1,h2⟩,_⟩,h4⟩:=h;have hd:PySem.NumText.AllDigits w.cps.toList:=by
  intro c hc;have:=List.all_eq_true.mp h4 c hc;unfold mD at this;exact of_decide_eq_true this
 have hne:w.cps.toList≠[]:=by
  intro e;have:w.cps.toList.length=w.length:=by simp[Str.length]
  rw[e]at this;simp at this;lia
 have:=intText_digits hd hne ⋯;unfold dk;rw[this];exact⟨rfl,⋯⟩
def AL(ws:List Str):Option (Str×List Int):=match ws with
 | []=>none
 | k::r=>match fm k with
  | none=>none
  | some n=>if(r.length:Int)=n then(if r.all fi=true then some (k,r.map dk)else none)else none
theorem LL{l:List Nat}(h:x∈l):x<=l.sum:=by
 induction l with
 | nil=>cases h
 | cons a l ih=>
  rcases qg.mp h with rfl|h
  ·simp
  ·have:=ih h;simp;lia
theorem OA(h:p∈Txt.split x ⟨#[c]⟩):p.length<=x.length:=by
 have e:=oX (c:=c) (Txt.split x ⟨#[c]⟩) (yj _ _);rw[StrLaws.join_split]at e;have h1:p.length<=((Txt.split x ⟨#[c]⟩).map (·.length)).sum:=LL (qz.mpr ⟨p,h,rfl⟩);have h2:(Txt.split x ⟨#[c]⟩).length≠0:=λz=>yj x ⟨#[c]⟩ (k9 z)
 lia
theorem Ea(r:List Str)(h:MH)(hs:∀w∈r,w.length<16777216)(hl:r.length<16777216):dF [.lst (r.map D.str)] h=if r.all fi=true then .ok (.lst ((r.map dk).map D.int)) h else .exc "NoRow" h:=by
 have comp:compLoop (ak 0) aR (ax f6 (ag (aa 0) ae)) [none] (r.map D.str) h=.ok ((r.map fi).map D.bl) h:=by
  have:=rL (g:=ak 0) (t:=aR) (h:=h) (m:=ax f6 (ag (aa 0) ae)) (ρ0:=[none]) (λw:Str=>D.str w) (λw=>[⇑(D.str w)]) (λw=>D.bl (fi w)) r (λw hm=>by
   refine⟨by simp,by simp,?_⟩;simp;exact Qa w h (hs w hm))
  rw[this,List.map_map];rfl
 have compI:r.all fi=true->compLoop (ak 0) aR (bh dj (ag (aa 0) ae)) [none] (r.map D.str) h=.ok ((r.map dk).map D.int) h:=λTC=>by
  have:=rL (g:=ak 0) (t:=aR) (h:=h) (m:=bh dj (ag (aa 0) ae)) (ρ0:=[none]) (λw:Str=>D.str w) (λw=>[⇑(D.str w)]) (λw=>D.int (dk w)) r (λw hm=>by
   refine⟨by simp,by simp,?_⟩;obtain⟨q1,q2⟩:=oy (List.all_eq_true.mp TC w hm);simp[R7,q1,q2])
  rw[this,List.map_map];rfl
 have VI:(r.map fi).all id=r.all fi:=by simp[List.all_map]
 by_cases TC:r.all fi=true
 ·simp[-List.map_map, -List.all_eq_true,dF,oi,R7,TC,comp,compI TC,hl,VI]
 ·simp[-List.map_map, -List.all_eq_true,dF,oi,R7,TC,comp,hl,VI]
theorem pV(row:Str)(h:MH)(hr:row.length+1<16777216):ee [.str row] h=match AL (Txt.split row ⟨#[32]⟩)with
  | some s=>.ok (sd s) h
  | none=>.exc "NoRow" h:=by
 have hsl:=LB row 32;have hsh:=λp (hp:p∈Txt.split row ⟨#[32]⟩)=>OA hp;have hne:=yj row ⟨#[32]⟩;generalize ew:Txt.split row ⟨#[32]⟩=ws at*;have l32:¬((⟨#[32]⟩:Str).length=0):=⋯;have hr0:row.length<=16777216:=⋯;have hw0:ws.length<=16777216:=⋯;have es:lN (aa 0) (ag (mC (.str " ")) ae) [⇑(.str row),none,none] h=.ok (ws.map D.str) h:=by
  simp[iS,R7,l32,hr0,ew,hw0]
 cases ws with
 | nil=>exact absurd rfl hne
 | cons k r=>
  obtain⟨kvs,ek,ev⟩:=qS k;have hrl:r.length<16777216:=by simp at hw0;lia
  have nt:=Ea r h (λw hm=>by have:=hsh w (q8 _ hm);lia) hrl;have Z_:lN (aa 0) (ag (mC (.str " ")) ae) [⇑(.str row),none,none] h=.ok (D.str k::r.map D.str) h:=es;unfold AL;simp only[ee,ow,aq,qw,zn,if_pos,List.map_cons,zo,ah,aj,aO];simp only[List.replicate,wz,g8,Nat.reduceAdd,Nat.reduceSub,Z_,bU,cG,ak,zd,zb];cases ec:fm k with
  | none=>
   rw[ec]at ev;simp[ek,ev,R7]
  | some n=>
   rw[ec]at ev;have hcm:n+1=1+n:=Int.add_comm ..;by_cases hl:(r.length:Int)=n
   ·by_cases TC:r.all fi=true
    ·rw[if_pos TC]at nt
     simp[-List.map_map, -List.all_eq_true,ek,ev,R7,hl,hcm,TC,nt,hrl,show 1+r.length<=16777216 by lia,sd]
    ·rw[if_neg TC]at nt
     simp[-List.map_map, -List.all_eq_true,ek,ev,R7,hl,hcm,TC,nt,hrl]
   ·have hl':¬((r.length:Int)+1=1+n):=⋯
    simp[-List.map_map,ek,ev,R7,hl,hl']
theorem ux:∀n:Fin 13,fi (W n.val)=true:=⋯
theorem A5(h0:0<=n)(h1:n<=12):fi (W n)=true/\dk (W n)=n:=by
 constructor
 ·obtain⟨m,rfl⟩:∃m:Nat,n=m:=⟨n.toNat,⋯⟩
  exact ux ⟨m,⋯⟩
 ·unfold dk
  have:=PySem.W.KIN.num_reads (n:=n) h0 ⋯;show(intText? (Str.ofString (toString n))).getD 0=n;rw[this];rfl
theorem LG(hk:fm k=⇑m)(hm:(bs.length:Int)=m)(hb:∀b∈bs,0<=b/\b<=12):AL (k::bs.map W)=⇑(k,bs):=by
 unfold AL;simp only[hk];rw[if_pos (by rw[qf];exact hm),if_pos]
 ·have:(bs.map W).map dk=bs:=by
   rw[List.map_map]
   conv=>rhs;rw[<-List.map_id bs]
   exact List.map_congr_left λb Ue=>(A5 (hb b Ue).1 (hb b Ue).2).2
  rw[this]
 ·rw[List.all_eq_true]
  intro w hw;obtain⟨b,Ue,rfl⟩:=qz.mp hw;exact(A5 (hb b Ue).1 (hb b Ue).2).1
theorem JX(h:MH)(hk:fm k=⇑m)(hm:(bs.length:Int)=m)(hb:∀b∈bs,0<=b/\b<=12)(kl:k.length<=8)(k32:32∉k.cps.toList)(k10:10∉k.cps.toList)(hl:bs.length<=2):
  ee [.str (bL (k,bs))] h=.ok (sd (k,bs)) h:=by
 obtain⟨f1,_,f3⟩:=BO kl k32 k10 hb hl;rw[pV _ h ⋯,f3,LG hk hm hb]
theorem Ez:(("feed":Str)≠("bars":Str))/\(("earth":Str)≠("bars":Str))/\(("breaker":Str)≠("bars":Str))/\(("splitter":Str)≠("bars":Str)):=⋯
theorem P5(c:Int)(h:MH)(h1:1<=c)(h2:c<=10):iJ [.str (cX c)] h=.ok (.int c) h:=by
 have hp:=JX (k:="bars") (bs:=[c]) h (m:=1) rfl rfl (by simp;lia) tx.1 tx.2.1 tx.2.2 (by simp);have Wc:ee [.str (cX c)] h=.ok (.tup [.str "bars",.int c]) h:=hp;simp[iJ,y3,Wc,h1,h2,R7]
theorem SwOk.cnt(ok:SwOk c s):∃m,fm s.1=⇑m/\(s.2.length:Int)=m:=by
 rcases ok with⟨b,_,_,rfl|rfl⟩|⟨a,b,_,_,_,_,_,rfl|rfl⟩
 ·exact⟨1,rfl,rfl⟩
 ·exact⟨1,rfl,rfl⟩
 ·exact⟨2,rfl,rfl⟩
 ·exact⟨2,rfl,rfl⟩
theorem Oq(s:Str×List Int)(c:Int)(n:Nat)(h:MH)(h1:1<=c)(h2:c<=10)(ok:SwOk c s)(hn:n<12):dH [.str (bL s),.int c,.int n] h=.ok (sd s) h:=by
 obtain⟨a1,a2,a3,a4,a5,a6⟩:=ok.bars;obtain⟨m,m1,m2⟩:=ok.cnt;have hp:=JX (k:=s.1) (bs:=s.2) h m1 m2 (λb hb=>⟨(a1 b hb).1,by have:=(a1 b hb).2;lia⟩) a4 a5 a6 a2;have Wc:ee [.str (bL s)] h=.ok (sd s) h:=hp;have Z4:¬((12:Int)<=(n:Int)):=⋯;obtain⟨e1,e2,e3,e4⟩:=Ez;rcases ok with⟨b,b0,b1,rfl|rfl⟩|⟨a,b,b0,b1,b2,b3,ne,rfl|rfl⟩
 ·simp[dH,hZ,Wc,sd,R7,e1,Z4,ck,show ¬c<=b by lia]
 ·simp[dH,hZ,Wc,sd,R7,e2,Z4,ck,show ¬c<=b by lia]
 ·have:¬c<=(if b>a then b else a):=by split<;>lia
  simp[dH,hZ,Wc,sd,R7,e3,Z4,ck,this,ne]
 ·have:¬c<=(if b>a then b else a):=by split<;>lia
  simp[dH,hZ,Wc,sd,R7,e4,Z4,ck,this,ne]
inductive Sw where
 | feed (b:Nat)|SD (b:Nat)|Se (a b:Nat)|splitter (a b:Nat)
noncomputable def Sw.d:Sw->D
 | .feed b=>.tup [.str "feed",.int b]
 | .SD b=>.tup [.str "earth",.int b]
 | .Se a b=>.tup [.str "breaker",.int a,.int b]
 | .splitter a b=>.tup [.str "splitter",.int a,.int b]
noncomputable def Sw.o:Sw->D
 | .feed b=>.obj "Feed" [("bar",.int b)]
 | .SD b=>.obj "Earth" [("bar",.int b)]
 | .Se a b=>.obj "Breaker" [("one",.int a),("other",.int b)]
 | .splitter a b=>.obj "Splitter" [("one",.int a),("other",.int b)]
noncomputable def Sw.pair:Sw->Nat
 | .Se a b=>2^a|||2^b
 | .splitter a b=>2^a|||2^b
 | _=>0
noncomputable def Sw.XZ:Sw->Nat
 | .feed b=>2^b
 | _=>0
noncomputable def Sw.led:Sw->Nat
 | .SD b=>2^b
 | _=>0
def Sw.ok(n:Nat):Sw->Prop
 | .feed b=>b<n
 | .SD b=>b<n
 | .Se a b=>a<n/\b<n/\a≠b
 | .splitter a b=>a<n/\b<n/\a≠b
theorem GL:¬(("earth":Str)=("feed":Str)):=⋯
theorem C7:¬(("breaker":Str)=("feed":Str)):=⋯
theorem CA:¬(("breaker":Str)=("earth":Str)):=⋯
theorem DF:¬(("splitter":Str)=("feed":Str)):=⋯
theorem Fp:¬(("splitter":Str)=("earth":Str)):=⋯
theorem Fu:¬(("splitter":Str)=("breaker":Str)):=⋯
theorem E4:¬(("one":Str)=("other":Str)):=⋯
theorem kH:(("other":Str)==("one":Str))=false:=⋯
theorem HK{α:Type}(h:List α)(a:α):(h++[a])[h.length]?=⇑a:=by simp
theorem JR{α:Type}(h:List α)(a b:α):(h++[a]).set h.length b=h++[b]:=by simp
theorem O3(s:Sw)(h:MH)(hb:h.all (Cell.R5 h.length)=true):fN [s.d] h=.ok s.o h:=by
 have Ue:∀x∈h,Cell.R5 h.length x=true:=by simpa using hb
 cases s<;>simp[fN,v3,Sw.d,Sw.o,r6,xu,nE,zA,rE,vZ,ri,y4,GL,C7,CA,DF,Fp,Fu,E4,lL,lP,m7,aI,D.R5,D.TX]<;>rw[if_neg ⋯,if_pos Ue]
theorem BB{α:Type}(e:α->D)(r:α->Ro)(tt:α->Bool)(f:α->D):∀(as:List α),(∀a∈as,g (e a) ρ0 h=.nx (r a) h/\t (r a) h=.ok (tt a) h/\m (r a) h=.ok (f a) h)->compLoop g t m ρ0 (as.map e) h=.ok ((as.filter tt).map f) h
 | [],_=>rfl
 | a::as,q=>by
  obtain⟨h1,h2,h3⟩:=q a (qa ..);have ih:=BB e r tt f as λb hb=>q b (q8 _ hb);rw[List.map_cons];unfold compLoop;rw[h1];cases y:tt a with
  | true=>simp only[h2,y,h3,ih,List.filter_cons,if_true,List.map_cons]
  | false=>simp only[h2,y,ih,List.filter_cons,if_false,qu]
def yd(n:Nat)(RO:List Sw):D:=.tup [.int n,.lst (RO.map Sw.d)]
def av(RO:List Sw):D:=.obj "Net" [("switches",.lst (RO.map Sw.o))]
def Hb(h:MH):Prop:=∀n,h.length<=n->h.all (Cell.R5 n)=true
theorem Hb.nil:Hb []:=λ_ _=>rfl
theorem Hb.snoc(a:Hb h)(b:∀n,h.length<n->Cell.R5 n c=true):Hb (h++[c]):=λn hn=>by
 simp only[zh,qw,zn,gq,wm,u7,kj,z4]at hn ⊢;exact⟨a n ⋯,b n ⋯⟩
theorem Q5(n:Nat)(RO:List Sw)(h:MH)(hl:RO.length<=12)(hb:Hb h):c_ [.ref h.length,yd n RO] (h++[⇑(.ins "Net" [])])=.ok .RY (h++[⇑(.ins "Net" [("switches",.lst (RO.map Sw.o))])]):=by
 have Xs:Hb (h++[⇑(.ins "Net" [])]):=hb.snoc λn _=>by simp[Cell.R5,D.R_]
 have comp:compLoop (ak 0) aR (ax fN (ag (aa 0) ae)) [none] (RO.map Sw.d) (h++[⇑(.ins "Net" [])])=.ok (RO.map Sw.o) (h++[⇑(.ins "Net" [])]):=
  rL (g:=ak 0) (t:=aR) (m:=ax fN (ag (aa 0) ae)) (ρ0:=[none]) Sw.d (λs=>[⇑s.d]) Sw.o RO (λs _=>by
   refine⟨by simp,by simp,?_⟩;have:=O3 s _ (Xs _ (qd _));simp[this])
 simp[-List.map_map,c_,xc,yd,comp,gP,aI,show RO.length<16777216 by lia]
theorem zP(n:Nat)(RO:List Sw)(hl:RO.length<=12)(hb:Hb h)(e:m ρ h=.ok (yd n RO) h):dP "Net" c_ (ag m ae) ρ h=.ok (av RO) (h++[none]):=by
 have:=Q5 n RO h hl hb;simp[e,this,av]
noncomputable def dO(st:Nat)(RO:List Sw):List (Sw×Nat):=RO.zipIdx.filter λp=>st.testBit p.2
theorem Ll(RO:List Sw)(f:Sw->D):g_ (RO.map f)=RO.zipIdx.map λp=>.tup [.int (p.2:Int),f p.1]:=by
 unfold g_;rw[List.mapIdx_eq_zipIdx_map,List.zipIdx_map,List.map_map];rfl
theorem mf(st k:Nat)(h:MH):eV [.int st,.int k] h=.ok (.bl (st.testBit k)) h:=by
 have:=Dc st k;cases q:st.testBit k<;>simp[q]at this<;>simp[eV,mI,this]
theorem JO(RO:List Sw)(st:Nat)(h:MH)(hl:RO.length<=12):i6 [av RO,.int st] h=.ok (.lst ((dO st RO).map λp=>p.1.o)) h:=by
 have comp:compLoop (fY [0,1]) (aA (ax eV (ag (aa 2) (ag (aa 0) ae)))) (aa 1) [none,none,⇑(.int st)] (g_ (RO.map Sw.o)) h=.ok ((dO st RO).map λp=>p.1.o) h:=by
  rw[Ll];refine BB (λp:Sw×Nat=>.tup [.int (p.2:Int),p.1.o]) (λp=>[⇑(.int p.2),⇑p.1.o,⇑(.int st)]) (λp=>st.testBit p.2) (λp=>p.1.o) RO.zipIdx λp _=> ?_;have:=mf st p.2 h;refine⟨by simp,?_,by simp⟩;simp[this]
 have h2:(g_ (RO.map Sw.o)).length=RO.length:=by simp[g_]
 simp[-List.map_map,i6,xq,av,comp,gP,h2,show RO.length<16777216 by lia]
theorem t_:(("joins":Str)==("bar":Str))=false:=⋯
theorem w_:(("joins":Str)==("one":Str))=false:=⋯
theorem uS:(("joins":Str)==("other":Str))=false:=⋯
theorem kI(s:Sw)(hn:n<=10)(ok:s.ok n)(h:MH):aw gD "joins" (aa 0) ae [⇑s.o] h=.ok (.int s.pair) h:=by
 cases s with
 | feed b=>simp[Sw.o,gD,t_,gG,og,Sw.pair,List.lookup]
 | SD b=>simp[Sw.o,gD,t_,gG,og,Sw.pair,List.lookup]
 | Se a b=>
  obtain⟨h1,h2,_⟩:=ok;have:=k_ (2^a) (2^b);simp[Sw.o,gD,w_,uS,kH,pB,vv,Sw.pair,List.lookup,lP,m7,jf (show a<=100 by lia),jf (show b<=100 by lia)]at this ⊢;exact this
 | splitter a b=>
  obtain⟨h1,h2,_⟩:=ok;have:=k_ (2^a) (2^b);simp[Sw.o,gD,w_,uS,kH,nU,xy,Sw.pair,List.lookup,lP,m7,jf (show a<=100 by lia),jf (show b<=100 by lia)]at this ⊢;exact this
def d9(st:Nat)(RO:List Sw):List Nat:=(dO st RO).map λp=>p.1.pair
def cB:MT:=(tB (af cA (aa 4) (aa 5)))
def fB:MS:=(aG (aA (af bZ (aa 6) (aa 4))) (aj (af eJ (aa 4) (aa 6)) (ak 4)) aH)
theorem JI(a b c d e:Option D)(h:MH):∀(ps:List Nat) (r:Nat) (x:Option D),∃x',bO (ak 6) fB (ps.map λp:Nat=>D.int p) [a,b,c,d,⇑(.int r),e,x] h=.nx [a,b,c,d,⇑(.int (SR.bK ps r:Nat)),e,x'] h
 | [],r,x=>⟨x,rfl⟩
 | p::ps,r,x=>by
  obtain⟨x',ih⟩:=JI a b c d e h ps (if p&&&r≠0 then r|||p else r) ⇑(.int p);refine⟨x',?_⟩;rw[List.map_cons];unfold bO;have e1:=dY p r;have e2:=k_ r p;have e3:=GZ (p&&&r);by_cases q:p&&&r≠0
  ·rw[if_pos q]at ih
   have:SR.bK (p::ps) r=SR.bK ps (r|||p):=by show SR.bK ps (if p&&&r≠0 then r|||p else r)=_;rw[if_pos q]
   rw[this];have fb:fB [a,b,c,d,⇑(.int r),e,⇑(.int p)] h=.nx [a,b,c,d,⇑(.int (r|||p:Nat)),e,⇑(.int p)] h:=by
    simp[fB,e1,e2,e3,q]
   simp[fb];exact ih
  ·rw[if_neg q]at ih
   have:SR.bK (p::ps) r=SR.bK ps r:=by show SR.bK ps (if p&&&r≠0 then r|||p else r)=_;rw[if_neg q]
   rw[this];have q':p&&&r=0:=by simpa using q
   have fb:fB [a,b,c,d,⇑(.int r),e,⇑(.int p)] h=.nx [a,b,c,d,⇑(.int r),e,⇑(.int p)] h:=by
    simp[fB,e1,e3,q']
   simp[fb];exact ih
def wB:MS:=(ah (aj (aa 4) (ak 5)) (bB (bC (aa 3)) (ak 6) fB))
theorem mn(a b c:Option D)(ps:List Nat)(h:MH)(r:Nat)(y x:Option D):∃x',wB [a,b,c,⇑(.lst (ps.map λp:Nat=>D.int p)),⇑(.int r),y,x] h=.nx [a,b,c,⇑(.lst (ps.map λp:Nat=>D.int p)),⇑(.int (SR.bK ps r:Nat)),⇑(.int r),x'] h:=by
 obtain⟨x',e⟩:=JI a b c ⇑(.lst (ps.map λp:Nat=>D.int p)) ⇑(.int r) h ps r x;exact⟨x',by simp[wB,e]⟩
theorem Ly(a b c:Option D)(ps:List Nat)(s:Nat)(h:MH)(y:Option D)(hy:y=⇑.RY)(x:Option D):∃x',cw cB wB [a,b,c,⇑(.lst (ps.map λp:Nat=>D.int p)),⇑(.int s),y,x] h=.nx [a,b,c,⇑(.lst (ps.map λp:Nat=>D.int p)),⇑(.int (SR.dG ps s:Nat)),⇑(.int (SR.dG ps s:Nat)),x'] h:=by
 have W:∀x,∃x',cw cB wB [a,b,c,⇑(.lst (ps.map λp:Nat=>D.int p)),⇑(.int (SR.bK ps s:Nat)),⇑(.int s),x] h=.nx [a,b,c,⇑(.lst (ps.map λp:Nat=>D.int p)),⇑(.int (SR.dG ps s:Nat)),⇑(.int (SR.dG ps s:Nat)),x'] h:=by
  refine SR.rD (P:=λr=>∀x,∃x',cw cB wB [a,b,c,⇑(.lst (ps.map λp:Nat=>D.int p)),⇑(.int (SR.bK ps r:Nat)),⇑(.int r),x] h=.nx [a,b,c,⇑(.lst (ps.map λp:Nat=>D.int p)),⇑(.int (SR.dG ps s:Nat)),⇑(.int (SR.dG ps s:Nat)),x'] h) (SR.vR ps) ?_ ?_ _ s (SR.VQ.start ps s) (wa _)
  ·intro r m e x
   have er:=(m.fin (SR.vR ps) e).eq;refine⟨x,?_⟩;rw[e,<-er];exact AR (by simp[cB])
  ·intro r m ne ih x
   obtain⟨x1,e1⟩:=mn a b c ps h (SR.bK ps r) ⇑(.int r) x;obtain⟨x2,e2⟩:=ih x1;exact⟨x2,by rw[AQ (h1:=h) (by simp[cB];lia) e1,e2]⟩
 obtain⟨x1,e1⟩:=mn a b c ps h s y x;obtain⟨x2,e2⟩:=W x1;exact⟨x2,by rw[AQ (h1:=h) (by subst hy;simp[cB,D.dat,D.py,D.deep,D.eq]) e1,e2]⟩
def bG(n:Nat)(RO:List Sw):Prop:=1<=n/\n<=10/\RO.length<=12/\∀s∈RO,s.ok n
theorem GA(h:p∈dO st RO):p.1∈RO:=by
 unfold dO at h;have:=(zr.mp h).1;exact(List.mem_zipIdx this).2.2▸kt _
theorem C5:(("joined_bars":Str)==("switches":Str))=false:=⋯
theorem xF:(("shut_ones":Str)==("switches":Str))=false:=⋯
theorem Qz(st:Nat)(RO:List Sw):(dO st RO).length<=RO.length:=by
 unfold dO;exact zi (List.length_filter_le _ _) (by simp)
theorem Pb(ok:bG n RO)(st s:Nat)(h:MH):ji [av RO,.int st,.int s] h=.ok (.int (SR.dG (d9 st RO) s:Nat)) h:=by
 obtain⟨h1,h2,h3,h4⟩:=ok;have e1:=JO RO st h h3;have comp:compLoop (ak 0) aR (aw gD "joins" (aa 0) ae) [none] ((dO st RO).map λp=>p.1.o) h=.ok ((d9 st RO).map λp:Nat=>D.int p) h:=by
  unfold d9;rw[List.map_map];exact rL (g:=ak 0) (t:=aR) (m:=aw gD "joins" (aa 0) ae) (ρ0:=[none]) (λp:Sw×Nat=>p.1.o) (λp=>[⇑p.1.o]) (λp=>.int (p.1.pair:Nat)) (dO st RO) λp hp=>⟨by simp,by simp,kI p.1 h2 (h4 _ (GA hp)) h⟩
 obtain⟨x',ew⟩:=Ly ⇑(av RO) ⇑(.int st) ⇑(.int s) (d9 st RO) s h ⇑.RY rfl none;have hl:=Qz st RO;have a1:aw jg "shut_ones" (aa 0) (ag (aa 1) ae) [⇑(av RO),⇑(.int st),⇑(.int s),none,none,none,none] h=.ok (.lst ((dO st RO).map λp=>p.1.o)) h:=by
  simp only[av]at e1;simp[-List.map_map,av,jg,List.lookup,xF,e1]
 have eb:zG=ah (aj (aO (cM 1 [] (bC (aw jg "shut_ones" (aa 0) (ag (aa 1) ae))) (ak 0) aR (aw gD "joins" (aa 0) ae))) (ak 3)) (ah (aj (aa 2) (ak 4)) (ah (aj (mC .RY) (ak 5)) (ah (cw cB wB) (ai (aa 4))))):=rfl;simp[-List.map_map, -aw,ji,eb,a1,comp,ew,show(dO st RO).length<16777216 by lia]
theorem uk:(("feeds":Str)==("bar":Str))=false:=⋯
theorem vD:(("feeds":Str)==("one":Str))=false:=⋯
theorem xa:(("feeds":Str)==("other":Str))=false:=⋯
theorem lX(s:Sw)(hn:n<=10)(ok:s.ok n)(e:m ρ h=.ok s.o h):aw iT "feeds" m ae ρ h=.ok (.int s.XZ) h:=by
 cases s with
 | feed b=>
  have:b<n:=ok;simp[e,Sw.o,iT,uk,o_,xK,Sw.XZ,List.lookup,lL,jf (show b<=100 by lia)]
 | SD b=>simp[e,Sw.o,iT,uk,eE,je,Sw.XZ,List.lookup]
 | Se a b=>simp[e,Sw.o,iT,vD,xa,eE,je,Sw.XZ,List.lookup]
 | splitter a b=>simp[e,Sw.o,iT,vD,xa,eE,je,Sw.XZ,List.lookup]
def Ci(st:Nat)(RO:List Sw):Nat:=SR.all ((dO st RO).map λp=>p.1.XZ) 0
def cf(st:Nat)(RO:List Sw):Nat:=SR.dG (d9 st RO) (Ci st RO)
theorem D_(val:Sw->Nat)(a b:Option D)(h:MH)(hJ:∀s:Sw,s.ok n->∀f:Nat,J [a,b,⇑(.int f),⇑s.o] h=.ok (.int (val s)) h):∀(ps:List (Sw×Nat)) (f:Nat) (x:Option D),(∀p∈ps,p.1.ok n)->
  ∃x',bO (ak 3) (aj (af eJ (aa 2) J) (ak 2)) (ps.map λp=>p.1.o) [a,b,⇑(.int f),x] h=.nx [a,b,⇑(.int (SR.all (ps.map λp=>val p.1) f:Nat)),x'] h
 | [],f,x,_=>⟨x,rfl⟩
 | p::ps,f,x,hp=>by
  obtain⟨x',ih⟩:=D_ val a b h hJ ps (f|||val p.1) ⇑p.1.o λq m=>hp q (q8 _ m);refine⟨x',?_⟩;have e1:=hJ p.1 (hp p (qa ..)) f;have e2:=k_ f (val p.1);rw[List.map_cons,List.map_cons];unfold bO;simp[-List.map_map,e1,e2];exact ih
theorem Lb(RO:List Sw)(st:Nat)(h:MH)(hl:RO.length<=12)(e1:m ρ h=.ok (av RO) h)(e2:l ρ h=.ok (.int st) h):aw jg "shut_ones" m (ag l ae) ρ h=.ok (.lst ((dO st RO).map λp=>p.1.o)) h:=by
 have:=JO RO st h hl;unfold av at e1 this;simp[-List.map_map,e1,e2,jg,List.lookup,xF,this]
theorem FF(ok:bG n RO)(st s:Nat)(h:MH)(e1:m ρ h=.ok (av RO) h)(e2:l ρ h=.ok (.int st) h)(e3:k ρ h=.ok (.int s) h):aw qR "joined_bars" m (ag l (ag k ae)) ρ h=.ok (.int (SR.dG (d9 st RO) s:Nat)) h:=by
 have:=Pb ok st s h;unfold av at e1 this;simp[-List.map_map,e1,e2,e3,qR,List.lookup,C5,this]
theorem Oo(ok:bG n RO)(st:Nat)(h:MH):jJ [av RO,.int st] h=.ok (.int (cf st RO:Nat)) h:=by
 obtain⟨x',e⟩:=D_ (J:=aw iT "feeds" (aa 3) ae) Sw.XZ (n:=n) ⇑(av RO) ⇑(.int st) h (λs hs f=>lX s ok.2.1 hs (by simp)) (dO st RO) 0 none λp hp=>ok.2.2.2 _ (GA hp);have e1:=Lb RO st h ok.2.2.1 (m:=aa 0) (l:=aa 1) (ρ:=[⇑(av RO),⇑(.int st),⇑(.int 0),none]) (by simp) (by simp);have e2:=FF ok st (Ci st RO) h (m:=aa 0) (l:=aa 1) (k:=aa 2) (ρ:=[⇑(av RO),⇑(.int st),⇑(.int (Ci st RO:Nat)),x']) (by simp) (by simp) (by simp);have f0:SR.all ((dO st RO).map λp=>p.1.XZ) 0=Ci st RO:=rfl;rw[f0]at e;simp at e;simp[-List.map_map, -aw,jJ,zY,e1,e,e2,cf]
theorem E8:(("live_bars":Str)==("switches":Str))=false:=⋯
theorem A6(ok:bG n RO)(st:Nat)(h:MH)(e1:m ρ h0=.ok (av RO) h)(e2:l ρ h=.ok (.int st) h):aw lT "live_bars" m (ag l ae) ρ h0=.ok (.int (cf st RO:Nat)) h:=by
 have:=Oo ok st h;unfold av at e1 this;simp[-List.map_map,e1,e2,lT,List.lookup,E8,this]
theorem vd:(("earths":Str)==("bar":Str))=false:=⋯
theorem zF:(("earths":Str)==("one":Str))=false:=⋯
theorem zN:(("earths":Str)==("other":Str))=false:=⋯
theorem qC(s:Sw)(hn:n<=10)(ok:s.ok n)(e:m ρ h=.ok s.o h):aw mE "earths" m ae ρ h=.ok (.int s.led) h:=by
 cases s with
 | SD b=>
  have:b<n:=ok;simp[e,Sw.o,mE,vd,pJ,xn,Sw.led,List.lookup,lL,jf (show b<=100 by lia)]
 | feed b=>simp[e,Sw.o,mE,vd,eF,i8,Sw.led,List.lookup]
 | Se a b=>simp[e,Sw.o,mE,zF,zN,eF,i8,Sw.led,List.lookup]
 | splitter a b=>simp[e,Sw.o,mE,zF,zN,eF,i8,Sw.led,List.lookup]
def wM(st:Nat)(RO:List Sw):Nat:=SR.all ((dO st RO).map λp=>p.1.led) 0
def dJ(st:Nat)(RO:List Sw):Nat:=SR.dG (d9 st RO) (wM st RO)
theorem Og(ok:bG n RO)(st:Nat)(h:MH):jC [av RO,.int st] h=.ok (.int (wM st RO:Nat)) h:=by
 obtain⟨x',e⟩:=D_ (J:=aw mE "earths" (aa 3) ae) Sw.led (n:=n) ⇑(av RO) ⇑(.int st) h (λs hs f=>qC s ok.2.1 hs (by simp)) (dO st RO) 0 none λp hp=>ok.2.2.2 _ (GA hp);have e1:=Lb RO st h ok.2.2.1 (m:=aa 0) (l:=aa 1) (ρ:=[⇑(av RO),⇑(.int st),⇑(.int 0),none]) (by simp) (by simp);have f0:SR.all ((dO st RO).map λp=>p.1.led) 0=wM st RO:=rfl;rw[f0]at e;simp at e;simp[-List.map_map, -aw,jC,xo,e1,e]
theorem Ge:(("led_bars":Str)==("switches":Str))=false:=⋯
theorem rN(ok:bG n RO)(st:Nat)(h:MH)(e1:m ρ h0=.ok (av RO) h)(e2:l ρ h=.ok (.int st) h):aw xj "led_bars" m (ag l ae) ρ h0=.ok (.int (wM st RO:Nat)) h:=by
 have:=Og ok st h;unfold av at e1 this;simp[-List.map_map,e1,e2,xj,List.lookup,Ge,this]
theorem Ml(ok:bG n RO)(st:Nat)(h:MH):jW [av RO,.int st] h=.ok (.int (dJ st RO:Nat)) h:=by
 have e1:=rN ok st h (m:=aa 0) (l:=aa 1) (ρ:=[⇑(av RO),⇑(.int st)]) (h0:=h) (by simp) (by simp);have e2:=FF ok st (wM st RO) h (m:=aa 0) (l:=aa 1) (k:=aw xj "led_bars" (aa 0) (ag (aa 1) ae)) (ρ:=[⇑(av RO),⇑(.int st)]) (by simp) (by simp) e1;simp[-List.map_map, -aw,jW,yf,e2,dJ]
theorem GD:(("earthed_bars":Str)==("switches":Str))=false:=⋯
theorem C_(ok:bG n RO)(st:Nat)(h:MH)(e1:m ρ h0=.ok (av RO) h)(e2:l ρ h=.ok (.int st) h):aw tN "earthed_bars" m (ag l ae) ρ h0=.ok (.int (dJ st RO:Nat)) h:=by
 have:=Ml ok st h;unfold av at e1 this;simp[-List.map_map,e1,e2,tN,List.lookup,GD,this]
def gH(st:Nat)(RO:List Sw):Bool:=decide (cf st RO&&&dJ st RO=0)
theorem LV(ok:bG n RO)(st:Nat)(h:MH):jU [av RO,.int st] h=.ok (.bl (gH st RO)) h:=by
 have e1:=A6 ok st h (h0:=h) (m:=aa 0) (l:=aa 1) (ρ:=[⇑(av RO),⇑(.int st)]) (by simp) (by simp);have e2:=C_ ok st h (h0:=h) (m:=aa 0) (l:=aa 1) (ρ:=[⇑(av RO),⇑(.int st)]) (by simp) (by simp);have e3:=dY (cf st RO) (dJ st RO);have e4:((cf st RO&&&dJ st RO:Nat):Int)=0↔cf st RO&&&dJ st RO=0:=⋯;simp[-aw,jU,zU,e1,e2,e3,gH]
theorem xV{α:Type}{xs:List α}{k:Nat}{x:α}(e:xs[k]?=⇑x):cx xs (k:Int)=⇑x:=by
 obtain⟨hk,e'⟩:=q9.mp e;simp[cx,fK,hk,e']
theorem vS{RO:List Sw}(h:p∈RO.zipIdx):RO[p.2]?=⇑p.1:=by
 have:=List.mem_zipIdx h;obtain⟨_,h2,h3⟩:=this;rw[qk ⋯,h3];simp
theorem KQ{RO:List Sw}(h:p∈RO.zipIdx):p.1∈RO:=qm (vS h)
noncomputable def Sw.gen:Sw->Bool
 | .splitter _ _=>true
 | _=>false
theorem xM:(("gentle":Str)==("bar":Str))=false:=⋯
theorem uC:(("gentle":Str)==("one":Str))=false:=⋯
theorem yg:(("gentle":Str)==("other":Str))=false:=⋯
theorem Kq(s:Sw)(e:m ρ h=.ok s.o h):aw i5 "gentle" m ae ρ h=.ok (.bl s.gen) h:=by
 cases s with
 | splitter a b=>simp[e,Sw.o,i5,uC,yg,oH,v7,Sw.gen,List.lookup]
 | feed b=>simp[e,Sw.o,i5,xM,dW,j5,Sw.gen,List.lookup]
 | SD b=>simp[e,Sw.o,i5,xM,dW,j5,Sw.gen,List.lookup]
 | Se a b=>simp[e,Sw.o,i5,uC,yg,dW,j5,Sw.gen,List.lookup]
theorem pE(s:Sw)(hn:n<=10)(ok:s.ok n)(e:m ρ h=.ok s.o h):aw gD "joins" m ae ρ h=.ok (.int s.pair) h:=by
 have:=kI s hn ok h;unfold aw at this ⊢;rw[e];simpa using this
noncomputable def lQ(a b:Nat):Nat:=2^min a b
theorem M9:∀a b:Fin 10,a≠b->Builtin.bitAnd ((2^a.val|||2^b.val:Nat):Int) (-((2^a.val|||2^b.val:Nat):Int))=((2^min a.val b.val:Nat):Int):=⋯
theorem LP(hn:n<=10)(ha:a<n)(hb:b<n)(ab:a≠b)(h:MH):eX [.int (2^a|||2^b:Nat)] h=.ok (.int (lQ a b:Nat)) h:=by
 have e:=M9 ⟨a,⋯⟩ ⟨b,⋯⟩ (λz=>ab (by simpa using z));simp only at e;have:eX [.int (2^a|||2^b:Nat)] h=.ok (.int (Builtin.bitAnd ((2^a|||2^b:Nat):Int) (-((2^a|||2^b:Nat):Int)))) h:=by simp[eX,ub]
 rw[this,e];rfl
noncomputable def apart(st k:Nat):Nat:=st - (st&&&2^k)
def gK(st k:Nat)(w:Sw)(RO:List Sw):Bool:=match w with
 | .splitter a b=>decide ((2^a|||2^b)&&&cf (apart st k) RO≠0)&&decide ((2^a|||2^b) - ((2^a|||2^b)&&&SR.dG (d9 (apart st k) RO) (lQ a b))≠0)
 | _=>false
theorem I_(ok:bG n RO)(st k:Nat)(w:Sw)(hw:RO[k]?=⇑w)(h:MH):eZ [av RO,.int st,.int k] h=.ok (.bl (gK st k w RO)) h:=by
 have Ys:w.ok n:=ok.2.2.2 w (qm hw);have hk:k<RO.length:=(q9.mp hw).1;have hl:=ok.2.2.1;have hx:cx (RO.map Sw.o) (k:Int)=⇑w.o:=xV (by rw[z9,hw];rfl);have f1:af ay (ao gP "switches" (aa 0)) (aa 2) [⇑(av RO),⇑(.int st),⇑(.int k),none,none,none] h=.ok w.o h:=by simp[-List.map_map,av,gP,hx]
 have g1:=Kq w (m:=aa 3) (ρ:=[⇑(av RO),⇑(.int st),⇑(.int k),⇑w.o,none,none]) (h:=h) (by simp);have eb:vq=(ah (aj (af ay (ao gP "switches" (aa 0)) (aa 2)) (ak 3))
   (ah (aG (aY (aA (aw i5 "gentle" (aa 3) ae)))
   (ai (mC (.bl false)))
   aH)
   (ah (aj (af bZ (aa 1) (iZ dX (af cp (mC (.int 1)) (aa 2)))) (ak 4))
   (ah (aj (aw gD "joins" (aa 3) ae) (ak 5))
   (ah (aG (aY (aA (af bZ (aa 5) (aw lT "live_bars" (aa 0) (ag (aa 4) ae)))))
   (ai (mC (.bl false)))
   aH)
   (ai (af cA (af bZ (aa 5) (iZ dX (aw qR "joined_bars" (aa 0) (ag (aa 4) (ag (ax eX (ag (aa 5) ae)) ae))))) (mC (.int 0))))))))):=rfl
 by_cases q:w.gen=false
 ·have:gK st k w RO=false:=by cases w<;>first|rfl|(simp[Sw.gen]at q)
  rw[this];rw[q]at g1;simp[-List.map_map, -aw, -ao, -ay,eZ,eb];simp[-List.map_map, -aw, -ao, -ay]at f1;simp[-aw, -ao, -ay,f1,g1]
 ·cases w with
  | splitter a b=>
   obtain⟨h1,h2,h3⟩:=Ys;let pr:=2^a|||2^b;have epr:(Sw.splitter a b).pair=pr:=rfl;have j1:=pE (.splitter a b) ok.2.1 ⟨h1,h2,h3⟩ (m:=aa 3) (ρ:=[⇑(av RO),⇑(.int st),⇑(.int k),⇑(Sw.splitter a b).o,⇑(.int (apart st k:Nat)),none]) (h:=h) (by simp);rw[epr]at j1;have l1:=A6 ok (apart st k) h (h0:=h) (m:=aa 0) (l:=aa 4) (ρ:=[⇑(av RO),⇑(.int st),⇑(.int k),⇑(Sw.splitter a b).o,⇑(.int (apart st k:Nat)),⇑(.int (pr:Nat))]) (by simp) (by simp);have lo:=LP ok.2.1 h1 h2 h3 h;have c1:=FF ok (apart st k) (lQ a b) h (m:=aa 0) (l:=aa 4) (k:=ax eX (ag (aa 5) ae)) (ρ:=[⇑(av RO),⇑(.int st),⇑(.int k),⇑(Sw.splitter a b).o,⇑(.int (apart st k:Nat)),⇑(.int (pr:Nat))]) (by simp) (by simp) (by simpa using lo);have d1:=BI st (2^k);have d2:=dY pr (cf (apart st k) RO);have d3:=BI pr (SR.dG (d9 (apart st k) RO) (lQ a b));have d4:=GZ (pr&&&cf (apart st k) RO);have o1:=jf (show k<=100 by lia);have el:gK st k (.splitter a b) RO=(decide (pr&&&cf (apart st k) RO≠0)&&decide (pr - (pr&&&SR.dG (d9 (apart st k) RO) (lQ a b))≠0)):=rfl;rw[el];have ap:st - (st&&&2^k)=apart st k:=rfl;rw[ap]at d1;simp at d1;clear_value pr;have d5:((pr - (pr&&&SR.dG (d9 (apart st k) RO) (lQ a b)):Nat):Int)=0↔pr - (pr&&&SR.dG (d9 (apart st k) RO) (lQ a b))=0:=⋯;generalize pr - (pr&&&SR.dG (d9 (apart st k) RO) (lQ a b))=u at d3 d5 ⊢;simp[-List.map_map, -aw, -ao, -ay,eZ,eb];simp[-List.map_map, -aw, -ao, -ay]at f1;rw[show(Sw.splitter a b).gen=true from rfl]at g1;simp[-aw, -ao, -ay,f1,g1,o1,d1,j1,l1,d2,d4];by_cases q2:pr&&&cf (apart st k) RO=0
   ·simp[-aw,q2]
   ·simp[-aw,q2,c1,d3]
  | _=>simp[Sw.gen]at q
theorem AW(st k:Nat)(hk:k<=100)(h:MH):dD [.int st,.int k] h=.ok (.int (st^^^2^k:Nat)) h:=by
 have:=Dg st (2^k);simp at this;simp[dD,zJ,jf hk,this]
theorem yc:(("is_safe":Str)==("switches":Str))=false:=⋯
theorem IG(ok:bG n RO)(st k:Nat)(hk:k<=100)(h:MH):fI [av RO,.int st,.int k] h=.ok (.bl (!gH (st^^^2^k) RO)) h:=by
 have e1:=AW st k hk h;have e2:=LV ok (st^^^2^k) h;unfold av at e2;simp[-List.map_map,fI,v_,e1,av,CL,List.lookup,yc,e2]
def DW(st k:Nat)(w:Sw)(RO:List Sw)(h:MH):Res D:=
 if gK st k w RO=true then .exc "Loaded" h else if gH (st^^^2^k) RO=true then .ok (.int (st^^^2^k:Nat)) h else .exc "Shorted" h
theorem CI(k:Nat)(hk:k<RO.length)(h:MH):gA [yd n RO,.int k] h=.ok .RY h:=by
 simp[-List.map_map,gA,wN,yd,hk]
theorem Lo(ok:bG n RO)(st k:Nat)(w:Sw)(hw:RO[k]?=⇑w)(h:MH)(hb:Hb h):fZ [yd n RO,.int st,.int k] h=DW st k w RO h:=by
 have hk:k<RO.length:=(q9.mp hw).1;have hl:=ok.2.2.1;have e0:=CI (n:=n) k hk h;have e1:=zP (m:=aa 0) (ρ:=[⇑(yd n RO),⇑(.int st),⇑(.int k),none]) (h:=h) n RO ok.2.2.1 hb (by simp);have e2:=I_ ok st k w hw (h++[none]);have e3:=IG ok st k ⋯ (h++[none]);have e4:=AW st k ⋯ (h++[none]);have Xs:∀x∈h,Cell.R5 h.length x=true:=by simpa using hb h.length (qd _)
 unfold DW;unfold yd at e0 e1;cases q1:gK st k w RO with
 | true=>
  rw[q1]at e2;simp[-List.map_map, -dP,fZ,j9,yd,e0,e1,e2,hk];rw[if_neg ⋯,if_pos Xs]
 | false=>
  rw[q1]at e2;cases q2:gH (st^^^2^k) RO with
  | true=>
   rw[q2]at e3;simp[-List.map_map, -dP,fZ,j9,yd,e0,e1,e2,e3,e4,hk,D.R5];rw[if_neg ⋯,if_pos Xs]
  | false=>
   rw[q2]at e3;simp[-List.map_map, -dP,fZ,j9,yd,e0,e1,e2,e3,e4,hk];rw[if_neg ⋯,if_pos Xs]
theorem Fs(k:Sum Int Str):∀kvs:List (Sum Int Str×D),(kvs.any λkv=>decide (kv.1=k))=(bI kvs k).isSome
 | []=>rfl
 | p::r=>by
  have ih:=Fs k r;unfold bI at ih ⊢;rw[zz,zt];by_cases e:p.1=k
  ·simp[e]
  ·simp only[e,decide_false,Bool.false_or];exact ih
theorem uu:∀{ds:List D},(∀d∈ds,D.R5 n d=true)->D.R_ n ds=true
 | [],_=>by simp[D.R_]
 | d::ds,h=>by
  simp only[D.R_,z4];exact⟨h d (qa ..),uu λx m=>h x (q8 _ m)⟩
theorem AM{α:Type}{h:List α}{x:α}(hc:h[c]?=⇑x):h.set c x=h:=gg λi=>by
 by_cases q:c=i
 ·subst q;rw[qj (q9.mp hc).1,hc]
 ·rw[qh q]
theorem DO(hl:ds.length=np)(e:b (ds.map some++List.replicate (nn - ds.length) none) h=.rt d (h++J))(hb:Hb h)(hd:d.R5 h.length=true):aq np nn b ds h=.ok d h:=by
 unfold aq;rw[if_pos hl,e];show fin h.length d (h++J)=_;unfold fin;by_cases q:(h++J).length<=h.length
 ·rw[if_pos q]
  have:J=[]:=by
   cases J with
   | nil=>rfl
   | cons _ _=>simp at q;lia
  rw[this,zm]
 ·rw[if_neg q,if_pos]
  ·rw[gr]
   rfl
  ·rw[hd,ki,gr rfl]
   exact hb _ (qd _)
theorem Mi(h:p∈d9 st RO):∃k w,RO[k]?=⇑w/\st.testBit k=true/\w.pair=p:=by
 obtain⟨q,hq,rfl⟩:=qz.mp h;obtain⟨h1,h2⟩:=zr.mp hq;exact⟨q.2,q.1,vS h1,h2,rfl⟩
theorem QZ{w:Sw}(ok:w.ok n):w.pair<2^n:=by
 cases w with
 | feed b=>exact zu n
 | SD b=>exact zu n
 | Se a b=>exact gi (zq ⋯ ok.1) (zq ⋯ ok.2.1)
 | splitter a b=>exact gi (zq ⋯ ok.1) (zq ⋯ ok.2.1)
theorem BC{n:Nat}:∀(ps:List Nat) (s:Nat),(∀p∈ps,p<2^n)->s<2^n->SR.all ps s<2^n
 | [],s,_,h=>h
 | p::ps,s,hp,h=>BC ps (s|||p) (λq m=>hp q (q8 _ m)) (gi h (hp p qa))
theorem Jq(ok:bG n RO)(st:Nat)(hs:s<2^n):SR.dG (d9 st RO) s<2^n:=by
 have i:=SR.is (d9 st RO) s;refine zg (SR.VQ.R5 (ps:=d9 st RO) (s:=s) ⟨i.ge,i.le⟩) (BC _ _ (λp hp=> ?_) hs);obtain⟨k,w,h1,_,rfl⟩:=Mi hp;exact QZ (ok.2.2.2 w (qm h1))
@[simp] theorem Rh:(("net":Str)==("yard":Str))=false:=⋯
@[simp] theorem RK:¬(("yard":Str)=("net":Str)):=⋯
@[simp] theorem RM:(("shut":Str)==("yard":Str))=false:=⋯
@[simp] theorem Rj:¬(("yard":Str)=("shut":Str)):=⋯
@[simp] theorem RL:(("shut":Str)==("net":Str))=false:=⋯
@[simp] theorem Ri:¬(("net":Str)=("shut":Str)):=⋯
@[simp] theorem Rm:(("locks":Str)==("yard":Str))=false:=⋯
@[simp] theorem Rp:¬(("yard":Str)=("locks":Str)):=⋯
@[simp] theorem RA:(("locks":Str)==("net":Str))=false:=⋯
@[simp] theorem Rr:¬(("net":Str)=("locks":Str)):=⋯
@[simp] theorem Ry:(("locks":Str)==("shut":Str))=false:=⋯
@[simp] theorem RH:¬(("shut":Str)=("locks":Str)):=⋯
@[simp] theorem Rn:(("given":Str)==("yard":Str))=false:=⋯
@[simp] theorem Rl:¬(("yard":Str)=("given":Str)):=⋯
@[simp] theorem RC:(("given":Str)==("net":Str))=false:=⋯
@[simp] theorem RI:¬(("net":Str)=("given":Str)):=⋯
@[simp] theorem Rv:(("given":Str)==("shut":Str))=false:=⋯
@[simp] theorem Rt:¬(("shut":Str)=("given":Str)):=⋯
@[simp] theorem RF:(("given":Str)==("locks":Str))=false:=⋯
@[simp] theorem RN:¬(("locks":Str)=("given":Str)):=⋯
@[simp] theorem RD:(("last_number":Str)==("yard":Str))=false:=⋯
@[simp] theorem Rg:¬(("yard":Str)=("last_number":Str)):=⋯
@[simp] theorem Ru:(("last_number":Str)==("net":Str))=false:=⋯
@[simp] theorem Rw:¬(("net":Str)=("last_number":Str)):=⋯
@[simp] theorem Rz:(("last_number":Str)==("shut":Str))=false:=⋯
@[simp] theorem RJ:¬(("shut":Str)=("last_number":Str)):=⋯
@[simp] theorem Rx:(("last_number":Str)==("locks":Str))=false:=⋯
@[simp] theorem RB:¬(("locks":Str)=("last_number":Str)):=⋯
@[simp] theorem Rk:(("last_number":Str)==("given":Str))=false:=⋯
@[simp] theorem RG:¬(("given":Str)=("last_number":Str)):=⋯
structure Bd where
 n:Nat
 RO:List Sw
 st:Nat
 lk:Nat
 gv:List (Nat×Nat×Nat)
 la:Nat
noncomputable def tp(gv:List (Nat×Nat×Nat)):List (Sum Int Str×D):=gv.map λg=>(.inl (g.1:Int),.tup [.int (g.2.1:Nat),.int (g.2.2:Nat)])
def Bd.f(b:Bd)(r:Nat):List (Str×D):=[(("yard":Str),yd b.n b.RO),(("net":Str),av b.RO),(("shut":Str),.int b.st),(("locks":Str),.int b.lk),(("given":Str),.ref r),(("last_number":Str),.int b.la)]
noncomputable def Bd.cell(b:Bd)(r:Nat):Option Cell:=⇑(.ins "Board" (b.f r))
theorem tm(n:Nat)(RO:List Sw)(m:Nat):(yd n RO).R5 m=true:=by
 simp only[yd,D.R5,D.R_,ki,kj];exact uu λd hd=>by
  obtain⟨s,_,rfl⟩:=qz.mp hd;cases s<;>simp[Sw.d,D.R5,D.R_]
theorem Ii(RO:List Sw)(m:Nat):(av RO).R5 m=true:=by
 have:D.R_ m (RO.map Sw.o)=true:=uu λd hd=>by
  obtain⟨s,_,rfl⟩:=qz.mp hd;cases s<;>simp[Sw.o,D.R5,D.R_,D.TX]
 simp[av,D.R5,D.R_,D.TX,this]
@[simp] theorem AA:"Board"∈cq:=⋯
@[simp] theorem EE:"Board"∈xJ:=⋯
@[simp] theorem A0:"Board"∈kU:=⋯
@[simp] theorem xB:"Board"∈iM:=⋯
@[simp] theorem wW:"Board"∈Bx:=⋯
@[simp] theorem B4:"Board"∈CW:=⋯
@[simp] theorem Bo(b:Bd)(r:Nat):(b.f r).lookup ("yard":Str)=⇑(yd b.n b.RO):=by simp[Bd.f,List.lookup]
@[simp] theorem EZ(b:Bd)(r:Nat):(b.f r).lookup ("net":Str)=⇑(av b.RO):=by simp[Bd.f,List.lookup]
@[simp] theorem Cc(b:Bd)(r:Nat):(b.f r).lookup ("shut":Str)=⇑(.int b.st):=by simp[Bd.f,List.lookup]
@[simp] theorem vX(b:Bd)(r:Nat):(b.f r).lookup ("locks":Str)=⇑(.int b.lk):=by simp[Bd.f,List.lookup]
@[simp] theorem u_(b:Bd)(r:Nat):(b.f r).lookup ("given":Str)=⇑(.ref r):=by simp[Bd.f,List.lookup]
@[simp] theorem Cd(b:Bd)(r:Nat):(b.f r).lookup ("last_number":Str)=⇑(.int b.la):=by simp[Bd.f,List.lookup]
@[simp] theorem A4(b:Bd)(r s:Nat):aI ("shut":Str) (.int s) (b.f r)=({b with st:=s}).f r:=by simp[Bd.f,aI]
@[simp] theorem yv(b:Bd)(r s:Nat):aI ("locks":Str) (.int s) (b.f r)=({b with lk:=s}).f r:=by simp[Bd.f,aI]
@[simp] theorem A9(b:Bd)(r s:Nat):aI ("last_number":Str) (.int s) (b.f r)=({b with la:=s}).f r:=by simp[Bd.f,aI]
@[simp] theorem Df(b:Bd)(r:Nat):(b.f r).length=6:=rfl
theorem zZ(b:Bd)(r:Nat)(h:([("yard":Str),("net":Str),("shut":Str),("locks":Str),("given":Str),("last_number":Str)]).contains m=false):(b.f r).lookup m=none:=by
 simp only[List.contains,List.elem_eq_mem,qg,zv,or_false,decide_eq_false_iff_not,not_or]at h;obtain⟨h1,h2,h3,h4,h5,h6⟩:=h;simp[Bd.f,List.lookup,beq_eq_false_iff_ne.mpr h1,beq_eq_false_iff_ne.mpr h2,beq_eq_false_iff_ne.mpr h3,beq_eq_false_iff_ne.mpr h4,beq_eq_false_iff_ne.mpr h5,beq_eq_false_iff_ne.mpr h6]
structure At (h:MH) (p r:Nat) (b:Bd):Prop where
 o:h[p]?=⇑(b.cell r)
 g:h[r]?=⇑⇑(.Sl (tp b.gv))
 hb:Hb h
 ok:bG b.n b.RO
theorem AE(b:Bd)(h:r<m):Cell.R5 m (b.cell r)=true:=by
 have h1:=tm b.n b.RO m;have h2:=Ii b.RO m;simp[Bd.cell,Bd.f,Cell.R5,D.R5,D.R_,h1,h2,h]
theorem Hb.set(a:Hb h)(q:∀n,h.length<=n->Cell.R5 n c=true):Hb (h.set p c):=λn hn=>by
 rw[zk]at hn;have:=a n hn;rw[List.all_eq_true]at this ⊢;intro x hx;rcases List.mem_or_eq_of_mem_set hx with hx|rfl
 ·exact this x hx
 ·exact q n hn
theorem At.ne(A:At h p r b):p≠r:=λe=>by
 have h1:=A.o;rw[e,A.g]at h1;simp[Bd.cell]at h1
theorem At.lt(A:At h p r b):r<h.length:=(q9.mp A.g).1
theorem At.lt'(A:At h p r b):p<h.length:=(q9.mp A.o).1
theorem At.put(A:At h p r b)(hg:b'.gv=b.gv)(ok:bG b'.n b'.RO):At (h.set p (b'.cell r)) p r b':=
 ⟨by rw[qj A.lt'],by rw[qh A.ne,hg];exact A.g,A.hb.set λn hn=>AE b' (qt A.lt hn),ok⟩
noncomputable def j7(gv:List (Nat×Nat×Nat)):Nat:=SR.all (gv.map λg=>g.2.2) 0
theorem Hm(a:Option D)(h:MH):∀(gv:List (Nat×Nat×Nat)) (f:Nat) (x:Option D),∃x',bO (ak 2) (aj (af eJ (aa 1) (af ay (aa 2) (mC (.int 1)))) (ak 1)) ((tp gv).map (·.2)) [a,⇑(.int f),x] h=.nx [a,⇑(.int (SR.all (gv.map λg=>g.2.2) f:Nat)),x'] h
 | [],f,x=>⟨x,rfl⟩
 | g::gv,f,x=>by
  obtain⟨x',ih⟩:=Hm a h gv (f|||g.2.2) ⇑(.tup [.int (g.2.1:Nat),.int (g.2.2:Nat)]);refine⟨x',?_⟩;have e2:=k_ f g.2.2;simp only[tp,List.map_cons];unfold bO;simp only[tp]at ih;simp[-List.map_map,e2];exact ih
theorem JC(A:At h p r b):fX [.ref p] h=.ok (.int (j7 b.gv:Nat)) h:=by
 obtain⟨x',e⟩:=Hm ⇑(.ref p) (h.set r none) b.gv 0 none;have o:h[p]?=⇑⇑(.ins "Board" (b.f r)):=A.o;have g:=A.g;have l:∀c:Option Cell,(h.set r c)[r]?=⇑c:=λc=>qj A.lt;have hs:(h.set r none).set r ⇑(.Sl (tp b.gv))=h:=by rw[List.set_set];exact AM g
 have f0:SR.all (b.gv.map λg=>g.2.2) 0=j7 b.gv:=rfl;rw[f0]at e;simp at e;simp[-List.map_map,fX,pH,o,g,e,l,hs]
theorem iX(A:At h p r b)(et:tab.lookup "Board"=⇑z)(hf:([("yard":Str),("net":Str),("shut":Str),("locks":Str),("given":Str),("last_number":Str)]).contains f=false)(e:m ρ h=.ok (.ref p) h)(el:l ρ h=.ok ds h):aw tab f m l ρ h=z (.ref p::ds) h:=by
 have o:h[p]?=⇑⇑(.ins "Board" (b.f r)):=A.o;have ea:rh h (.ref p)=⇑("Board",b.f r):=by simp[o]
 have ef:=zZ b r hf;simp only[aw,e,bU,ea,DB,et,R7,ef,if_true,el]
theorem Ce(A:At h p r b):dU [.ref p] h=.ok (.int b.st) h:=by
 have o:h[p]?=⇑⇑(.ins "Board" (b.f r)):=A.o;simp[dU,uO,o]
def fE(b:Bd)(k:Nat)(w:Sw):Option String:=
 if b.lk.testBit k=true then some "Locked"else if(j7 b.gv).testBit k=true then some "Held"else if gK b.st k w b.RO=true then some "Loaded"else if gH (b.st^^^2^k) b.RO=true then none else some "Shorted"
theorem MB(A:At h p r b)(k:Nat)(w:Sw)(hw:b.RO[k]?=⇑w):du [.ref p,.int k] h=match fE b k w with|some c=>.exc c h|none=>.ok (.int (b.st^^^2^k:Nat)) (h.set p (({b with st:=b.st^^^2^k}:Bd).cell r)):=by
 have hk:k<b.RO.length:=(q9.mp hw).1;have e0:=CI (n:=b.n) k hk h;have e1:=Lo A.ok b.st k w hw h A.hb;have hs:=mf b.lk k h;have hh:=mf (j7 b.gv) k h;have o:h[p]?=⇑⇑(.ins "Board" (b.f r)):=A.o;have l:∀c:Option Cell,(h.set p c)[p]?=⇑c:=λc=>qj A.lt';have f4:aw tG "held" (aa 0) ae [⇑(.ref p),⇑(.int k)] h=.ok (.int (j7 b.gv:Nat)) h:=by
  rw[iX A (z:=fX) (ds:=[]) rfl ⋯ (by simp) (by simp)];exact JC A
 unfold fE DW at*;by_cases q0:b.lk.testBit k=true
 ·rw[q0]at hs
  simp[du,gE,o,e0,hs,q0]
 ·have q0:b.lk.testBit k=false:=by simpa using q0
  rw[q0]at hs;by_cases q1:(j7 b.gv).testBit k=true
  ·rw[q1]at hh
   simp[-aw,du,gE,o,e0,hs,q0,f4,hh,q1]
  ·have q1:(j7 b.gv).testBit k=false:=by simpa using q1
   rw[q1]at hh;cases q2:gK b.st k w b.RO with
   | true=>
    rw[q2]at e1;simp at e1;simp[-aw,du,gE,o,e0,hs,q0,f4,hh,q1,e1]
   | false=>
    rw[q2]at e1;cases q3:gH (b.st^^^2^k) b.RO with
    | false=>
     rw[q3]at e1;simp at e1;simp[-aw,du,gE,o,e0,hs,q0,f4,hh,q1,e1]
    | true=>
     rw[q3]at e1;simp at e1;generalize b.st^^^2^k=s2 at*;simp[-aw,du,gE,o,e0,hs,q0,f4,hh,q1,e1,l,Bd.cell]
theorem Kp(A:At h p r b):fH [.ref p] h=.ok (.int b.lk) h:=by
 have o:h[p]?=⇑⇑(.ins "Board" (b.f r)):=A.o;simp[fH,xY,o]
noncomputable def Bd.new(n:Nat)(RO:List Sw):Bd:=⟨n,RO,0,0,[],0⟩
theorem Lq(ok:bG n RO)(hb:Hb h)(e:m ρ h0=.ok (yd n RO) h):pG "Board" h8 (ag m ae) ρ h0=.ok (.ref h.length) (h++[(Bd.new n RO).cell (h.length+2),none,⇑(.Sl [])]):=by
 have Ym:Hb (h++[⇑(Cell.ins "Board" [(("yard":Str),yd n RO)])]):=hb.snoc λk hk=>by
  simp[Cell.R5,D.R_,tm n RO k]
 have e1:=zP (m:=ao cq "yard" (aa 0)) (ρ:=[⇑(.ref h.length),⇑(yd n RO)]) (h:=h++[⇑(.ins "Board" [(("yard":Str),yd n RO)])]) n RO ok.2.2.1 Ym (by simp[List.lookup]);have ix:∀h:MH,ay (yd n RO) (.int 1) h=.ok (.lst (RO.map Sw.d)) h:=λh=>by simp[-List.map_map,yd]
 have DM:∀h:MH,ay (yd n RO) (.int 0) h=.ok (.int n) h:=λh=>by simp[yd]
 have yy:D.tup [.int n,.lst (RO.map Sw.d)]=yd n RO:=rfl;have h1:=tm n RO (h.length+1);have h2:=Ii RO (h.length+1);have hbn:(h++[⇑(Cell.ins "Board" [])]).length=h.length+1:=by simp
 have nb:Cell.R5 (h.length+1) ⇑(Cell.ins "Board" (((Bd.new n RO).f (h.length+2))))=false:=by
  simp[Bd.f,Bd.new,Cell.R5,D.R_,D.R5]
 have key:h8 [.ref h.length,yd n RO] (h++[⇑(Cell.ins "Board" [])])=.ok .RY (h++[(Bd.new n RO).cell (h.length+2),none,⇑(.Sl [])]):=by
  have eb:iF [⇑(.ref h.length),⇑(yd n RO)] (h++[⇑(Cell.ins "Board" [])])=.nx [⇑(.ref h.length),⇑(yd n RO)] (h++[(Bd.new n RO).cell (h.length+2),none,⇑(.Sl [])]):=by
   simp[-List.map_map, -ay, -dP, -ao,iF,ix,DM,yy,e1,aI,Bd.cell,Bd.f,Bd.new]
  unfold h8 aq;rw[if_pos (show[D.ref h.length,yd n RO].length=2 from rfl)];have e2:iF ([D.ref h.length,yd n RO].map some++List.replicate (2 - [D.ref h.length,yd n RO].length) none) (h++[⇑(Cell.ins "Board" [])])=.nx [⇑(.ref h.length),⇑(yd n RO)] (h++[(Bd.new n RO).cell (h.length+2),none,⇑(.Sl [])]):=eb;rw[e2];have tk:(h++[(Bd.new n RO).cell (h.length+2),none,⇑(.Sl [])]).take (h++[⇑(Cell.ins "Board" [])]).length=h++[(Bd.new n RO).cell (h.length+2)]:=by
   rw[hbn,List.take_append,wk (k6 _)];simp
  show fin _ _ _=_;unfold fin;rw[if_neg (by simp),tk,hbn,gq];have:([(Bd.new n RO).cell (h.length+2)].all (Cell.R5 (h.length+1)))=false:=by
   simp only[wm,u7,kj];exact nb
  rw[this];simp
 simp[e,key]
theorem oA(ok:bG n RO)(hb:Hb h):At (h++[(Bd.new n RO).cell (h.length+2),none,⇑(.Sl [])]) h.length (h.length+2) (Bd.new n RO):=
 ⟨by simp,by simp[Bd.new,tp],λk hk=>by
  simp only[zh,qw,zn]at hk;rw[gq,hb k ⋯];have:=AE (Bd.new n RO) (show h.length+2<k by lia);simp only[wm,u7,kj,this];simp[Cell.R5,D.R_],ok⟩
noncomputable def Sw.Uc:Sw->Bool
 | .feed _=>true
 | .splitter _ _=>true
 | _=>false
theorem Lu(s:Sw)(hn:n<=10)(ok:s.ok n)(h:MH):fV [s.o] h=.ok (.bl s.Uc) h:=by
 have e1:=lX s hn ok (m:=aa 0) (ρ:=[⇑s.o]) (h:=h) (by simp);have e2:=Kq s (m:=aa 0) (ρ:=[⇑s.o]) (h:=h) (by simp);have key:∀(i:Int) (g:Bool),aw iT "feeds" (aa 0) ae [⇑s.o] h=.ok (.int i) h->aw i5 "gentle" (aa 0) ae [⇑s.o] h=.ok (.bl g) h->fV [s.o] h=.ok (.bl (!decide (i=0)||g)) h:=λi g e1 e2=>by
  by_cases q:i=0
  ·simp[-aw,fV,nQ,e1,e2,q]
  ·simp[-aw,fV,nQ,e1,e2,q]
 rw[key _ _ e1 e2];have pos:∀b:Nat,¬(((2^b:Nat):Int)=0):=λb=>by
  have:=Nat.pow_pos (n:=b) (show 0<2 by decide)
  lia
 cases s with
 | feed b=>simp only[Sw.XZ,Sw.gen,Sw.Uc,pos b,decide_false,Bool.not_false,Bool.true_or]
 | SD b=>rfl
 | Se a b=>rfl
 | splitter a b=>rfl
noncomputable def jM(b:Bd)(k:Nat)(w:Sw):Option String:=
 if w.Uc=false then some "NoLock"else if b.st.testBit k=true then some "NotOpen"else if b.lk.testBit k=true then some "Locked"else none
theorem Pr(A:At h p r b)(k:Nat)(w:Sw)(hw:b.RO[k]?=⇑w):eG [.ref p,.int k] h=match jM b k w with|some c=>.exc c h|none=>.ok (.int (b.lk|||2^k:Nat)) (h.set p (({b with lk:=b.lk|||2^k}:Bd).cell r)):=by
 have hk:k<b.RO.length:=(q9.mp hw).1;have hl:=A.ok.2.2.1;have e0:=CI (n:=b.n) k hk h;have hs:=mf b.lk k h;have hh:=mf b.st k h;have o:h[p]?=⇑⇑(.ins "Board" (b.f r)):=A.o;have l:∀c:Option Cell,(h.set p c)[p]?=⇑c:=λc=>qj A.lt';have ec:=Lu w A.ok.2.1 (A.ok.2.2.2 w (qm hw)) h;have hx:cx (b.RO.map Sw.o) (k:Int)=⇑w.o:=xV (by rw[z9,hw];rfl);have ix:(af ay (ao gP "switches" (ao xJ "net" (aa 0))) (aa 1)) [⇑(.ref p),⇑(.int k)] h=.ok w.o h:=by
  simp[-List.map_map,o,av,gP,hx]
 have o1:=jf (show k<=100 by lia);have b1:=k_ b.lk (2^k);simp at b1;unfold jM;cases q0:w.Uc with
 | false=>
  rw[q0]at ec;simp[-ay, -af,eG,ij,o,e0,ix,ec]
 | true=>
  rw[q0]at ec;cases q1:b.st.testBit k with
  | true=>
   rw[q1]at hh;simp[-ay, -af,eG,ij,o,e0,ix,ec,hh]
  | false=>
   rw[q1]at hh;cases q2:b.lk.testBit k with
   | true=>
    rw[q2]at hs;simp[-ay, -af,eG,ij,o,e0,ix,ec,hh,hs]
   | false=>
    rw[q2]at hs;have lv:(af eJ (ao iM "locks" (aa 0)) (af cp (mC (.int 1)) (aa 1))) [⇑(.ref p),⇑(.int k)] h=.ok (.int (b.lk|||2^k:Nat)) h:=by
     simp[o,o1,b1]
    simp[-ay, -eJ, -cp, -af,eG,ij,o,e0,ix,ec,hh,hs,lv,l,Bd.cell]
theorem bf(e:a ρ h=.nx ρ' h'):ah a b ρ h=b ρ' h':=by simp only[ah,e]
theorem qD(e:a ρ h=.rt d h'):ah a b ρ h=.rt d h':=by simp only[ah,e]
theorem fw(hl:ds.length=np)(e:b (ds.map some++List.replicate (nn - ds.length) none) h=.rt d h')(hn:h'.length<=h.length):aq np nn b ds h=.ok d h':=by
 unfold aq;rw[if_pos hl,e];show fin h.length d h'=_;unfold fin;rw[if_pos hn]
@[simp] theorem Rf:(("board":Str)==("yard":Str))=false:=⋯
@[simp] theorem Rq:¬(("yard":Str)=("board":Str)):=⋯
noncomputable def da(y b:D):List (Str×D):=[(("yard":Str),y),(("board":Str),b)]
def aQ(y b:D):Option Cell:=⇑(.ins "Desk" (da y b))
@[simp] theorem By:"Desk"∈cq:=⋯
@[simp] theorem tV:"Desk"∈cn:=⋯
@[simp] theorem Bi(y b:D):(da y b).lookup ("yard":Str)=⇑y:=by simp[da,List.lookup]
@[simp] theorem ui(y b:D):(da y b).lookup ("board":Str)=⇑b:=by simp[da,List.lookup]
@[simp] theorem Bp(y b y':D):aI ("yard":Str) y' (da y b)=da y' b:=by simp[da,aI]
@[simp] theorem zT(y b b':D):aI ("board":Str) b' (da y b)=da y b':=by simp[da,aI]
@[simp] theorem Fw(y b:D):(da y b).length=2:=rfl
theorem xO(y b:D)(h:([("yard":Str),("board":Str)]).contains m=false):(da y b).lookup m=none:=by
 simp only[List.contains_cons,List.contains_nil,Bool.or_false,Bool.or_eq_false_iff]at h;simp only[da,List.lookup,h.1,h.2]
theorem qB(o:h[d]?=⇑(aQ y b))(et:tab.lookup "Desk"=⇑z)(hf:([("yard":Str),("board":Str)]).contains f=false)(em:m ρ h=.ok (.ref d) h)(el:l ρ h=.ok ds h):aw tab f m l ρ h=z (.ref d::ds) h:=by
 unfold aQ at o;simp[em,el,o,et,xO y b hf]
structure Dk (h:MH) (d p r:Nat) (b:Bd):Prop where
 o:h[d]?=⇑(aQ (yd b.n b.RO) (.ref p))
 a:At h p r b
theorem Lc(ok:bG n RO)(hb:Hb h)(o:h[d]?=⇑(aQ y b))(hy:∀m,h.length<=m->b.R5 m=true):dh [.ref d,yd n RO] h=.ok (.str "ok") (((h.set d (aQ (yd n RO) b))++[(Bd.new n RO).cell (h.length+2),none,⇑(.Sl [])]).set d (aQ (yd n RO) (.ref h.length))):=by
 have ld:d<h.length:=(q9.mp o).1;have hl:(h.set d (aQ (yd n RO) b)).length=h.length:=zk;have Ym:Hb (h.set d (aQ (yd n RO) b)):=hb.set λm hm=>by
  have h1:=tm n RO m;have h2:=hy m hm;simp[aQ,da,Cell.R5,h1,h2,D.R_,D.TX]
 have mk:=Lq ok (m:=aa 1) (ρ:=[⇑(.ref d),⇑(yd n RO)]) (h0:=h.set d (aQ (yd n RO) b)) Ym (by simp);rw[hl]at mk;have o1:((h.set d (aQ (yd n RO) b))++[(Bd.new n RO).cell (h.length+2),none,⇑(.Sl [])])[d]?=⇑(aQ (yd n RO) b):=by
  rw[qr (by rw[hl];exact ld),qj ld]
 have key:jt [⇑(.ref d),⇑(yd n RO)] h=.rt (.str "ok") (((h.set d (aQ (yd n RO) b))++[(Bd.new n RO).cell (h.length+2),none,⇑(.Sl [])]).set d (aQ (yd n RO) (.ref h.length))):=by
  unfold jt;refine(bf (ρ':=[⇑(.ref d),⇑(yd n RO)]) (h':=h.set d (aQ (yd n RO) b)) (by
   unfold aQ at o ⊢;simp[o])).trans ?_
  refine(bf (ρ':=[⇑(.ref d),⇑(yd n RO)]) (h':=((h.set d (aQ (yd n RO) b))++[(Bd.new n RO).cell (h.length+2),none,⇑(.Sl [])]).set d (aQ (yd n RO) (.ref h.length))) (by
   generalize((h.set d (aQ (yd n RO) b))++[(Bd.new n RO).cell (h.length+2),none,⇑(.Sl [])])=H1 at*;generalize h.set d (aQ (yd n RO) b)=H0 at*;unfold aQ at o1 ⊢;unfold c8;rw[mk];simp[o1])).trans ?_
  simp
 unfold dh aq;rw[if_pos (show[D.ref d,yd n RO].length=2 from rfl)];have k2:jt ([D.ref d,yd n RO].map some++List.replicate (2 - [D.ref d,yd n RO].length) none) h=_:=key;rw[k2];show fin _ _ _=_;unfold fin;have l3:(((h.set d (aQ (yd n RO) b))++[(Bd.new n RO).cell (h.length+2),none,⇑(Cell.Sl [])]).set d (aQ (yd n RO) (.ref h.length))).length=h.length+3:=by simp
 rw[if_neg ⋯,if_neg];intro z;have z2:=(kq.mp z).2;rw[List.all_eq_true]at z2;have:=z2 (aQ (yd n RO) (.ref h.length)) (by
  refine qm (i:=d) ?_;rw[kz ld,qj (by simp;lia)])
 simp[aQ,da,Cell.R5,D.R5,D.R_,D.TX]at this
theorem AB(o:H[d]?=⇑(aQ y (.ref p)))(hd:d<n)(hp:n<=p):fin n x H=.ok x H:=by
 unfold fin;by_cases z:H.length<=n
 ·rw[if_pos z]
 ·rw[if_neg z,if_neg]
  intro q;have z2:=(kq.mp q).2;rw[List.all_eq_true]at z2;have:=z2 (aQ y (.ref p)) (by
   refine qm (i:=d) ?_;rw[kz hd];exact o)
  simp[aQ,da,Cell.R5,D.R5,D.R_,D.TX]at this
  lia
def cZ(h:MH)(d n:Nat)(RO:List Sw)(b:D):MH:=((h.set d (aQ (yd n RO) b))++[(Bd.new n RO).cell (h.length+2),none,⇑(.Sl [])]).set d (aQ (yd n RO) (.ref h.length))
theorem A2(ld:d<h.length):(cZ h d n RO b)[d]?=⇑(aQ (yd n RO) (.ref h.length)):=by
 unfold cZ;rw[qj (by simp;lia)]
theorem Jv(lj:j<h.length)(ne:j≠d):(cZ h d n RO b)[j]?=h[j]?:=by
 unfold cZ;rw[qh (Ne.symm ne),qr (by simpa using lj),qh (Ne.symm ne)]
theorem IK(ok:bG n RO)(hb:Hb h)(ld:d<h.length)(hy:∀m,h.length<=m->b.R5 m=true):Dk (cZ h d n RO b) d h.length (h.length+2) (Bd.new n RO):=by
 have Ym:Hb (h.set d (aQ (yd n RO) b)):=hb.set λm hm=>by
  have h1:=tm n RO m;have h2:=hy m hm;simp[aQ,da,Cell.R5,h1,h2,D.R_,D.TX]
 have A:=oA ok Ym;have hl:(h.set d (aQ (yd n RO) b)).length=h.length:=zk;rw[hl]at A;refine⟨A2 ld,?_,?_,?_,ok⟩
 ·unfold cZ
  rw[qh ⋯];exact A.o
 ·unfold cZ
  rw[qh ⋯];exact A.g
 ·unfold cZ
  refine A.hb.set λm hm=> ?_;have h1:=tm n RO m;simp at hm;simp[aQ,da,Cell.R5,h1,D.R_,D.TX,D.R5]
  lia
theorem wL(e:Txt.split row ⟨#[32]⟩=k::ws)(lr:row.length<=16777216)(lw:ws.length<=100)(d:Nat)(B:MS)(h:MH):ah (aj (aO (lN (aa 1) (ag (mC (.str " ")) ae))) (ak 2)) (ah (aj (af ay (aa 2) (mC (.int 0))) (ak 3)) B) [⇑(.ref d),⇑(.str row),none,none,none] h=B [⇑(.ref d),⇑(.str row),⇑(.lst ((k::ws).map D.str)),⇑(.str k),none] h:=by
 have l1:(" ":Str).length≠0:=⋯;have l2:(Txt.split row ⟨#[32]⟩).length<=16777216:=by rw[e];simp;lia
 refine(bf (ρ':=[⇑(.ref d),⇑(.str row),⇑(.lst ((k::ws).map D.str)),none,none]) (h':=h) (by
  rw[<-iS]at e l2;have l3:ws.length<=16777215:=⋯;simp[-List.map_cons,l1,lr,l3,e])).trans ?_
 exact bf (by simp)
theorem QI{n:Nat}(h1:1<=n)(h2:n<=10)(hb:Hb h)(o:h[d]?=⇑(aQ y b))(hy:∀m,h.length<=m->b.R5 m=true):br [.ref d,.str (cX n)] h=.ok (.str "ok") (cZ h d n [] b):=by
 have ld:d<h.length:=(q9.mp o).1;have ok:bG n []:=⟨h1,h2,by simp,λs m=>(nomatch m)⟩;obtain⟨f1,_,f3⟩:=BO (k:="bars") (bs:=[(n:Int)]) tx.1 tx.2.1 tx.2.2 (by simp;lia) (by simp);have hd:=wL (row:=cX n) (k:="bars") (ws:=[(n:Int)].map W) f3 (by have:(cX n).length<=20:=f1;lia) (by simp) d;have ci:=P5 n h ⋯ ⋯;have bg:dh [.ref d,.tup [.int (n:Int),.lst []]] h=.ok (.str "ok") (cZ h d n [] b):=Lc ok hb o hy;have key:bQ [⇑(.ref d),⇑(.str (cX n)),none,none,none] h=.rt (.str "ok") (cZ h d n [] b):=by
  unfold bQ;rw[hd];refine qD ?_;have mm:=qB o (tab:=vm) (f:="begin") (z:=dh) (m:=aa 0) (l:=ag (bD (ag (ax iJ (ag (aa 1) ae)) (ag (aO (bz ae)) ae))) ae) (ρ:=[⇑(.ref d),⇑(.str (cX n)),⇑(.lst ((("bars":Str)::[(n:Int)].map W).map D.str)),⇑(.str ("bars":Str)),none]) (ds:=[.tup [.int (n:Int),.lst []]]) rfl ⋯ (by simp) (by simp[ci]);have mm:=mm.trans bg;generalize cZ h d n [] b=H at*;simp only[aG,tB,af,aa,mC,z5,qy,bU,a9,decide_true,cG,if_true,ai,mm]
 unfold br aq;rw[if_pos (show[D.ref d,D.str (cX n)].length=2 from rfl)];have k2:bQ ([D.ref d,D.str (cX n)].map some++List.replicate (5 - [D.ref d,D.str (cX n)].length) none) h=_:=key;rw[k2];exact AB (A2 ld) ld (qd _)
noncomputable def Sw.t:Sw->Str×List Int
 | .feed a=>("feed",[(a:Int)])|.SD a=>("earth",[(a:Int)])|.Se a b=>("breaker",[(a:Int),(b:Int)])|.splitter a b=>("splitter",[(a:Int),(b:Int)])
theorem Dd(s:Sw):sd s.t=s.d:=by cases s<;>rfl
theorem yK{s:Sw}(ok:s.ok n):SwOk n s.t:=by
 cases s with
 | feed a=>exact .inl ⟨a,⋯,by have:a<n:=ok;lia,.inl rfl⟩
 | SD a=>exact .inl ⟨a,⋯,by have:a<n:=ok;lia,.inr rfl⟩
 | Se a b=>obtain⟨h1,h2,h3⟩:=ok;exact .inr ⟨a,b,⋯,⋯,⋯,⋯,⋯,.inl rfl⟩
 | splitter a b=>obtain⟨h1,h2,h3⟩:=ok;exact .inr ⟨a,b,⋯,⋯,⋯,⋯,⋯,.inr rfl⟩
def aN(s:Sw):Str:=bL s.t
theorem yN:¬(("feed":Str)=("bars":Str))/\¬(("earth":Str)=("bars":Str))/\¬(("breaker":Str)=("bars":Str))/\¬(("splitter":Str)=("bars":Str)):=⋯
theorem PZ(hn:n<=10)(ok:s.ok n):(aN s).length<=20/\Txt.split (aN s) ⟨#[32]⟩=s.t.1::s.t.2.map W/\s.t.2.length<=2:=by
 obtain⟨b1,b2,b3,b4,b5,b6⟩:=(yK ok).bars;obtain⟨f1,_,f3⟩:=BO (k:=s.t.1) (bs:=s.t.2) b4 b5 b6 (λb m=>by have:=b1 b m;lia) b2;exact⟨f1,f3,b2⟩
theorem BY(o:h[d]?=⇑(aQ y (.ref p)))(hy:jN y=false)(hk:¬k=("bars":Str))(x1 x2 x4:Option D)(A B:MS):ah (aG (tB (af a9 (aa 3) (mC (.str "bars")))) A aH) (ah (aG (tB (af mJ (ao cq "yard" (aa 0)) (mC .RY))) (cJ "NoRow" (mC (.str "there is no yard yet"))) aH) B) [⇑(.ref d),x1,x2,⇑(.str k),x4] h=B [⇑(.ref d),x1,x2,⇑(.str k),x4] h:=by
 refine(bf (ρ':=[⇑(.ref d),x1,x2,⇑(.str k),x4]) (h':=h) (by simp[hk])).trans ?_;have e1:ao cq "yard" (aa 0) [⇑(.ref d),x1,x2,⇑(.str k),x4] h=.ok y h:=by
  unfold aQ at o;simp[o]
 have e2:mJ y .RY h=.ok (.bl false) h:=by
  have:mJ y .RY h=.ok (.bl (jN y)) h:=by cases y<;>rfl
  rw[this,hy]
 refine bf ?_;simp only[aG,tB,af,e1,mC,bU,e2,cG,qu,if_false,aH]
theorem OS(s:Sw)(h:MH):cW false (.str s.t.1) (.tup [.str "feed",.str "earth",.str "breaker",.str "splitter"]) h=.ok (.bl true) h:=by
 cases s<;>simp[Sw.t,fM]
theorem O7(D0:Dk h d p r b)(ok:bG b.n b.RO)(hs:s.ok b.n)(hl:b.RO.length<12):br [.ref d,.str (aN s)] h=.ok (.str "ok") (cZ h d b.n (b.RO++[s]) (.ref p)):=by
 have ld:d<h.length:=(q9.mp D0.o).1;have lp:p<h.length:=D0.a.lt';have hn:=ok.2.1;obtain⟨f1,f2,f3⟩:=PZ hn hs;have hd:=wL (row:=aN s) f2 ⋯ (by simp;lia) d;have si:=Oq s.t b.n b.RO.length h (by have:=ok.1;lia) ⋯ (yK hs) hl;rw[Dd]at si;have ok2:bG b.n (b.RO++[s]):=⟨ok.1,hn,by simp;lia,λw m=>by
  rcases qv.mp m with m|m
  ·exact ok.2.2.2 w m
  ·rw[z6.mp m];exact hs⟩
 have bg:dh [.ref d,.tup [.int (b.n:Int),.lst (b.RO.map Sw.d++[s.d])]] h=.ok (.str "ok") (cZ h d b.n (b.RO++[s]) (.ref p)):=by
  have this:dh [.ref d,yd b.n (b.RO++[s])] h=.ok (.str "ok") (cZ h d b.n (b.RO++[s]) (.ref p)):=Lc ok2 D0.a.hb D0.o (λm hm=>by simp[D.R5];lia);have e:yd b.n (b.RO++[s])=.tup [.int (b.n:Int),.lst (b.RO.map Sw.d++[s.d])]:=by
   unfold yd;rw[w9];rfl
  rw[e]at this;exact this
 have kn:¬s.t.1=("bars":Str):=by
  obtain⟨a,b,c,e⟩:=yN;cases s<;>assumption
 have o:=D0.o;have i0:∀h,ay (yd b.n b.RO) (.int 0) h=.ok (.int (b.n:Nat)) h:=λh=>rfl;have i1:∀h,ay (yd b.n b.RO) (.int 1) h=.ok (.lst (b.RO.map Sw.d)) h:=λh=>rfl;have ad:ie [.ref d,.str (aN s)] h=.ok (.str "ok") (cZ h d b.n (b.RO++[s]) (.ref p)):=by
  have key:jb [⇑(.ref d),⇑(.str (aN s)),none,none] h=.rt (.str "ok") (cZ h d b.n (b.RO++[s]) (.ref p)):=by
   have fy:∀x1 x2 x3,ao cq "yard" (aa 0) [⇑(.ref d),x1,x2,x3] h=.ok (yd b.n b.RO) h:=λx1 x2 x3=>by
    unfold aQ at o;simp[o]
   unfold jb;refine(bf (ρ':=[⇑(.ref d),⇑(.str (aN s)),⇑(.int (b.n:Nat)),none]) (h':=h) (by simp[-ay, -ao,fy,i0])).trans ?_;refine(bf (ρ':=[⇑(.ref d),⇑(.str (aN s)),⇑(.int (b.n:Nat)),⇑(.lst (b.RO.map Sw.d))]) (h':=h) (by simp[-ay, -ao, -List.map_map,fy,i1])).trans ?_;have ll:(b.RO.map Sw.d).length=b.RO.length:=qf ..;have mm:=qB o (tab:=vm) (f:="begin") (z:=dh) (m:=aa 0) (l:=ag (bD (ag (aa 2) (ag (af aB (aa 3) (aO (bz (ag (ax dH (ag (aa 1) (ag (aa 2) (ag (bh bJ (ag (aa 3) ae)) ae)))) ae)))) ae))) ae) (ρ:=[⇑(.ref d),⇑(.str (aN s)),⇑(.int (b.n:Nat)),⇑(.lst (b.RO.map Sw.d))]) (ds:=[.tup [.int (b.n:Int),.lst (b.RO.map Sw.d++[s.d])]]) rfl ⋯ (by simp) (by
    have l2:b.RO.length<=16777215:=⋯;have si:dH [.str (aN s),.int (b.n:Int),.int (b.RO.length:Int)] h=.ok s.d h:=si;generalize b.RO.map Sw.d=T at*;generalize aN s=R at*;generalize s.d=S at*;simp[ll,si,l2])
   have mm:=mm.trans bg;generalize cZ h d b.n (b.RO++[s]) (.ref p)=H at*;simp only[ai,mm,cG]
  unfold ie aq;rw[if_pos (show[D.ref d,D.str (aN s)].length=2 from rfl)];have k2:jb ([D.ref d,D.str (aN s)].map some++List.replicate (4 - [D.ref d,D.str (aN s)].length) none) h=_:=key;rw[k2];exact AB (A2 ld) ld (qd _)
 have key:bQ [⇑(.ref d),⇑(.str (aN s)),none,none,none] h=.rt (.str "ok") (cZ h d b.n (b.RO++[s]) (.ref p)):=by
  unfold bQ;rw[hd,BY o rfl kn];refine qD ?_;have mm:=qB o (tab:=Ff) (f:="add_switch") (z:=ie) (m:=aa 0) (l:=ag (aa 1) ae) (ρ:=[⇑(.ref d),⇑(.str (aN s)),⇑(.lst ((s.t.1::s.t.2.map W).map D.str)),⇑(.str s.t.1),none]) (ds:=[.str (aN s)]) rfl ⋯ (by simp) (by simp);have mm:=mm.trans ad;have i4:=OS s h;generalize cZ h d b.n (b.RO++[s]) (.ref p)=H at*;generalize s.t.1=K at*;have t4:bD (ag (mC (.str "feed")) (ag (mC (.str "earth")) (ag (mC (.str "breaker")) (ag (mC (.str "splitter")) ae)))) [⇑(.ref d),⇑(.str (aN s)),⇑(.lst ((K::s.t.2.map W).map D.str)),⇑(.str K),none] h=.ok (.tup [.str "feed",.str "earth",.str "breaker",.str "splitter"]) h:=by simp
  simp only[aG,tB,af,aa,z5,qy,bU,t4,i4,cG,if_true,ai,mm]
 unfold br aq;rw[if_pos (show[D.ref d,D.str (aN s)].length=2 from rfl)];have k2:bQ ([D.ref d,D.str (aN s)].map some++List.replicate (5 - [D.ref d,D.str (aN s)].length) none) h=_:=key;rw[k2];exact AB (A2 ld) ld (qd _)
theorem Nz(ok:bG n RO)(st:Nat)(h:MH)(hb:Hb h):jS [yd n RO,.int st] h=.ok (.int (cf st RO:Nat)) h:=by
 have e1:=zP (m:=aa 0) (ρ:=[⇑(yd n RO),⇑(.int st)]) (h:=h) n RO ok.2.2.1 hb (by simp);have e3:=A6 ok st (h++[none]) (l:=aa 1) e1 (by simp);have Xs:∀x∈h,Cell.R5 h.length x=true:=by simpa using hb h.length (qd _)
 simp[-aw, -dP,jS,v8,e3,D.R5];rw[if_neg ⋯,if_pos Xs]
theorem Lj(ok:bG n RO)(st:Nat)(h:MH)(hb:Hb h):i_ [yd n RO,.int st] h=.ok (.int (dJ st RO:Nat)) h:=by
 have e1:=zP (m:=aa 0) (ρ:=[⇑(yd n RO),⇑(.int st)]) (h:=h) n RO ok.2.2.1 hb (by simp);have e3:=C_ ok st (h++[none]) (l:=aa 1) e1 (by simp);have Xs:∀x∈h,Cell.R5 h.length x=true:=by simpa using hb h.length (qd _)
 simp[-aw, -dP,i_,wV,e3,D.R5];rw[if_neg ⋯,if_pos Xs]
structure One (k:Str):Prop where
 sp:Txt.split k ⟨#[32]⟩=[k]
 ln:k.length<=10
 b:¬k=("bars":Str)
 a1:¬("feed":Str)=k
 a2:¬("earth":Str)=k
 a3:¬("breaker":Str)=k
 a4:¬("splitter":Str)=k
 a5:¬("turn":Str)=k
 a6:¬("lock":Str)=k
 a7:¬("unlock":Str)=k
 a8:¬("back":Str)=k
 c1:¬k=("permit":Str)
 c2:¬k=("locks":Str)
 c3:¬k=("reach":Str)
theorem Lz:One ("shut":Str):=⟨⋯,⋯,⋯,⋯,⋯,⋯,⋯,⋯,⋯,⋯,⋯,⋯,⋯,⋯⟩
theorem Na:One ("live":Str):=⟨⋯,⋯,⋯,⋯,⋯,⋯,⋯,⋯,⋯,⋯,⋯,⋯,⋯,⋯⟩
theorem O6:One ("earthed":Str):=⟨⋯,⋯,⋯,⋯,⋯,⋯,⋯,⋯,⋯,⋯,⋯,⋯,⋯,⋯⟩
theorem Nd:One ("locked":Str):=⟨⋯,⋯,⋯,⋯,⋯,⋯,⋯,⋯,⋯,⋯,⋯,⋯,⋯,⋯⟩
theorem A8(u:One k)(o:h[d]?=⇑(aQ y (.ref p)))(hy:jN y=false)(et:kA [.ref d,.str k] h=.ok x h):br [.ref d,.str k] h=.ok x h:=by
 have hd:=wL (row:=k) (ws:=[]) u.sp (by have:=u.ln;lia) (by simp) d;have mm:=qB o (tab:=EL) (f:="tell") (z:=kA) (m:=aa 0) (l:=ag (aa 3) ae) (ρ:=[⇑(.ref d),⇑(.str k),⇑(.lst ([k].map D.str)),⇑(.str k),none]) (ds:=[.str k]) rfl ⋯ (by simp) (by simp);have mm:=mm.trans et;obtain⟨_,_,b,a1,a2,a3,a4,a5,a6,a7,a8,c1,c2,c3⟩:=u;have key:bQ [⇑(.ref d),⇑(.str k),none,none,none] h=.rt x h:=by
  unfold bQ;rw[hd,BY o hy b];refine(bf (ρ':=[⇑(.ref d),⇑(.str k),⇑(.lst ([k].map D.str)),⇑(.str k),none]) (h':=h) (by simp[fM,a1,a2,a3,a4])).trans ?_;refine(bf (ρ':=[⇑(.ref d),⇑(.str k),⇑(.lst ([k].map D.str)),⇑(.str k),none]) (h':=h) (by simp[fM,a5,a6,a7,a8])).trans ?_;refine(bf (ρ':=[⇑(.ref d),⇑(.str k),⇑(.lst ([k].map D.str)),⇑(.str k),none]) (h':=h) (by simp[c1])).trans ?_;refine(bf (ρ':=[⇑(.ref d),⇑(.str k),⇑(.lst ([k].map D.str)),⇑(.str k),none]) (h':=h) (by simp[c2])).trans ?_;refine(bf (ρ':=[⇑(.ref d),⇑(.str k),⇑(.lst ([k].map D.str)),⇑(.str k),none]) (h':=h) (by simp[c3])).trans ?_;refine(bf (ρ':=[⇑(.ref d),⇑(.str k),⇑(.lst ([k].map D.str)),⇑(.str k),none]) (h':=h) (by simp)).trans ?_;simp only[ai,mm,cG]
 exact fw (np:=2) (nn:=5) (b:=bQ) (ds:=[.ref d,.str k]) rfl key (qd _)
noncomputable def b8(x:Nat):List Nat:=(List.range (Builtin.Int.intBits (x:Int))).filter λk=>x.testBit k
theorem Bz:k∈b8 x↔x.testBit k=true:=by
 unfold b8;rw[zr,w5];refine⟨λh=>h.2,λh=>⟨?_,h⟩⟩;have h0:x≠0:=λz=>by subst z;simp at h
 have h1:2^k<=x:=Nat.ge_two_pow_of_testBit h;have h2:=(Nat.le_log2 h0).mpr h1;simp[Builtin.Int.intBits,h0]
 lia
theorem OT{x m:Nat}(hx:x<2^m):Builtin.Int.intBits (x:Int)<=m:=by
 by_cases h0:x=0
 ·subst h0;simp[Builtin.Int.intBits]
 ·have h2:=(Nat.log2_lt h0).mpr hx
  simp[Builtin.Int.intBits,h0]
  lia
theorem B6(m:Nat):Vx 0 m=(List.range m).map λk:Nat=>D.int k:=by
 unfold Vx;simp
theorem Bq(x:Nat)(hx:x<2^12)(h:MH):e8 [.int x] h=.ok (.lst ((b8 x).map λk:Nat=>D.int k)) h:=by
 have hl:=OT hx;have comp:compLoop (ak 0) (aA (ax eV (ag (aa 1) (ag (aa 0) ae)))) (aa 0) [none,⇑(.int x)] (Vx 0 (Builtin.Int.intBits (x:Int))) h=.ok ((b8 x).map λk:Nat=>D.int k) h:=by
  rw[B6];exact BB (g:=ak 0) (t:=aA (ax eV (ag (aa 1) (ag (aa 0) ae)))) (m:=aa 0) (ρ0:=[none,⇑(.int x)]) (h:=h) (λk:Nat=>D.int k) (λk=>[⇑(.int k),⇑(.int x)]) (λk=>x.testBit k) (λk:Nat=>D.int k) (List.range (Builtin.Int.intBits (x:Int))) λk _=>by
   have:=mf x k h;refine⟨by simp,?_,by simp⟩;simp[this]
 simp[-List.map_map,e8,uf,comp,show Builtin.Int.intBits (x:Int)<4611686018427387904 by lia,show Builtin.Int.intBits (x:Int)<16777216 by lia]
def bE(RO:List Sw)(st k:Nat):Bool:=match RO[k]? with
 | some w=> !gK st k w RO&&gH (st^^^2^k) RO
 | none=>false
noncomputable abbrev aF:=List (Nat×Option Nat)
def aZ(c:aF)(x:Nat):Bool:=c.any λp=>decide (p.1=x)
def fg(RO:List Sw)(x:Nat)(s:aF×List Nat)(k:Nat):aF×List Nat:=
 if aZ s.1 (x^^^2^k)=false/\bE RO x k=true then(s.1++[(x^^^2^k,⇑k)],s.2++[x^^^2^k])else s
def Bb(RO:List Sw)(fs:List Nat)(s:aF×List Nat)(x:Nat):aF×List Nat:=fs.foldl (fg RO x) s
def fU(RO:List Sw)(fs:List Nat)(layer:List Nat)(s:aF×List Nat):aF×List Nat:=layer.foldl (Bb RO fs) s
noncomputable def cK(l:List Nat):List Nat:=l.mergeSort (λa b=>decide (a<=b))
theorem Jb(l:List Nat):(cK l).Perm l:=List.mergeSort_perm l _
theorem N_(l:List Nat):(cK l).Pairwise (·<=·):=by
 have:=List.pairwise_mergeSort (le:=λ(a b:Nat)=>decide (a<=b)) (λa b c x y=>decide_eq_true (zi (of_decide_eq_true x) (of_decide_eq_true y))) (λa b=>by simp;omega) l;exact this.imp λx=>of_decide_eq_true x
theorem JY:x∈cK l↔x∈l:=(Jb l).mem_iff
theorem NI(h:l.Nodup):(cK l).Pairwise (·<·):=by
 have h1:=N_ l;have h2:(cK l).Nodup:=(Jb l).nodup_iff.mpr h;exact(h1.and h2).imp λx=>Nat.lt_of_le_of_ne x.1 x.2
theorem IH(l:List Nat):TR (l.map λx:Nat=>(x:Int))=(cK l).map λx:Nat=>(x:Int):=by
 unfold TR cK;exact(List.map_mergeSort (λa _ b _=>by simp)).symm
theorem jh:aZ c x=true↔x∈c.map (·.1):=by
 unfold aZ;rw[u5];constructor
 ·rintro⟨p,m,e⟩;exact qz.mpr ⟨p,m,of_decide_eq_true e⟩
 ·intro h
  obtain⟨p,m,e⟩:=qz.mp h;exact⟨p,m,decide_eq_true e⟩
structure Rd (RO:List Sw) (fs:List Nat) (C0:aF) (Fr:Nat->Nat->Prop) (s:aF×List Nat):Prop where
 app:∃E:aF,s.1=C0++E/\E.map (·.1)=s.2
 nd:(s.1.map (·.1)).Nodup
 VF:∀e∈s.1.drop C0.length,∃x k,Fr x k/\k∈fs/\bE RO x k=true/\e=(x^^^2^k,⇑k)
theorem Rd.step{Fr:Nat->Nat->Prop}(r:Rd RO fs C0 Fr s)(hk:k∈fs)(hf:Fr x k):Rd RO fs C0 Fr (fg RO x s k):=by
 unfold fg;by_cases q:aZ s.1 (x^^^2^k)=false/\bE RO x k=true
 ·rw[if_pos q]
  obtain⟨E,e1,e2⟩:=r.app;refine⟨⟨E++[(x^^^2^k,⇑k)],by rw[e1,zw],by rw[w9,e2];rfl⟩,?_,λe m=> ?_⟩
  ·show((s.1++[(x^^^2^k,⇑k)]).map (·.1)).Nodup
   rw[w9,List.nodup_append];refine⟨r.nd,by simp,λa ha b hb=> ?_⟩;simp at hb;subst hb;intro z;subst z;have:=jh.mpr ha;rw[q.1]at this;cases this
  ·have e1':(s.1++[(x^^^2^k,⇑k)]).drop C0.length=s.1.drop C0.length++[(x^^^2^k,⇑k)]:=by
    rw[List.drop_append_of_le_length (by rw[e1];simp)]
   have m:e∈(s.1++[(x^^^2^k,⇑k)]).drop C0.length:=m;rw[e1']at m;rcases qv.mp m with m|m
   ·exact r.VF e m
   ·exact⟨x,k,hf,hk,q.2,z6.mp m⟩
 ·rw[if_neg q];exact r
theorem QA:∀y,aZ s.1 y=true->aZ (fg RO x s k).1 y=true:=by
 intro y h;unfold fg;split
 ·rw[jh]at h ⊢
  rw[w9];exact zp _ h
 ·exact h
theorem Om(h:bE RO x k=true):aZ (fg RO x s k).1 (x^^^2^k)=true:=by
 unfold fg;by_cases q:aZ s.1 (x^^^2^k)=false
 ·rw[if_pos ⟨q,h⟩,jh,w9]
  exact za _ (by simp)
 ·rw[if_neg (λz=>q z.1)];simpa using q
theorem DV{RO:List Sw}{fs:List Nat}{C0:aF}{Fr:Nat->Nat->Prop}{x:Nat}:∀(ks:List Nat) (s:aF×List Nat),(∀k∈ks,k∈fs/\Fr x k)->Rd RO fs C0 Fr s->Rd RO fs C0 Fr (ks.foldl (fg RO x) s)/\(∀y,aZ s.1 y=true->aZ (ks.foldl (fg RO x) s).1 y=true)/\∀k∈ks,bE RO x k=true->aZ (ks.foldl (fg RO x) s).1 (x^^^2^k)=true
 | [],s,_,r=>⟨r,λ_ h=>h,λk m=>by cases m⟩
 | k::ks,s,hk,r=>by
  obtain⟨a,b,c⟩:=DV ks (fg RO x s k) (λj m=>hk j (q8 _ m)) (r.step (hk k (qa ..)).1 (hk k (qa ..)).2);refine⟨a,λy h=>b y (QA y h),λj m h=> ?_⟩;rcases qg.mp m with rfl|m
  ·exact b _ (Om h)
  ·exact c j m h
theorem Gv{RO:List Sw}{fs:List Nat}{C0:aF}{Fr:Nat->Nat->Prop}:∀(xs:List Nat) (s:aF×List Nat),(∀x∈xs,∀k∈fs,Fr x k)->Rd RO fs C0 Fr s->Rd RO fs C0 Fr (fU RO fs xs s)/\(∀y,aZ s.1 y=true->aZ (fU RO fs xs s).1 y=true)/\∀x∈xs,∀k∈fs,bE RO x k=true->aZ (fU RO fs xs s).1 (x^^^2^k)=true
 | [],s,_,r=>⟨r,λ_ h=>h,λx m=>by cases m⟩
 | x::xs,s,hx,r=>by
  obtain⟨a,b,c⟩:=DV (x:=x) fs s (λk m=>⟨m,hx x (qa ..) k m⟩) r;obtain⟨a2,b2,c2⟩:=Gv xs (Bb RO fs s x) (λy m=>hx y (q8 _ m)) a;refine⟨a2,λy h=>b2 y (b y h),λy m k hk h=> ?_⟩;rcases qg.mp m with rfl|m
  ·exact b2 _ (c k hk h)
  ·exact c2 y m k hk h
def fR(RO:List Sw)(fs:List Nat)(C:aF)(L:List Nat):aF:=(fU RO fs L (C,[])).1
def f9(RO:List Sw)(fs:List Nat)(C:aF)(L:List Nat):List Nat:=cK (fU RO fs L (C,[])).2
theorem Ao{Fr:Nat->Nat->Prop}(nd:(C.map (·.1)).Nodup):Rd RO fs C Fr (C,[]):=⟨⟨[],by simp,rfl⟩,nd,λe m=>by simp at m⟩
structure Nx (RO:List Sw) (fs:List Nat) (C:aF) (L:List Nat) (C':aF) (B L':List Nat):Prop where
 app:∃E:aF,C'=C++E/\E.map (·.1)=B/\∀e∈E,∃x k,x∈L/\k∈fs/\bE RO x k=true/\e=(x^^^2^k,⇑k)
 nd:(C'.map (·.1)).Nodup
 all:∀x∈L,∀k∈fs,bE RO x k=true->aZ C' (x^^^2^k)=true
 TR:L'=cK B
 new:∀y∈L',aZ C y=false
 lt:L'.Pairwise (·<·)
 VF:∀y∈L',∃x k,x∈L/\k∈fs/\bE RO x k=true/\y=x^^^2^k
 keys:∀y,aZ C' y=true↔(aZ C y=true\/y∈L')
theorem CS(RO:List Sw)(fs:List Nat)(C:aF)(L:List Nat)(nd:(C.map (·.1)).Nodup):Nx RO fs C L (fR RO fs C L) (fU RO fs L (C,[])).2 (f9 RO fs C L):=by
 obtain⟨r,_,c⟩:=Gv (RO:=RO) (fs:=fs) (C0:=C) (Fr:=λx _=>x∈L) L (C,[]) (λx hx k hk=>hx) (Ao nd);obtain⟨E,e1,e2⟩:=r.app;have hE:∀e∈E,∃x k,x∈L/\k∈fs/\bE RO x k=true/\e=(x^^^2^k,⇑k):=λe m=>by
  obtain⟨x,k,h1,h2⟩:=r.VF e (by rw[e1,List.drop_left];exact m);exact⟨x,k,h1,h2⟩
 have nd':=r.nd;rw[e1,w9,List.nodup_append]at nd';have hB:∀y,y∈f9 RO fs C L↔y∈E.map (·.1):=λy=>by unfold f9;rw[JY,e2]
 refine⟨⟨E,e1,e2,hE⟩,r.nd,c,rfl,λy hy=> ?_,NI (by rw[<-e2];exact nd'.2.1),λy hy=> ?_,λy=> ?_⟩
 ·have h1:=(hB y).mp hy
  cases q:aZ C y with
  | false=>rfl
  | true=>exact absurd rfl (nd'.2.2 y (jh.mp q) y h1)
 ·obtain⟨e,m,rfl⟩:=qz.mp ((hB y).mp hy)
  obtain⟨x,k,h1,h2,h3,rfl⟩:=hE e m;exact⟨x,k,h1,h2,h3,rfl⟩
 ·rw[hB,jh,jh]
  unfold fR;rw[e1,w9,qv]
def Out(fs:List Nat)(st y:Nat):Prop:=∀i,i∉fs->y.testBit i=st.testBit i
theorem Out.turn(h:Out fs st y)(hk:k∈fs):Out fs st (y^^^2^k):=λi hi=>by
 rw[gf,Kw,h i hi];have:k≠i:=λz=>hi (z▸hk);simp[this]
noncomputable def code:List Nat->Nat->Nat
 | [],_=>0
 | f::fs,y=>(if y.testBit f=true then 1 else 0)+2*code fs y
theorem Hf:∀(fs:List Nat) (y:Nat),code fs y<2^fs.length
 | [],_=>by simp[code]
 | f::fs,y=>by
  have:=Hf fs y;simp only[code,qw,Nat.pow_succ];split<;>lia
theorem KY:∀(fs:List Nat) {x y:Nat},code fs x=code fs y->∀i∈fs,x.testBit i=y.testBit i
 | [],_,_,_,i,m=>by cases m
 | f::fs,x,y,e,i,m=>by
  simp only[code]at e;have e1:code fs x=code fs y:=by split at e<;>split at e<;>lia
  rcases qg.mp m with rfl|m
  ·cases a:x.testBit i<;>cases b:y.testBit i<;>simp_all
  ·exact KY fs e1 i m
theorem Out.inj(hx:Out fs st x)(hy:Out fs st y)(e:code fs x=code fs y):x=y:=zy λi=>by
 by_cases m:i∈fs
 ·exact KY fs e i m
 ·rw[hx i m,hy i m]
theorem Cn:∀(N:Nat) (l:List Nat),l.Nodup->(∀x∈l,x<N)->l.length<=N
 | 0,[],_,_=>qd _
 | 0,x::l,_,h=>absurd (h x (qa ..)) (u9 _)
 | N+1,l,nd,h=>by
  by_cases m:N∈l
  ·have h1:=Cn N (l.erase N) (nd.erase N) λx hx=>by
    have:=nd.mem_erase_iff.mp hx;have:=h x this.2
    lia
   have h2:=List.length_erase_of_mem m
   lia
  ·have:=Cn N l nd λx hx=>by
    have:=h x hx;have:x≠N:=λz=>m (z▸hx)
    lia
   lia
theorem Q_{l:List Nat}(nd:l.Nodup)(h:∀y∈l,Out fs st y):l.length<=2^fs.length:=by
 have:=Cn (2^fs.length) (l.map (code fs)) (by
  unfold List.Nodup at*;rw[List.pairwise_map];exact nd.imp_of_mem fun{a b} ha hb hne e=>hne ((h a ha).inj (h b hb) e)) λx hx=>by
   obtain⟨y,_,rfl⟩:=qz.mp hx;exact Hf fs y
 simpa using this
noncomputable def ar(B:List Nat):List D:=(B.map λx:Nat=>(x:Int)).map D.int
theorem G6(a b:List Nat):ar (a++b)=ar a++ar b:=by simp[ar]
theorem H_(a:List Nat):(ar a).length=a.length:=by simp[ar]
theorem Fe(x:Nat)(a:List Nat):ar (x::a)=D.int x::ar a:=rfl
theorem vb(a:List Nat)(n:Nat):D.R_ n (ar a)=true:=by
 refine uu λd hd=> ?_;obtain⟨k,_,rfl⟩:=qz.mp hd;simp[D.R5]
noncomputable def oK:Option Nat->D
 | none=>.RY
 | some k=>.int k
def bT(c:aF):List (Sum Int Str×D):=c.map λp=>(.inl (p.1:Int),oK p.2)
theorem La(c:aF)(x:Nat):(bI (bT c) (.inl (x:Int))).isSome=aZ c x:=by
 rw[<-Fs];unfold bT aZ;rw[List.any_map];congr 1;funext p;simp only[Function.comp,Sum.inl.injEq];by_cases q:p.1=x
 ·simp[q]
 ·have:¬((p.1:Int)=(x:Int)):=⋯
  simp[q,this]
theorem NS{x k:Nat}(h:aZ c x=false):bj (bT c) (.inl (x:Int)) (.int k)=bT (c++[(x,⇑k)]):=by
 unfold bj;rw[Fs,La,h,if_neg ⋯];unfold bT;rw[w9];rfl
theorem IJ(c:aF)(n:Nat):Cell.R5 n ⇑(.Sl (bT c))=true:=by
 show D.R_ n ((bT c).map (·.2))=true;refine uu λd hd=> ?_;obtain⟨kv,hk,rfl⟩:=qz.mp hd;obtain⟨p,_,rfl⟩:=qz.mp hk;cases p with
 | mk a b=>cases b<;>simp[oK,D.R5]
def jz:MS:=(ah (aj (ax dD (ag (aa 5) (ag (aa 6) ae))) (ak 7))
      (aG (bW (tB (af (cW true) (aa 7) (aa 3))) (bW (aY (aA (ax eZ (ag (aa 0) (ag (aa 5) (ag (aa 6) ae)))))) (aY (aA (ax fI (ag (aa 0) (ag (aa 5) (ag (aa 6) ae))))))))
      (ah (Ep (aa 3) (aa 7) (aa 6))
      (mQ (aa 4) (aa 7)))
      aH))
def hC(h:MH)(c:Nat)(s:aF×List Nat):MH:=h.set c ⇑(.Sl (bT s.1))++[⇑(.lst (ar s.2))]
theorem Gh(hc:c<h.length)(s:aF×List Nat):(hC h c s)[c]?=⇑⇑(.Sl (bT s.1)):=by
 unfold hC;rw[qr (by rw[zk];exact hc),qj hc]
theorem yz(s:aF×List Nat):(hC h c s)[h.length]?=⇑⇑(.lst (ar s.2)):=by
 unfold hC;rw[ze (by simp)];simp
theorem pR(hc:c<h.length)(s:aF×List Nat)(C:aF)(B:List Nat):((hC h c s).set c ⇑(.Sl (bT C))).set h.length ⇑(.lst (ar B))=hC h c (C,B):=by
 unfold hC;rw[List.set_append_left _ _ (by rw[zk];exact hc),List.set_set,List.set_append_right _ _ (by simp)];simp
theorem nK(ok:bG n RO)(f l:Option D)(h:MH)(c x k:Nat)(hc:c<h.length)(hk:k<RO.length)(s:aF×List Nat)(h1:s.1.length<16777216)(h2:s.2.length<16777216)(a:Option D):
  jz [⇑(av RO),f,l,⇑(.ref c),⇑(.ref h.length),⇑(.int x),⇑(.int k),a] (hC h c s)=.nx [⇑(av RO),f,l,⇑(.ref c),⇑(.ref h.length),⇑(.int x),⇑(.int k),⇑(.int (x^^^2^k:Nat))] (hC h c (fg RO x s k)):=by
 have hl:=ok.2.2.1;have hw:RO[k]?=⇑RO[k]:=qk hk;have e1:=AW x k ⋯ (hC h c s);have e2:=I_ ok x k _ hw (hC h c s);have e3:=IG ok x k ⋯ (hC h c s);have g1:=Gh hc s;have g2:((hC h c s).set c ⇑(.Sl (bT (s.1++[(x^^^2^k,some k)]))))[h.length]?=⇑⇑(.lst (ar s.2)):=by rw[qh ⋯];exact yz s
 have g3:=pR hc s (s.1++[(x^^^2^k,⇑k)]) (s.2++[x^^^2^k]);rw[G6]at g3;have kv:=La s.1 (x^^^2^k);have kp:=λq=>NS (c:=s.1) (x:=x^^^2^k) (k:=k) q;have lk:(bT s.1).length<16777216:=by simp[bT];exact h1
 have ln:(ar s.2).length<16777216:=by rw[H_];exact h2
 have nx1:ar [x^^^2^k]=[.int ((x^^^2^k:Nat):Int)]:=rfl;rw[nx1]at g3;unfold fg;have em:bE RO x k=(!gK x k RO[k] RO&&gH (x^^^2^k) RO):=by unfold bE;rw[hw]
 generalize x^^^2^k=y at*;cases q:aZ s.1 y with
 | true=>
  rw[q]at kv;have kv':¬(bI (bT s.1) (Sum.inl (y:Int))=none):=by intro z;rw[z]at kv;cases kv
  rw[if_neg (by simp)];simp[jz,e1,g1,kv']
 | false=>
  rw[q]at kv;have kv:bI (bT s.1) (Sum.inl (y:Int))=none:=by simpa using kv
  have kp:=kp q;rw[em];cases q2:gK x k RO[k] RO with
  | true=>
   rw[q2]at e2;rw[if_neg (by simp)];simp[jz,e1,g1,kv,e2]
  | false=>
   rw[q2]at e2;cases q3:gH y RO with
   | false=>
    rw[q3]at e3;rw[if_neg (by simp)];simp[jz,e1,g1,kv,e2,e3]
   | true=>
    rw[q3]at e3;rw[if_pos (by simp)];simp[jz,e1,g1,kv,e2,e3,lk,kp,g2,ln,g3]
theorem Kg(ok:bG n RO){fs:List Nat}{C0:aF}{Fr:Nat->Nat->Prop}(big:∀s,Rd RO fs C0 Fr s->s.1.length<=4096)(f l:Option D)(h:MH)(c x:Nat)(hc:c<h.length):∀(ks:List Nat) (s:aF×List Nat) (y z:Option D),(∀k∈ks,k∈fs/\Fr x k/\k<RO.length)->Rd RO fs C0 Fr s->
  ∃y' z',bO (ak 6) jz (ar ks) [⇑(av RO),f,l,⇑(.ref c),⇑(.ref h.length),⇑(.int x),y,z] (hC h c s)=.nx [⇑(av RO),f,l,⇑(.ref c),⇑(.ref h.length),⇑(.int x),y',z'] (hC h c (ks.foldl (fg RO x) s))
 | [],s,y,z,_,_=>⟨y,z,rfl⟩
 | k::ks,s,y,z,hk,r=>by
  have k0:=hk k (qa ..);have b1:=big s r;have b2:s.2.length<=s.1.length:=by
   obtain⟨E,e1,e2⟩:=r.app;rw[<-e2,e1];simp
  have e1:=nK ok f l h c x k hc k0.2.2 s ⋯ ⋯ z;obtain⟨y',z',e2⟩:=Kg ok big f l h c x hc ks (fg RO x s k) ⇑(.int k) ⇑(.int (x^^^2^k:Nat)) (λj m=>hk j (q8 _ m)) (r.step k0.1 k0.2.1);refine⟨y',z',?_⟩;rw[Fe];unfold bO;simp only[ak,zd,zb,e1];exact e2
theorem Kc(ok:bG n RO){fs:List Nat}(hf:∀k∈fs,k<RO.length){C0:aF}{Fr:Nat->Nat->Prop}(big:∀s,Rd RO fs C0 Fr s->s.1.length<=4096)(l:Option D)(h:MH)(c:Nat)(hc:c<h.length):∀(xs:List Nat) (s:aF×List Nat) (x y z:Option D),(∀x∈xs,∀k∈fs,Fr x k)->Rd RO fs C0 Fr s->
  ∃x' y' z',bO (ak 5) (bB (bC (aa 1)) (ak 6) jz) (ar xs) [⇑(av RO),⇑(.lst (ar fs)),l,⇑(.ref c),⇑(.ref h.length),x,y,z] (hC h c s)=.nx [⇑(av RO),⇑(.lst (ar fs)),l,⇑(.ref c),⇑(.ref h.length),x',y',z'] (hC h c (fU RO fs xs s))
 | [],s,x,y,z,_,_=>⟨x,y,z,rfl⟩
 | x0::xs,s,x,y,z,hx,r=>by
  have hk:∀k∈fs,k∈fs/\Fr x0 k/\k<RO.length:=λk m=>⟨m,hx x0 (qa ..) k m,hf k m⟩;obtain⟨y1,z1,e1⟩:=Kg ok big ⇑(.lst (ar fs)) l h c x0 hc fs s y z hk r;obtain⟨x',y',z',e2⟩:=Kc ok hf big l h c hc xs (Bb RO fs s x0) ⇑(.int x0) y1 z1 (λy m=>hx y (q8 _ m)) (DV fs s (λk m=>⟨m,hx x0 (qa ..) k m⟩) r).1;refine⟨x',y',z',?_⟩;rw[Fe];unfold bO;have e0:bB (bC (aa 1)) (ak 6) jz [⇑(av RO),⇑(.lst (ar fs)),l,⇑(.ref c),⇑(.ref h.length),⇑(.int x0),y,z] (hC h c s)=.nx [⇑(av RO),⇑(.lst (ar fs)),l,⇑(.ref c),⇑(.ref h.length),⇑(.int x0),y1,z1] (hC h c (Bb RO fs s x0)):=by
   simp only[kL,bC,aa,z5,qy,bU,cG,iz];exact e1
  simp only[ak,zd,zb,e0];exact e2
theorem N6(hl:ds.length=np)(e:b (ds.map some++List.replicate (nn - ds.length) none) h=.rt d (h'++J))(hh:h'.length=h.length)(hb:Hb h')(hd:d.R5 h.length=true):aq np nn b ds h=.ok d h':=by
 unfold aq;rw[if_pos hl,e];show fin h.length d (h'++J)=_;unfold fin;by_cases q:(h'++J).length<=h.length
 ·rw[if_pos q]
  have:J=[]:=by
   cases J with
   | nil=>rfl
   | cons _ _=>simp at q;lia
  rw[this,zm]
 ·rw[if_neg q,if_pos]
  ·rw[gr hh]
  ·rw[hd,ki,gr hh]
   exact hb _ ⋯
theorem Q2(ok:bG n RO)(hf:∀k∈fs,k<RO.length)(C:aF)(L:List Nat)(nd:(C.map (·.1)).Nodup)(c0:C≠[])(big:∀s,Rd RO fs C (λx _=>x∈L) s->s.1.length<=4096)(h:MH)(hb:Hb h)(c:Nat)(hc:h[c]?=⇑⇑(.Sl (bT C))):
  jK [av RO,.lst (ar fs),.lst (ar L),.ref c] h=.ok (.lst (ar (f9 RO fs C L))) (h.set c ⇑(.Sl (bT (fR RO fs C L)))):=by
 have hcl:=(q9.mp hc).1;obtain⟨x',y',z',e⟩:=Kc ok hf big ⇑(.lst (ar L)) h c hcl L (C,[]) none none none (λx hx k _=>hx) (Ao nd);have r:=(Gv (RO:=RO) (fs:=fs) (C0:=C) (Fr:=λx _=>x∈L) L (C,[]) (λx hx k _=>hx) (Ao nd)).1;have b1:=big _ r;have b2:(fU RO fs L (C,[])).2.length<=100000:=by
  obtain⟨E,e1,e2⟩:=r.app;rw[e1,zh]at b1;have h0:0<C.length:=List.length_pos_iff.mpr c0;rw[<-e2,qf];lia
 have e0:hC h c (C,[])=h++[⇑(.lst [])]:=by unfold hC;rw[AM hc];rfl
 rw[e0]at e;have eb:iH=(ah (aj (h9 (bz ae)) (ak 4))
   (ah (bB (bC (aa 2)) (ak 5) (bB (bC (aa 1)) (ak 6) jz))
   (gZ 4 (ai (aO (mK (ag (aa 4) ae))))))):=rfl
 have gB:=yz (h:=h) (c:=c) (fU RO fs L (C,[]));have sB:(hC h c (fU RO fs L (C,[]))).set h.length none=h.set c ⇑(.Sl (bT (fR RO fs C L)))++[none]:=by
  unfold hC;rw[List.set_append_right _ _ (by simp)];simp[fR]
 have es:TR ((fU RO fs L (C,[])).2.map λx:Nat=>(x:Int))=(f9 RO fs C L).map λx:Nat=>(x:Int):=IH _;have Xs:Hb (h.set c ⇑(.Sl (bT (fR RO fs C L)))):=hb.set (λn _=>IJ _ n);have key:iH [⇑(av RO),⇑(.lst (ar fs)),⇑(.lst (ar L)),⇑(.ref c),none,none,none,none] h=.rt (.lst (ar (f9 RO fs C L))) (h.set c ⇑(.Sl (bT (fR RO fs C L)))++[none]):=by
  rw[eb];simp only[ah,aj,h9,bz,ae,bU,R7,zn,w6,if_true,cG,ak,zd,zb];rw[kL];simp only[bC,aa,z5,qy,bU,cG,iz,e];simp only[gZ,z5,qy,gB,sB,zd,zb,ai,aO,mK,ag,ae,aa,bU,fQ,eB];simp only[ar,Option.bind_some,M3,R7,qf,b2,if_true,es,bU,cG]
 exact N6 (b:=iH) (np:=4) (nn:=8) (ds:=[av RO,.lst (ar fs),.lst (ar L),.ref c]) rfl key (by simp) Xs (by show D.R_ _ _=true;exact vb _ _)
structure W5 (RO:List Sw) (fs:List Nat) (st:Nat) (C:aF) (L:List Nat):Prop where
 nd:(C.map (·.1)).Nodup
 ne:C≠[]
 out:∀y,aZ C y=true->Out fs st y
 sub:∀y∈L,aZ C y=true
 lt:L.Pairwise (·<·)
theorem W5.start(RO:List Sw)(fs:List Nat)(st:Nat):W5 RO fs st [(st,none)] [st]:=by
 refine⟨by simp,by simp,λy h=> ?_,λy h=> ?_,by simp⟩
 ·have:=jh.mp h
  simp at this;subst this;exact λ_ _=>rfl
 ·simp at h
  subst h;simp[aZ]
theorem W5.next(a:W5 RO fs st C L):W5 RO fs st (fR RO fs C L) (f9 RO fs C L):=by
 have x:=CS RO fs C L a.nd;refine⟨x.nd,?_,λy h=> ?_,λy h=>(x.keys y).mpr (.inr h),x.lt⟩
 ·obtain⟨E,e,_⟩:=x.app
  rw[e];intro z;exact a.ne (List.append_eq_nil_iff.mp z).1
 ·rcases(x.keys y).mp h with h|h
  ·exact a.out y h
  ·obtain⟨z,k,h1,h2,_,rfl⟩:=x.VF y h
   exact(a.out z (a.sub z h1)).turn h2
theorem W5.big(a:W5 RO fs st C L)(h6:fs.length<=12):∀s,Rd RO fs C (λx _=>x∈L) s->s.1.length<=4096:=by
 intro s r;have h1:(s.1.map (·.1)).length<=2^fs.length:=Q_ (st:=st) r.nd λy hy=>by
  obtain⟨E,e1,e2⟩:=r.app;rw[e1,w9,qv]at hy;rcases hy with hy|hy
  ·exact a.out y (jh.mpr hy)
  ·obtain⟨e,m,rfl⟩:=qz.mp hy
   obtain⟨x,k,hx,hk,_,rfl⟩:=r.VF e (by rw[e1,List.drop_left];exact m);exact(a.out x (a.sub x hx)).turn hk
 have h2:2^fs.length<=2^12:=Nat.pow_le_pow_right ⋯ h6;rw[qf]at h1
 lia
theorem W5.len(a:W5 RO fs st C L)(h6:fs.length<=12):C.length<=4096:=a.big h6 (C,[]) (Ao a.nd)
theorem W5.grow(a:W5 RO fs st C L)(h:f9 RO fs C L≠[]):C.length<(fR RO fs C L).length:=by
 have x:=CS RO fs C L a.nd;obtain⟨E,e,e2,_⟩:=x.app;rw[e,zh];have:E≠[]:=λz=>h (by rw[x.TR,<-e2,z];simp[cK]);have:=List.length_pos_iff.mpr this
 lia
theorem NQ(ok:bG n RO)(F:Nat)(h:MH):hG [yd n RO,.int F] h=.ok (.lst (ar ((List.range RO.length).filter λi=> !F.testBit i))) h:=by
 have hl:=ok.2.2.1;have comp:compLoop (ak 0) (aY (aA (ax eV (ag (aa 1) (ag (aa 0) ae))))) (aa 0) [none,⇑(.int F)] (Vx 0 RO.length) h=.ok (ar ((List.range RO.length).filter λi=> !F.testBit i)) h:=by
  rw[B6];have:=BB (g:=ak 0) (t:=aY (aA (ax eV (ag (aa 1) (ag (aa 0) ae))))) (m:=aa 0) (ρ0:=[none,⇑(.int F)]) (h:=h) (λk:Nat=>D.int k) (λk=>[⇑(.int k),⇑(.int F)]) (λk=> !F.testBit k) (λk:Nat=>D.int k) (List.range RO.length) λk _=>by
   have:=mf F k h;refine⟨by simp,?_,by simp⟩;simp[this]
  rw[this];simp[ar]
 simp[-List.map_map,hG,y6,yd,comp,show RO.length<4611686018427387904 by lia,show RO.length<16777216 by lia]
noncomputable def wD(a b c:Nat):D:=.tup [.int a,.int b,.int c]
def dR(st:Nat)(RO:List Sw)(a b c:Nat):Bool:=decide (a - (a&&&cf st RO)=0)&&(decide (b&&&cf st RO=0)&&decide (c - (c&&&dJ st RO)=0))
theorem Qv(ok:bG n RO)(st a b c:Nat)(h:MH):fh [av RO,.int st,wD a b c] h=.ok (.bl (dR st RO a b c)) h:=by
 have e1:=A6 ok st h (h0:=h) (m:=aa 0) (l:=aa 1) (ρ:=[⇑(av RO),⇑(.int st),⇑(wD a b c),none,none]) (by simp) (by simp);have e2:=C_ ok st h (h0:=h) (m:=aa 0) (l:=aa 1) (ρ:=[⇑(av RO),⇑(.int st),⇑(wD a b c),⇑(.int (cf st RO:Nat)),none]) (by simp) (by simp);have d1:=BI a (cf st RO);have d2:=dY b (cf st RO);have d3:=BI c (dJ st RO);unfold wD at e1 e2 ⊢;unfold dR;generalize a - (a&&&cf st RO)=u1 at d1 ⊢;generalize b&&&cf st RO=u2 at d2 ⊢;generalize c - (c&&&dJ st RO)=u3 at d3 ⊢;by_cases q1:u1=0
 ·by_cases q2:u2=0
  ·simp[-aw,fh,j8,e1,e2,d1,d2,d3,q1,q2]
  ·simp[-aw,fh,j8,e1,e2,d1,d2,q1,q2]
 ·simp[-aw,fh,j8,e1,e2,d1,q1]
theorem MN(ec:c ρ h=.ok true h1)(eb:b ρ h1=.rt d h2):cw c b ρ h=.rt d h2:=by
 have e1:cP c b 1 ρ h=.rt d h2:=by unfold cP;simp only[ec,eb]
 rw[Aw (n:=1) (by rw[e1];exact λz=>nomatch z),e1]
def iW(C:aF)(y:Nat):Option (Option Nat):=(C.find? λp=>decide (p.1=y)).map (·.2)
theorem Ld(C:aF)(y:Nat):bI (bT C) (.inl (y:Int))=(iW C y).map oK:=by
 unfold bI bT iW;rw[List.find?_map,Option.map_map,Option.map_map];have:((λkv:Sum Int Str×D=>decide (kv.1=.inl (y:Int)))∘λp:Nat×Option Nat=>(.inl (p.1:Int),oK p.2))=λp=>decide (p.1=y):=by
  funext p;simp only[Function.comp,Sum.inl.injEq];by_cases q:p.1=y
  ·simp[q]
  ·have:¬((p.1:Int)=(y:Int)):=⋯
   simp[q,this]
 rw[this];rfl
theorem Lf(h:iW C y=⇑o):iW (C++E) y=⇑o:=by
 unfold iW at*;rw[List.find?_append];cases q:C.find? λp=>decide (p.1=y)with
 | none=>rw[q]at h;cases h
 | some p=>rw[q]at h;exact h
theorem NX(nd:(C.map (·.1)).Nodup)(m:(y,o)∈C):iW C y=⇑o:=by
 induction C with
 | nil=>cases m
 | cons p C ih=>
  rw[List.map_cons,g7]at nd;unfold iW;rw[zt];rcases qg.mp m with rfl|m
  ·simp
  ·have:¬p.1=y:=λz=>nd.1 (z▸qz.mpr ⟨_,m,rfl⟩)
   rw[decide_eq_false this];exact ih nd.2 m
inductive Back (RO:List Sw) (fs:List Nat) (C:aF) (st:Nat):Nat->Nat->List Nat->Prop
 | nil:iW C st=⇑none->Back RO fs C st 0 st []
 | cons {j y k:Nat} {ds:List Nat}:iW C y=⇑⇑k->k∈fs->bE RO (y^^^2^k) k=true->Back RO fs C st j (y^^^2^k) ds->Back RO fs C st (j+1) y (ds++[k])
theorem Back.app(b:Back RO fs C st j y ds):Back RO fs (C++E) st j y ds:=by
 induction b with
 | nil h=>exact .nil (Lf h)
 | cons h1 h2 h3 _ ih=>exact .cons (Lf h1) h2 h3 ih
theorem Back.len(b:Back RO fs C st j y ds):ds.length=j:=by
 induction b with
 | nil h=>rfl
 | cons h1 h2 h3 _ ih=>simp[ih]
theorem E_(y k:Nat):y^^^2^k^^^2^k=y:=by rw[Nat.xor_assoc,Nat.xor_self,Nat.xor_zero]
def xk:MS:=(ah (aj (af ay (aa 1) (aa 0)) (ak 3))
      (ah (mQ (aa 2) (aa 3))
      (aj (ax dD (ag (aa 0) (ag (aa 3) ae))) (ak 0))))
def tE:MT:=(tB (af As (af ay (aa 1) (aa 0)) (mC .RY)))
theorem Mu(hf:∀k∈fs,k<=100)(h:MH)(c:Nat)(hc:h[c]?=⇑⇑(.Sl (bT C)))(b:Back RO fs C st j y ds):∀(acc:List Nat) (x:Option D),acc.length+j<16777216->
  ∃x',cw tE xk [⇑(.int y),⇑(.ref c),⇑(.ref h.length),x] (h++[⇑(.lst (ar acc))])=.nx [⇑(.int st),⇑(.ref c),⇑(.ref h.length),x'] (h++[⇑(.lst (ar (acc++ds.reverse)))]):=by
 have hcl:=(q9.mp hc).1;have gc:∀acc:List Nat,(h++[⇑(Cell.lst (ar acc))])[c]?=⇑⇑(.Sl (bT C)):=λacc=>by rw[qr hcl];exact hc
 induction b with
 | nil h1=>
  intro acc x _;have v:=Ld C st;rw[h1]at v;have v:bI (bT C) (.inl (st:Int))=⇑.RY:=v;refine⟨x,?_⟩;rw[List.reverse_nil,zm];exact AR (by simp[tE,gc,v])
 | @cons j y k ds h1 h2 h3 _ ih=>
  intro acc x hl;have v:=Ld C y;rw[h1]at v;have v:bI (bT C) (.inl (y:Int))=⇑(.int k):=v;have e1:=AW y k (hf k h2);have ln:(ar acc).length<16777216:=by rw[H_];lia
  have ga:(h++[⇑(Cell.lst (ar acc))])[h.length]?=⇑⇑(.lst (ar acc)):=HK _ _;have sa:(h++[⇑(Cell.lst (ar acc))]).set h.length ⇑(.lst (ar acc++[.int k]))=h++[⇑(.lst (ar (acc++[k])))]:=by rw[JR,G6];rfl
  have ec:tE [⇑(.int y),⇑(.ref c),⇑(.ref h.length),x] (h++[⇑(.lst (ar acc))])=.ok true (h++[⇑(.lst (ar acc))]):=by simp[tE,gc,v]
  have eb:xk [⇑(.int y),⇑(.ref c),⇑(.ref h.length),x] (h++[⇑(.lst (ar acc))])=.nx [⇑(.int (y^^^2^k:Nat)),⇑(.ref c),⇑(.ref h.length),⇑(.int k)] (h++[⇑(.lst (ar (acc++[k])))]):=by
   generalize y^^^2^k=z at*;simp[xk,gc,v,ga,ln,sa,e1]
  obtain⟨x',e⟩:=ih (acc++[k]) ⇑(.int k) (by simp;lia);refine⟨x',?_⟩;rw[AQ ec eb,e];simp
theorem OG(hf:∀k∈fs,k<=100)(h:MH)(hb:Hb h)(c:Nat)(hc:h[c]?=⇑⇑(.Sl (bT C)))(b:Back RO fs C st j y ds)(hj:j<16777216):jk [.int y,.ref c] h=.ok (.lst (ar ds)) h:=by
 obtain⟨x',e⟩:=Mu hf h c hc b [] none (by simpa using hj);have eb:hU=(ah (aj (h9 (bz ae)) (ak 2))
   (ah (cw tE xk)
   (gZ 2 (ai (aO (AN (ag (aa 2) ae))))))):=rfl
 have e:cw tE xk [⇑(.int y),⇑(.ref c),⇑(.ref h.length),none] (h++[⇑(.lst [])])=.nx [⇑(.int st),⇑(.ref c),⇑(.ref h.length),x'] (h++[⇑(.lst (ar ds.reverse))]):=e;have ga:(h++[⇑(Cell.lst (ar ds.reverse))])[h.length]?=⇑⇑(.lst (ar ds.reverse)):=HK _ _;have rv:(ar ds.reverse).reverse=ar ds:=by simp[ar]
 refine DO (b:=hU) (np:=2) (nn:=4) (ds:=[.int y,.ref c]) (J:=[none]) rfl ?_ hb (by show D.R_ _ _=true;exact vb _ _);show hU [⇑(.int y),⇑(.ref c),none,none] h=_;rw[eb];simp only[ah,aj,h9,bz,ae,bU,R7,zn,w6,if_true,cG,ak,zd,zb,e];simp only[gZ,z5,qy,ga,JR,zd,zb,ai,aO,AN,ag,ae,aa,bU,eB,DB,rv,cG]
def aD(RO:List Sw)(fs:List Nat)(st:Nat):Nat->aF×List Nat
 | 0=>([(st,none)],[st])
 | j+1=>(fR RO fs (aD RO fs st j).1 (aD RO fs st j).2,f9 RO fs (aD RO fs st j).1 (aD RO fs st j).2)
theorem tP(RO:List Sw)(fs:List Nat)(st:Nat):∀j,W5 RO fs st (aD RO fs st j).1 (aD RO fs st j).2
 | 0=>W5.start RO fs st
 | j+1=>(tP RO fs st j).next
theorem GO(RO:List Sw)(fs:List Nat)(st j:Nat):Nx RO fs (aD RO fs st j).1 (aD RO fs st j).2 (fR RO fs (aD RO fs st j).1 (aD RO fs st j).2) (fU RO fs (aD RO fs st j).2 ((aD RO fs st j).1,[])).2 (f9 RO fs (aD RO fs st j).1 (aD RO fs st j).2):=CS RO fs (aD RO fs st j).1 (aD RO fs st j).2 (tP RO fs st j).nd
theorem Jh(RO:List Sw)(fs:List Nat)(st:Nat):∀j,∀y∈(aD RO fs st j).2,∃ds,Back RO fs (aD RO fs st j).1 st j y ds
 | 0,y,m=>by
  have:y=st:=by simpa [aD]using m
  subst this;exact⟨[],.nil (by simp[aD,iW])⟩
 | j+1,y,m=>by
  have nx:=GO RO fs st j;obtain⟨E,e1,e2,e3⟩:=nx.app;have m:y∈f9 RO fs (aD RO fs st j).1 (aD RO fs st j).2:=m;rw[nx.TR,JY,<-e2]at m;obtain⟨e,me,rfl⟩:=qz.mp m;obtain⟨x,k,h1,h2,h3,rfl⟩:=e3 e me;obtain⟨ds,b⟩:=Jh RO fs st j x h1;refine⟨ds++[k],?_⟩;show Back RO fs (fR RO fs (aD RO fs st j).1 (aD RO fs st j).2) st (j+1) (x^^^2^k) (ds++[k]);refine .cons (NX nx.nd (by rw[e1];exact za _ me)) h2 (by rw[E_];exact h3) ?_;rw[E_,e1];exact b.app
theorem G8(RO:List Sw)(fs:List Nat)(st:Nat):∀j y,aZ (aD RO fs st j).1 y=true↔∃i,i<=j/\y∈(aD RO fs st i).2
 | 0,y=>by
  constructor
  ·intro h
   refine⟨0,qd _,?_⟩;have:=jh.mp h;simpa [aD]using this
  ·rintro⟨i,hi,m⟩
   have:i=0:=⋯;subst this;exact(tP RO fs st 0).sub y m
 | j+1,y=>by
  have h:=(GO RO fs st j).keys y;show aZ (fR RO fs (aD RO fs st j).1 (aD RO fs st j).2) y=true↔_;rw[h,G8 RO fs st j y];constructor
  ·rintro(⟨i,hi,m⟩|m)
   ·exact⟨i,⋯,m⟩
   ·exact⟨j+1,qd _,m⟩
  ·rintro⟨i,hi,m⟩
   by_cases q:i=j+1
   ·subst q;exact .inr m
   ·exact .inl ⟨i,⋯,m⟩
theorem MX(RO:List Sw)(fs:List Nat)(st:Nat)(m:x∈(aD RO fs st i).2)(hk:k∈fs)(hm:bE RO x k=true):∃j,j<=i+1/\x^^^2^k∈(aD RO fs st j).2:=
 (G8 RO fs st (i+1) _).mp ((GO RO fs st i).all x m k hk hm)
def p8(RO:List Sw)(fs:List Nat)(st a b c:Nat)(d:D):Prop:=
 (∃J y ds,y∈(aD RO fs st J).2/\dR y RO a b c=true/\(∀i,i<J->∀x∈(aD RO fs st i).2,dR x RO a b c=false)/\Back RO fs (aD RO fs st J).1 st J y ds/\J<=4096/\d=.tup [.str ("plan":Str),.lst (ar ds)])\/
 (∃J,(aD RO fs st J).2=[]/\(∀i,i<J->∀x∈(aD RO fs st i).2,dR x RO a b c=false)/\d=.tup [.str ("never":Str),.lst (ar (cK ((aD RO fs st J).1.map (·.1))))])
def hP(h:MH)(C:aF):MH:=h++[none,⇑(.Sl (bT C))]
def sj:MS:=(aG (aA (ax fh (ag (aa 4) (ag (aa 8) (ag (aa 3) ae)))))
      (ai (bD (ag (mC (.str "plan")) (ag (ax jk (ag (aa 8) (ag (aa 6) ae))) ae))))
      aH)
theorem Jg(ok:bG n RO)(hf:∀k∈fs,k<=100)(a b c:Nat)(H:MH)(hb:Hb H)(r:Nat)(hr:H[r]?=⇑⇑(.Sl (bT C)))(x0 x1 x2 x5 x7:Option D)(hJ:J<16777216):∀(xs:List Nat) (x8:Option D),(∀y∈xs,∃ds,Back RO fs C st J y ds)->
  (∃y ds,y∈xs/\dR y RO a b c=true/\Back RO fs C st J y ds/\bO (ak 8) sj (ar xs) [x0,x1,x2,⇑(wD a b c),⇑(av RO),x5,⇑(.ref r),x7,x8] H=.rt (.tup [.str ("plan":Str),.lst (ar ds)]) H)\/
  ((∀y∈xs,dR y RO a b c=false)/\∃XE,bO (ak 8) sj (ar xs) [x0,x1,x2,⇑(wD a b c),⇑(av RO),x5,⇑(.ref r),x7,x8] H=.nx [x0,x1,x2,⇑(wD a b c),⇑(av RO),x5,⇑(.ref r),x7,XE] H)
 | [],x8,_=>.inr ⟨λy m=>(by cases m),x8,rfl⟩
 | y::xs,x8,hy=>by
  have e1:=Qv ok y a b c H;obtain⟨ds,bk⟩:=hy y (qa ..);have e2:=OG hf H hb r hr bk hJ;rw[Fe];unfold bO;cases q:dR y RO a b c with
  | true=>
   rw[q]at e1;have eb:sj [x0,x1,x2,⇑(wD a b c),⇑(av RO),x5,⇑(.ref r),x7,⇑(.int y)] H=.rt (.tup [.str ("plan":Str),.lst (ar ds)]) H:=by
    simp[sj,e1,e2]
   refine .inl ⟨y,ds,qa ..,q,bk,?_⟩;simp only[ak,zd,zb,eb]
  | false=>
   rw[q]at e1;have eb:sj [x0,x1,x2,⇑(wD a b c),⇑(av RO),x5,⇑(.ref r),x7,⇑(.int y)] H=.nx [x0,x1,x2,⇑(wD a b c),⇑(av RO),x5,⇑(.ref r),x7,⇑(.int y)] H:=by
    simp[sj,e1]
   simp only[ak,zd,zb,eb];rcases Jg ok hf a b c H hb r hr x0 x1 x2 x5 x7 hJ xs ⇑(.int y) (λz m=>hy z (q8 _ m))with⟨z,es,h1,h2,h3,h4⟩|⟨h1,XE,h2⟩
   ·exact .inl ⟨z,es,q8 _ h1,h2,h3,h4⟩
   ·refine .inr ⟨λz m=> ?_,XE,h2⟩
    rcases qg.mp m with rfl|m
    ·exact q
    ·exact h1 z m
def sh:MS:=(ah (bB (bC (aa 7)) (ak 8) sj)
      (aj (ax jK (ag (aa 4) (ag (aa 5) (ag (aa 7) (ag (aa 6) ae))))) (ak 7)))
theorem Qk(l:List Nat):(ar l).isEmpty=l.isEmpty:=by cases l<;>rfl
theorem xx(hb:Hb h)(C:aF):Hb (hP h C):=λk hk=>by
 unfold hP at hk ⊢;rw[gq,hb k (by simp at hk;lia),ki];simp only[wm,u7,kj,z4];exact⟨rfl,IJ C k⟩
theorem pU(h:MH)(C:aF):(hP h C)[h.length+1]?=⇑⇑(.Sl (bT C)):=by unfold hP;simp[List.getElem?_append]
theorem Fz(h:MH)(C C':aF):(hP h C).set (h.length+1) ⇑(.Sl (bT C'))=hP h C':=by unfold hP;simp[List.set_append]
theorem Qc(ok:bG n RO){fs:List Nat}(hf:∀k∈fs,k<RO.length)(h6:fs.length<=12)(st a b c:Nat)(h:MH)(hb:Hb h)(x0 x1 x2:Option D):∀(m j:Nat) (x8:Option D),((aD RO fs st j).2=[]\/4096<(aD RO fs st j).1.length+m)->1<=m->j<=(aD RO fs st j).1.length->(∀i,i<j->∀x∈(aD RO fs st i).2,dR x RO a b c=false)->
  (∃J y ds,y∈(aD RO fs st J).2/\dR y RO a b c=true/\(∀i,i<J->∀x∈(aD RO fs st i).2,dR x RO a b c=false)/\Back RO fs (aD RO fs st J).1 st J y ds/\J<=4096/\cw (aA (aa 7)) sh [x0,x1,x2,⇑(wD a b c),⇑(av RO),⇑(.lst (ar fs)),⇑(.ref (h.length+1)),⇑(.lst (ar (aD RO fs st j).2)),x8] (hP h (aD RO fs st j).1)=.rt (.tup [.str ("plan":Str),.lst (ar ds)]) (hP h (aD RO fs st J).1))\/
  (∃J XE,(aD RO fs st J).2=[]/\(∀i,i<J->∀x∈(aD RO fs st i).2,dR x RO a b c=false)/\cw (aA (aa 7)) sh [x0,x1,x2,⇑(wD a b c),⇑(av RO),⇑(.lst (ar fs)),⇑(.ref (h.length+1)),⇑(.lst (ar (aD RO fs st j).2)),x8] (hP h (aD RO fs st j).1)=.nx [x0,x1,x2,⇑(wD a b c),⇑(av RO),⇑(.lst (ar fs)),⇑(.ref (h.length+1)),⇑(.lst []),XE] (hP h (aD RO fs st J).1)):=by
 intro m
 induction m with
 | zero=>intro j x8 _ h1;lia
 | succ m ih=>
  intro j x8 hm _ hj hn;by_cases q:(aD RO fs st j).2=[]
  ·refine .inr ⟨j,x8,q,hn,?_⟩
   rw[q];exact AR (by simp[ar])
  ·have at_:=tP RO fs st j
   have len:=at_.len h6;have hc:aA (aa 7) [x0,x1,x2,⇑(wD a b c),⇑(av RO),⇑(.lst (ar fs)),⇑(.ref (h.length+1)),⇑(.lst (ar (aD RO fs st j).2)),x8] (hP h (aD RO fs st j).1)=.ok true (hP h (aD RO fs st j).1):=by
    have:(aD RO fs st j).2.isEmpty=false:=by simpa using q
    simp[Qk,this]
   have hf2:∀k∈fs,k<=100:=λk mk=>by have:=hf k mk;have:=ok.2.2.1;lia
   rcases Jg ok hf2 a b c (hP h (aD RO fs st j).1) (xx hb _) (h.length+1) (pU _ _) x0 x1 x2 ⇑(.lst (ar fs)) ⇑(.lst (ar (aD RO fs st j).2)) (show j<16777216 by lia) (aD RO fs st j).2 x8 (Jh RO fs st j)with⟨y,ds,h1,h2,h3,h4⟩|⟨h1,y8,h2⟩
   ·refine .inl ⟨j,y,ds,h1,h2,hn,h3,⋯,MN hc ?_⟩
    simp only[sh,ah];rw[kL];simp only[bC,aa,z5,qy,bU,cG,iz,h4]
   ·have e2:=Q2 ok hf (aD RO fs st j).1 (aD RO fs st j).2 at_.nd at_.ne (at_.big h6) (hP h (aD RO fs st j).1) (xx hb _) (h.length+1) (pU _ _)
    rw[Fz]at e2;have eb:sh [x0,x1,x2,⇑(wD a b c),⇑(av RO),⇑(.lst (ar fs)),⇑(.ref (h.length+1)),⇑(.lst (ar (aD RO fs st j).2)),x8] (hP h (aD RO fs st j).1)=.nx [x0,x1,x2,⇑(wD a b c),⇑(av RO),⇑(.lst (ar fs)),⇑(.ref (h.length+1)),⇑(.lst (ar (aD RO fs st (j+1)).2)),y8] (hP h (aD RO fs st (j+1)).1):=by
     simp only[sh,ah];rw[kL];simp only[bC,aa,z5,qy,bU,cG,iz,h2];simp only[aj,ax,ag,aa,ae,z5,qy,bU,e2,cG,ak,zd,zb];rfl
    have Xb:∀i,i<j+1->∀x∈(aD RO fs st i).2,dR x RO a b c=false:=λi hi x mx=>by
     by_cases z:i=j
     ·subst z;exact h1 x mx
     ·exact hn i ⋯ x mx
    rw[AQ hc eb];by_cases z:(aD RO fs st (j+1)).2=[]
    ·refine .inr ⟨j+1,y8,z,Xb,?_⟩
     rw[z];exact AR (by simp[ar])
    ·have hg:(aD RO fs st j).1.length<(aD RO fs st (j+1)).1.length:=at_.grow z
     have Z5:4096<(aD RO fs st j).1.length+(m+1):=by
      rcases hm with hm|hm
      ·exact absurd hm q
      ·exact hm
     have nlen:=(tP RO fs st (j+1)).len h6;exact ih (j+1) y8 (.inr ⋯) ⋯ ⋯ Xb
theorem KC:∀C:aF,mG (bT C)=⇑((C.map (·.1)).map λx:Nat=>(x:Int))
 | []=>rfl
 | a::l=>by
  show(mG (bT l)).map _=_;rw[KC l];rfl
theorem PL(ok:bG n RO)(st F a b c:Nat)(h6:((List.range RO.length).filter λi=> !F.testBit i).length<=12)(h:MH)(hb:Hb h):
  ∃d,p8 RO ((List.range RO.length).filter λi=> !F.testBit i) st a b c d/\ju [yd n RO,.int st,.int F,wD a b c] h=.ok d h:=by
 have e1:=zP (m:=aa 0) (ρ:=[⇑(yd n RO),⇑(.int st),⇑(.int F),⇑(wD a b c),none,none,none,none,none]) (h:=h) n RO ok.2.2.1 hb (by simp);have e2:=NQ ok F (h++[none]);generalize hfs:((List.range RO.length).filter λi=> !F.testBit i)=fs at*;have hf:∀k∈fs,k<RO.length:=λk m=>by
  rw[<-hfs]at m;exact w5.mp (zr.mp m).1
 have eb:fG=(ah (aj (dP "Net" c_ (ag (aa 0) ae)) (ak 4))
   (ah (aj (ax hG (ag (aa 0) (ag (aa 2) ae))) (ak 5))
   (ah (aj (yr (aa 1) (mC .RY)) (ak 6))
   (ah (aj (aO (bz (ag (aa 1) ae))) (ak 7))
   (ah (cw (aA (aa 7)) sh)
   (ai (bD (ag (mC (.str "never")) (ag (aO (mK (ag (aa 6) ae))) ae))))))))):=rfl
 have h0:h++[none,⇑(Cell.Sl [(Sum.inl (st:Int),.RY)])]=hP h (aD RO fs st 0).1:=rfl;have k1:(h++[none]).length=h.length+1:=by simp
 have n1:([.int (st:Int)]:List D)=ar (aD RO fs st 0).2:=rfl;have run:fG [⇑(yd n RO),⇑(.int st),⇑(.int F),⇑(wD a b c),none,none,none,none,none] h=ah (cw (aA (aa 7)) sh)
   (ai (bD (ag (mC (.str "never")) (ag (aO (mK (ag (aa 6) ae))) ae)))) [⇑(yd n RO),⇑(.int st),⇑(.int F),⇑(wD a b c),⇑(av RO),⇑(.lst (ar fs)),⇑(.ref (h.length+1)),⇑(.lst (ar (aD RO fs st 0).2)),none] (hP h (aD RO fs st 0).1):=by
  rw[eb,ah,aj,e1];simp only[cG,ak,zd,zb];rw[ah,aj];simp only[ax,ag,aa,ae,z5,qy,bU,e2,cG,ak,zd,zb];rw[ah,aj];simp only[yr,mC,iQ,aa,z5,qy,bU,cG,ak,zd,zb,k1,zw,wz,g8];rw[ah,aj];simp only[aO,bz,ag,ae,aa,z5,qy,bU,R7,qw,zn,cG,ak,zd,zb];rw[if_pos ⋯];simp only[bU,cG];rw[h0,n1]
 have fb:∀(d:D) (C:aF),fG [⇑(yd n RO),⇑(.int st),⇑(.int F),⇑(wD a b c),none,none,none,none,none] h=.rt d (hP h C)->d.R5 h.length=true->ju [yd n RO,.int st,.int F,wD a b c] h=.ok d h:=λd C e hd=>
  DO (b:=fG) (np:=4) (nn:=9) (ds:=[yd n RO,.int st,.int F,wD a b c]) (J:=[none,⇑(.Sl (bT C))]) rfl e hb hd
 rcases Qc ok hf h6 st a b c h hb ⇑(yd n RO) ⇑(.int st) ⇑(.int F) 4096 0 none (.inr (by simp[aD])) ⋯ ⋯ (λi hi=>absurd hi (u9 _))with⟨J,y,ds,p1,p2,p3,p4,p5,e⟩|⟨J,XE,p1,p2,e⟩
 ·refine⟨_,.inl ⟨J,y,ds,p1,p2,p3,p4,p5,rfl⟩,fb _ (aD RO fs st J).1 ?_ ?_⟩
  ·rw[run,ah,e]
  ·simp only[D.R5,D.R_,kj,ki]
   exact vb _ _
 ·have len:=(tP RO fs st J).len h6
  have lk:((aD RO fs st J).1.map (·.1)).length<=100000:=by rw[qf];lia
  have gk:=pU h (aD RO fs st J).1;have kk:=KC (aD RO fs st J).1;have sc:=IH ((aD RO fs st J).1.map (·.1));refine⟨_,.inr ⟨J,p1,p2,rfl⟩,fb _ (aD RO fs st J).1 ?_ ?_⟩
  ·rw[run,ah,e]
   simp only[ai,bD,mC,aO,mK,ag,ae,aa,z5,qy,bU,fQ,eB,gk,Option.bind_none,uH,kk,DB,R7];rw[if_pos (by rw[qf];exact lk),sc];rfl
  ·simp only[D.R5,D.R_,kj,ki]
   exact vb _ _
theorem EA:¬(("earthed":Str)=("live":Str))/\¬(("locked":Str)=("live":Str))/\¬(("locked":Str)=("earthed":Str))/\¬(("shut":Str)=("live":Str))/\¬(("shut":Str)=("earthed":Str))/\¬(("shut":Str)=("locked":Str)):=⋯
theorem EK(hl:ds.length=np)(e:b (ds.map some++List.replicate (nn - ds.length) none) h=.exc c h):aq np nn b ds h=.exc c h:=by
 unfold aq;rw[if_pos hl,e];exact if_pos (qd _)
abbrev nB(x:Nat):List D:=(b8 x).map λk:Nat=>D.int k
section
variable {h : MH} {d p r : Nat} {b : Bd}
theorem Cj(D0:Dk h d p r b)(x1:Option D):ao cn "board" (aa 0) [⇑(.ref d),x1] h=.ok (.ref p) h:=by
 have o:=D0.o;unfold aQ at o;simp[o]
theorem l9(D0:Dk h d p r b)(x1:Option D):ao cq "yard" (aa 0) [⇑(.ref d),x1] h=.ok (yd b.n b.RO) h:=by
 have o:=D0.o;unfold aQ at o;simp[o]
theorem Jz(D0:Dk h d p r b)(Tg:b.st<2^12)(ej:cj [.lst (nB b.st)] h=.ok (.str x) h):br [.ref d,.str "shut"] h=.ok (.str x) h:=by
 refine A8 Lz D0.o rfl ?_;have ni:=Bq b.st Tg h;obtain⟨_,_,_,s1,s2,s3⟩:=EA;have ms:=iX D0.a (tab:=j6) (f:="standing") (z:=dU) (m:=ao cn "board" (aa 0)) (l:=ae) (ρ:=[⇑(.ref d),⇑(.str ("shut":Str))]) (ds:=[]) rfl ⋯ (Cj D0 _) (by simp);have ms:=ms.trans (Ce D0.a);refine fw (np:=2) (nn:=2) (b:=cF) (ds:=[.ref d,.str "shut"]) rfl ?_ (qd _);show cF [⇑(.ref d),⇑(.str ("shut":Str))] h=.rt (.str x) h;unfold nB at ej;generalize(b8 b.st).map (λk:Nat=>D.int k)=T at*;simp[-ao, -aw,cF,s1,s2,s3,ms,ni,ej]
theorem P6(D0:Dk h d p r b)(Tg:b.lk<2^12)(ej:cj [.lst (nB b.lk)] h=.ok (.str x) h):br [.ref d,.str "locked"] h=.ok (.str x) h:=by
 refine A8 Nd D0.o rfl ?_;have ni:=Bq b.lk Tg h;obtain⟨_,s1,s2,_⟩:=EA;have ms:=iX D0.a (tab:=uL) (f:="locked") (z:=fH) (m:=ao cn "board" (aa 0)) (l:=ae) (ρ:=[⇑(.ref d),⇑(.str ("locked":Str))]) (ds:=[]) rfl ⋯ (Cj D0 _) (by simp);have ms:=ms.trans (Kp D0.a);refine fw (np:=2) (nn:=2) (b:=cF) (ds:=[.ref d,.str "locked"]) rfl ?_ (qd _);show cF [⇑(.ref d),⇑(.str ("locked":Str))] h=.rt (.str x) h;unfold nB at ej;generalize(b8 b.lk).map (λk:Nat=>D.int k)=T at*;simp[-ao, -aw,cF,s1,s2,ms,ni,ej]
theorem MY(D0:Dk h d p r b)(Tg:cf b.st b.RO<2^12)(ej:cj [.lst (nB (cf b.st b.RO))] h=.ok (.str x) h):br [.ref d,.str "live"] h=.ok (.str x) h:=by
 refine A8 Na D0.o rfl ?_;have ni:=Bq _ Tg h;have lv:=Nz D0.a.ok b.st h D0.a.hb;have fy:=l9 D0 ⇑(.str ("live":Str));have ms:=iX D0.a (tab:=j6) (f:="standing") (z:=dU) (m:=ao cn "board" (aa 0)) (l:=ae) (ρ:=[⇑(.ref d),⇑(.str ("live":Str))]) (ds:=[]) rfl ⋯ (Cj D0 _) (by simp);have ms:=ms.trans (Ce D0.a);refine fw (np:=2) (nn:=2) (b:=cF) (ds:=[.ref d,.str "live"]) rfl ?_ (qd _);show cF [⇑(.ref d),⇑(.str ("live":Str))] h=.rt (.str x) h;unfold nB at ej;generalize(b8 (cf b.st b.RO)).map (λk:Nat=>D.int k)=T at*;generalize cf b.st b.RO=v at*;generalize yd b.n b.RO=Y at*;simp[-ao, -aw,cF,fy,ms,lv,ni,ej]
theorem ND(D0:Dk h d p r b)(Tg:dJ b.st b.RO<2^12)(ej:cj [.lst (nB (dJ b.st b.RO))] h=.ok (.str x) h):br [.ref d,.str "earthed"] h=.ok (.str x) h:=by
 refine A8 O6 D0.o rfl ?_;have ni:=Bq _ Tg h;have lv:=Lj D0.a.ok b.st h D0.a.hb;obtain⟨s1,_⟩:=EA;have fy:=l9 D0 ⇑(.str ("earthed":Str));have ms:=iX D0.a (tab:=j6) (f:="standing") (z:=dU) (m:=ao cn "board" (aa 0)) (l:=ae) (ρ:=[⇑(.ref d),⇑(.str ("earthed":Str))]) (ds:=[]) rfl ⋯ (Cj D0 _) (by simp);have ms:=ms.trans (Ce D0.a);refine fw (np:=2) (nn:=2) (b:=cF) (ds:=[.ref d,.str "earthed"]) rfl ?_ (qd _);show cF [⇑(.ref d),⇑(.str ("earthed":Str))] h=.rt (.str x) h;unfold nB at ej;generalize(b8 (dJ b.st b.RO)).map (λk:Nat=>D.int k)=T at*;generalize dJ b.st b.RO=v at*;generalize yd b.n b.RO=Y at*;simp[-ao, -aw,cF,s1,fy,ms,lv,ni,ej]
end
structure VR (k:Str):Prop where
 ln:k.length<=8
 s32:32∉k.cps.toList
 s10:10∉k.cps.toList
 b:¬k=("bars":Str)
 a1:¬("feed":Str)=k
 a2:¬("earth":Str)=k
 a3:¬("breaker":Str)=k
 a4:¬("splitter":Str)=k
 i4:("turn":Str)=k\/("lock":Str)=k\/("unlock":Str)=k\/("back":Str)=k
theorem Km:VR ("turn":Str):=⟨⋯,⋯,⋯,⋯,⋯,⋯,⋯,⋯,.inl rfl⟩
theorem GY:VR ("lock":Str):=⟨⋯,⋯,⋯,⋯,⋯,⋯,⋯,⋯,.inr (.inl rfl)⟩
def dC(w:Str)(k:Nat):Str:=bL (w,[(k:Int)])
theorem LO{k:Nat}(hk:k<=12)(h:MH):gS [.lst [.str (W k)]] h=.ok (.int (k:Nat)) h:=by
 have lw:=(bY (n:=k) ⋯ ⋯).1;obtain⟨n1,n2⟩:=A5 (n:=k) ⋯ ⋯;have nt:=Ea [W k] h (by simp;lia) (by simp);have nt:dF [.lst [.str (W k)]] h=.ok (.lst [.int (k:Nat)]) h:=by
  simp[n1,n2]at nt;exact nt
 simp[gS,vL,nt]
theorem IM(u:VR w)(o:h[d]?=⇑(aQ y (.ref p)))(hy:jN y=false)(hk:k<=12):bQ [⇑(.ref d),⇑(.str (dC w k)),none,none,none] h=(dA [.ref d,.str w,.int (k:Nat)] h).toS λx h1=>.rt x h1:=by
 obtain⟨f1,_,f3⟩:=BO (k:=w) (bs:=[(k:Int)]) u.ln u.s32 u.s10 (by simp;lia) (by simp);have hd:=wL (row:=dC w k) (k:=w) (ws:=[(k:Int)].map W) f3 (by have:(dC w k).length<=20:=f1;lia) (by simp) d;have on:=LO hk h;obtain⟨_,_,_,b,a1,a2,a3,a4,i4⟩:=u;unfold bQ;rw[hd,BY o hy b];refine(bf (ρ':=[⇑(.ref d),⇑(.str (dC w k)),⇑(.lst ((w::[(k:Int)].map W).map D.str)),⇑(.str w),none]) (h':=h) (by simp[fM,a1,a2,a3,a4])).trans ?_;have mm:=qB o (tab:=EN) (f:="done") (z:=dA) (m:=aa 0) (l:=ag (aa 3) (ag (ax gS (ag (cQ (aa 2) (cN (mC (.int 1))) cL) ae)) ae)) (ρ:=[⇑(.ref d),⇑(.str (dC w k)),⇑(.lst ((w::[(k:Int)].map W).map D.str)),⇑(.str w),none]) (ds:=[.str w,.int (k:Nat)]) rfl ⋯ (by simp) (by simp[on]);have t4:tB (af (cW false) (aa 3) (bD (ag (mC (.str "turn")) (ag (mC (.str "lock")) (ag (mC (.str "unlock")) (ag (mC (.str "back")) ae)))))) [⇑(.ref d),⇑(.str (dC w k)),⇑(.lst ((w::[(k:Int)].map W).map D.str)),⇑(.str w),none] h=.ok true h:=by
  rcases i4 with rfl|rfl|rfl|rfl<;>simp[fM]
 simp only[ah,aG,t4,cG,if_true,ai,mm];cases dA [.ref d,.str w,.int (k:Nat)] h<;>rfl
theorem IX(u:VR w)(o:h[d]?=⇑(aQ y (.ref p)))(hy:jN y=false)(hk:k<=12)(e:dA [.ref d,.str w,.int (k:Nat)] h=.ok x H)(hl:H.length<=h.length):br [.ref d,.str (dC w k)] h=.ok x H:=
 fw (np:=2) (nn:=5) (b:=bQ) (ds:=[.ref d,.str (dC w k)]) rfl ((IM u o hy hk).trans (by rw[e];rfl)) hl
theorem IL(u:VR w)(o:h[d]?=⇑(aQ y (.ref p)))(hy:jN y=false)(hk:k<=12)(e:dA [.ref d,.str w,.int (k:Nat)] h=.exc c h):br [.ref d,.str (dC w k)] h=.exc c h:=
 EK (np:=2) (nn:=5) (b:=bQ) (ds:=[.ref d,.str (dC w k)]) rfl ((IM u o hy hk).trans (by rw[e];rfl))
theorem PD:¬(("lock":Str)=("turn":Str))/\¬(("unlock":Str)=("turn":Str))/\¬(("unlock":Str)=("lock":Str))/\¬(("lock":Str)=("unlock":Str))/\¬(("lock":Str)=("back":Str))/\¬(("unlock":Str)=("back":Str)):=⋯
section
variable {h : MH} {d p r : Nat} {b : Bd} (D0 : Dk h d p r b)
include D0
theorem G0(x1 x2:Option D):ao cn "board" (aa 0) [⇑(.ref d),x1,x2] h=.ok (.ref p) h:=by
 have o:=D0.o;unfold aQ at o;simp[o]
theorem QW(hw:b.RO[k]?=⇑w):dA [.ref d,.str "turn",.int (k:Nat)] h=match fE b k w with|some c=>.exc c h|none=>.ok (.str (if b.st.testBit k then "open"else "shut")) (h.set p (({b with st:=b.st^^^2^k}:Bd).cell r)):=by
 have tu:=MB D0.a k w hw;have mt:=iX D0.a (tab:=EF) (f:="turn") (z:=du) (m:=ao cn "board" (aa 0)) (l:=ag (aa 2) ae) (ρ:=[⇑(.ref d),⇑(.str ("turn":Str)),⇑(.int (k:Nat))]) (ds:=[.int (k:Nat)]) rfl ⋯ (G0 D0 _ _) (by simp);cases q:fE b k w with
 | some c=>
  rw[q]at tu;have mt:=mt.trans tu;refine EK (np:=3) (nn:=3) (b:=cD) (ds:=[.ref d,.str "turn",.int (k:Nat)]) rfl ?_;show cD [⇑(.ref d),⇑(.str ("turn":Str)),⇑(.int (k:Nat))] h=_;simp[-ao, -aw,cD,mt]
 | none=>
  rw[q]at tu;have mt:=mt.trans tu;refine fw (np:=3) (nn:=3) (b:=cD) (ds:=[.ref d,.str "turn",.int (k:Nat)]) rfl ?_ (by rw[zk];exact qd _);show cD [⇑(.ref d),⇑(.str ("turn":Str)),⇑(.int (k:Nat))] h=_;have hh:=mf (b.st^^^2^k) k (h.set p (({b with st:=b.st^^^2^k}:Bd).cell r));have tb:(b.st^^^2^k).testBit k= !b.st.testBit k:=by
   rw[gf,Kw];simp
  rw[tb]at hh;generalize h.set p (({b with st:=b.st^^^2^k}:Bd).cell r)=H at*;generalize b.st^^^2^k=s2 at*;cases q2:b.st.testBit k<;>rw[q2]at hh<;>simp[-ao, -aw,cD,mt,hh]
theorem Mm(hw:b.RO[k]?=⇑w):dA [.ref d,.str "lock",.int (k:Nat)] h=match jM b k w with|some c=>.exc c h|none=>.ok (.str "ok") (h.set p (({b with lk:=b.lk|||2^k}:Bd).cell r)):=by
 have tu:=Pr D0.a k w hw;have mt:=iX D0.a (tab:=CG) (f:="lock") (z:=eG) (m:=ao cn "board" (aa 0)) (l:=ag (aa 2) ae) (ρ:=[⇑(.ref d),⇑(.str ("lock":Str)),⇑(.int (k:Nat))]) (ds:=[.int (k:Nat)]) rfl ⋯ (G0 D0 _ _) (by simp);obtain⟨d1,d2,d3,d4,d5,d6⟩:=PD;cases q:jM b k w with
 | some c=>
  rw[q]at tu;have mt:=mt.trans tu;refine EK (np:=3) (nn:=3) (b:=cD) (ds:=[.ref d,.str "lock",.int (k:Nat)]) rfl ?_;show cD [⇑(.ref d),⇑(.str ("lock":Str)),⇑(.int (k:Nat))] h=_;simp[-ao, -aw,cD,mt,d1]
 | none=>
  rw[q]at tu;have mt:=mt.trans tu;refine fw (np:=3) (nn:=3) (b:=cD) (ds:=[.ref d,.str "lock",.int (k:Nat)]) rfl ?_ (by rw[zk];exact qd _);show cD [⇑(.ref d),⇑(.str ("lock":Str)),⇑(.int (k:Nat))] h=_;generalize h.set p (({b with lk:=b.lk|||2^k}:Bd).cell r)=H at*;simp[-ao, -aw,cD,mt,d1,d4,d5]
end
noncomputable def Sw.l:Sw->D
 | .feed a=>.lst [.str "feed",.int (a:Nat)]|.SD a=>.lst [.str "earth",.int (a:Nat)]|.Se a b=>.lst [.str "breaker",.int (a:Nat),.int (b:Nat)]|.splitter a b=>.lst [.str "splitter",.int (a:Nat),.int (b:Nat)]
theorem Py(x:Nat):(b8 x).Pairwise (·<·):=List.Pairwise.filter _ List.pairwise_lt_range
theorem Pc(x:Nat):(b8 x).Nodup:=(Py x).imp λh=>qo h
theorem AV(hs:st<2^L):∀k,k∈b8 st↔st.testBit k=true/\k<L:=λk=>by
 rw[Bz];refine⟨λq=>⟨q,?_⟩,λq=>q.1⟩;have:=Nat.ge_two_pow_of_testBit q;exact(Nat.pow_lt_pow_iff_right (show 1<2 by decide)).mp (zg this hs)
theorem Lg(hs:st<2^L):(b8 st).length<=L:=Cn L _ (Pc st) λk m=>((AV hs k).mp m).2
noncomputable abbrev iL(l:List Nat):List D:=l.map λk:Nat=>D.int k
def jT(x:Nat):Str:=if b8 x=[]then "none"else Txt.join (" ":Str) ((b8 x).map λk:Nat=>W k)
theorem Ag(l:List Nat)(hl:∀k∈l,k<=12)(hn:l.length<=12):((l.map λk:Nat=>W k).map (·.length)).sum+(l.map λk:Nat=>W k).length*(" ":Str).length<=16777216:=by
 have l1:(" ":Str).length=1:=⋯;have:=uD (l:=(l.map λk:Nat=>W k).map (·.length)) (m:=2) (λx m=>by
  obtain⟨s,ms,rfl⟩:=qz.mp m;obtain⟨k,mk,rfl⟩:=qz.mp ms;exact(bY (n:=k) ⋯ (by have:=hl k mk;lia)).1)
 simp only[qf]at this ⊢;rw[l1]
 lia
theorem HP(l:List Nat)(hl:∀k∈l,k<=12)(h:MH):compLoop (ak 0) aR (bh aX (ag (aa 0) ae)) [none] (iL l) h=.ok ((l.map λk:Nat=>W k).map D.str) h:=by
 rw[List.map_map];refine rL (g:=ak 0) (t:=aR) (h:=h) (m:=bh aX (ag (aa 0) ae)) (ρ0:=[none]) (λk:Nat=>D.int k) (λk=>[⇑(.int (k:Nat))]) (λk=>D.str (W (k:Nat))) l λk m=>⟨by simp,by simp,?_⟩;have lg:(k:Nat).log2<1920:=zg (wb k) (by have:=hl k m;lia);simp[lg]
theorem QO:("bars ":Str)=("bars":Str)++⟨#[32]⟩:=⋯
theorem FX(k:Str)(a:Int):k++⟨#[32]⟩++aV a=bL (k,[a]):=rfl
theorem yL(hx:x<2^12)(h:MH):cj [.lst (nB x)] h=.ok (.str (jT x)) h:=by
 have hm:∀k∈b8 x,k<=12:=λk m=>by have:=((AV hx k).mp m).2;lia
 have hl:=Lg hx;have sc:=HP (b8 x) hm h;have ws:=Ag (b8 x) hm hl;have l1:(iL (b8 x)).length=(b8 x).length:=qf _;have sd:=GU ((b8 x).map λk:Nat=>W k);unfold nB jT;show cj [.lst (iL (b8 x))] h=_;by_cases q:b8 x=[]
 ·rw[q]
  simp[cj,oU]
 ·rw[if_neg q]
  have ne:¬(iL (b8 x))=[]:=λz=>q (List.map_eq_nil_iff.mp z);generalize(b8 x).map (λk:Nat=>W k)=U at*;generalize iL (b8 x)=T at*;simp[-List.map_map,cj,oU,ne,sc,sd,ws,show T.length<16777216 by lia]
section
variable {n : Nat} {RO : List Sw} (ok : bG n RO)
include ok
theorem Lm(st:Nat):cf st RO<2^n:=by
 refine Jq ok st (BC _ _ (λp m=> ?_) (zu n));obtain⟨q,mq,rfl⟩:=qz.mp m;have Ys:=ok.2.2.2 q.1 (KQ (zr.mp mq).1);cases e:q.1 with
 | feed b=>
  rw[e]at Ys;exact zq ⋯ Ys
 | _=>exact zu n
theorem Mq(st:Nat):dJ st RO<2^n:=by
 refine Jq ok st (BC _ _ (λp m=> ?_) (zu n));obtain⟨q,mq,rfl⟩:=qz.mp m;have Ys:=ok.2.2.2 q.1 (KQ (zr.mp mq).1);cases e:q.1 with
 | SD b=>
  rw[e]at Ys;exact zq ⋯ Ys
 | _=>exact zu n
end
theorem j3(h:x<2^m)(hm:m<=12):x<2^12:=qt h (Nat.pow_le_pow_right ⋯ hm)
theorem sJ{x:Int}(h:0<=x):∃a:Nat,x=a:=⟨x.toNat,(Int.toNat_of_nonneg h).symm⟩
theorem Pu{x y n:Int}(hx:0<=x)(hx2:x<n)(hy:0<=y)(hy2:y<n - 1):(x+1+y) % n≠x:=by
 intro e;by_cases z:x+1+y<n
 ·rw[Int.emod_eq_of_lt ⋯ z]at e;lia
 ·have:(x+1+y) % n=x+1+y - n:=by rw[<-Int.sub_emod_right,Int.emod_eq_of_lt ⋯ ⋯]
  lia
theorem JW(ns:List Int)(k:Nat)(h:MH):∃v:Int,bw [.arg ns,.int (k:Nat)] h=.ok (.int v) h:=by
 by_cases q:k<ns.length
 ·have a:cx (ns.map D.int) (k:Int)=⇑(.int ns[k]):=xV (by rw[z9,qk q];rfl)
  exact⟨ns[k],by simp[bw,ir,q,a]⟩
 ·exact⟨0,by simp[bw,ir,q]⟩
theorem Cp(la:a.length<=1000)(lb:b.length<=1000)(h:MH):aB (.str a) (.str b) h=.ok (.str (a++b)) h:=by
 simp[show a.length+b.length<=16777216 by lia]
theorem Ht(a b:Str):(a++b).length=a.length+b.length:=by simp[Str.length,Str.cps_append]
theorem oC(a b c:Str):a++b++c=a++(b++c):=E1 (by simp[Str.cps_append])
theorem HE(h:MH):dt [.ref h.length] (h++[⇑(.ins "Desk" [])])=.ok .RY (h++[aQ .RY .RY]):=by
 have key:i7 [⇑(.ref h.length)] (h++[⇑(.ins "Desk" [])])=.nx [⇑(.ref h.length)] (h++[aQ .RY .RY]):=by
  simp[i7,aI,aQ,da]
 unfold dt aq;rw[if_pos (show[D.ref h.length].length=1 from rfl)];have k2:i7 ([D.ref h.length].map some++List.replicate (1 - [D.ref h.length].length) none) (h++[⇑(.ins "Desk" [])])=_:=key;rw[k2];show fin _ _ _=_;unfold fin;rw[if_pos (by simp)]
theorem oo(o:h[d]?=⇑(aQ y b))(em:m ρ h=.ok (.ref d) h)(el:l ρ h=.ok [.str row] h):aw eD "say" m l ρ h=br [.ref d,.str row] h:=qB o (tab:=eD) (f:="say") (z:=br) rfl ⋯ em el
theorem PV(c:Int)(n:Nat)(h1:2<=n)(h2:n<=10)(h:MH):∃s:Sw,s.ok n/\cU [.int c,.int (n:Nat)] h=.ok s.l h:=by
 have hn:0<n:=⋯;have hn0:(0:Int)<(n:Int):=⋯;obtain⟨a,ea⟩:=sJ (x:=c / 4 % (n:Int)) (kh _ ⋯);have la:a<n:=by have:=wt (c / 4) (b:=(n:Int)) hn0;lia
 have y0:0<=c / 4 / (n:Int) % ((n:Int) - 1):=kh _ ⋯;have y1:c / 4 / (n:Int) % ((n:Int) - 1)<(n:Int) - 1:=wt _ ⋯;obtain⟨b,eb⟩:=sJ (x:=((a:Int)+1+c / 4 / (n:Int) % ((n:Int) - 1)) % (n:Int)) (kh _ ⋯);have lb:b<n:=by have:=wt ((a:Int)+1+c / 4 / (n:Int) % ((n:Int) - 1)) (b:=(n:Int)) hn0;lia
 have ab:a≠b:=λz=>by
  have:=Pu (x:=(a:Int)) (n:=(n:Int)) ⋯ ⋯ y0 y1
  lia
 have dn:∀x:Int,aP (.int x) (.int (n:Nat)) h=.ok (.int (x % (n:Int))) h:=λx=>by simp[hn]
 have d4:aU (.int c) (.int 4) h=.ok (.int (c / 4)) h:=by simp
 have dm:aP (.int (c / 4 / (n:Int))) (.int ((n:Int) - 1)) h=.ok (.int (c / 4 / (n:Int) % ((n:Int) - 1))) h:=by
  simp
  lia
 have dd:aU (.int (c / 4)) (.int (n:Nat)) h=.ok (.int (c / 4 / (n:Int))) h:=by
  simp[hn,show(n:Int)<1073741824 by lia]
 have h4:(c % 4=0)\/(c % 4=1)\/(c % 4=2/\c % 2=0)\/(c % 4=3/\c % 2=1):=⋯;have m4:aP (.int c) (.int 4) h=.ok (.int (c % 4)) h:=by simp
 have m2:aP (.int c) (.int 2) h=.ok (.int (c % 2)) h:=by simp
 rcases h4 with q|q|⟨q,q2⟩|⟨q,q2⟩
 ·exact⟨.feed a,la,by simp[-aP, -aU,cU,gW,dn,d4,m4,ea,q,dd,dm,eb,Sw.l]⟩
 ·exact⟨.SD a,la,by simp[-aP, -aU,cU,gW,dn,d4,m4,ea,q,dd,dm,eb,Sw.l]⟩
 ·exact⟨.Se a b,⟨la,lb,ab⟩,by simp[-aP, -aU,cU,gW,dn,d4,m4,m2,ea,q,q2,dd,dm,eb,Sw.l]⟩
 ·exact⟨.splitter a b,⟨la,lb,ab⟩,by simp[-aP, -aU,cU,gW,dn,d4,m4,m2,ea,q,q2,dd,dm,eb,Sw.l]⟩
def cT(b:Bd)(k:Nat)(w:Sw):Bd:=if fE b k w=none then{b with st:=b.st^^^2^k}else b
def gL(b:Bd)(k:Nat)(w:Sw):Bd:=if jM b k w=none then{b with lk:=b.lk|||2^k}else b
noncomputable def Fq:List String:=["Locked","Held","Loaded","Shorted","NoLock","NotOpen"]
theorem uq:∀c∈Fq,WM.lookup c=⇑true:=⋯
theorem Mh(e:fE b k w=⇑c):c∈Fq:=by
 unfold fE at e
 repeat' split at e
 all_goals first|(cases e;done)|(cases e;decide+kernel)
theorem QR(e:jM b k w=⇑c):c∈Fq:=by
 unfold jM at e
 repeat' split at e
 all_goals first|(cases e;done)|(cases e;decide+kernel)
theorem Dk.ne(D0:Dk h d p r b):d≠p:=λe=>by
 subst e;have:=D0.o.symm.trans D0.a.o;simp[aQ,Bd.cell]at this
theorem Dk.put(D0:Dk h d p r b)(hg:b'.gv=b.gv)(hn:b'.n=b.n)(hs:b'.RO=b.RO):Dk (h.set p (b'.cell r)) d p r b':=
 ⟨by rw[qh (Ne.symm D0.ne),hn,hs];exact D0.o,D0.a.put hg (by rw[hn,hs];exact D0.a.ok)⟩
theorem Al(o:h[d]?=⇑(aQ y p))(hl:H.length=h.length)(e:(v=true/\∃x,br [.ref d,.str row] h=.ok x H)\/(v=false/\H=h/\∃c,WM.lookup c=⇑true/\br [.ref d,.str row] h=.exc c h)):bV [.ref d,.str row] h=.ok (.bl v) H:=by
 have m0:=oo o (m:=aa 0) (l:=f7 (ag (aa 1) ae)) (ρ:=[⇑(.ref d),⇑(.str row),⇑(.bl true)]) (row:=row) (by simp) (by simp);refine fw (np:=2) (nn:=3) (b:=fW) (ds:=[.ref d,.str row]) rfl ?_ (ke hl);show fW [⇑(.ref d),⇑(.str row),none] h=_;rcases e with⟨rfl,x,e⟩|⟨rfl,rfl,c,hc,e⟩
 ·have m1:=m0.trans e
  simp[-aw, -f7,fW,m1]
 ·have m1:=m0.trans e
  simp[-aw, -f7,fW,m1,hc]
section
variable {h : MH} {d p r : Nat} {b : Bd} (D0 : Dk h d p r b) {k : Nat} {w : Sw} (hw : b.RO[k]? = ⇑w)
include D0 hw
theorem Ba:bV [.ref d,.str (dC "turn" k)] h=.ok (.bl (fE b k w).isNone) (h.set p ((cT b k w).cell r))/\Dk (h.set p ((cT b k w).cell r)) d p r (cT b k w):=by
 have k12:k<=12:=by have:=(q9.mp hw).1;have:=D0.a.ok.2.2.1;lia
 have e:=QW D0 hw;cases q:fE b k w with
 | none=>
  rw[q]at e;have eN:cT b k w={b with st:=b.st^^^2^k}:=if_pos q;rw[eN];exact⟨Al D0.o zk (.inl ⟨rfl,_,IX Km D0.o rfl k12 e (ke zk)⟩),D0.put rfl rfl rfl⟩
 | some c=>
  rw[q]at e;have eN:cT b k w=b:=if_neg (by rw[q];exact λz=>nomatch z);rw[eN,AM D0.a.o];exact⟨Al D0.o rfl (.inr ⟨rfl,rfl,c,uq c (Mh q),IL Km D0.o rfl k12 e⟩),D0⟩
theorem IB:bV [.ref d,.str (dC "lock" k)] h=.ok (.bl (jM b k w).isNone) (h.set p ((gL b k w).cell r))/\Dk (h.set p ((gL b k w).cell r)) d p r (gL b k w):=by
 have k12:k<=12:=by have:=(q9.mp hw).1;have:=D0.a.ok.2.2.1;lia
 have e:=Mm D0 hw;cases q:jM b k w with
 | none=>
  rw[q]at e;have eN:gL b k w={b with lk:=b.lk|||2^k}:=if_pos q;rw[eN];exact⟨Al D0.o zk (.inl ⟨rfl,_,IX GY D0.o rfl k12 e (ke zk)⟩),D0.put rfl rfl rfl⟩
 | some c=>
  rw[q]at e;have eN:gL b k w=b:=if_neg (by rw[q];exact λz=>nomatch z);rw[eN,AM D0.a.o];exact⟨Al D0.o rfl (.inr ⟨rfl,rfl,c,uq c (QR q),IL GY D0.o rfl k12 e⟩),D0⟩
end
theorem wY:∀a b:Fin 13,W a.val=W b.val->a=b:=⋯
theorem pM:∀a:Fin 13,¬("none":Str)=W a.val:=⋯
theorem QP(k:Str)(l:List Str):((l.map D.str).any λy=>fM y (.str k))=decide (k∈l):=by
 induction l with
 | nil=>rfl
 | cons a l ih=>
  rw[List.map_cons,zz,ih];show(a==k||decide (k∈l))=_;by_cases q:a=k
  ·subst q;simp
  ·have q':¬k=a:=λz=>q z.symm
   simp[q,q']
theorem LH(l:List Str):(l.map D.str).all iE=true:=by
 rw[List.all_eq_true];intro x hx;obtain⟨s,_,rfl⟩:=qz.mp hx;rfl
theorem G5(k:Str)(l:List Str)(neg:Bool)(h:MH):cW neg (.str k) (.lst (l.map D.str)) h=.ok (.bl (if neg then !decide (k∈l)else decide (k∈l))) h:=by
 have a:=QP k l;have f:=LH l;generalize l.map D.str=T at*;cases neg<;>simp[a,f]
theorem Qu(hx:x<2^12):∃ws:List Str,Txt.split (jT x) ⟨#[32]⟩=ws/\ws.length<=12/\(jT x).length<=1000/\∀k:Nat,k<=12->(W k∈ws↔x.testBit k=true):=by
 have hb:∀k∈b8 x,k<13:=λk m=>by have:=((AV hx k).mp m).2;lia
 have hl:=Lg hx;unfold jT;split
 ·rename_i q
  refine⟨[("none":Str)],⋯,by simp,⋯,λk hk=> ?_⟩;have:¬x.testBit k=true:=λz=>by
   have:=Bz.mpr z;rw[q]at this;cases this
  refine⟨λz=> ?_,λz=>absurd z this⟩;exact absurd (z6.mp z).symm (pM ⟨k,⋯⟩)
 ·rename_i q
  have ne:((b8 x).map λk:Nat=>W k)≠[]:=λz=>q (List.map_eq_nil_iff.mp z);have wf:∀w∈((b8 x).map λk:Nat=>W k),w.length<=2/\32∉w.cps.toList:=λw mw=>by
   obtain⟨k,mk,rfl⟩:=qz.mp mw;have:=bY (n:=k) ⋯ (by have:=hb k mk;lia);exact⟨this.1,this.2.2.1⟩
  rw[vC,iS];refine⟨_,BZ ne λw mw=>(wf w mw).2,by rw[qf];exact hl,?_,λk hk=> ?_⟩
  ·have jl:=oX (c:=32) ((b8 x).map λk:Nat=>W k) ne
   have sl:=uD (l:=((b8 x).map λk:Nat=>W k).map (·.length)) (m:=2) λn hn=>by
    obtain⟨w,mw,rfl⟩:=qz.mp hn;exact(wf w mw).1
   rw[qf,qf]at sl;rw[qf]at jl
   lia
  ·rw[qz]
   constructor
   ·rintro⟨j,mj,e⟩
    have:=wY ⟨j,hb j mj⟩ ⟨k,⋯⟩ e;have:j=k:=congrArg Fin.val this;subst this;exact Bz.mp mj
   ·intro t
    exact⟨k,Bz.mpr t,rfl⟩
theorem Ip(hx:x<2^12)(hk:k<=12)(h:MH):jQ [.str (jT x),.int (k:Nat)] h=.ok (.bl (x.testBit k)) h:=by
 obtain⟨ws,e,l1,l2,hm⟩:=Qu hx;have lg:(k:Nat).log2<1920:=zg (wb k) ⋯;have hi:=G5 (W k) ws false h;have hd:decide (W k∈ws)=x.testBit k:=by
  cases q:x.testBit k
  ·exact decide_eq_false λz=>by rw[(hm k hk).mp z]at q;cases q
  ·exact decide_eq_true ((hm k hk).mpr q)
 rw[hd]at hi;have ls:(ws.map D.str).length<=12:=by rw[qf];exact l1
 have lb:(" ":Str).length=1:=⋯;refine fw (np:=2) (nn:=2) (b:=jB) (ds:=[.str (jT x),.int (k:Nat)]) rfl ?_ (qd _);show jB [⇑(.str (jT x)),⇑(.int (k:Nat))] h=_;rw[<-iS]at e;have hi:cW false (.str (aV (k:Int))) (.lst (ws.map D.str)) h=.ok (.bl (x.testBit k)) h:=hi;have fs:aX [.int (k:Nat)] h=.ok (.str (aV (k:Int))) h:=by simp[lg]
 generalize jT x=J at*;generalize aV (k:Int)=F at*;simp[-cW, -aX,jB,iI,B_,yO,e,lb,show J.length<=16777216 by lia,show ws.length<=16777216 by lia,fs,hi]
noncomputable def K3:List Str:=[("live":Str),("dead":Str),("earthed":Str)]
noncomputable def eO(kd:Str)(v:Nat):Nat:=if kd=("live":Str)then v else 0
noncomputable def eM(kd:Str)(v:Nat):Nat:=if kd=("dead":Str)then v else 0
noncomputable def eP(kd:Str)(v:Nat):Nat:=if kd=("earthed":Str)then v else 0
abbrev de(kd:Str)(bar st:Nat)(RO:List Sw):Bool:=dR st RO (eO kd (2^bar)) (eM kd (2^bar)) (eP kd (2^bar))
theorem iD:¬("live":Str)=("dead":Str)/\¬("live":Str)=("earthed":Str)/\¬("dead":Str)=("live":Str)/\¬("dead":Str)=("earthed":Str)/\¬("earthed":Str)=("live":Str)/\¬("earthed":Str)=("dead":Str):=⋯
theorem Gp{x k:Nat}:2^k&&&x=if x.testBit k then 2^k else 0:=zy λi=>by
 rw[ww,ku];by_cases q:k=i
 ·subst q;cases e:x.testBit k<;>simp[ku]
 ·cases e:x.testBit k<;>simp[q,ku]
theorem LK:de ("live":Str) bar st RO=(cf st RO).testBit bar:=by
 obtain⟨n1,n2,n3,n4,n5,n6⟩:=iD;have p:2^bar≠0:=wj (zu bar);simp only[de,dR,eO,eM,eP,if_true,n1,n2,if_false,Gp];cases(cf st RO).testBit bar<;>simp[p]
theorem MZ:de ("dead":Str) bar st RO= !(cf st RO).testBit bar:=by
 obtain⟨n1,n2,n3,n4,n5,n6⟩:=iD;have p:2^bar≠0:=wj (zu bar);simp only[de,dR,eO,eM,eP,if_true,n3,n4,if_false,Gp];cases(cf st RO).testBit bar<;>simp[p]
theorem Qy:de ("earthed":Str) bar st RO=(dJ st RO).testBit bar:=by
 obtain⟨n1,n2,n3,n4,n5,n6⟩:=iD;have p:2^bar≠0:=wj (zu bar);simp only[de,dR,eO,eM,eP,if_true,n5,n6,if_false,Gp];cases(dJ st RO).testBit bar<;>simp[p]
section
variable {h : MH} {d p r : Nat} {b : Bd} (D0 : Dk h d p r b) {kd : Str} (hk : kd ∈ K3) {bar : Nat} (hb : bar < b.n)
include D0 hk hb
theorem BS:ft [.ref d,.str kd,.int (bar:Nat)] h=.ok (.bl (de kd bar b.st b.RO)) h:=by
 have ok:=D0.a.ok;obtain⟨n1,n2,n3,n4,n5,n6⟩:=iD;have b12:bar<=12:=by have:=ok.2.1;lia
 have ll:=j3 (Lm ok b.st) (by have:=ok.2.1;lia);have le:=j3 (Mq ok b.st) (by have:=ok.2.1;lia);have hl:=Ip ll b12 h;have he:=Ip le b12 h;have m1:=(oo D0.o (m:=aa 0) (l:=ag (mC (.str "live")) ae) (ρ:=[⇑(.ref d),⇑(.str kd),⇑(.int (bar:Nat))]) (row:="live") (by simp) (by simp)).trans (MY D0 ll (yL ll h));have m2:=(oo D0.o (m:=aa 0) (l:=ag (mC (.str "earthed")) ae) (ρ:=[⇑(.ref d),⇑(.str kd),⇑(.int (bar:Nat))]) (row:="earthed") (by simp) (by simp)).trans (ND D0 le (yL le h));refine fw (np:=3) (nn:=3) (b:=gC) (ds:=[.ref d,.str kd,.int (bar:Nat)]) rfl ?_ (qd _);show gC [⇑(.ref d),⇑(.str kd),⇑(.int (bar:Nat))] h=_;generalize jT (cf b.st b.RO)=J1 at*;generalize jT (dJ b.st b.RO)=J2 at*;simp only[K3,qg,zv,or_false]at hk;rcases hk with rfl|rfl|rfl
 ·rw[LK]
  simp[-aw,gC,n2,m1,hl]
 ·rw[MZ]
  simp[-aw,gC,n3,n4,m1,hl]
 ·rw[Qy]
  simp[-aw,gC,m2,he]
theorem O_:fJ [.lst [.str (W bar)],.int (b.n:Nat)] h=.ok (.int ((2^bar:Nat):Int)) h:=by
 have ok:=D0.a.ok;have b12:bar<=12:=by have:=ok.2.1;lia
 have lw:=(bY (n:=bar) ⋯ ⋯).1;obtain⟨n1,n2⟩:=A5 (n:=bar) ⋯ ⋯;have nt:=Ea [W bar] h (by simp;lia) (by simp);have nt:dF [.lst [.str (W bar)]] h=.ok (.lst [.int (bar:Nat)]) h:=by
  simp[n1,n2]at nt;exact nt
 have lt:¬(b.n:Int)<=(bar:Int):=⋯;have a1:cx [D.int (bar:Nat)] (-1)=⇑(.int (bar:Nat)):=rfl;have pw:nL 1 (bar:Int):=⟨⋯,⋯,⋯⟩;have c0:cut [D.int (bar:Nat)] ⇑1 none=[]:=by simp[cut,aT]
 simp[fJ,ym,nt,c0,cg,Td,compLoop,a1,lt,pw,show ¬b.n<=bar by lia]
theorem OO:jZ [.str kd,.int ((2^bar:Nat):Int)] h=.ok (wD (eO kd (2^bar)) (eM kd (2^bar)) (eP kd (2^bar))) h:=by
 obtain⟨n1,n2,n3,n4,n5,n6⟩:=iD;generalize 2^bar=v;simp only[K3,qg,zv,or_false]at hk;rcases hk with rfl|rfl|rfl<;>simp[jZ,xN,wD,eO,eM,eP,n1,n2,n3,n4,n5,n6]
end
def dN(ds:List Nat):Str:=bL (("plan":Str),ds.map λk:Nat=>(k:Int))
noncomputable def eI(b:Bd):List Nat:=(List.range b.RO.length).filter λi=> !b.lk.testBit i
theorem Hw(m:k∈eI b):k<b.RO.length/\b.lk.testBit k=false:=by
 obtain⟨m1,m2⟩:=zr.mp m;exact⟨w5.mp m1,by simpa using m2⟩
theorem Ha(b:Back RO fs C st j y ds):∀k∈ds,k∈fs:=by
 induction b with
 | nil=>intro k m;cases m
 | cons h1 h2 h3 _ ih=>
  intro k m;rcases qv.mp m with m|m
  ·exact ih k m
  ·rw[z6.mp m];exact h2
def D7(b:Bd)(kd:Str)(bar:Nat)(a:Str):Prop:=
 (∃J y ds,y∈(aD b.RO (eI b) b.st J).2/\de kd bar y b.RO=true/\(∀i,i<J->∀x∈(aD b.RO (eI b) b.st i).2,de kd bar x b.RO=false)/\Back b.RO (eI b) (aD b.RO (eI b) b.st J).1 b.st J y ds/\J<=4096/\a=dN ds)\/
 (∃J,(aD b.RO (eI b) b.st J).2=[]/\(∀i,i<J->∀x∈(aD b.RO (eI b) b.st i).2,de kd bar x b.RO=false)/\a=("never":Str))
theorem lz:¬("plan":Str)=("never":Str):=⋯
theorem PM(D0:Dk h d p r b)(hg:b.gv=[])(hk:kd∈K3)(hb:bar<b.n):∃a,D7 b kd bar a/\h_ [.ref d,.lst [.str kd,.str (W bar)]] h=.ok (.str a) h:=by
 have ok:=D0.a.ok;have l12:=ok.2.2.1;have pt:=O_ D0 hk hb;have ws:=OO D0 hk hb;have h6:((List.range b.RO.length).filter λi=> !(b.lk|||0).testBit i).length<=12:=zi (List.length_filter_le _ _) (by rw[List.length_range];exact l12);obtain⟨dd,pI,ep⟩:=PL ok b.st (b.lk|||0) (eO kd (2^bar)) (eM kd (2^bar)) (eP kd (2^bar)) h6 h D0.a.hb;rw[Nat.or_zero]at pI ep;have fy:∀x1 x2 x3:Option D,ao cq "yard" (aa 0) [⇑(.ref d),x1,x2,x3] h=.ok (yd b.n b.RO) h:=λ_ _ _=>by
  have o:=D0.o;unfold aQ at o;simp[o]
 have fb:∀x1 x2 x3:Option D,ao cn "board" (aa 0) [⇑(.ref d),x1,x2,x3] h=.ok (.ref p) h:=λ_ _ _=>by
  have o:=D0.o;unfold aQ at o;simp[o]
 have i0:ay (yd b.n b.RO) (.int 0) h=.ok (.int (b.n:Nat)) h:=by simp[yd]
 have in3:cW true (.str kd) (.tup [.str "live",.str "dead",.str "earthed"]) h=.ok (.bl false) h:=by
  simp only[K3,qg,zv,or_false]at hk;rcases hk with rfl|rfl|rfl<;>simp[fM]
 have c1:cut [D.str kd,.str (W bar)] ⇑1 none=[.str (W bar)]:=by simp[cut,aT]
 have ms:=(iX D0.a (tab:=j6) (f:="standing") (z:=dU) (m:=ao cn "board" (aa 0)) (l:=ae) (ρ:=[⇑(.ref d),⇑(.lst [.str kd,.str (W bar)]),⇑(wD (eO kd (2^bar)) (eM kd (2^bar)) (eP kd (2^bar))),none]) (ds:=[]) rfl ⋯ (fb _ _ _) (by simp)).trans (Ce D0.a);have ml:=(iX D0.a (tab:=uL) (f:="locked") (z:=fH) (m:=ao cn "board" (aa 0)) (l:=ae) (ρ:=[⇑(.ref d),⇑(.lst [.str kd,.str (W bar)]),⇑(wD (eO kd (2^bar)) (eM kd (2^bar)) (eP kd (2^bar))),none]) (ds:=[]) rfl ⋯ (fb _ _ _) (by simp)).trans (Kp D0.a);have mh:=(iX D0.a (tab:=tG) (f:="held") (z:=fX) (m:=ao cn "board" (aa 0)) (l:=ae) (ρ:=[⇑(.ref d),⇑(.lst [.str kd,.str (W bar)]),⇑(wD (eO kd (2^bar)) (eM kd (2^bar)) (eP kd (2^bar))),none]) (ds:=[]) rfl ⋯ (fb _ _ _) (by simp)).trans (JC D0.a);rw[hg]at mh;have mh:aw tG "held" (ao cn "board" (aa 0)) ae [⇑(.ref d),⇑(.lst [.str kd,.str (W bar)]),⇑(wD (eO kd (2^bar)) (eM kd (2^bar)) (eP kd (2^bar))),none] h=.ok (.int 0) h:=mh;have bo:eJ (.int (b.lk:Nat)) (.int 0) h=.ok (.int (b.lk:Nat)) h:=by
  have:=k_ b.lk 0;rw[Nat.or_zero]at this;simp;exact this
 have fin:∀{a:Str},(ah (aG (tB (af a9 (af ay (aa 3) (mC (.int 0))) (mC (.str "never")))) (ai (mC (.str "never"))) aH) (ai (tK kD (mC (.str " ")) (ag (af aB (aO (bz (ag (mC (.str "plan")) ae))) (aO (cM 1 [] (bC (af ay (aa 3) (mC (.int 1)))) (ak 0) aR (bh aX (ag (aa 0) ae))))) ae)))) [⇑(.ref d),⇑(.lst [.str kd,.str (W bar)]),⇑(wD (eO kd (2^bar)) (eM kd (2^bar)) (eP kd (2^bar))),⇑dd] h=.rt (.str a) h->h_ [.ref d,.lst [.str kd,.str (W bar)]] h=.ok (.str a) h:=fun{a} e=>by
  refine fw (np:=2) (nn:=4) (b:=jj) (ds:=[.ref d,.lst [.str kd,.str (W bar)]]) rfl ?_ (qd _);show jj [⇑(.ref d),⇑(.lst [.str kd,.str (W bar)]),none,none] h=_;unfold jj;refine(bf (ρ':=[⇑(.ref d),⇑(.lst [.str kd,.str (W bar)]),none,none]) (h':=h) (by simp[-cW,in3])).trans ?_;refine(bf (ρ':=[⇑(.ref d),⇑(.lst [.str kd,.str (W bar)]),⇑(wD (eO kd (2^bar)) (eM kd (2^bar)) (eP kd (2^bar))),none]) (h':=h) ?_).trans ?_
  ·generalize yd b.n b.RO=Y at*
   generalize wD (eO kd (2^bar)) (eM kd (2^bar)) (eP kd (2^bar))=V at*;generalize((2^bar:Nat):Int)=v at*;have e1:(cQ (aa 1) (cN (mC (.int 1))) cL) [⇑(.ref d),⇑(.lst [.str kd,.str (W bar)]),none,none] h=.ok (.lst [.str (W bar)]) h:=by simp[c1]
   have e2:(af ay (ao cq "yard" (aa 0)) (mC (.int 0))) [⇑(.ref d),⇑(.lst [.str kd,.str (W bar)]),none,none] h=.ok (.int (b.n:Nat)) h:=by unfold af;rw[fy];exact i0
   have e4:(af ay (aa 1) (mC (.int 0))) [⇑(.ref d),⇑(.lst [.str kd,.str (W bar)]),none,none] h=.ok (.str kd) h:=by simp
   simp only[aj,ax,ag,ae,e4,e1,e2,pt,ws,bU,cG];rfl
  refine(bf (ρ':=[⇑(.ref d),⇑(.lst [.str kd,.str (W bar)]),⇑(wD (eO kd (2^bar)) (eM kd (2^bar)) (eP kd (2^bar))),⇑dd]) (h':=h) ?_).trans e;generalize yd b.n b.RO=Y at*;generalize wD (eO kd (2^bar)) (eM kd (2^bar)) (eP kd (2^bar))=V at*;simp[-ao, -aw, -eJ,fy,ms,ml,mh,bo,ep]
 rcases pI with⟨J,y,ds,p1,p2,p3,p4,p5,rfl⟩|⟨J,p1,p2,rfl⟩
 ·refine⟨dN ds,.inl ⟨J,y,ds,p1,p2,p3,p4,p5,rfl⟩,fin ?_⟩
  have hd:∀k∈ds,k<=12:=λk m=>by
   have:=w5.mp (zr.mp (Ha p4 k m)).1
   lia
  have ll:=p4.len;have sc:=HP ds hd h;have wl:((("plan":Str)::ds.map λk:Nat=>W k).map (·.length)).sum+(("plan":Str)::ds.map λk:Nat=>W k).length*(" ":Str).length<=16777216:=by
   have l1:(" ":Str).length=1:=⋯;have lp:("plan":Str).length=4:=⋯;have sl:=uD (l:=(ds.map λk:Nat=>W k).map (·.length)) (m:=2) λn hn=>by
    obtain⟨w,mw,rfl⟩:=qz.mp hn;obtain⟨k,mk,rfl⟩:=qz.mp mw;exact(bY (n:=k) ⋯ (by have:=hd k mk;lia)).1
   rw[qf,qf]at sl;rw[List.map_cons,gp,qw,qf,l1,lp]
   lia
  have jn:Txt.join (" ":Str) (("plan":Str)::ds.map λk:Nat=>W k)=dN ds:=by
   rw[vC,iS];unfold dN bL;rw[List.map_map];rfl
  have fj:kD (" ":Str) [.lst (D.str ("plan":Str)::(ds.map λk:Nat=>W k).map D.str)] h=.ok (.str (dN ds)) h:=by
   have sd:=GU (("plan":Str)::ds.map λk:Nat=>W k);rw[List.map_cons]at sd;have:(eB h (.lst (D.str ("plan":Str)::(ds.map λk:Nat=>W k).map D.str))).bind pO=⇑(("plan":Str)::ds.map λk:Nat=>W k):=sd;show(oR ((eB h (.lst (D.str ("plan":Str)::(ds.map λk:Nat=>W k).map D.str))).bind pO) h).bind _=_;rw[this];show R7 _ _=_;rw[R7,if_pos wl,jn]
  have nl:ar ds=iL ds:=by unfold ar;rw[List.map_map];rfl
  rw[nl];have lU:((ds.map λk:Nat=>W k).map D.str).length<=4096:=by rw[qf,qf];lia
  have lI:(iL ds).length<16777216:=by rw[qf];lia
  generalize(ds.map λk:Nat=>W k).map D.str=U at*;generalize iL ds=I at*;simp[-kD,lz,Td,sc,lI,show 1+U.length<=16777216 by lia,fj]
 ·exact⟨_,.inr ⟨J,p1,p2,rfl⟩,fin (qD (by simp))⟩
theorem Pt:("reach":Str).length=5/\("reach ":Str)=("reach":Str)++⟨#[32]⟩/\32∉("reach":Str).cps.toList/\¬("reach":Str)=("bars":Str)/\¬("feed":Str)=("reach":Str)/\¬("earth":Str)=("reach":Str)/\¬("breaker":Str)=("reach":Str)/\¬("splitter":Str)=("reach":Str)/\¬("turn":Str)=("reach":Str)/\¬("lock":Str)=("reach":Str)/\¬("unlock":Str)=("reach":Str)/\¬("back":Str)=("reach":Str)/\¬("reach":Str)=("permit":Str)/\¬("reach":Str)=("locks":Str):=⋯
theorem Im:∀k∈K3,k.length<=8/\32∉k.cps.toList:=⋯
def gQ(kd:Str)(bar:Nat):Str:=("reach ":Str)++kd++(" ":Str)++aV (bar:Int)
theorem OI(D0:Dk h d p r b)(hg:b.gv=[])(hk:kd∈K3)(hb:bar<b.n):∃a,D7 b kd bar a/\br [.ref d,.str (gQ kd bar)] h=.ok (.str a) h:=by
 obtain⟨a,sI,e⟩:=PM D0 hg hk hb;refine⟨a,sI,?_⟩;obtain⟨l5,e0,r32,nb,a1,a2,a3,a4,t1,t2,t3,t4,np,nl⟩:=Pt;obtain⟨k8,k32⟩:=Im kd hk;have nf:=bY (n:=bar) ⋯ (by have:=D0.a.ok.2.1;lia);have er:gQ kd bar=Str.join ⟨#[32]⟩ [("reach":Str),kd,W bar]:=by
  unfold gQ;rw[e0,iS];show _=("reach":Str)++⟨#[32]⟩++(kd++⟨#[32]⟩++aV (bar:Int));simp only[oC]
 have sp:Txt.split (gQ kd bar) ⟨#[32]⟩=[("reach":Str),kd,W bar]:=by
  rw[er];exact BZ (λz=>nomatch z) λw mw=>by
   simp only[qg,zv,or_false]at mw;rcases mw with rfl|rfl|rfl
   ·exact r32
   ·exact k32
   ·exact nf.2.2.1
 have ln:(gQ kd bar).length<=1000:=by
  have jl:=oX (c:=32) [("reach":Str),kd,W bar] (λz=>nomatch z);rw[er];simp at jl;have:=nf.1
  lia
 have hd:=wL (row:=gQ kd bar) (k:=("reach":Str)) (ws:=[kd,W bar]) sp ⋯ (by simp) d;refine fw (np:=2) (nn:=5) (b:=bQ) (ds:=[.ref d,.str (gQ kd bar)]) rfl ?_ (qd _);show bQ [⇑(.ref d),⇑(.str (gQ kd bar)),none,none,none] h=_;have mm:=(qB D0.o (tab:=CU) (f:="reach") (z:=h_) (m:=aa 0) (l:=ag (cQ (aa 2) (cN (mC (.int 1))) cL) ae) (ρ:=[⇑(.ref d),⇑(.str (gQ kd bar)),⇑(.lst ([("reach":Str),kd,W bar].map D.str)),⇑(.str ("reach":Str)),none]) (ds:=[.lst [.str kd,.str (W bar)]]) rfl ⋯ (by simp) (by simp[cut,aT])).trans e;unfold bQ;rw[hd,BY D0.o rfl nb];generalize [("reach":Str),kd,W bar].map D.str=T at*;generalize gQ kd bar=R at*;refine(bf (ρ':=[⇑(.ref d),⇑(.str R),⇑(.lst T),⇑(.str ("reach":Str)),none]) (h':=h) (by simp[fM,a1,a2,a3,a4])).trans ?_;refine(bf (ρ':=[⇑(.ref d),⇑(.str R),⇑(.lst T),⇑(.str ("reach":Str)),none]) (h':=h) (by simp[fM,t1,t2,t3,t4])).trans ?_;refine(bf (ρ':=[⇑(.ref d),⇑(.str R),⇑(.lst T),⇑(.str ("reach":Str)),none]) (h':=h) (by simp[np])).trans ?_;refine(bf (ρ':=[⇑(.ref d),⇑(.str R),⇑(.lst T),⇑(.str ("reach":Str)),none]) (h':=h) (by simp[nl])).trans ?_;exact qD (by simp[-aw,mm])
noncomputable def j4:List Str:=(["0","1","2","3","4","5","6"]:List String).map Str.ofString
theorem qA:∀k:Fin 7,W k.val∈j4/\intText? (W k.val)=⇑(k.val:Int)/\(W k.val).length<=640:=⋯
theorem xT(l:List Nat):ar l=iL l:=by unfold ar;rw[List.map_map];rfl
theorem HM{cnt:Nat}(hc:cnt<=7)(x0 x2:Option D){h:MH}:∀(us acc:List Nat) (x4:Option D),(∀k∈us,k<cnt)->acc.length+us.length<=5000->∃Xe,bO (ak 4) uN ((us.map λk:Nat=>W k).map D.str) [x0,⇑(.int (cnt:Nat)),x2,⇑(.ref h.length),x4] (h++[⇑(.lst (iL acc))])=.nx [x0,⇑(.int (cnt:Nat)),x2,⇑(.ref h.length),Xe] (h++[⇑(.lst (iL (acc++us)))])
 | [],acc,x4,_,_=>⟨x4,by rw[zm];rfl⟩
 | k::us,acc,x4,hk,hl=>by
  have k7:k<cnt:=hk k (qa ..);obtain⟨i1,i2,i3⟩:=qA ⟨k,⋯⟩;have i2:intText? (W (k:Nat))=⇑(k:Int):=i2;have i3:(W (k:Nat)).length<=640:=i3;have hin:=G5 (W (k:Nat)) j4 true (h++[⇑(.lst (iL acc))]);rw[decide_eq_true i1]at hin;have hin:cW true (.str (W (k:Nat))) (.lst (j4.map D.str)) (h++[⇑(.lst (iL acc))])=.ok (.bl false) (h++[⇑(.lst (iL acc))]):=hin;have nk:¬(cnt:Int)<=(k:Int):=⋯;simp only[qw]at hl;obtain⟨Xe,e⟩:=HM hc x0 x2 (h:=h) us (acc++[k]) ⇑(.str (W (k:Nat))) (λj m=>hk j (q8 _ m)) (by simp;lia);refine⟨Xe,?_⟩;have ea:acc++k::us=(acc++[k])++us:=by simp
  rw[ea];have la:(iL acc).length<16777216:=by rw[qf];lia
  have ia:iL acc++[.int (k:Nat)]=iL (acc++[k]):=by simp[iL]
  have st:uN [x0,⇑(.int (cnt:Nat)),x2,⇑(.ref h.length),⇑(.str (W (k:Nat)))] (h++[⇑(.lst (iL acc))])=.nx [x0,⇑(.int (cnt:Nat)),x2,⇑(.ref h.length),⇑(.str (W (k:Nat)))] (h++[⇑(.lst (iL (acc++[k])))]):=by
   rw[<-ia];unfold uN;generalize W (k:Nat)=V at*;generalize iL acc=A at*;refine(bf (ρ':=[x0,⇑(.int (cnt:Nat)),x2,⇑(.ref h.length),⇑(.str V)]) (h':=h++[⇑(.lst A)]) ?_).trans ?_
   ·simp only[j4,List.map_cons,zo]at hin
    simp[-cW,hin,i2,i3,show ¬cnt<=k by lia]
   ·simp[i2,i3,la]
  have g0:ak 4 (.str (W (k:Nat))) [x0,⇑(.int (cnt:Nat)),x2,⇑(.ref h.length),x4] (h++[⇑(.lst (iL acc))])=.nx [x0,⇑(.int (cnt:Nat)),x2,⇑(.ref h.length),⇑(.str (W (k:Nat)))] (h++[⇑(.lst (iL acc))]):=rfl;rw[List.map_cons,List.map_cons];simp only[bO,g0,st,e]
theorem J_(hd:∀k∈ds,k<=12):Txt.split (dN ds) ⟨#[32]⟩=("plan":Str)::ds.map (λk:Nat=>W k)/\(dN ds).length<=5+3*ds.length:=by
 have p32:("plan":Str).length=4/\32∉("plan":Str).cps.toList:=⋯;have er:dN ds=Str.join ⟨#[32]⟩ (("plan":Str)::ds.map λk:Nat=>W k):=by
  unfold dN bL;rw[List.map_map];rfl
 have wf:∀w∈("plan":Str)::ds.map (λk:Nat=>W k),32∉w.cps.toList:=λw mw=>by
  rcases qg.mp mw with rfl|mw
  ·exact p32.2
  ·obtain⟨k,mk,rfl⟩:=qz.mp mw
   exact(bY (n:=k) ⋯ (by have:=hd k mk;lia)).2.2.1
 rw[er];refine⟨BZ (λz=>nomatch z) wf,?_⟩;have jl:=oX (c:=32) (("plan":Str)::ds.map λk:Nat=>W k) (λz=>nomatch z);have sl:=uD (l:=(ds.map λk:Nat=>W k).map (·.length)) (m:=2) λn hn=>by
  obtain⟨w,mw,rfl⟩:=qz.mp hn;obtain⟨k,mk,rfl⟩:=qz.mp mw;exact(bY (n:=k) ⋯ (by have:=hd k mk;lia)).1
 rw[qf,qf]at sl;rw[List.map_cons,gp,qw,qf,p32.1]at jl
 lia
theorem Qe(hd:∀k∈ds,k<cnt)(hc:cnt<=7)(hl:ds.length<=4096)(hb:Hb h):ja [.str (dN ds),.int (cnt:Nat)] h=.ok (.lst (iL ds)) h:=by
 obtain⟨sp,ln⟩:=J_ (ds:=ds) λk m=>by have:=hd k m;lia
 obtain⟨x4,e⟩:=HM hc ⇑(.str (dN ds)) ⇑(.lst (.str ("plan":Str)::(ds.map λk:Nat=>W k).map D.str)) (h:=h) ds [] none hd (by simp;lia);have lb:(" ":Str).length=1:=⋯;rw[<-iS]at sp;have lw:((ds.map λk:Nat=>W k).map D.str).length<=4096:=by rw[qf,qf];exact hl
 have ws:(("plan":Str)::ds.map λk:Nat=>W k).map D.str=.str ("plan":Str)::(ds.map λk:Nat=>W k).map D.str:=rfl;have ll:(("plan":Str)::ds.map λk:Nat=>W k).length<=16777216:=by simp;lia
 have ct:∀U:List D,cut (D.str ("plan":Str)::U) ⇑1 none=U:=λU=>by
  have tk:U.take (U.length+1 - 1)=U:=by simp
  simp[cut,aT]
 have key:jG [⇑(.str (dN ds)),⇑(.int (cnt:Nat)),none,none,none] h=.rt (.lst (iL ds)) (h++[none]):=by
  unfold jG;generalize dN ds=R at*;refine(bf (ρ':=[⇑(.str R),⇑(.int (cnt:Nat)),none,none,none]) (h':=h) (by simp[iI,B_,yO])).trans ?_;refine(bf (ρ':=[⇑(.str R),⇑(.int (cnt:Nat)),⇑(.lst (.str ("plan":Str)::(ds.map λk:Nat=>W k).map D.str)),none,none]) (h':=h) ?_).trans ?_
  ·rw[<-ws]
   generalize(("plan":Str)::ds.map λk:Nat=>W k)=Q at*;simp[sp,lb,ll,show R.length<=16777216 by lia]
  generalize(ds.map λk:Nat=>W k).map D.str=U at*;refine(bf (ρ':=[⇑(.str R),⇑(.int (cnt:Nat)),⇑(.lst (.str ("plan":Str)::U)),none,none]) (h':=h) (by simp)).trans ?_;refine(bf (ρ':=[⇑(.str R),⇑(.int (cnt:Nat)),⇑(.lst (.str ("plan":Str)::U)),⇑(.ref h.length),none]) (h':=h++[⇑(.lst [])]) (by simp)).trans ?_;have e:bO (ak 4) uN U [⇑(.str R),⇑(.int (cnt:Nat)),⇑(.lst (.str ("plan":Str)::U)),⇑(.ref h.length),none] (h++[⇑(.lst [])])=.nx [⇑(.str R),⇑(.int (cnt:Nat)),⇑(.lst (.str ("plan":Str)::U)),⇑(.ref h.length),x4] (h++[⇑(.lst (iL ds))]):=e;refine(bf (ρ':=[⇑(.str R),⇑(.int (cnt:Nat)),⇑(.lst (.str ("plan":Str)::U)),⇑(.ref h.length),x4]) (h':=h++[⇑(.lst (iL ds))]) ?_).trans ?_
  ·have li:bC (cQ (aa 2) (cN (mC (.int 1))) cL) [⇑(.str R),⇑(.int (cnt:Nat)),⇑(.lst (.str ("plan":Str)::U)),⇑(.ref h.length),none] (h++[⇑(.lst [])])=.ok (none,U) (h++[⇑(.lst [])]):=by simp[ct]
   rw[kL,li];simp only[cG,iz];exact e
  generalize iL ds=I at*;simp
 refine DO (b:=jG) (np:=2) (nn:=5) (ds:=[.str (dN ds),.int (cnt:Nat)]) (J:=[none]) rfl key hb ?_;simp only[D.R5];rw[<-xT];exact vb _ _
theorem ID(hg:b.gv=[])(hw:b.RO[k]?=⇑w):fE b k w=none↔b.lk.testBit k=false/\bE b.RO b.st k=true:=by
 have h0:(j7 b.gv).testBit k=false:=by rw[hg];simp[j7,SR.all]
 have hm:bE b.RO b.st k=(!gK b.st k w b.RO&&gH (b.st^^^2^k) b.RO):=by unfold bE;rw[hw]
 rw[hm];unfold fE;rw[h0];cases b.lk.testBit k<;>cases gK b.st k w b.RO<;>cases gH (b.st^^^2^k) b.RO<;>simp
structure R4 (b c:Bd):Prop where
 n:c.n=b.n
 s:c.RO=b.RO
 l:c.lk=b.lk
 g:c.gv=b.gv
theorem GG(b:Bd)(k:Nat)(w:Sw):R4 b (cT b k w):=by
 unfold cT;split<;>exact⟨rfl,rfl,rfl,rfl⟩
theorem R4.tr(s:R4 a b)(t:R4 b c):R4 a c:=⟨t.n.trans s.n,t.s.trans s.s,t.l.trans s.l,t.g.trans s.g⟩
def fF(b:Bd)(t:Nat)(y:Nat):Prop:=∃j,j<=t/\y∈(aD b.RO (eI b) b.st j).2
theorem KN(s:R4 b c)(i:fF b t c.st)(hk:k∈eI b)(hm:bE b.RO c.st k=true):fF b (t+1) (c.st^^^2^k):=by
 obtain⟨j,hj,m⟩:=i;obtain⟨j',hj',m'⟩:=MX b.RO (eI b) b.st m hk hm;exact⟨j',⋯,m'⟩
theorem uG:("turn ":Str).length<=20/\("turn ":Str)=("turn":Str)++⟨#[32]⟩/\("lock ":Str).length<=20/\("lock ":Str)=("lock":Str)++⟨#[32]⟩:=⋯
theorem BV(lu:u.length<=20)(eu:u=w++⟨#[32]⟩)(hk:k<=12)(h:MH):aX [.int (k:Nat)] h=.ok (.str (aV (k:Int))) h/\aB (.str u) (.str (aV (k:Int))) h=.ok (.str (dC w k)) h:=by
 have lg:(k:Nat).log2<1920:=zg (wb k) ⋯;have lw:(aV (k:Int)).length<=2:=(bY (n:=k) ⋯ ⋯).1;refine⟨by simp[lg],?_⟩;have er:u++aV (k:Int)=dC w k:=by rw[eu];rfl
 rw[<-er];exact Cp ⋯ ⋯ h
section
variable {d p r : Nat} {b0 : Bd} (hg : b0.gv = []) {kd : Str} (hk : kd ∈ K3) {bar : Nat} (hb : bar < b0.n) (x1 : Option D)
include hg hk hb
theorem L6(D0:Dk h d p r b)(s:R4 b0 b)(il:fF b0 t b.st)(c:Int):(∃H b' t',Dk H d p r b'/\R4 b0 b'/\fF b0 t' b'.st/\H.length=h.length/\(∀j,j≠p->H[j]?=h[j]?)/\jP [⇑(.ref d),x1,⇑(.int (b0.RO.length:Nat)),⇑(.str kd),⇑(.int (bar:Nat)),⇑(.int (t:Nat)),⇑(.int c)] h=.nx [⇑(.ref d),x1,⇑(.int (b0.RO.length:Nat)),⇑(.str kd),⇑(.int (bar:Nat)),⇑(.int (t':Nat)),⇑(.int c)] H)\/
  (∃H t' y,Hb H/\fF b0 t' y/\de kd bar y b0.RO=true/\H.length=h.length/\(∀j,j≠p->H[j]?=h[j]?)/\jP [⇑(.ref d),x1,⇑(.int (b0.RO.length:Nat)),⇑(.str kd),⇑(.int (bar:Nat)),⇑(.int (t:Nat)),⇑(.int c)] h=.rt (.int (t':Nat)) H):=by
 by_cases z:b0.RO.length=0
 ·refine .inl ⟨h,b,t,D0,s,il,rfl,λ_ _=>rfl,?_⟩
  rw[z];simp[jP]
 have n0:0<b0.RO.length:=⋯;have nn:(0:Int)<(b0.RO.length:Int):=⋯;obtain⟨k,ek⟩:∃k:Nat,c / 3 % (b0.RO.length:Int)=k:=⟨(c / 3 % (b0.RO.length:Int)).toNat,(Int.toNat_of_nonneg (kh _ ⋯)).symm⟩;have kl:k<b0.RO.length:=by have:=wt (c / 3) nn;lia
 have hw:b.RO[k]?=⇑(b0.RO[k]):=by rw[s.s];exact qk kl
 obtain⟨e1,D1⟩:=Ba D0 hw;have l12:b0.RO.length<=12:=by have:=D0.a.ok.2.2.1;rw[s.s]at this;exact this
 obtain⟨fs,ca⟩:=BV uG.1 uG.2.1 (k:=k) ⋯ h;have M:aP (.int (c / 3)) (.int (b0.RO.length:Nat)) h=.ok (.int (k:Nat)) h:=by simp[n0,ek]
 have D3:aU (.int c) (.int 3) h=.ok (.int (c / 3)) h:=by simp
 have S1:=s.tr (GG b k b0.RO[k]);have wi:=BS D1 hk (bar:=bar) (by rw[S1.n];exact hb);have fr:∀j,j≠p->(h.set p ((cT b k b0.RO[k]).cell r))[j]?=h[j]?:=λj hj=>qh (Ne.symm hj);have ad:∀H:MH,aB (.int (t:Nat)) (.int 1) H=.ok (.int ((t+1:Nat):Int)) H:=λH=>by simp
 have lc:(ax bV (ag (aa 0) (ag (af aB (mC (.str "turn ")) (bh aX (ag (af aP (af aU (aa 6) (mC (.int 3))) (aa 2)) ae))) ae))) [⇑(.ref d),x1,⇑(.int (b0.RO.length:Nat)),⇑(.str kd),⇑(.int (bar:Nat)),⇑(.int (t:Nat)),⇑(.int c)] h=.ok (.bl (fE b k b0.RO[k]).isNone) (h.set p ((cT b k b0.RO[k]).cell r)):=by
  generalize aV (k:Int)=F at*;simp[-aP, -aU, -aB, -aX,M,D3,fs,ca];exact e1
 have hl:(h.set p ((cT b k b0.RO[k]).cell r)).length=h.length:=zk;have tg:tB (af kY (aa 2) (mC (.int 0))) [⇑(.ref d),x1,⇑(.int (b0.RO.length:Nat)),⇑(.str kd),⇑(.int (bar:Nat)),⇑(.int (t:Nat)),⇑(.int c)] h=.ok true h:=by simp[n0]
 cases q:fE b k b0.RO[k]with
 | some x=>
  rw[q]at lc;have eN:cT b k b0.RO[k]=b:=if_neg (by rw[q];exact λz=>nomatch z);refine .inl ⟨_,_,t,D1,S1,by rw[eN];exact il,hl,fr,?_⟩;generalize h.set p ((cT b k b0.RO[k]).cell r)=H at*;unfold jP;simp only[aG,bW,tg,bU,aA,lc];simp
 | none=>
  rw[q]at lc;obtain⟨q1,q2⟩:=(ID (by rw[s.g];exact hg) hw).mp q;have eN:cT b k b0.RO[k]={b with st:=b.st^^^2^k}:=if_pos q;have kf:k∈eI b0:=zr.mpr ⟨w5.mpr kl,by rw[<-s.l,q1];rfl⟩;have il2:fF b0 (t+1) (cT b k b0.RO[k]).st:=by
   rw[eN];exact KN s il kf (by rw[<-s.s];exact q2)
  have ms:(cT b k b0.RO[k]).RO=b0.RO:=S1.s;rw[ms]at wi;generalize cT b k b0.RO[k]=b1 at*;cases m:de kd bar b1.st b0.RO with
  | true=>
   rw[m]at wi;refine .inr ⟨_,t+1,_,D1.a.hb,il2,m,hl,fr,?_⟩;have ad:=ad (h.set p (b1.cell r));generalize h.set p (b1.cell r)=H at*;generalize((t+1:Nat):Int)=t1 at*;unfold jP;simp only[aG,bW,tg,bU,aA,lc];simp[-aB,ad,wi]
  | false=>
   rw[m]at wi;refine .inl ⟨_,_,t+1,D1,S1,il2,hl,fr,?_⟩;have ad:=ad (h.set p (b1.cell r));generalize h.set p (b1.cell r)=H at*;generalize((t+1:Nat):Int)=t1 at*;unfold jP;simp only[aG,bW,tg,bU,aA,lc];simp[-aB,ad,wi]
theorem GS:∀(cs:List D) (h:MH) (b:Bd) (t:Nat) (x6:Option D),(∀c∈cs,∃i:Int,c=.int i)->Dk h d p r b->R4 b0 b->fF b0 t b.st->(∃H t' x6',Hb H/\H.length=h.length/\(∀j,j≠p->H[j]?=h[j]?)/\bO (ak 6) jP cs [⇑(.ref d),x1,⇑(.int (b0.RO.length:Nat)),⇑(.str kd),⇑(.int (bar:Nat)),⇑(.int (t:Nat)),x6] h=.nx [⇑(.ref d),x1,⇑(.int (b0.RO.length:Nat)),⇑(.str kd),⇑(.int (bar:Nat)),⇑(.int (t':Nat)),x6'] H)\/
  (∃H t' y,Hb H/\fF b0 t' y/\de kd bar y b0.RO=true/\H.length=h.length/\(∀j,j≠p->H[j]?=h[j]?)/\bO (ak 6) jP cs [⇑(.ref d),x1,⇑(.int (b0.RO.length:Nat)),⇑(.str kd),⇑(.int (bar:Nat)),⇑(.int (t:Nat)),x6] h=.rt (.int (t':Nat)) H)
 | [],h,b,t,x6,_,D0,_,_=>.inl ⟨h,t,x6,D0.a.hb,rfl,λ_ _=>rfl,rfl⟩
 | c::cs,h,b,t,x6,hc,D0,s,il=>by
  obtain⟨i,rfl⟩:=hc c (qa ..);have g0:ak 6 (.int i) [⇑(.ref d),x1,⇑(.int (b0.RO.length:Nat)),⇑(.str kd),⇑(.int (bar:Nat)),⇑(.int (t:Nat)),x6] h=.nx [⇑(.ref d),x1,⇑(.int (b0.RO.length:Nat)),⇑(.str kd),⇑(.int (bar:Nat)),⇑(.int (t:Nat)),⇑(.int i)] h:=rfl;rcases L6 hg hk hb x1 D0 s il i with⟨H,b',t',D1,s1,il1,l1,f1,e⟩|⟨H,t',y,hH,iy,my,l1,f1,e⟩
  ·rcases GS cs H b' t' ⇑(.int i) (λc m=>hc c (q8 _ m)) D1 s1 il1 with⟨H2,t2,x2,h2,l2,f2,e2⟩|⟨H2,t2,y,h2,iy,my,l2,f2,e2⟩
   ·exact .inl ⟨H2,t2,x2,h2,l2.trans l1,λj hj=>(f2 j hj).trans (f1 j hj),by simp only[bO,g0,e,e2]⟩
   ·exact .inr ⟨H2,t2,y,h2,iy,my,l2.trans l1,λj hj=>(f2 j hj).trans (f1 j hj),by simp only[bO,g0,e,e2]⟩
  ·exact .inr ⟨H,t',y,hH,iy,my,l1,f1,by simp only[bO,g0,e]⟩
end
theorem Pa(D0:Dk h d p r b)(hg:b.gv=[])(hk:kd∈K3)(hb:bar<b.n)(hc:∀c∈cs,∃i:Int,c=.int i)(lc:cs.length<16777216):∃(v:Int) (H:MH),Hb H/\H.length=h.length/\(∀j,j≠p->H[j]?=h[j]?)/\(0<=v->∃t y:Nat,v=t/\fF b t y/\de kd bar y b.RO=true)/\iq [.ref d,.lst cs,.int (b.RO.length:Nat),.str kd,.int (bar:Nat)] h=.ok (.int v) H:=by
 have wi:=BS D0 hk hb;have il0:fF b 0 b.st:=⟨0,qd _,by simp[aD]⟩;have key:∃(v:Int) (H:MH),Hb H/\H.length=h.length/\(∀j,j≠p->H[j]?=h[j]?)/\(0<=v->∃t y:Nat,v=t/\fF b t y/\de kd bar y b.RO=true)/\kB [⇑(.ref d),⇑(.lst cs),⇑(.int (b.RO.length:Nat)),⇑(.str kd),⇑(.int (bar:Nat)),none,none] h=.rt (.int v) H:=by
  unfold kB;cases m:de kd bar b.st b.RO with
  | true=>
   rw[m]at wi;exact⟨0,h,D0.a.hb,rfl,λ_ _=>rfl,λ_=>⟨0,b.st,rfl,il0,m⟩,qD (by simp[wi])⟩
  | false=>
   rw[m]at wi;have s1:(aG (aA (ax ft (ag (aa 0) (ag (aa 3) (ag (aa 4) ae))))) (ai (mC (.int 0))) aH) [⇑(.ref d),⇑(.lst cs),⇑(.int (b.RO.length:Nat)),⇑(.str kd),⇑(.int (bar:Nat)),none,none] h=.nx [⇑(.ref d),⇑(.lst cs),⇑(.int (b.RO.length:Nat)),⇑(.str kd),⇑(.int (bar:Nat)),none,none] h:=by simp[wi]
   have s2:(aj (mC (.int 0)) (ak 5)) [⇑(.ref d),⇑(.lst cs),⇑(.int (b.RO.length:Nat)),⇑(.str kd),⇑(.int (bar:Nat)),none,none] h=.nx [⇑(.ref d),⇑(.lst cs),⇑(.int (b.RO.length:Nat)),⇑(.str kd),⇑(.int (bar:Nat)),⇑(.int 0),none] h:=by simp
   rw[bf s1,bf s2];have li:bC (aa 1) [⇑(.ref d),⇑(.lst cs),⇑(.int (b.RO.length:Nat)),⇑(.str kd),⇑(.int (bar:Nat)),⇑(.int 0),none] h=.ok (none,cs) h:=by simp
   rcases GS hg hk hb ⇑(.lst cs) cs h b 0 none hc D0 ⟨rfl,rfl,rfl,rfl⟩ il0 with⟨H,t',x6,hH,l1,f1,e⟩|⟨H,t',y,hH,iy,my,l1,f1,e⟩
   ·refine⟨-1,H,hH,l1,f1,λz=>absurd z ⋯,(bf (ρ':=[⇑(.ref d),⇑(.lst cs),⇑(.int (b.RO.length:Nat)),⇑(.str kd),⇑(.int (bar:Nat)),⇑(.int (t':Nat)),x6]) (h':=H) ?_).trans (by simp)⟩
    rw[kL,li];simp only[cG,iz];exact e
   ·refine⟨(t':Nat),H,hH,l1,f1,λ_=>⟨t',y,rfl,iy,my⟩,qD ?_⟩
    rw[kL,li];simp only[cG,iz];exact e
 obtain⟨v,H,hH,l1,f1,hv,e⟩:=key;exact⟨v,H,hH,l1,f1,hv,fw (np:=5) (nn:=7) (b:=kB) (ds:=[.ref d,.lst cs,.int (b.RO.length:Nat),.str kd,.int (bar:Nat)]) rfl e (ke l1)⟩
def fk(RO:List Sw)(fs:List Nat):Nat->List Nat->Nat->Prop
 | x,[],y=>x=y
 | x,k::ds,y=>k∈fs/\bE RO x k=true/\fk RO fs (x^^^2^k) ds y
theorem Hd{RO:List Sw}{fs:List Nat}{k:Nat}(hk:k∈fs):∀(ds:List Nat) (x y:Nat),bE RO y k=true->fk RO fs x ds y->fk RO fs x (ds++[k]) (y^^^2^k)
 | [],x,y,hm,h=>by
  have h:x=y:=h;subst h;exact⟨hk,hm,rfl⟩
 | j::ds,x,y,hm,⟨h1,h2,h3⟩=>⟨h1,h2,Hd hk ds _ y hm h3⟩
theorem QD(b:Back RO fs C st j y ds):fk RO fs st ds y:=by
 induction b with
 | nil=>rfl
 | @cons j y k ds h1 h2 h3 _ ih=>
  have:=Hd h2 ds st _ h3 ih;rw[E_]at this;exact this
section
variable {d p r : Nat} {b0 : Bd} (hg : b0.gv = []) {kd : Str} (hk : kd ∈ K3) {bar : Nat} (hb : bar < b0.n) {ds : List Nat} {y : Nat} (no : ∀ i, i < ds.length -> ∀ x ∈ (aD b0.RO (eI b0) b0.st i).2, de kd bar x b0.RO = false)
include hg hk hb no
theorem Li:∀(m i:Nat) (h:MH) (b:Bd) (x4:Option D),i+m=ds.length->Dk h d p r b->R4 b0 b->fF b0 i b.st->fk b0.RO (eI b0) b.st (ds.drop i) y->∃H b' Xe,Dk H d p r b'/\R4 b0 b'/\b'.st=y/\H.length=h.length/\bO (ak 4) B9 ((List.range' i m).map λk:Nat=>D.int k) [⇑(.ref d),⇑(.lst (iL ds)),⇑(.str kd),⇑(.int (bar:Nat)),x4] h=.nx [⇑(.ref d),⇑(.lst (iL ds)),⇑(.str kd),⇑(.int (bar:Nat)),Xe] H
 | 0,i,h,b,x4,e,D0,s,il,w=>by
  have:ds.drop i=[]:=List.drop_eq_nil_of_le ⋯;rw[this]at w;exact⟨h,b,x4,D0,s,w,rfl,rfl⟩
 | m+1,i,h,b,x4,e,D0,s,il,w=>by
  have li:i<ds.length:=⋯;rw[zl li]at w;obtain⟨w1,w2,w3⟩:=w;have kl:=Hw w1;have hw:b.RO[ds[i]]?=⇑(b0.RO[ds[i]]'kl.1):=by rw[s.s];exact qk kl.1
  have q:fE b ds[i] (b0.RO[ds[i]]'kl.1)=none:=(ID (by rw[s.g];exact hg) hw).mpr ⟨by rw[s.l];exact kl.2,by rw[s.s];exact w2⟩;obtain⟨e1,D1⟩:=Ba D0 hw;rw[q]at e1;have S1:=s.tr (GG b ds[i] (b0.RO[ds[i]]'kl.1));have eN:cT b ds[i] (b0.RO[ds[i]]'kl.1)={b with st:=b.st^^^2^ds[i]}:=if_pos q;have il2:fF b0 (i+1) (cT b ds[i] (b0.RO[ds[i]]'kl.1)).st:=by
   rw[eN];exact KN s il w1 w2
  have w4:fk b0.RO (eI b0) (cT b ds[i] (b0.RO[ds[i]]'kl.1)).st (ds.drop (i+1)) y:=by rw[eN];exact w3
  have wi:=BS D0 hk (bar:=bar) (by rw[s.n];exact hb);rw[s.s]at wi;obtain⟨j,hj,mj⟩:=il;rw[no j ⋯ _ mj]at wi;have l12:b0.RO.length<=12:=by have:=D0.a.ok.2.2.1;rw[s.s]at this;exact this
  obtain⟨fs,ca⟩:=BV uG.1 uG.2.1 (k:=ds[i]) ⋯ h;have ix:ay (.lst (iL ds)) (.int (i:Nat)) h=.ok (.int (ds[i]:Nat)) h:=by
   have:cx (iL ds) (i:Int)=⇑(.int (ds[i]:Nat)):=xV (by rw[z9,qk li];rfl);generalize iL ds=I at*;simp[this]
  obtain⟨H,b',Xe,D2,s2,ey,l2,e2⟩:=Li m (i+1) _ _ ⇑(.int (i:Nat)) ⋯ D1 S1 il2 w4;refine⟨H,b',Xe,D2,s2,ey,by rw[l2];exact zk,?_⟩;have st:B9 [⇑(.ref d),⇑(.lst (iL ds)),⇑(.str kd),⇑(.int (bar:Nat)),⇑(.int (i:Nat))] h=.nx [⇑(.ref d),⇑(.lst (iL ds)),⇑(.str kd),⇑(.int (bar:Nat)),⇑(.int (i:Nat))] (h.set p ((cT b ds[i] (b0.RO[ds[i]]'kl.1)).cell r)):=by
   unfold B9;generalize h.set p ((cT b ds[i] (b0.RO[ds[i]]'kl.1)).cell r)=H at*;generalize aV (ds[i]:Int)=F at*;generalize iL ds=I at*;have e1:bV [.ref d,.str (dC ("turn":Str) ds[i])] h=.ok (.bl true) H:=e1;simp[-ay, -aB, -aX,wi,ix,fs,ca,e1]
  have g0:ak 4 (.int (i:Nat)) [⇑(.ref d),⇑(.lst (iL ds)),⇑(.str kd),⇑(.int (bar:Nat)),x4] h=.nx [⇑(.ref d),⇑(.lst (iL ds)),⇑(.str kd),⇑(.int (bar:Nat)),⇑(.int (i:Nat))] h:=rfl;rw[List.range'_succ,List.map_cons];simp only[bO,g0,st,e2]
end
theorem Q9(D0:Dk h d p r b)(hg:b.gv=[])(hk:kd∈K3)(hb:bar<b.n)(hl:ds.length<=4096)(no:∀i,i<ds.length->∀x∈(aD b.RO (eI b) b.st i).2,de kd bar x b.RO=false)(w:fk b.RO (eI b) b.st ds y)(my:de kd bar y b.RO=true):∃H,H.length=h.length/\j_ [.ref d,.lst (iL ds),.str kd,.int (bar:Nat)] h=.ok (.bl true) H:=by
 obtain⟨H,b',x4,D1,s,ey,l1,e⟩:=Li hg hk hb no ds.length 0 h b none ⋯ D0 ⟨rfl,rfl,rfl,rfl⟩ ⟨0,qd _,by simp[aD]⟩ w;have wi:=BS D1 hk (bar:=bar) (by rw[s.n];exact hb);rw[s.s,ey,my]at wi;refine⟨H,l1,fw (np:=4) (nn:=5) (b:=jq) (ds:=[.ref d,.lst (iL ds),.str kd,.int (bar:Nat)]) rfl ?_ (ke l1)⟩;show jq [⇑(.ref d),⇑(.lst (iL ds)),⇑(.str kd),⇑(.int (bar:Nat)),none] h=_;have rg:Vx 0 ds.length=(List.range' 0 ds.length).map λk:Nat=>D.int k:=by rw[B6,List.range_eq_range']
 rw[<-rg]at e;have li:(iL ds).length=ds.length:=qf _;unfold jq;generalize iL ds=I at*;refine(bf (ρ':=[⇑(.ref d),⇑(.lst I),⇑(.str kd),⇑(.int (bar:Nat)),x4]) (h':=H) (by simp[li,show ds.length<=16777216 by lia,show ds.length<16777216 by lia,show ds.length<4611686018427387904 by lia,e])).trans ?_;simp[wi]
def fe:ME:=tK kD (mC (.str " ")) (ag (af aB (aO (bz (ag (af ay (aa 4) (mC (.int 0))) ae))) (aO (cM 1 [] (bC (cQ (aa 4) (cN (mC (.int 1))) cL)) (ak 0) aR (bh aX (ag (aa 0) ae))))) ae)
theorem EU(x a:D):cut [x,a] ⇑1 none=[a]:=by simp[cut,aT]
theorem Fb(x a b:D):cut [x,a,b] ⇑1 none=[a,b]:=by simp[cut,aT]
theorem lZ(hk:k.length<=8)(ha:a<=12)(x0 x1 x2 x3:Option D)(h:MH):fe [x0,x1,x2,x3,⇑(.lst [.str k,.int (a:Nat)])] h=.ok (.str (bL (k,[(a:Int)]))) h:=by
 have lg:(a:Nat).log2<1920:=zg (wb a) ⋯;have lw:(aV (a:Int)).length<=2:=(bY (n:=a) ⋯ ⋯).1;have l1:(" ":Str).length=1:=⋯;have jn:Txt.join (" ":Str) [k,aV (a:Int)]=bL (k,[(a:Int)]):=by rw[vC,iS];rfl
 have ls:k.length+(aV (a:Int)).length+2*(" ":Str).length<=16777216:=by rw[l1];lia
 have c2:=EU (.str k) (.int (a:Nat));simp[fe,c2,compLoop,Td,lg,jn]
 lia
theorem m6(hk:k.length<=8)(ha:a<=12)(hb:b<=12)(x0 x1 x2 x3:Option D)(h:MH):fe [x0,x1,x2,x3,⇑(.lst [.str k,.int (a:Nat),.int (b:Nat)])] h=.ok (.str (bL (k,[(a:Int),(b:Int)]))) h:=by
 have lg:(a:Nat).log2<1920:=zg (wb a) ⋯;have lg2:(b:Nat).log2<1920:=zg (wb b) ⋯;have lw:(aV (a:Int)).length<=2:=(bY (n:=a) ⋯ ⋯).1;have lw2:(aV (b:Int)).length<=2:=(bY (n:=b) ⋯ ⋯).1;have l1:(" ":Str).length=1:=⋯;have jn:Txt.join (" ":Str) [k,aV (a:Int),aV (b:Int)]=bL (k,[(a:Int),(b:Int)]):=by rw[vC,iS];rfl
 have c3:=Fb (.str k) (.int (a:Nat)) (.int (b:Nat));simp[fe,c3,compLoop,Td,lg,lg2,jn]
 lia
theorem vJ(hn:n<=10)(ok:s.ok n)(x0 x1 x2 x3:Option D)(h:MH):fe [x0,x1,x2,x3,⇑s.l] h=.ok (.str (aN s)) h:=by
 have g:("feed":Str).length<=8/\("earth":Str).length<=8/\("breaker":Str).length<=8/\("splitter":Str).length<=8:=⋯;cases s with
 | feed a=>exact lZ g.1 (by have:a<n:=ok;lia) _ _ _ _ _
 | SD a=>exact lZ g.2.1 (by have:a<n:=ok;lia) _ _ _ _ _
 | Se a b=>exact m6 g.2.2.1 (by have:=ok.1;lia) (by have:=ok.2.1;lia) _ _ _ _ _
 | splitter a b=>exact m6 g.2.2.2 (by have:=ok.1;lia) (by have:=ok.2.1;lia) _ _ _ _ _
def fA:MT:=tB (af cA (aw eD "say" (aa 1) (ag (aa 0) ae)) (mC (.str "ok")))
theorem lG(o:h[d]?=⇑(aQ y p))(e:br [.ref d,.str row] h=.ok (.str "ok") H):fA [⇑(.str row),⇑(.ref d)] h=.ok false H:=by
 have m:=(oo o (m:=aa 1) (l:=ag (aa 0) ae) (ρ:=[⇑(.str row),⇑(.ref d)]) (row:=row) (by simp) (by simp)).trans e;simp[-aw,fA,m]
theorem KL{n d:Nat}{h0:MH}:∀(us ds:List Sw) (h:MH) (p r:Nat),bG n (ds++us)->Dk h d p r (Bd.new n ds)->h0.length<=p->h0.length<=r->d<h0.length->(∀j,j<h0.length->j≠d->h[j]?=h0[j]?)->∃(H:MH) (p' r':Nat),Dk H d p' r' (Bd.new n (ds++us))/\h0.length<=p'/\h0.length<=r'/\(∀j,j<h0.length->j≠d->H[j]?=h0[j]?)/\compLoop (ak 0) fA (aa 0) [none,⇑(.ref d)] ((us.map aN).map D.str) h=.ok [] H
 | [],ds,h,p,r,ok,D0,hp,hr,hd,fr=>⟨h,p,r,by rw[zm];exact D0,hp,hr,fr,rfl⟩
 | s::us,ds,h,p,r,ok,D0,hp,hr,hd,fr=>by
  have sok:s.ok n:=ok.2.2.2 s (by simp);have okd:bG n ds:=⟨ok.1,ok.2.1,by have:=ok.2.2.1;simp at this;lia,λw m=>ok.2.2.2 w (zp _ m)⟩;have okd2:bG n (ds++[s]):=⟨ok.1,ok.2.1,by have:=ok.2.2.1;simp at this ⊢;lia,λw m=>ok.2.2.2 w (by
   rcases qv.mp m with m|m
   ·exact zp _ m
   ·rw[z6.mp m];simp)⟩
  have ld:d<h.length:=(q9.mp D0.o).1;have lp:=D0.a.lt';have e1:=O7 D0 okd sok (by have:=ok.2.2.1;simp at this;show ds.length<12;lia);have e1:br [.ref d,.str (aN s)] h=.ok (.str "ok") (cZ h d n (ds++[s]) (.ref p)):=e1;have D1:=IK (d:=d) (b:=.ref p) okd2 D0.a.hb ld (λm hm=>by simp[D.R5];lia);have ea:ds++s::us=(ds++[s])++us:=by simp
  rw[ea];obtain⟨H,p',r',D2,Wc,Ur,fr',e⟩:=KL (n:=n) (h0:=h0) us (ds++[s]) _ _ _ (by rw[<-ea];exact ok) D1 ⋯ ⋯ hd (λj hj jd=>by rw[Jv ⋯ jd];exact fr j hj jd);refine⟨H,p',r',D2,Wc,Ur,fr',?_⟩;have t:=lG D0.o e1;have g0:ak 0 (.str (aN s)) [none,⇑(.ref d)] h=.nx [⇑(.str (aN s)),⇑(.ref d)] h:=rfl;rw[List.map_cons,List.map_cons];simp only[compLoop,g0,t,e]
theorem J9{n:Nat}(hn:n<=10)(x0 x1 x2:Option D){h:MH}:∀(us:List Sw) (acc:List D) (x4:Option D),(∀s∈us,s.ok n)->acc.length+us.length<=100->∃Xe,bO (ak 4) tS (us.map Sw.l) [x0,x1,x2,⇑(.ref h.length),x4] (h++[⇑(.lst acc)])=.nx [x0,x1,x2,⇑(.ref h.length),Xe] (h++[⇑(.lst (acc++(us.map aN).map D.str))])
 | [],acc,x4,_,_=>⟨x4,by simp[bO]⟩
 | s::us,acc,x4,ok,hl=>by
  simp only[qw]at hl;obtain⟨Xe,e⟩:=J9 hn x0 x1 x2 (h:=h) us (acc++[.str (aN s)]) ⇑s.l (λw m=>ok w (q8 _ m)) (by simp;lia);refine⟨Xe,?_⟩;have rl:=vJ hn (ok s (qa ..)) x0 x1 x2 ⇑(.ref h.length) (h++[⇑(.lst acc)]);have st:tS [x0,x1,x2,⇑(.ref h.length),⇑s.l] (h++[⇑(.lst acc)])=.nx [x0,x1,x2,⇑(.ref h.length),⇑s.l] (h++[⇑(.lst (acc++[.str (aN s)]))]):=by
   have eq:tS=mQ (aa 3) fe:=rfl;rw[eq];generalize fe=M at*;simp[rl,show acc.length<16777216 by lia]
  have g0:ak 4 s.l [x0,x1,x2,⇑(.ref h.length),x4] (h++[⇑(.lst acc)])=.nx [x0,x1,x2,⇑(.ref h.length),⇑s.l] (h++[⇑(.lst acc)]):=rfl;have ea:acc++((s::us).map aN).map D.str=(acc++[.str (aN s)])++(us.map aN).map D.str:=by simp
  rw[ea,List.map_cons];simp only[bO,g0,st,e]
theorem HZ(ok:bG n RO)(hb:Hb h)(o:h[d]?=⇑(aQ .RY .RY)):∃(H:MH) (p r:Nat),Dk H d p r (Bd.new n RO)/\h.length<=p/\h.length<=r/\(∀j,j<h.length->j≠d->H[j]?=h[j]?)/\fq [.ref d,.int (n:Nat),.lst (RO.map Sw.l)] h=.ok (.bl true) H:=by
 have ld:d<h.length:=(q9.mp o).1;have ok0:bG n []:=⟨ok.1,ok.2.1,by simp,λs ms=>(nomatch ms)⟩;have l12:=ok.2.2.1;have Ym:Hb (h++[none]):=hb.snoc λ_ _=>rfl;have o1:(h++[none])[d]?=⇑(aQ .RY .RY):=by rw[qr ld];exact o
 have hy:∀m,(h++[none]).length<=m->D.RY.R5 m=true:=λm _=>rfl;have e1:=QI ok.1 ok.2.1 Ym o1 hy;have ld1:d<(h++[none]).length:=by simp;lia
 have D1:=IK (d:=d) (b:=.RY) ok0 Ym ld1 hy;have l1:(h++[none]).length=h.length+1:=by simp
 obtain⟨H,p,r,D2,hp,hr,fr,eC⟩:=KL (n:=n) (h0:=h) RO [] _ _ _ (by simpa using ok) D1 ⋯ ⋯ ld (λj hj jd=>by rw[Jv ⋯ jd,qr hj]);have D2:Dk H d p r (Bd.new n RO):=by simpa using D2
 refine⟨H,p,r,D2,hp,hr,fr,?_⟩;obtain⟨x4,eL⟩:=J9 ok.2.1 ⇑(.ref d) ⇑(.int (n:Nat)) ⇑(.lst (RO.map Sw.l)) (h:=h) RO [.str (cX n)] none ok.2.2.2 (by simp;lia);have lg:(n:Nat).log2<1920:=zg (wb n) (by have:=ok.2.1;lia);have lw:(aV (n:Int)).length<=2:=(bY (n:=n) ⋯ (by have:=ok.2.1;lia)).1;have tr:("bars ":Str)++aV (n:Int)=cX n:=by rw[QO];exact FX _ _
 have lt:("bars ":Str).length<=5:=⋯;have tb:=lG o1 e1;have key:jm [⇑(.ref d),⇑(.int (n:Nat)),⇑(.lst (RO.map Sw.l)),none,none] h=.rt (.bl true) H:=by
  have eb:jm=ah (aj (h9 (bz (ag (af aB (mC (.str "bars ")) (bh aX (ag (aa 1) ae))) ae))) (ak 3)) (ah (bB (bC (aa 2)) (ak 4) tS) (gZ 3 (ai (af a9 (aO (cM 1 [0] (bC (aa 3)) (ak 0) fA (aa 0))) (aO (bz ae)))))):=rfl;rw[eb];have lr:(.str (cX n)::(RO.map aN).map D.str:List D).length<16777216:=by simp;lia
  have cc:compLoop (ak 0) fA (aa 0) [none,⇑(.ref d)] (.str (cX n)::(RO.map aN).map D.str) (h++[none])=.ok [] H:=by
   have g0:ak 0 (.str (cX n)) [none,⇑(.ref d)] (h++[none])=.nx [⇑(.str (cX n)),⇑(.ref d)] (h++[none]):=rfl;simp only[compLoop,g0,tb,eC]
  have eL:bO (ak 4) tS (RO.map Sw.l) [⇑(.ref d),⇑(.int (n:Nat)),⇑(.lst (RO.map Sw.l)),⇑(.ref h.length),none] (h++[⇑(.lst [.str (cX n)])])=.nx [⇑(.ref d),⇑(.int (n:Nat)),⇑(.lst (RO.map Sw.l)),⇑(.ref h.length),x4] (h++[⇑(.lst (.str (cX n)::(RO.map aN).map D.str))]):=eL;generalize(.str (cX n)::(RO.map aN).map D.str:List D)=R at*;generalize RO.map Sw.l=V at*;refine(bf (ρ':=[⇑(.ref d),⇑(.int (n:Nat)),⇑(.lst V),⇑(.ref h.length),none]) (h':=h++[⇑(.lst [.str (cX n)])]) (by
   generalize cX (n:Int)=B at*;simp[lg,tr,show("bars ":Str).length+(aV (n:Int)).length<=16777216 by lia])).trans ?_
  refine(bf (ρ':=[⇑(.ref d),⇑(.int (n:Nat)),⇑(.lst V),⇑(.ref h.length),x4]) (h':=h++[⇑(.lst R)]) (by
   generalize cX (n:Int)=B at*;simp[eL])).trans ?_
  have nilE:∀h':MH,a9 (.lst []) (.lst []) h'=.ok (.bl true) h':=λh'=>rfl;have lc:cM 1 [0] (bC (aa 3)) (ak 0) fA (aa 0) [⇑(.ref d),⇑(.int (n:Nat)),⇑(.lst V),⇑(.lst R),x4] (h++[none])=.ok [] H:=by
   have li:bC (aa 3) [⇑(.ref d),⇑(.int (n:Nat)),⇑(.lst V),⇑(.lst R),x4] (h++[none])=.ok (none,R) (h++[none]):=by simp
   rw[BG,li];simp only[bU,R7,lr,if_true,BJ];exact cc
  generalize fA=T at*;simp[-BG, -a9,lc,nilE]
 unfold fq aq;rw[if_pos (show[D.ref d,D.int (n:Nat),D.lst (RO.map Sw.l)].length=3 from rfl)];have k2:jm ([D.ref d,D.int (n:Nat),D.lst (RO.map Sw.l)].map some++List.replicate (5 - [D.ref d,D.int (n:Nat),D.lst (RO.map Sw.l)].length) none) h=.rt (.bl true) H:=key;rw[k2];exact AB D2.o ld hp
theorem Hg(ns:List Int)(n:Nat)(h1:2<=n)(h2:n<=10)(h:MH):∀(m i:Nat),∃RO:List Sw,RO.length=m/\(∀s∈RO,s.ok n)/\compLoop (ak 0) aR (ax cU (ag (af aU (ax bw (ag (aa 2) (ag (af aB (mC (.int 1)) (aa 0)) ae))) (mC (.int 3))) (ag (aa 1) ae))) [none,⇑(.int (n:Nat)),⇑(.arg ns)] ((List.range' i m).map λk:Nat=>D.int k) h=.ok (RO.map Sw.l) h
 | 0,i=>⟨[],rfl,λs m=>(nomatch m),rfl⟩
 | m+1,i=>by
  obtain⟨RO,l,ok,e⟩:=Hg ns n h1 h2 h m (i+1);obtain⟨v,ev⟩:=JW ns (1+i) h;obtain⟨s,sok,es⟩:=PV (v / 3) n h1 h2 h;refine⟨s::RO,by simp[l],λw mw=> ?_,?_⟩
  ·rcases qg.mp mw with rfl|mw
   ·exact sok
   ·exact ok w mw
  ·have er:(List.range' i (m+1)).map (λk:Nat=>D.int k)=D.int (i:Nat)::(List.range' (i+1) m).map (λk:Nat=>D.int k):=by simp[List.range'_succ]
   have ei:(1:Int)+(i:Int)=((1+i:Nat):Int):=⋯;rw[er];generalize(List.range' (i+1) m).map (λk:Nat=>D.int k)=T at*;rw[List.map_cons];generalize RO.map Sw.l=V at*;have ev:bw [.arg ns,.int (1+(i:Int))] h=.ok (.int v) h:=by rw[ei];exact ev
   have m1:ax cU (ag (af aU (ax bw (ag (aa 2) (ag (af aB (mC (.int 1)) (aa 0)) ae))) (mC (.int 3))) (ag (aa 1) ae)) [⇑(.int (i:Nat)),⇑(.int (n:Nat)),⇑(.arg ns)] h=.ok s.l h:=by
    simp[ev,es]
   have g0:ak 0 (.int (i:Nat)) [none,⇑(.int (n:Nat)),⇑(.arg ns)] h=.nx [⇑(.int (i:Nat)),⇑(.int (n:Nat)),⇑(.arg ns)] h:=rfl;have t0:aR [⇑(.int (i:Nat)),⇑(.int (n:Nat)),⇑(.arg ns)] h=.ok true h:=rfl;simp only[compLoop,g0,t0,m1,e]
theorem Dk.other(D0:Dk h d p r b)(h1:R≠d)(h2:R≠p)(h3:R≠r)(hx:∀n,h.length<=n->Cell.R5 n x=true):Dk (h.set R x) d p r b:=by
 refine⟨by rw[qh h1];exact D0.o,?_,?_,?_,D0.a.ok⟩
 ·rw[qh h2];exact D0.a.o
 ·rw[qh h3];exact D0.a.g
 ·exact D0.a.hb.set hx
structure Tw (h:MH) (p r q s:Nat) (b:Bd):Prop where
 a:Dk h 0 p r b
 c:Dk h 1 q s b
 n1:p≠1
 n2:p≠q
 n3:p≠s
 m1:q≠0
 m2:q≠r
structure UU (n:Nat) (RO:List Sw) (b:Bd):Prop where
 n:b.n=n
 s:b.RO=RO
 g:b.gv=[]
 st:b.st<2^RO.length
 lk:b.lk<2^RO.length
theorem rB(hx:x<2^L)(hk:k<L):x|||2^k<2^L:=gi hx (zq ⋯ hk)
theorem Pk(hx:x<2^L)(hk:k<L):x^^^2^k<2^L:=Nat.xor_lt_two_pow hx (zq ⋯ hk)
section
variable {h : MH} {p r q s n : Nat} {RO : List Sw} {b : Bd} (T : Tw h p r q s b) (I : UU n RO b) {k : Nat} (hk : k < RO.length)
include T I hk
theorem O1(lock:Bool):∃(b':Bd) (v:Bool) (H1 H2:MH),bV [.ref 0,.str (dC (if lock then "lock"else "turn") k)] h=.ok (.bl v) H1/\bV [.ref 1,.str (dC (if lock then "lock"else "turn") k)] H1=.ok (.bl v) H2/\Tw H2 p r q s b'/\UU n RO b':=by
 have hw:b.RO[k]?=⇑RO[k]:=by rw[I.s];exact qk hk
 have key:∀{b':Bd} {v:Bool} {row:Str},R4 {b with lk:=b'.lk} b'->UU n RO b'->bV [.ref 0,.str row] h=.ok (.bl v) (h.set p (b'.cell r))->Dk (h.set p (b'.cell r)) 0 p r b'->(Dk (h.set p (b'.cell r)) 1 q s b->bV [.ref 1,.str row] (h.set p (b'.cell r))=.ok (.bl v) ((h.set p (b'.cell r)).set q (b'.cell s))/\Dk ((h.set p (b'.cell r)).set q (b'.cell s)) 1 q s b')->∃(b':Bd) (v:Bool) (H1 H2:MH),bV [.ref 0,.str row] h=.ok (.bl v) H1/\bV [.ref 1,.str row] H1=.ok (.bl v) H2/\Tw H2 p r q s b'/\UU n RO b':=fun{b' v row} S J e1 D1 f=>by
  have lr:=T.a.a.lt;have D2:=T.c.other T.n1 T.n2 T.n3 (x:=b'.cell r) λm hm=>AE b' ⋯;obtain⟨e2,D3⟩:=f D2;have ls:=D2.a.lt;exact⟨b',v,_,_,e1,e2,⟨D1.other T.m1 (Ne.symm T.n2) T.m2 (x:=b'.cell s) (λm hm=>AE b' ⋯),D3,T.n1,T.n2,T.n3,T.m1,T.m2⟩,J⟩
 cases lock with
 | false=>
  obtain⟨e1,D1⟩:=Ba T.a hw;have S:=GG b k RO[k];refine key (b':=cT b k RO[k]) ⟨S.n,S.s,rfl,S.g⟩ ⟨S.n.trans I.n,S.s.trans I.s,S.g.trans I.g,?_,by rw[S.l];exact I.lk⟩ e1 D1 λD2=>Ba D2 hw;unfold cT;split
  ·exact Pk I.st hk
  ·exact I.st
 | true=>
  obtain⟨e1,D1⟩:=IB T.a hw;have S:(gL b k RO[k]).n=b.n/\(gL b k RO[k]).RO=b.RO/\(gL b k RO[k]).gv=b.gv/\(gL b k RO[k]).st=b.st:=by unfold gL;split<;>exact⟨rfl,rfl,rfl,rfl⟩
  refine key (b':=gL b k RO[k]) ⟨S.1,S.2.1,rfl,S.2.2.1⟩ ⟨S.1.trans I.n,S.2.1.trans I.s,S.2.2.1.trans I.g,by rw[S.2.2.2];exact I.st,?_⟩ e1 D1 λD2=>IB D2 hw;unfold gL;split
  ·exact rB I.lk hk
  ·exact I.lk
end
abbrev a_(x0:Option D)(n cnt:Nat)(V C:List D)(hf:Nat)(x7 x8 x9 x10 V2 Xf XN x14:Option D):Ro:=[x0,⇑(.int (n:Nat)),⇑(.int (cnt:Nat)),⇑(.lst V),⇑(.lst [.ref 0,.ref 1]),⇑(.lst C),⇑(.int (hf:Nat)),x7,x8,x9,x10,V2,Xf,XN,x14]
theorem QF(T:Tw h p r q s b)(I:UU n RO b)(l7:RO.length<=7)(x0:Option D)(V C:List D)(hf:Nat)(c:Int)(x8:Option D):∃(H:MH) (b':Bd) (XE:Option D),Tw H p r q s b'/\UU n RO b'/\tj (a_ x0 n RO.length V C hf ⇑(.int c) x8 none none none none none none) h=.nx (a_ x0 n RO.length V C hf ⇑(.int c) XE none none none none none none) H:=by
 by_cases z:RO.length=0
 ·refine⟨h,b,x8,T,I,?_⟩
  rw[z];simp[a_,tj]
 have n0:0<RO.length:=⋯;have nn:(0:Int)<(RO.length:Int):=⋯;obtain⟨k,ek⟩:=sJ (x:=c / 5 % (RO.length:Int)) (kh _ ⋯);have kl:k<RO.length:=by have:=wt (c / 5) nn;lia
 have M:aP (.int (c / 5)) (.int (RO.length:Nat)) h=.ok (.int (k:Nat)) h:=by simp[n0,ek]
 have D5:aU (.int c) (.int 5) h=.ok (.int (c / 5)) h:=by simp
 obtain⟨b',v,H1,H2,e1,e2,T2,I2⟩:=O1 T I kl (decide (c % 5=0));obtain⟨t1,t2,t3,t4⟩:=uG;obtain⟨fs,ca⟩:=BV t1 t2 (k:=k) ⋯ h;obtain⟨_,cb⟩:=BV t3 t4 (k:=k) ⋯ h;have M5:a9 (.int (c % 5)) (.int 0) h=.ok (.bl (decide (c % 5=0))) h:=rfl;have m5:aP (.int c) (.int 5) h=.ok (.int (c % 5)) h:=by simp
 have rowE:(af aB (af ay (aO (bz (ag (mC (.str "turn ")) (ag (mC (.str "lock ")) ae)))) (bh dj (ag (af a9 (af aP (aa 7) (mC (.int 5))) (mC (.int 0))) ae))) (bh aX (ag (af aP (af aU (aa 7) (mC (.int 5))) (aa 2)) ae))) (a_ x0 n RO.length V C hf ⇑(.int c) x8 none none none none none none) h=.ok (.str (dC (if decide (c % 5=0)=true then "lock"else "turn") k)) h:=by
  generalize aV (k:Int)=F at*;by_cases g:c % 5=0
  ·rw[decide_eq_true g]at M5 ⊢
   simp[-a9, -aP, -aU, -aB, -aX,a_,m5,M5,M,D5,fs,cb]
  ·rw[decide_eq_false g]at M5 ⊢
   simp[-a9, -aP, -aU, -aB, -aX,a_,m5,M5,M,D5,fs,ca]
 generalize dC (if decide (c % 5=0)=true then "lock"else "turn") k=R at*;refine⟨H2,b',⇑(.str R),T2,I2,?_⟩;have tg:tB (af kY (aa 2) (mC (.int 0))) (a_ x0 n RO.length V C hf ⇑(.int c) x8 none none none none none none) h=.ok true h:=by simp[a_,n0]
 unfold tj;have sy:∀{t:MT} {A B:MS} {ρ:Ro},t ρ h=.ok true h->aG t A B ρ h=A ρ h:=λe=>by simp[e]
 rw[sy tg];refine(bf (ρ':=a_ x0 n RO.length V C hf ⇑(.int c) ⇑(.str R) none none none none none none) (h':=h) (by unfold aj;rw[rowE];rfl)).trans ?_;have ev:∀H:MH,cA (.bl v) (.bl v) H=.ok (.bl false) H:=λH=>by simp
 simp[-cA,a_,e1,e2,ev]
theorem Hl{p r q s n:Nat}{RO:List Sw}(l7:RO.length<=7)(x0:Option D)(V C:List D)(hf:Nat):∀(cs:List D) (h:MH) (b:Bd) (x7 x8:Option D),(∀c∈cs,∃i:Int,c=.int i)->Tw h p r q s b->UU n RO b->∃(H:MH) (b':Bd) (x7' XE:Option D),Tw H p r q s b'/\UU n RO b'/\bO (ak 7) tj cs (a_ x0 n RO.length V C hf x7 x8 none none none none none none) h=.nx (a_ x0 n RO.length V C hf x7' XE none none none none none none) H
 | [],h,b,x7,x8,_,T,I=>⟨h,b,x7,x8,T,I,rfl⟩
 | c::cs,h,b,x7,x8,hc,T,I=>by
  obtain⟨i,rfl⟩:=hc c (qa ..);obtain⟨H,b',y8,T1,I1,e⟩:=QF T I l7 x0 V C hf i x8;obtain⟨H2,b2,y7,z8,T2,I2,e2⟩:=Hl l7 x0 V C hf cs H b' ⇑(.int i) y8 (λc m=>hc c (q8 _ m)) T1 I1;refine⟨H2,b2,y7,z8,T2,I2,?_⟩;have g0:ak 7 (.int i) (a_ x0 n RO.length V C hf x7 x8 none none none none none none) h=.nx (a_ x0 n RO.length V C hf ⇑(.int i) x8 none none none none none none) h:=rfl;simp only[bO,g0,e,e2]
theorem Iu:nA x=true↔∀c∈x.cps.toList,c<0x110000 :=by
 unfold nA;rw[<-Array.all_toList,List.all_eq_true];simp
theorem Ky(hc:c<0x110000):∀ps:List Str,(∀p∈ps,nA p=true)->nA (Str.join ⟨#[c]⟩ ps)=true
 | [],_=>by show nA Str.empty=true;decide+kernel
 | [p],h=>h p (qa ..)
 | p::q::r,h=>by
  have ih:=Ky hc (q::r) λa m=>h a (q8 _ m);rw[Iu]at ih ⊢;have hp:=Iu.mp (h p (qa ..));intro x hx;rw[tL]at hx;rcases qv.mp hx with hx|hx
  ·exact hp x hx
  ·rcases qg.mp hx with rfl|hx
   ·exact hc
   ·exact ih x hx
theorem LI:∀k:Fin 13,nA (W k.val)=true:=⋯
theorem ng(hx:x<2^12):nA (jT x)=true:=by
 unfold jT;split
 ·decide+kernel
 ·rw[vC,iS]
  refine Ky ⋯ _ λp m=> ?_;obtain⟨k,mk,rfl⟩:=qz.mp m;exact LI ⟨k,by have:=((AV hx k).mp mk).2;lia⟩
theorem px(hx:x<2^12)(hy:y<2^12)(h:MH):cA (.lst [.str (jT x),.str (jT y)]) (.lst [.str (jT x),.str (jT y)]) h=.ok (.bl false) h:=by
 have o1:=ng hx;have o2:=ng hy;have hd:(D.lst [.str (jT x),.str (jT y)]).dat=true:=oJ (n:=1) (Nm (n:=0) λd md=>by
  simp only[qg,zv,or_false]at md;rcases md with rfl|rfl<;>simp[D.py,D.deep,o1,o2]) ⋯
 have he:=rA hd;generalize [D.str (jT x),.str (jT y)]=T at*;simp[hd,he]
theorem IA(e:(aD RO fs st J).2=[]):∀m,(aD RO fs st (J+m)).2=[]
 | 0=>e
 | m+1=>by
  show f9 RO fs (aD RO fs st (J+m)).1 (aD RO fs st (J+m)).2=[];rw[IA e m];simp[f9,fU,cK]
def jY:MS:=(ah (aG (tB (af a9 (aa 12) (mC (.str "never")))) (ai (af uZ (aa 13) (mC (.int 0)))) aH)
      (ah (aj (ax ja (ag (aa 12) (ag (aa 2) ae))) (ak 14))
      (ah (aG (dZ (tB (af mJ (aa 14) (mC .RY))) (bW (tB (af kW (aa 13) (mC (.int 0)))) (tB (af kY (bh bJ (ag (aa 14) ae)) (aa 13))))) (ai (mC (.bl false))) aH)
      (ai (ax j_ (ag (af ay (aa 4) (mC (.int 0))) (ag (aa 14) (ag (aa 10) (ag (aa 9) ae)))))))))
theorem NK(ds:List Nat)(hd:∀k∈ds,k<=12):¬dN ds=("never":Str):=λz=>by
 have:=(J_ hd).1;rw[z]at this;have e:Txt.split ("never":Str) ⟨#[32]⟩=[("never":Str)]:=⋯;rw[e]at this;exact lz (List.cons.inj this).1.symm
theorem L9(D0:Dk h 0 p r b)(I:UU n RO b)(l7:RO.length<=7)(hk:kd∈K3)(hb:bar<n)(sI:D7 b kd bar a){v:Int}(hv:0<=v->∃t y:Nat,v=t/\fF b t y/\de kd bar y b.RO=true)(x0:Option D)(V C:List D)(hf:Nat)(x7 x8 V2:Option D):∃H,jY (a_ x0 n RO.length V C hf x7 x8 ⇑(.int (bar:Nat)) ⇑(.str kd) V2 ⇑(.str a) ⇑(.int v) none) h=.rt (.bl true) H:=by
 have hbn:bar<b.n:=by rw[I.n];exact hb
 rcases sI with⟨J,y,ds,p1,p2,p3,p4,p5,rfl⟩|⟨J,p1,p2,rfl⟩
 ·have hd:∀k∈ds,k<RO.length:=λk m=>by have:=(Hw (Ha p4 k m)).1;rw[I.s]at this;exact this
  have ll:=p4.len;have nv:=NK ds λk m=>by have:=hd k m;lia
  have nu:=Qe hd l7 ⋯ D0.a.hb;obtain⟨H,lH,ed⟩:=Q9 D0 I.g hk hbn ⋯ (by rw[ll];exact p3) (QD p4) p2;refine⟨H,?_⟩;have li:(iL ds).length=J:=by rw[qf];exact ll
  have ne:a9 (.str (dN ds)) (.str "never") h=.ok (.bl false) h:=by
   show Res.ok (D.bl (decide (dN ds=("never":Str)))) h=_;rw[decide_eq_false nv]
  have ge:0<=v->¬v<(J:Int):=λz=>by
   obtain⟨t,y',e,⟨j,hj,mj⟩,my⟩:=hv z;have:¬j<J:=λq=>by rw[p3 j q y' mj]at my;cases my
   lia
  generalize dN ds=R at*;generalize iL ds=L at*;unfold jY;refine(bf (ρ':=a_ x0 n RO.length V C hf x7 x8 ⇑(.int (bar:Nat)) ⇑(.str kd) V2 ⇑(.str R) ⇑(.int v) none) (h':=h) (by simp[-a9,a_,ne])).trans ?_;refine(bf (ρ':=a_ x0 n RO.length V C hf x7 x8 ⇑(.int (bar:Nat)) ⇑(.str kd) V2 ⇑(.str R) ⇑(.int v) ⇑(.lst L)) (h':=h) (by simp[a_,nu])).trans ?_;refine(bf (ρ':=a_ x0 n RO.length V C hf x7 x8 ⇑(.int (bar:Nat)) ⇑(.str kd) V2 ⇑(.str R) ⇑(.int v) ⇑(.lst L)) (h':=h) ?_).trans ?_
  ·by_cases z:0<=v
   ·have:=ge z
    simp[a_,z,this,li,show J<=16777216 by lia]
   ·simp[a_,z]
  ·simp[a_,ed]
 ·refine⟨h,?_⟩
  have nv:v<0:=by
   by_cases z:0<=v
   ·obtain⟨t,y',e,⟨j,hj,mj⟩,my⟩:=hv z
    by_cases q:j<J
    ·rw[p2 j q y' mj]at my;cases my
    ·have:=IA p1 (j - J)
     rw[show J+(j - J)=j by lia]at this;rw[this]at mj;cases mj
   ·lia
  unfold jY;exact qD (by simp[a_,nv])
def e_(i:Int)(w:Str):ME:=aw eD "say" (af ay (aa 4) (mC (.int i))) (ag (mC (.str w)) ae)
def oI:MS:=(ah (aj (aO (bz (ag (e_ 0 "shut") (ag (e_ 0 "locked") ae)))) (ak 11))
      (ah (aj (aw eD "say" (af ay (aa 4) (mC (.int 0))) (ag (af aB (af aB (af aB (mC (.str "reach ")) (aa 10)) (mC (.str " "))) (bh aX (ag (aa 9) ae))) ae)) (ak 12))
      (ah (aG (dZ (tB (af cA (aO (bz (ag (e_ 0 "shut") (ag (e_ 0 "locked") ae)))) (aa 11))) (tB (af cA (af ay (aa 11) (mC (.int 0))) (e_ 1 "shut")))) (ai (mC (.bl false))) aH)
      (ah (aj (ax iq (ag (af ay (aa 4) (mC (.int 1))) (ag (cQ (aa 5) (cN (aa 6)) cL) (ag (aa 2) (ag (aa 10) (ag (aa 9) ae)))))) (ak 13))
      jY))))
theorem IW(ea:a ρ h=.ok x h1)(eb:b ρ h1=.ok y h2):af op a b ρ h=op x y h2:=by simp only[af,ea,bU,eb]
theorem mX(e:m ρ h=.ok (.bl v) h1):tB m ρ h=.ok v h1:=by simp only[tB,e,bU]
theorem F1:("reach ":Str).length<=20/\(" ":Str).length<=20:=⋯
theorem L7(T:Tw h p r q s b)(I:UU n RO b)(l7:RO.length<=7)(hk:kd∈K3)(hb:bar<n)(x0:Option D)(V:List D)(hC:∀c∈C,∃i:Int,c=.int i)(lC:C.length<=100)(hf:Nat)(x7 x8:Option D):∃H,oI (a_ x0 n RO.length V C hf x7 x8 ⇑(.int (bar:Nat)) ⇑(.str kd) none none none none) h=.rt (.bl true) H:=by
 have Xi:b.st<2^12:=j3 I.st ⋯;have YH:b.lk<2^12:=j3 I.lk ⋯;have n10:n<=10:=by rw[<-I.n];exact T.a.a.ok.2.1
 obtain⟨a,sI,es⟩:=OI T.a I.g hk (bar:=bar) (by rw[I.n];exact hb);have m0:∀(w:Str) {x:D} (V2 Xf XN:Option D),br [.ref 0,.str w] h=.ok x h->e_ 0 w (a_ x0 n RO.length V C hf x7 x8 ⇑(.int (bar:Nat)) ⇑(.str kd) V2 Xf XN none) h=.ok x h:=λw x V2 Xf XN e=>(oo T.a.o (m:=af ay (aa 4) (mC (.int 0))) (l:=ag (mC (.str w)) ae) (row:=w) (by simp[a_]) (by simp)).trans e;have m1:∀(w:Str) {x:D} (V2 Xf XN:Option D),br [.ref 1,.str w] h=.ok x h->e_ 1 w (a_ x0 n RO.length V C hf x7 x8 ⇑(.int (bar:Nat)) ⇑(.str kd) V2 Xf XN none) h=.ok x h:=λw x V2 Xf XN e=>(oo T.c.o (m:=af ay (aa 4) (mC (.int 1))) (l:=ag (mC (.str w)) ae) (row:=w) (by simp[a_]) (by simp)).trans e;have s0:=Jz T.a Xi (yL Xi h);have k0:=P6 T.a YH (yL YH h);have s1:=Jz T.c Xi (yL Xi h);have ne:=px Xi YH h;have lw:(aV (bar:Int)).length<=2:=(bY (n:=bar) ⋯ ⋯).1;have k8:=(Im kd hk).1;have lg:(bar:Nat).log2<1920:=zg (wb bar) ⋯;have fs:aX [.int (bar:Nat)] h=.ok (.str (aV (bar:Int))) h:=by simp[lg]
 obtain⟨r1,r2⟩:=F1;have lb:=Ht ("reach ":Str) kd;have lb2:=Ht (("reach ":Str)++kd) (" ":Str);have c1:=Cp (a:=("reach ":Str)) (b:=kd) ⋯ ⋯ h;have c2:=Cp (a:=("reach ":Str)++kd) (b:=(" ":Str)) ⋯ ⋯ h;have c3:=Cp (a:=("reach ":Str)++kd++(" ":Str)) (b:=aV (bar:Int)) ⋯ ⋯ h;have c3:aB (.str (("reach ":Str)++kd++(" ":Str))) (.str (aV (bar:Int))) h=.ok (.str (gQ kd bar)) h:=c3;have wc:∀c∈cut C ⇑(hf:Int) none,∃i:Int,c=.int i:=λc hc=>by
  unfold cut at hc;exact hC c (wy (zx hc))
 have wl:(cut C ⇑(hf:Int) none).length<16777216:=by
  unfold cut;rw[wp,kr]
  lia
 obtain⟨v,H,hH,lH,fr,hv,ew⟩:=Pa T.c I.g hk (bar:=bar) (by rw[I.n];exact hb) wc wl;have D0:Dk H 0 p r b:=⟨by rw[fr 0 (Ne.symm T.m1)];exact T.a.o,by rw[fr p T.n2];exact T.a.a.o,by rw[fr r (Ne.symm T.m2)];exact T.a.a.g,hH,T.a.a.ok⟩;obtain⟨H2,ez⟩:=L9 D0 I l7 hk hb sI hv x0 V C hf x7 x8 ⇑(.lst [.str (jT b.st),.str (jT b.lk)]);refine⟨H2,?_⟩;rw[I.s]at ew;unfold oI;have e1:(aj (aO (bz (ag (e_ 0 "shut") (ag (e_ 0 "locked") ae)))) (ak 11)) (a_ x0 n RO.length V C hf x7 x8 ⇑(.int (bar:Nat)) ⇑(.str kd) none none none none) h=.nx (a_ x0 n RO.length V C hf x7 x8 ⇑(.int (bar:Nat)) ⇑(.str kd) ⇑(.lst [.str (jT b.st),.str (jT b.lk)]) none none none) h:=by
  have a1:=m0 "shut" none none none s0;have a2:=m0 "locked" none none none k0;simp only[aj,aO,bz,ag,ae,a1,a2,bU,R7,qw,zn];simp
 have e2:(aj (aw eD "say" (af ay (aa 4) (mC (.int 0))) (ag (af aB (af aB (af aB (mC (.str "reach ")) (aa 10)) (mC (.str " "))) (bh aX (ag (aa 9) ae))) ae)) (ak 12)) (a_ x0 n RO.length V C hf x7 x8 ⇑(.int (bar:Nat)) ⇑(.str kd) ⇑(.lst [.str (jT b.st),.str (jT b.lk)]) none none none) h=.nx (a_ x0 n RO.length V C hf x7 x8 ⇑(.int (bar:Nat)) ⇑(.str kd) ⇑(.lst [.str (jT b.st),.str (jT b.lk)]) ⇑(.str a) none none) h:=by
  have mm:=(oo T.a.o (m:=af ay (aa 4) (mC (.int 0))) (l:=ag (af aB (af aB (af aB (mC (.str "reach ")) (aa 10)) (mC (.str " "))) (bh aX (ag (aa 9) ae))) ae) (ρ:=a_ x0 n RO.length V C hf x7 x8 ⇑(.int (bar:Nat)) ⇑(.str kd) ⇑(.lst [.str (jT b.st),.str (jT b.lk)]) none none none) (row:=gQ kd bar) (by simp[a_]) (by
   generalize aV (bar:Int)=F at*;simp[-aB, -aX,a_,c1,c2,c3,fs])).trans es
  unfold aj;rw[mm];rfl
 have e3:(aG (dZ (tB (af cA (aO (bz (ag (e_ 0 "shut") (ag (e_ 0 "locked") ae)))) (aa 11))) (tB (af cA (af ay (aa 11) (mC (.int 0))) (e_ 1 "shut")))) (ai (mC (.bl false))) aH) (a_ x0 n RO.length V C hf x7 x8 ⇑(.int (bar:Nat)) ⇑(.str kd) ⇑(.lst [.str (jT b.st),.str (jT b.lk)]) ⇑(.str a) none none) h=.nx (a_ x0 n RO.length V C hf x7 x8 ⇑(.int (bar:Nat)) ⇑(.str kd) ⇑(.lst [.str (jT b.st),.str (jT b.lk)]) ⇑(.str a) none none) h:=by
  have a1:=m0 "shut" ⇑(.lst [.str (jT b.st),.str (jT b.lk)]) ⇑(.str a) none s0;have a2:=m0 "locked" ⇑(.lst [.str (jT b.st),.str (jT b.lk)]) ⇑(.str a) none k0;have a3:=m1 "shut" ⇑(.lst [.str (jT b.st),.str (jT b.lk)]) ⇑(.str a) none s1;generalize jT b.st=S at*;generalize jT b.lk=K at*;have t1:(tB (af cA (aO (bz (ag (e_ 0 "shut") (ag (e_ 0 "locked") ae)))) (aa 11))) (a_ x0 n RO.length V C hf x7 x8 ⇑(.int (bar:Nat)) ⇑(.str kd) ⇑(.lst [.str S,.str K]) ⇑(.str a) none none) h=.ok false h:=by
   refine mX ((IW (x:=.lst [.str S,.str K]) ?_ rfl).trans ne);simp only[aO,bz,ag,ae,a1,a2,bU,R7,qw,zn];simp
  have t2:(tB (af cA (af ay (aa 11) (mC (.int 0))) (e_ 1 "shut"))) (a_ x0 n RO.length V C hf x7 x8 ⇑(.int (bar:Nat)) ⇑(.str kd) ⇑(.lst [.str S,.str K]) ⇑(.str a) none none) h=.ok false h:=by
   have i0:(af ay (aa 11) (mC (.int 0))) (a_ x0 n RO.length V C hf x7 x8 ⇑(.int (bar:Nat)) ⇑(.str kd) ⇑(.lst [.str S,.str K]) ⇑(.str a) none none) h=.ok (.str S) h:=by simp[a_]
   have n2:cA (.str S) (.str S) h=.ok (.bl false) h:=by simp
   exact mX ((IW i0 a3).trans n2)
  simp only[aG,dZ,t1,t2,bU,cG,qu,if_false];rfl
 have e4:(aj (ax iq (ag (af ay (aa 4) (mC (.int 1))) (ag (cQ (aa 5) (cN (aa 6)) cL) (ag (aa 2) (ag (aa 10) (ag (aa 9) ae)))))) (ak 13)) (a_ x0 n RO.length V C hf x7 x8 ⇑(.int (bar:Nat)) ⇑(.str kd) ⇑(.lst [.str (jT b.st),.str (jT b.lk)]) ⇑(.str a) none none) h=.nx (a_ x0 n RO.length V C hf x7 x8 ⇑(.int (bar:Nat)) ⇑(.str kd) ⇑(.lst [.str (jT b.st),.str (jT b.lk)]) ⇑(.str a) ⇑(.int v) none) H:=by
  generalize jT b.st=S at*;generalize jT b.lk=K at*;simp[a_,ew]
 exact(bf e1).trans ((bf e2).trans ((bf e3).trans ((bf e4).trans ez)))
theorem law_true(ns:List Int)(hl:ns.length<=63):∃h,Fl [.arg ns] []=.ok (.bl true) h:=by
 have cel:∀h,∃v:Int,bw [.arg ns,.int 0] h=.ok (.int v) h:=λh=>JW ns 0 h;have cv:∃v:Int,∀h,bw [.arg ns,.int 0] h=.ok (.int v) h:=by
  by_cases q:0<ns.length
  ·have a:cx (ns.map D.int) (0:Int)=⇑(.int ns[0]):=xV (by rw[z9,qk q];rfl)
   exact⟨ns[0],λh=>by simp[bw,ir,q,a]⟩
  ·exact⟨0,λh=>by simp[bw,ir,q]⟩
 obtain⟨v,ev⟩:=cv;obtain⟨n,en⟩:=sJ (x:=2+v % 7) ⋯;obtain⟨c,ec⟩:=sJ (x:=v / 7 % 8) ⋯;have n1:2<=n:=⋯;have n2:n<=10:=⋯;obtain⟨RO,sl,sok,eS⟩:=Hg ns n n1 n2 [] c 0;have ok:bG n RO:=⟨⋯,n2,⋯,sok⟩;subst sl;have l7:RO.length<=7:=⋯;have d0:dt [.ref 0] [⇑(.ins "Desk" [])]=.ok .RY [aQ .RY .RY]:=HE [];have d1:dt [.ref 1] [aQ .RY .RY,⇑(.ins "Desk" [])]=.ok .RY [aQ .RY .RY,aQ .RY .RY]:=HE [aQ .RY .RY];have hb0:Hb [aQ .RY .RY,aQ .RY .RY]:=λm _=>by simp[aQ,da,Cell.R5,D.R_,D.R5]
 obtain⟨H0,p,r,D0,hp,hr,fr0,e0⟩:=HZ ok hb0 (d:=0) rfl;have o1:H0[1]?=⇑(aQ .RY .RY):=(fr0 1 (by simp) ⋯).trans rfl;have lp:=D0.a.lt';have lr:=D0.a.lt;obtain⟨H1,q,s,D1,hq,hs,fr1,e1⟩:=HZ ok D0.a.hb (d:=1) o1;simp only[qw,zn]at hp hr;have T0:Tw H1 p r q s (Bd.new n RO):=⟨⟨by rw[fr1 0 ⋯ ⋯];exact D0.o,by rw[fr1 p lp ⋯];exact D0.a.o,by rw[fr1 r lr ⋯];exact D0.a.g,D1.a.hb,ok⟩,D1,⋯,⋯,⋯,⋯,⋯⟩;have I0:UU n RO (Bd.new n RO):=⟨rfl,rfl,rfl,zu _,zu _⟩;obtain⟨C,hC⟩:∃C:List D,C=cut (ns.map D.int) none ⇑64:=⟨_,rfl⟩;have cI:∀c∈C,∃i:Int,c=.int i:=λc hc=>by
  rw[hC]at hc;unfold cut at hc;obtain⟨i,_,e⟩:=qz.mp (wy (zx hc));exact⟨i,e.symm⟩
 have lC:C.length<=63:=by
  rw[hC];unfold cut;rw[wp,kr,qf]
  lia
 obtain⟨hf,ehf⟩:∃hf:Nat,(C.length:Int) / 2=hf:=⟨C.length / 2,⋯⟩;obtain⟨H2,b,x7,x8,T,I,eL⟩:=Hl l7 ⇑(.arg ns) (RO.map Sw.l) C hf (cut C none ⇑(hf:Int)) H1 (Bd.new n RO) none none (λc hc=>by
  unfold cut at hc;exact cI c (wy (zx hc))) T0 I0
 have nn:(0:Int)<(n:Int):=⋯;obtain⟨bar,eb⟩:=sJ (x:=v / 56 % (n:Int)) (kh _ ⋯);have hbar:bar<n:=by have:=wt (v / 56) nn;lia
 have m3:v / 448 % 3=0\/v / 448 % 3=1\/v / 448 % 3=2:=⋯;obtain⟨kd,hk,ek⟩:∃kd∈K3,cx [D.str ("live":Str),.str ("dead":Str),.str ("earthed":Str)] (v / 448 % 3)=⇑(.str kd):=by
  rcases m3 with m3|m3|m3<;>rw[m3]
  ·exact⟨_,⋯,rfl⟩
  ·exact⟨_,⋯,rfl⟩
  ·exact⟨_,⋯,rfl⟩
 obtain⟨H3,eY⟩:=L7 T I l7 hk hbar ⇑(.arg ns) (RO.map Sw.l) cI ⋯ hf x7 x8;have key:AG [⇑(.arg ns),none,none,none,none,none,none,none,none,none,none,none,none,none,none] []=.rt (.bl true) H3:=by
  have ebl:AG=ah (aj (af aB (mC (.int 2)) (af aP (ax bw (ag (aa 0) (ag (mC (.int 0)) ae))) (mC (.int 7)))) (ak 1))
   (ah (aj (af aP (af aU (ax bw (ag (aa 0) (ag (mC (.int 0)) ae))) (mC (.int 7))) (mC (.int 8))) (ak 2))
   (ah (aj (aO (cM 1 [1,0] (jL (ag (aa 2) ae)) (ak 0) aR (ax cU (ag (af aU (ax bw (ag (aa 2) (ag (af aB (mC (.int 1)) (aa 0)) ae))) (mC (.int 3))) (ag (aa 1) ae))))) (ak 3))
   (ah (aj (aO (bz (ag (pG "Desk" dt ae) (ag (pG "Desk" dt ae) ae)))) (ak 4))
   (ah (aG (dZ (aY (aA (ax fq (ag (af ay (aa 4) (mC (.int 0))) (ag (aa 1) (ag (aa 3) ae)))))) (aY (aA (ax fq (ag (af ay (aa 4) (mC (.int 1))) (ag (aa 1) (ag (aa 3) ae))))))) (ai (mC (.bl false))) aH)
   (ah (aj (cQ (aa 0) cL (cN (mC (.int 64)))) (ak 5))
   (ah (aj (af aU (bh bJ (ag (aa 5) ae)) (mC (.int 2))) (ak 6))
   (ah (bB (bC (cQ (aa 5) cL (cN (aa 6)))) (ak 7) tj)
   (ah (aj (af aP (af aU (ax bw (ag (aa 0) (ag (mC (.int 0)) ae))) (mC (.int 56))) (aa 1)) (ak 9))
   (ah (aj (af ay (aO (bz (ag (mC (.str "live")) (ag (mC (.str "dead")) (ag (mC (.str "earthed")) ae))))) (af aP (af aU (ax bw (ag (aa 0) (ag (mC (.int 0)) ae))) (mC (.int 448))) (mC (.int 3)))) (ak 10))
   oI))))))))):=rfl
  rw[ebl];have er:Vx 0 RO.length=(List.range' 0 RO.length).map λk:Nat=>D.int k:=by rw[B6,List.range_eq_range']
  have hc1:((RO.length:Nat):Int).natAbs<4611686018427387904:=⋯;have lr:((List.range' 0 RO.length).map λk:Nat=>D.int k).length<16777216:=by simp;lia
  have n0:0<n:=⋯;refine(bf (ρ':=[⇑(.arg ns),⇑(.int (n:Nat)),none,none,none,none,none,none,none,none,none,none,none,none,none]) (h':=[]) (by simp[ev,en])).trans ?_;refine(bf (ρ':=[⇑(.arg ns),⇑(.int (n:Nat)),⇑(.int (RO.length:Nat)),none,none,none,none,none,none,none,none,none,none,none,none]) (h':=[]) (by simp[ev,ec])).trans ?_;refine(bf (ρ':=[⇑(.arg ns),⇑(.int (n:Nat)),⇑(.int (RO.length:Nat)),⇑(.lst (RO.map Sw.l)),none,none,none,none,none,none,none,none,none,none,none]) (h':=[]) ?_).trans ?_
  ·have cm:cM 1 [1,0] (jL (ag (aa 2) ae)) (ak 0) aR (ax cU (ag (af aU (ax bw (ag (aa 2) (ag (af aB (mC (.int 1)) (aa 0)) ae))) (mC (.int 3))) (ag (aa 1) ae))) [⇑(.arg ns),⇑(.int (n:Nat)),⇑(.int (RO.length:Nat)),none,none,none,none,none,none,none,none,none,none,none,none] []=.ok (RO.map Sw.l) []:=by
    have li:jL (ag (aa 2) ae) [⇑(.arg ns),⇑(.int (n:Nat)),⇑(.int (RO.length:Nat)),none,none,none,none,none,none,none,none,none,none,none,none] []=.ok (none,(List.range' 0 RO.length).map λk:Nat=>D.int k) []:=by
     rw[<-er];simp only[jL,ag,aa,ae,z5,qy,bU,R7,hc1,if_true,Int.toNat_natCast]
    rw[BG,li];generalize(List.range' 0 RO.length).map (λk:Nat=>D.int k)=T at*;generalize RO.map Sw.l=V at*;simp only[bU,R7,lr,if_true,BJ];exact eS
   generalize RO.map Sw.l=V at*;simp[-BG, -aU,cm]
  generalize RO.map Sw.l=V at*;refine(bf (ρ':=[⇑(.arg ns),⇑(.int (n:Nat)),⇑(.int (RO.length:Nat)),⇑(.lst V),⇑(.lst [.ref 0,.ref 1]),none,none,none,none,none,none,none,none,none,none]) (h':=[aQ .RY .RY,aQ .RY .RY]) (by simp[d0,d1])).trans ?_;refine(bf (ρ':=[⇑(.arg ns),⇑(.int (n:Nat)),⇑(.int (RO.length:Nat)),⇑(.lst V),⇑(.lst [.ref 0,.ref 1]),none,none,none,none,none,none,none,none,none,none]) (h':=H1) ?_).trans ?_
  ·generalize [aQ .RY .RY,aQ .RY .RY]=h2 at*
   simp[e0,e1]
  refine(bf (ρ':=[⇑(.arg ns),⇑(.int (n:Nat)),⇑(.int (RO.length:Nat)),⇑(.lst V),⇑(.lst [.ref 0,.ref 1]),⇑(.lst C),none,none,none,none,none,none,none,none,none]) (h':=H1) (by simp[hC])).trans ?_;refine(bf (ρ':=a_ ⇑(.arg ns) n RO.length V C hf none none none none none none none none) (h':=H1) (by simp[a_,show C.length<=16777216 by lia,ehf])).trans ?_;refine(bf (ρ':=a_ ⇑(.arg ns) n RO.length V C hf x7 x8 none none none none none none) (h':=H2) ?_).trans ?_
  ·have li:bC (cQ (aa 5) cL (cN (aa 6))) (a_ ⇑(.arg ns) n RO.length V C hf none none none none none none none none) H1=.ok (none,cut C none ⇑(hf:Int)) H1:=by simp[a_]
   rw[kL,li];simp only[cG,iz];exact eL
  refine(bf (ρ':=a_ ⇑(.arg ns) n RO.length V C hf x7 x8 ⇑(.int (bar:Nat)) none none none none none) (h':=H2) (by simp[a_,ev,n0,eb])).trans ?_;refine(bf (ρ':=a_ ⇑(.arg ns) n RO.length V C hf x7 x8 ⇑(.int (bar:Nat)) ⇑(.str kd) none none none none) (h':=H2) (by simp[a_,ev,ek])).trans ?_;exact eY
 have k2:AG ([D.arg ns].map some++List.replicate (15 - [D.arg ns].length) none) []=.rt (.bl true) H3:=key;unfold Fl aq;rw[if_pos (show[D.arg ns].length=1 from rfl),k2];show ∃h,fin _ _ _=_;unfold fin;split
 ·exact⟨_,rfl⟩
 ·split<;>exact⟨_,rfl⟩
end My
namespace My
open PySem L2
noncomputable def aM(i:Nat):Stmt:=PySem.Challenge.pw_earthward_k43_whole_reach_from_text.main.body.getD i (.Pass ⟨0,0,0,0⟩)
abbrev Dv:Stmt:=bP (aM 19) 0
abbrev GF:Stmt:=bP (aM 19) 1
abbrev GJ:Stmt:=bP (aM 19) 2
abbrev Dl:Stmt:=bP (aM 19) 3
abbrev EC:Stmt:=bP (aM 20) 0
abbrev Gq:Stmt:=bP (aM 20) 1
abbrev FT:Stmt:=bP (aM 21) 0
abbrev FQ:Stmt:=bP (aM 21) 1
abbrev FV:Stmt:=bP (aM 22) 0
abbrev F5:Stmt:=bP (aM 22) 1
abbrev FH:Stmt:=bP (aM 23) 0
abbrev E3:Stmt:=bP (aM 23) 1
abbrev F3:Stmt:=bP (aM 23) 2
abbrev GI:Stmt:=aM 24
abbrev yI:Stmt:=aM 26
abbrev DS:Stmt:=bP (aM 27) 0
abbrev FU:Stmt:=bP (aM 27) 1
abbrev CY:Stmt:=bP (aM 27) 2
abbrev Gj:Stmt:=bP (aM 27) 3
abbrev Ej:Stmt:=bP (aM 27) 4
abbrev En:Stmt:=bP (aM 27) 5
abbrev EI:Stmt:=bP (aM 27) 6
abbrev Eh:Stmt:=aM 28
abbrev Dt:Stmt:=aM 29
abbrev Dn:Stmt:=aM 30
abbrev De:Stmt:=aM 31
abbrev Cz:Stmt:=aM 36
abbrev Ew:Stmt:=aM 37
abbrev DI:Stmt:=aM 38
abbrev CB:Stmt:=aM 39
abbrev Gg:Stmt:=aM 40
abbrev GK:Stmt:=aM 42
abbrev Eo:Stmt:=aM 46
abbrev vH:Stmt:=bP (aM 49) 0
abbrev D4:Stmt:=bP (aM 49) 1
abbrev C6:Stmt:=bP (aM 49) 2
abbrev yE:Stmt:=bP (aM 49) 3
abbrev FJ:Stmt:=bP (aM 49) 5
abbrev DC:Stmt:=bP (aM 49) 6
abbrev F8:Stmt:=bP (aM 49) 7
abbrev Eu:Stmt:=bP (aM 49) 8
abbrev CF:Stmt:=bP (aM 49) 9
abbrev F_:Stmt:=aM 51
abbrev xH:Stmt:=aM 52
abbrev Ds:Stmt:=aM 53
abbrev vI:Stmt:=aM 54
abbrev vk:Stmt:=aM 55
abbrev Fc:Stmt:=aM 62
abbrev FR:Stmt:=aM 63
abbrev wK:Stmt:=aM 64
abbrev Gz:Stmt:=aM 65
abbrev Dw:Stmt:=aM 66
abbrev GC:Stmt:=aM 68
abbrev Dy:Stmt:=aM 70
abbrev FG:Stmt:=aM 71
abbrev Er:Stmt:=aM 72
abbrev Ex:Stmt:=aM 73
abbrev Es:Stmt:=bP (aM 74) 0
abbrev E9:Stmt:=bP (aM 74) 1
abbrev E2:Stmt:=bP (aM 74) 2
abbrev Ft:Stmt:=bP (aM 74) 3
abbrev Gd:Stmt:=bP (aM 74) 4
abbrev F9:Stmt:=bP (aM 74) 5
abbrev DX:Stmt:=bP (aM 74) 6
abbrev Ei:Stmt:=aM 76
abbrev FN:Stmt:=aM 77
abbrev xl:Stmt:=aM 78
abbrev E6:Stmt:=aM 79
abbrev Em:Stmt:=aM 80
abbrev FL:Stmt:=aM 81
abbrev F0:Stmt:=aM 82
abbrev Dj:Stmt:=aM 83
abbrev GN:Stmt:=aM 84
abbrev xg:Stmt:=aM 85
theorem xR:Sg ["self","yard"] ["self","yard"] (cu vH):=eg
theorem BD:Sg ["self","some","given"] ["self"] (cu yE):=eg
theorem uJ:Sg ["net","free","layer","came_by","behind","standing","number","after"] ["net","free","layer","came_by"] (cu xH):=eg
theorem AJ:Sg ["standing","came_by","numbers","number"] ["standing","came_by"] (cu vI):=eg
theorem rR:Sg ["yard","standing","fixed","wish","net","free","came_by","layer","reached"] ["yard","standing","fixed","wish"] (cu vk):=eg
theorem C4:Sg ["row","words","kind"] ["row"] (cu wK):=eg
theorem CZ:Sg ["desk","row","done"] ["desk","row"] (cu xl):=eg
abbrev aK(K:W.Frag)(mg:Str->Option Value)(x:Str):=FnT K mg x x
set_option genInjectivity false in
structure Txt (P:Program) (w:World) (K:W.Frag) (mg:Str->Option Value)where
 (Wm Xw Xy X0 Xx U7 f_Qk f_Xd U8 f_Qc f_Qx UR f_Q2 f_Ql US f_Q0 f_Q8 f_Q6 Ti f_Qo f_Qi f_Q5 f_Qj f_Qm f_Q1 f_X1 UQ Te f_Qb f_Qd f_Qp f_X8 f_X3 f_X9 f_Qv f_Qs f_Q4 Uq f_Qf f_Xv f_Xb f_Q7 f_Xm f_Xa f_Xg Wf Wl Wk Wh Wj Wu Ws Wi Wr Wn Wv Wt Wq Wg Wo SU f_Xl f_has f_Yk f_Xx f_Ya f_X5 f_Qq f_Xc f_Yc f_Y7 f_Y9 f_Xs f_Qr f_Qh f_Qy f_Ye f_Xu f_Ym f_Xn f_Qt f_Y2 f_Xw f_Xf f_Yf f_Q3 f_X6 f_X4 f_Xt f_Qw f_X0 f_Xi f_Xo f_Qa f_Xe f_Qz f_X2 f_Q9 Yo S6:Addr)
 (fd_Qu fd_Qe fd_Qn fd_Qg fd_Qk fd_Xd fd_Qc fd_Qx fd_Q2 fd_Ql fd_Q0 fd_Q8 fd_Q6 fd_Qo fd_Qi fd_Q5 fd_Qj fd_Qm fd_Q1 fd_X1 fd_Qb fd_Qd fd_Qp fd_X8 fd_X3 fd_X9 fd_Qv fd_Qs fd_Q4 fd_Qf fd_Xv fd_Xb fd_Q7 fd_Xm fd_Xa fd_Xg fd_Xl YX fd_Yk fd_Xx fd_Ya fd_X5 fd_Qq fd_Xc fd_Yc fd_Y7 fd_Y9 fd_Xs fd_Qr fd_Qh fd_Qy fd_Ye fd_Xu fd_Ym fd_Xn fd_Qt fd_Y2 fd_Xw fd_Xf fd_Yf fd_Q3 fd_X6 fd_X4 fd_Xt fd_Qw fd_X0 fd_Xi fd_Xo fd_Qa fd_Xe fd_Qz fd_X2 fd_Q9 Wd:FuncData)
 X6:TZ K mg "Switch" Wm
 mt_Qu:Meth K Wm "feeds" Xw
 W2:Ta K "feeds" "Switch.feeds" Dv Xw fd_Qu ["self"]
 mt_Qe:Meth K Wm "earths" Xy
 W4:Ta K "earths" "Switch.earths" GF Xy fd_Qe ["self"]
 mt_Qn:Meth K Wm "joins" X0
 XC:Ta K "joins" "Switch.joins" GJ X0 fd_Qn ["self"]
 mt_Qg:Meth K Wm "gentle" Xx
 W3:Ta K "gentle" "Switch.gentle" Dl Xx fd_Qg ["self"]
 WB:TZ K mg "Feed" U7
 mt_Qk:Meth K U7 "__init__" f_Qk
 ZK:Ta K "__init__" "Feed.__init__" EC f_Qk fd_Qk ["self","bar"]
 mt_Xd:Meth K U7 "feeds" f_Xd
 Zn:Ta K "feeds" "Feed.feeds" Gq f_Xd fd_Xd ["self"]
 UL:Meth K U7 "earths" Xy
 U5:Meth K U7 "joins" X0
 UK:Meth K U7 "gentle" Xx
 Vy:TL K U7 "bar"
 WC:TZ K mg "Earth" U8
 mt_Qc:Meth K U8 "__init__" f_Qc
 ZQ:Ta K "__init__" "Earth.__init__" FT f_Qc fd_Qc ["self","bar"]
 mt_Qx:Meth K U8 "earths" f_Qx
 ZD:Ta K "earths" "Earth.earths" FQ f_Qx fd_Qx ["self"]
 UN:Meth K U8 "feeds" Xw
 UM:Meth K U8 "joins" X0
 Ux:Meth K U8 "gentle" Xx
 Vi:TL K U8 "bar"
 VS:TZ K mg "Breaker" UR
 mt_Q2:Meth K UR "__init__" f_Q2
 ZZ:Ta K "__init__" "Breaker.__init__" FV f_Q2 fd_Q2 ["self","one","other"]
 mt_Ql:Meth K UR "joins" f_Ql
 ZJ:Ta K "joins" "Breaker.joins" F5 f_Ql fd_Ql ["self"]
 Uk:Meth K UR "feeds" Xw
 Ub:Meth K UR "earths" Xy
 Ua:Meth K UR "gentle" Xx
 UH:TL K UR "one"
 Uj:TL K UR "other"
 VT:TZ K mg "Splitter" US
 mt_Q0:Meth K US "__init__" f_Q0
 Z1:Ta K "__init__" "Splitter.__init__" FH f_Q0 fd_Q0 ["self","one","other"]
 mt_Q8:Meth K US "joins" f_Q8
 ZU:Ta K "joins" "Splitter.joins" E3 f_Q8 fd_Q8 ["self"]
 mt_Q6:Meth K US "gentle" f_Q6
 ZW:Ta K "gentle" "Splitter.gentle" F3 f_Q6 fd_Q6 ["self"]
 T_:Meth K US "feeds" Xw
 TU:Meth K US "earths" Xy
 Uv:TL K US "one"
 T9:TL K US "other"
 S8:TZ K mg "Net" Ti
 Vz:Meth K Ti "__init__" f_Qo
 Wz:Ta K "__init__" "Net.__init__" DS f_Qo fd_Qo ["self","yard"]
 mt_Qi:Meth K Ti "shut_ones" f_Qi
 ZM:Ta K "shut_ones" "Net.shut_ones" FU f_Qi fd_Qi ["self","standing"]
 mt_Q5:Meth K Ti "joined_bars" f_Q5
 ZX:Ta K "joined_bars" "Net.joined_bars" CY f_Q5 fd_Q5 ["self","standing","some"]
 mt_Qj:Meth K Ti "live_bars" f_Qj
 ZL:Ta K "live_bars" "Net.live_bars" Gj f_Qj fd_Qj ["self","standing"]
 mt_Qm:Meth K Ti "led_bars" f_Qm
 ZI:Ta K "led_bars" "Net.led_bars" Ej f_Qm fd_Qm ["self","standing"]
 mt_Q1:Meth K Ti "earthed_bars" f_Q1
 Z0:Ta K "earthed_bars" "Net.earthed_bars" En f_Q1 fd_Q1 ["self","standing"]
 mt_X1:Meth K Ti "is_safe" f_X1
 Zy:Ta K "is_safe" "Net.is_safe" EI f_X1 fd_X1 ["self","standing"]
 Uw:TL K Ti "switches"
 Z2:TZ K mg "Bundle" UQ
 WR:TL K UQ "common"
 W_:TL K UQ "goals"
 U0:TL K UQ "net"
 W9:TL K UQ "pairs"
 W8:TL K UQ "place"
 W7:TL K UQ "power"
 UG:TL K UQ "yard"
 TH:TZ K mg "Board" Te
 mt_Qb:Meth K Te "__init__" f_Qb
 ZR:Ta K "__init__" "Board.__init__" vH f_Qb fd_Qb ["self","yard"]
 mt_Qd:Meth K Te "standing" f_Qd
 ZP:Ta K "standing" "Board.standing" D4 f_Qd fd_Qd ["self"]
 mt_Qp:Meth K Te "locked" f_Qp
 ZH:Ta K "locked" "Board.locked" C6 f_Qp fd_Qp ["self"]
 mt_X8:Meth K Te "held" f_X8
 Zs:Ta K "held" "Board.held" yE f_X8 fd_X8 ["self"]
 mt_X3:Meth K Te "turn" f_X3
 Zw:Ta K "turn" "Board.turn" FJ f_X3 fd_X3 ["self","number"]
 mt_X9:Meth K Te "lock" f_X9
 Zr:Ta K "lock" "Board.lock" DC f_X9 fd_X9 ["self","number"]
 mt_Qv:Meth K Te "unlock" f_Qv
 H_Qv:Ta K "unlock" "Board.unlock" F8 f_Qv fd_Qv ["self","number"]
 mt_Qs:Meth K Te "permit" f_Qs
 H_Qs:Ta K "permit" "Board.permit" Eu f_Qs fd_Qs ["self","place"]
 mt_Q4:Meth K Te "give_back" f_Q4
 H_Q4:Ta K "give_back" "Board.give_back" CF f_Q4 fd_Q4 ["self","number"]
 UJ:TL K Te "given"
 Ts:TL K Te "last_number"
 UI:TL K Te "locks"
 Vk:TL K Te "net"
 U4:TL K Te "shut"
 U1:TL K Te "yard"
 U9:TZ K mg "Desk" Uq
 mt_Qf:Meth K Uq "__init__" f_Qf
 ZO:Ta K "__init__" "Desk.__init__" Es f_Qf fd_Qf ["self"]
 mt_Xv:Meth K Uq "say" f_Xv
 Zb:Ta K "say" "Desk.say" E9 f_Xv fd_Xv ["self","row"]
 mt_Xb:Meth K Uq "begin" f_Xb
 Zp:Ta K "begin" "Desk.begin" E2 f_Xb fd_Xb ["self","yard"]
 mt_Q7:Meth K Uq "add_switch" f_Q7
 ZV:Ta K "add_switch" "Desk.add_switch" Ft f_Q7 fd_Q7 ["self","row"]
 mt_Xm:Meth K Uq "done" f_Xm
 Zh:Ta K "done" "Desk.done" Gd f_Xm fd_Xm ["self","kind","number"]
 mt_Xa:Meth K Uq "reach" f_Xa
 Zq:Ta K "reach" "Desk.reach" F9 f_Xa fd_Xa ["self","words"]
 mt_Xg:Meth K Uq "tell" f_Xg
 Zk:Ta K "tell" "Desk.tell" DX f_Xg fd_Xg ["self","kind"]
 UZ:TL K Uq "board"
 Vj:TL K Uq "yard"
 ac_Yj:W.nsIn K mainGlobals "Held"=⇑⇑(.ref Wf)
 xq_Yj:W.excIn K Wf [.type "ValueError",.type "Exception",.type "BaseException",.type "object"] "ValueError.__new__"=true
 xm_Yj:mg "Held"=⇑(.ref Wf)
 ac_Y4:W.nsIn K mainGlobals "Loaded"=⇑⇑(.ref Wl)
 xq_Y4:W.excIn K Wl [.type "ValueError",.type "Exception",.type "BaseException",.type "object"] "ValueError.__new__"=true
 xm_Y4:mg "Loaded"=⇑(.ref Wl)
 ac_Y5:W.nsIn K mainGlobals "Locked"=⇑⇑(.ref Wk)
 xq_Y5:W.excIn K Wk [.type "ValueError",.type "Exception",.type "BaseException",.type "object"] "ValueError.__new__"=true
 xm_Y5:mg "Locked"=⇑(.ref Wk)
 ac_Yg:W.nsIn K mainGlobals "NoBar"=⇑⇑(.ref Wh)
 xq_Yg:W.excIn K Wh [.type "ValueError",.type "Exception",.type "BaseException",.type "object"] "ValueError.__new__"=true
 xm_Yg:mg "NoBar"=⇑(.ref Wh)
 ac_Y6:W.nsIn K mainGlobals "NoLock"=⇑⇑(.ref Wj)
 xq_Y6:W.excIn K Wj [.type "ValueError",.type "Exception",.type "BaseException",.type "object"] "ValueError.__new__"=true
 xm_Y6:mg "NoLock"=⇑(.ref Wj)
 ac_Xh:W.nsIn K mainGlobals "NoMeasure"=⇑⇑(.ref Wu)
 xq_Xh:W.excIn K Wu [.type "ValueError",.type "Exception",.type "BaseException",.type "object"] "ValueError.__new__"=true
 xm_Xh:mg "NoMeasure"=⇑(.ref Wu)
 ac_Xq:W.nsIn K mainGlobals "NoPermit"=⇑⇑(.ref Ws)
 xq_Xq:W.excIn K Ws [.type "ValueError",.type "Exception",.type "BaseException",.type "object"] "ValueError.__new__"=true
 xm_Xq:mg "NoPermit"=⇑(.ref Ws)
 ac_Yb:W.nsIn K mainGlobals "NoRow"=⇑⇑(.ref Wi)
 xq_Yb:W.excIn K Wi [.type "ValueError",.type "Exception",.type "BaseException",.type "object"] "ValueError.__new__"=true
 xm_Yb:mg "NoRow"=⇑(.ref Wi)
 ac_Xr:W.nsIn K mainGlobals "NoSwitch"=⇑⇑(.ref Wr)
 xq_Xr:W.excIn K Wr [.type "ValueError",.type "Exception",.type "BaseException",.type "object"] "ValueError.__new__"=true
 xm_Xr:mg "NoSwitch"=⇑(.ref Wr)
 ac_Y1:W.nsIn K mainGlobals "NotDead"=⇑⇑(.ref Wn)
 xq_Y1:W.excIn K Wn [.type "ValueError",.type "Exception",.type "BaseException",.type "object"] "ValueError.__new__"=true
 xm_Y1:mg "NotDead"=⇑(.ref Wn)
 ac_X7:W.nsIn K mainGlobals "NotEarthed"=⇑⇑(.ref Wv)
 xq_X7:W.excIn K Wv [.type "ValueError",.type "Exception",.type "BaseException",.type "object"] "ValueError.__new__"=true
 xm_X7:mg "NotEarthed"=⇑(.ref Wv)
 ac_Xj:W.nsIn K mainGlobals "NotLocked"=⇑⇑(.ref Wt)
 xq_Xj:W.excIn K Wt [.type "ValueError",.type "Exception",.type "BaseException",.type "object"] "ValueError.__new__"=true
 xm_Xj:mg "NotLocked"=⇑(.ref Wt)
 ac_Xz:W.nsIn K mainGlobals "NotOpen"=⇑⇑(.ref Wq)
 xq_Xz:W.excIn K Wq [.type "ValueError",.type "Exception",.type "BaseException",.type "object"] "ValueError.__new__"=true
 xm_Xz:mg "NotOpen"=⇑(.ref Wq)
 ac_Yi:W.nsIn K mainGlobals "Same"=⇑⇑(.ref Wg)
 xq_Yi:W.excIn K Wg [.type "ValueError",.type "Exception",.type "BaseException",.type "object"] "ValueError.__new__"=true
 xm_Yi:mg "Same"=⇑(.ref Wg)
 ac_Y0:W.nsIn K mainGlobals "Shorted"=⇑⇑(.ref Wo)
 xq_Y0:W.excIn K Wo [.type "ValueError",.type "Exception",.type "BaseException",.type "object"] "ValueError.__new__"=true
 xm_Y0:mg "Shorted"=⇑(.ref Wo)
 ac_Xk:W.nsIn K mainGlobals "WardError"=⇑⇑(.ref SU)
 xq_Xk:W.excIn K SU [.type "ValueError",.type "Exception",.type "BaseException",.type "object"] "ValueError.__new__"=true
 xm_Xk:mg "WardError"=⇑(.ref SU)
 Zi:aK K mg "switch_of" GI f_Xl fd_Xl ["switch"]
 XB:aK K mg "has" yI f_has YX ["some","number"]
 Y3:aK K mg "live" Eh f_Yk fd_Yk ["yard","standing"]
 Y_:aK K mg "earthed" Dt f_Xx fd_Xx ["yard","standing"]
 Y6:aK K mg "lowest" Dn f_Ya fd_Ya ["some"]
 Zu:aK K mg "numbers_in" De f_X5 fd_X5 ["some"]
 ZG:aK K mg "check_switch" Cz f_Qq fd_Qq ["yard","number"]
 Zo:aK K mg "after_turn" Ew f_Xc fd_Xc ["standing","number"]
 Y5:aK K mg "loads" DI f_Yc fd_Yc ["net","standing","number"]
 Y8:aK K mg "shorts" CB f_Y7 fd_Y7 ["net","standing","number"]
 Y7:aK K mg "turned" Gg f_Y9 fd_Y9 ["yard","standing","number"]
 Ze:aK K mg "can_lock" GK f_Xs fd_Xs ["switch"]
 H_Qr:aK K mg "fewest_locks" Eo f_Qr fd_Qr ["yard","place"]
 ZN:aK K mg "free_switches" F_ f_Qh fd_Qh ["yard","fixed"]
 ZC:aK K mg "layer_behind" xH f_Qy fd_Qy ["net","free","layer","came_by"]
 Y4:aK K mg "meets" Ds f_Ye fd_Ye ["net","standing","wish"]
 Zc:aK K mg "deeds_to" vI f_Xu fd_Xu ["standing","came_by"]
 Y2:aK K mg "plan" vk f_Ym fd_Ym ["yard","standing","fixed","wish"]
 Zg:aK K mg "is_number" Fc f_Xn fd_Xn ["word"]
 ZF:aK K mg "numbers_told" FR f_Qt fd_Qt ["words"]
 Y9:aK K mg "parted" wK f_Y2 fd_Y2 ["row"]
 Za:aK K mg "count_in" Gz f_Xw fd_Xw ["row"]
 Zl:aK K mg "switch_in" Dw f_Xf fd_Xf ["row","bars","switches_ahead"]
 H_Yf:aK K mg "shown" GC f_Yf fd_Yf ["yard"]
 ZY:aK K mg "joined_by_blanks" Dy f_Q3 fd_Q3 ["numbers"]
 Zt:aK K mg "one_number" FG f_X6 fd_X6 ["words"]
 Zv:aK K mg "place_told" Er f_X4 fd_X4 ["words","bars"]
 Zd:aK K mg "wish_for" Ex f_Xt fd_Xt ["kind","place"]
 ZE:aK K mg "_law_cell_at" Ei f_Qw fd_Qw ["script","k"]
 Zz:aK K mg "_law_switch" FN f_X0 fd_X0 ["cell","bars"]
 Zj:aK K mg "_law_done" xl f_Xi fd_Xi ["desk","row"]
 Zf:aK K mg "_law_has" E6 f_Xo fd_Xo ["answer","number"]
 ZS:aK K mg "_law_as_wished" Em f_Qa fd_Qa ["desk","kind","bar"]
 Zm:aK K mg "_law_told" FL f_Xe fd_Xe ["desk","bars","switches"]
 ZA:aK K mg "_law_numbers" F0 f_Qz fd_Qz ["answer","count"]
 Zx:aK K mg "_law_walked" Dj f_X2 fd_X2 ["desk","cells","count","kind","bar"]
 ZT:aK K mg "_law_plan_done" GN f_Q9 fd_Q9 ["desk","steps","kind","bar"]
 H_law:aK K mg "law" xg Yo Wd ["script"]
 Yq:mg "len"=none
 b_sum:mg "sum"=none
 b_all:mg "all"=none
 b_any:mg "any"=none
 Vp:mg "isinstance"=none
 b_max:mg "max"=none
 VM:mg "sorted"=none
 b_int:mg "int"=none
 Yp:mg "str"=none
 Xz:mg "list"=none
 X2:mg "tuple"=none
 X3:mg "range"=none
 Ww:mg "reversed"=none
 VN:mg "enumerate"=none
 b_dict:mg "dict"=none
 X4:mg "ValueError"=none
 b_zip:mg "zip"=none
 S5:GV mg "NUMBERS_BEHIND" (.ref S6)
 VL:GV mg "MOST_BARS" (.int 10)
 UA:GV mg "MOST_SWITCHES" (.int 12)
 UT:GV mg "MOST_FIGURES" (.int 9)
 WX:GV mg "FIGURES" (.str "0123456789")
 WM:Clause K SU
 T7:W.mroIn K Wf (.ref SU)=⇑true
 Tx:W.mroIn K Wl (.ref SU)=⇑true
 Tv:W.mroIn K Wk (.ref SU)=⇑true
 TQ:W.mroIn K Wh (.ref SU)=⇑true
 Tu:W.mroIn K Wj (.ref SU)=⇑true
 Tc:W.mroIn K Wu (.ref SU)=⇑true
 Tn:W.mroIn K Ws (.ref SU)=⇑true
 TN:W.mroIn K Wi (.ref SU)=⇑true
 Tj:W.mroIn K Wr (.ref SU)=⇑true
 Tr:W.mroIn K Wn (.ref SU)=⇑true
 S0:W.mroIn K Wv (.ref SU)=⇑true
 Tb:W.mroIn K Wt (.ref SU)=⇑true
 Tq:W.mroIn K Wq (.ref SU)=⇑true
 T6:W.mroIn K Wg (.ref SU)=⇑true
 Tp:W.mroIn K Wo (.ref SU)=⇑true
 S4:BU P w K S6 [(.inr "bars",(.int 1)),(.inr "feed",(.int 1)),(.inr "earth",(.int 1)),(.inr "breaker",(.int 2)),(.inr "splitter",(.int 2))]
 Bl:∀(s:Shared) (u:Value),BindsTo s Wd ⟨[u],[]⟩ [("script",u)]
section
variable {P : Program} {w : World} {K : W.Frag} {mg : Str -> Option Value} (T : Txt P w K mg)
theorem Txt.x_Yj:Exc K mg "Held" T.Wf:=⟨T.ac_Yj,⟨_,_,_,_,T.xq_Yj,PySem.F.excBase_ValueError⟩,T.xm_Yj⟩
theorem Txt.x_Y4:Exc K mg "Loaded" T.Wl:=⟨T.ac_Y4,⟨_,_,_,_,T.xq_Y4,PySem.F.excBase_ValueError⟩,T.xm_Y4⟩
theorem Txt.x_Y5:Exc K mg "Locked" T.Wk:=⟨T.ac_Y5,⟨_,_,_,_,T.xq_Y5,PySem.F.excBase_ValueError⟩,T.xm_Y5⟩
theorem Txt.x_Yg:Exc K mg "NoBar" T.Wh:=⟨T.ac_Yg,⟨_,_,_,_,T.xq_Yg,PySem.F.excBase_ValueError⟩,T.xm_Yg⟩
theorem Txt.x_Y6:Exc K mg "NoLock" T.Wj:=⟨T.ac_Y6,⟨_,_,_,_,T.xq_Y6,PySem.F.excBase_ValueError⟩,T.xm_Y6⟩
theorem Txt.x_Xh:Exc K mg "NoMeasure" T.Wu:=⟨T.ac_Xh,⟨_,_,_,_,T.xq_Xh,PySem.F.excBase_ValueError⟩,T.xm_Xh⟩
theorem Txt.x_Xq:Exc K mg "NoPermit" T.Ws:=⟨T.ac_Xq,⟨_,_,_,_,T.xq_Xq,PySem.F.excBase_ValueError⟩,T.xm_Xq⟩
theorem Txt.x_Yb:Exc K mg "NoRow" T.Wi:=⟨T.ac_Yb,⟨_,_,_,_,T.xq_Yb,PySem.F.excBase_ValueError⟩,T.xm_Yb⟩
theorem Txt.x_Xr:Exc K mg "NoSwitch" T.Wr:=⟨T.ac_Xr,⟨_,_,_,_,T.xq_Xr,PySem.F.excBase_ValueError⟩,T.xm_Xr⟩
theorem Txt.x_Y1:Exc K mg "NotDead" T.Wn:=⟨T.ac_Y1,⟨_,_,_,_,T.xq_Y1,PySem.F.excBase_ValueError⟩,T.xm_Y1⟩
theorem Txt.x_X7:Exc K mg "NotEarthed" T.Wv:=⟨T.ac_X7,⟨_,_,_,_,T.xq_X7,PySem.F.excBase_ValueError⟩,T.xm_X7⟩
theorem Txt.x_Xj:Exc K mg "NotLocked" T.Wt:=⟨T.ac_Xj,⟨_,_,_,_,T.xq_Xj,PySem.F.excBase_ValueError⟩,T.xm_Xj⟩
theorem Txt.x_Xz:Exc K mg "NotOpen" T.Wq:=⟨T.ac_Xz,⟨_,_,_,_,T.xq_Xz,PySem.F.excBase_ValueError⟩,T.xm_Xz⟩
theorem Txt.x_Yi:Exc K mg "Same" T.Wg:=⟨T.ac_Yi,⟨_,_,_,_,T.xq_Yi,PySem.F.excBase_ValueError⟩,T.xm_Yi⟩
theorem Txt.x_Y0:Exc K mg "Shorted" T.Wo:=⟨T.ac_Y0,⟨_,_,_,_,T.xq_Y0,PySem.F.excBase_ValueError⟩,T.xm_Y0⟩
theorem Txt.x_Xk:Exc K mg "WardError" T.SU:=⟨T.ac_Xk,⟨_,_,_,_,T.xq_Xk,PySem.F.excBase_ValueError⟩,T.xm_Xk⟩
theorem Txt.k_Yl:GV mg "Feed" (.ref T.U7):=T.WB.k
theorem Txt.k_Yh:GV mg "Earth" (.ref T.U8):=T.WC.k
theorem Txt.k_Xy:GV mg "Breaker" (.ref T.UR):=T.VS.k
theorem Txt.k_Xp:GV mg "Splitter" (.ref T.US):=T.VT.k
theorem Txt.k_Net:GV mg "Net" (.ref T.Ti):=T.S8.k
theorem Txt.k_Y8:GV mg "Bundle" (.ref T.UQ):=T.Z2.k
theorem Txt.k_Yd:GV mg "Board" (.ref T.Te):=T.TH.k
theorem Txt.k_Yn:GV mg "Desk" (.ref T.Uq):=T.U9.k
end
noncomputable def aC{P:Program}{w:World}{K:W.Frag}{mg:Str->Option Value}(T:Txt P w K mg)(n:String):Addr:=
 if n="Held"then T.Wf else
 if n="Loaded"then T.Wl else
 if n="Locked"then T.Wk else
 if n="NoBar"then T.Wh else
 if n="NoLock"then T.Wj else
 if n="NoMeasure"then T.Wu else
 if n="NoPermit"then T.Ws else
 if n="NoRow"then T.Wi else
 if n="NoSwitch"then T.Wr else
 if n="NotDead"then T.Wn else
 if n="NotEarthed"then T.Wv else
 if n="NotLocked"then T.Wt else
 if n="NotOpen"then T.Wq else
 if n="Same"then T.Wg else
 if n="Shorted"then T.Wo else
 if n="WardError"then T.SU else
 if n="Switch"then T.Wm else
 if n="Feed"then T.U7 else
 if n="Earth"then T.U8 else
 if n="Breaker"then T.UR else
 if n="Splitter"then T.US else
 if n="Net"then T.Ti else
 if n="Bundle"then T.UQ else
 if n="Board"then T.Te else
 if n="Desk"then T.Uq else
 0
abbrev ct{P:Program}{w:World}{K:W.Frag}{mg:Str->Option Value}(T:Txt P w K mg):Ct:=⟨P,w,K,aC T⟩
section
variable {P : Program} {w : World} {K : W.Frag} {mg : Str -> Option Value} (T : Txt P w K mg) (base : Heap)
theorem mR:aC T "Held"=T.Wf:=by simp[aC]
theorem kK:aC T "Loaded"=T.Wl:=by simp[aC]
theorem kX:aC T "Locked"=T.Wk:=by simp[aC]
theorem l4:aC T "NoBar"=T.Wh:=by simp[aC]
theorem lB:aC T "NoLock"=T.Wj:=by simp[aC]
theorem lY:aC T "NoMeasure"=T.Wu:=by simp[aC]
theorem t9:aC T "NoPermit"=T.Ws:=by simp[aC]
theorem CQ:aC T "NoRow"=T.Wi:=by simp[aC]
theorem kM:aC T "NoSwitch"=T.Wr:=by simp[aC]
theorem xG:aC T "NotDead"=T.Wn:=by simp[aC]
theorem yB:aC T "NotEarthed"=T.Wv:=by simp[aC]
theorem ve:aC T "NotLocked"=T.Wt:=by simp[aC]
theorem l_:aC T "NotOpen"=T.Wq:=by simp[aC]
theorem kT:aC T "Same"=T.Wg:=by simp[aC]
theorem lA:aC T "Shorted"=T.Wo:=by simp[aC]
theorem An:aC T "Switch"=T.Wm:=by simp[aC]
theorem sX:aC T "Feed"=T.U7:=by simp[aC]
theorem sH:aC T "Earth"=T.U8:=by simp[aC]
theorem oO:aC T "Breaker"=T.UR:=by simp[aC]
theorem pk:aC T "Splitter"=T.US:=by simp[aC]
theorem iR:aC T "Net"=T.Ti:=by simp[aC]
theorem m8:aC T "Bundle"=T.UQ:=by simp[aC]
theorem fc:aC T "Board"=T.Te:=by simp[aC]
theorem kE:aC T "Desk"=T.Uq:=by simp[aC]
theorem pY:di (ct T) "bar" lL:=(bR (sX T) T.WB.cl T.Vy (bR (sH T) T.WC.cl T.Vi iG))
theorem NR:di (ct T) "board" cn:=(bR (kE T) T.U9.cl T.UZ iG)
theorem Kl:di (ct T) "given" Bx:=(bR (fc T) T.TH.cl T.UJ iG)
theorem NO:di (ct T) "last_number" CW:=(bR (fc T) T.TH.cl T.Ts iG)
theorem K5:di (ct T) "locks" iM:=(bR (fc T) T.TH.cl T.UI iG)
theorem HB:di (ct T) "net" xJ:=(bR (m8 T) T.Z2.cl T.U0 (bR (fc T) T.TH.cl T.Vk iG))
theorem ph:di (ct T) "one" lP:=(bR (oO T) T.VS.cl T.UH (bR (pk T) T.VT.cl T.Uv iG))
theorem Oa:di (ct T) "other" m7:=(bR (oO T) T.VS.cl T.Uj (bR (pk T) T.VT.cl T.T9 iG))
theorem Js:di (ct T) "shut" kU:=(bR (fc T) T.TH.cl T.U4 iG)
theorem LW:di (ct T) "switches" gP:=(bR (iR T) T.S8.cl T.Uw iG)
theorem FA:di (ct T) "yard" cq:=(bR (m8 T) T.Z2.cl T.UG (bR (fc T) T.TH.cl T.U1 (bR (kE T) T.U9.cl T.Vj iG)))
theorem rT:p9 (ct T) T.SU WM:=(b9 (mR T) T.T7 (b9 (kK T) T.Tx (b9 (kX T) T.Tv (b9 (l4 T) T.TQ (b9 (lB T) T.Tu (b9 (lY T) T.Tc (b9 (t9 T) T.Tn (b9 (CQ T) T.TN (b9 (kM T) T.Tj (b9 (xG T) T.Tr (b9 (yB T) T.S0 (b9 (ve T) T.Tb (b9 (l_ T) T.Tq (b9 (kT T) T.T6 (b9 (lA T) T.Tp Pn)))))))))))))))
abbrev OK(k:Nat){x q:Str}{st:Stmt}{f:Addr}{fd:FuncData}{ps:List Str}(_:FnT K mg x q st f fd ps)(z:Z.MF):Prop:=FnG P w K mg base (CXE P w) k x (fD (ct T) z)
abbrev OM(k:Nat){x q:Str}{st:Stmt}{f:Addr}{fd:FuncData}{ps:List Str}(_:Ta K x q st f fd ps)(z:Z.MF):Prop:=Si P w K mg base (CXE P w) k f fd ps (fD (ct T) z)
theorem DM{a:Str}:(a::l)[0]?=⇑a:=rfl
theorem Pf{a x:Str}{i:Nat}(h:l[i]?=⇑x):(a::l)[i+1]?=⇑x:=h
structure Hi (a b:List Str) (c:List Nat):Prop where n:(a++b).Nodup
theorem BE{X:Cx}{scope:Scope}{cl:List (Str×Addr)}{S_ TV:List Str}{idx:List Nat}(_:Hi S_ TV idx)(_:(scope.names.filter (·.2== .local)).map (·.1)=(".0":Str)::S_/\(∀c∈TV,scope.names.lookup c=⇑.free)/\(scope.names.filter (·.2== .free)).length=TV.length:=by decide+kernel)(a:closureFor scope X.env=pure cl:=by rfl)(b:scope.kind=.function:=by rfl)(c:∀y∈scope.names,y.2≠ .cell:=by decide+kernel)(d:∀y∈scope.names,y.2=.local->scope.names.lookup y.1=⇑.local:=by decide+kernel)(e:∀p∈cl,X.env.cells.lookup p.1=⇑p.2:=by repeat' first|exact List.forall_mem_nil _|refine List.forall_mem_cons.mpr ⟨rfl,?_⟩)(f:((relabel scope X.env).names.all λy=> !(y.2== .cell||y.2== .free)||(cl.lookup y.1).isSome)=true:=by rfl)(g:Vs X scope cl TV idx:=by repeat' first|exact .nil|refine .cons rfl (by first|exact Or.inl rfl|exact Or.inr rfl) (by first|exact Or.inl rfl|exact Or.inr rfl) rfl rfl ?_):UW X scope cl S_ TV idx:=⟨a,b,c,d,e,f,g⟩
theorem Hu{C:Ct}{k:Nat}{m:Str}{tab:List (String×Z.MF)}(_:TB C mg base k m tab){X:Cx}{E:XK}{e:Expr}{ta:TE}{t:TA}(h:PE X e (kR X.prog X.w X.K X.mg X.base (CXE P w) k m E ta t))(h1:X.prog=P:=by rfl)(h2:X.w=w:=by rfl)(h3:X.K=K:=by rfl)(h4:X.mg=mg:=by rfl)(h5:X.base=base:=by rfl):PE X e (kR P w K mg base (CXE P w) k m E ta t):=ou h1 h2 h3 h4 h5 h
theorem au{x qual:Str}{st:Stmt}{f:Addr}{fd:FuncData}{ps:List Str}{k np nn:Nat}{b:Z.MS}{z:Z.MF}(F:XM K x qual st f fd)(N:List Str)(S:Sg N ps (cu st):=by exact eg)(hz:z=Z.aq np nn b:=by rfl)(hp:ps.length=np:=by rfl)(hn:N.length=nn:=by rfl)(hle:np<=nn:=by decide)
  (hb:N.Nodup->∀(Sz:Value) (A:Around) (outer:List Env) (s:Shared) (H:Hp) (E:XK),Sf k (A.deeper (PyProof.Rows.envOfC qual (cu st) s.heap.objs.size f Sz))->∃t,VP (aL (CXE P w) P w K mg base N qual (cu st) f Sz A outer s H E) (fT st) t/\SS (ct T) E t b:=by intro nd Sz A outer s H E hr;have hu:=hr.units;refine' ⟨_,?_,?_⟩;(repeat' first|((with_reducible show PA _ _ _);first|with_reducible exact b_|refine' bx ?_ ?_)|((with_reducible show PE _ _ _);first|with_reducible exact xA|with_reducible exact ic|((with_reducible show PE _ (.Name _ _) _);first|exact pv 0|exact pv 1|exact pv 2|exact pv 3|exact pv 4|exact pv 5|exact pv 6|exact pv 7|exact pv 8|exact pv 9|exact pv 10|exact pv 11|exact pv 12|exact pv 13|exact pv 14|exact s_ T.WX|exact s_ T.VL|exact s_ T.UT|exact s_ T.UA|exact yM T.Yp IF)|refine' DP (K:=K) rfl (D9 ?_ rfl)|((with_reducible show PE _ (.Subscript _ _ _) _);first|refine' Ig (uY (K:=K) rfl) ?_ ?_ ?_|refine' lJ P w K hu ?_ ?_)|((with_reducible show PE _ (.UnaryOp _ _ _) _);first|refine' Qp (K:=K) rfl ?_|refine' yu ?_ ?_)|refine' Pw ?_ ?_ ?_ (by first|exact Bu _|with_unfolding_all rfl)|((with_reducible show PE _ (.ListComp _ _ _ _) _);first|refine' kG (BE h0) rfl ?_ ?_ (λ_ _ _ _=> ?_) (λ_ _ _ _=> ?_) (λ_ _ _ _=> ?_)|refine' kG (BE h1) rfl ?_ ?_ (λ_ _ _ _=> ?_) (λ_ _ _ _=> ?_) (λ_ _ _ _=> ?_))|((with_reducible show PE _ (.Call (.Name _ _) _ _ _) _);first|refine' c9 (by assumption) (hm hr) (by first|exact eT|exact uz) ?_|refine' Fi (by assumption) (hm hr) (by first|exact eT|exact uz) ?_|refine' nS (by assumption) (hm hr) (by first|exact eT|exact uz)|refine' jO (NB (K:=K) rfl rfl) (by rfl) T.b_all qF ?_|refine' jO (Rb (K:=K) rfl rfl) (by rfl) T.b_any ro ?_|refine' jO (Mj (K:=K) rfl) (by rfl) T.Vp NA ?_|refine' jO (IQ (P:=P) (w:=w) (K:=K) rfl rfl rfl) (by rfl) T.Yq Ki ?_|refine' jO (Lw (K:=K) rfl rfl) (by rfl) T.b_max rX ?_|refine' jO (L8 (K:=K) rfl rfl) (by rfl) T.b_sum n9 ?_|refine' Cf (NW) (by rfl) T.b_int oE ?_|refine' Cf (QV) (by rfl) T.Yp IF ?_)|((with_reducible show PE _ (.Call (.Attribute _ _ _) _ _ _) _);first|refine' tF (K:=K) rfl (tI PySem.F.plainAttrs_str PySem.F.slot_str_split PySem.F.type_str_split Jo ?_ ?_)|refine' tF (K:=K) rfl (tI PySem.F.plainAttrs_str PySem.F.slot_str_join PySem.F.type_str_join (Oc (K:=K) rfl) ?_ ?_)|refine' tF (K:=K) rfl (tI PySem.F.plainAttrs_list PySem.F.slot_list_append PySem.F.type_list_append Aj ?_ ?_)|refine' LS (K:=K) rfl (pS PySem.F.plainAttrs_int PySem.F.slot_int_bit_length PySem.F.type_int_bit_length Pp ?_)|refine' Hu (P:=P) (w:=w) (K:=K) base (by assumption) (yn ?_ (hm hr) (by first|exact eT|exact uz) ?_)|refine' Hu (P:=P) (w:=w) (K:=K) base (by assumption) (r9 ?_ (hm hr) (by first|exact eT|exact uz)))|with_reducible exact GR|with_reducible exact Gm|with_reducible refine' Am ?_ ?_ ?_|with_reducible refine' Br ?_|with_reducible refine' ya ?_|with_reducible refine' rj ?_|with_reducible refine' nF ?_ ?_|with_reducible refine' y_ ?_ ?_|with_reducible refine' QK ?_ ?_ ?_|with_reducible refine' nH ?_|with_reducible refine' xS ?_)|((with_reducible show VP _ _ _);first|exact BM|refine' dM ?_|refine' cC ?_ ?_)|((with_reducible show PS _ _ _);first|with_reducible refine' mL ?_|with_reducible refine' BW ?_ ?_ ?_|refine' EM ?_|refine' Jj (by first|exact T.x_Yj|exact T.x_Y4|exact T.x_Y5|exact T.x_Yg|exact T.x_Y6|exact T.x_Xh|exact T.x_Yb|exact T.x_Xr|exact T.x_Xz|exact T.x_Yi|exact T.x_Y0) ?_ (hr.mono (w6 _))|refine' y9 dS rfl ?_ ?_ ?_|refine' EB dS ?_ ?_|((with_reducible show PS _ (.Assign _ (.ListComp _ _ _ _) _) _);first|refine' Kz nd ?_ (by first|exact Or.inl rfl|exact Or.inr rfl) (BE h0) rfl ?_ ?_ (λ_ _ _ _=> ?_) (λ_ _ _ _=> ?_) (λ_ _ _ _=> ?_)|refine' Kz nd ?_ (by first|exact Or.inl rfl|exact Or.inr rfl) (BE h1) rfl ?_ ?_ (λ_ _ _ _=> ?_) (λ_ _ _ _=> ?_) (λ_ _ _ _=> ?_))|refine' pq (K:=K) rfl (pd ?_ ?_ rfl)|refine' eA nd ?_ (by first|exact Or.inl rfl|exact Or.inr rfl) ?_)|((with_reducible show bA _ _ _);first|with_reducible refine' pF ?_|with_reducible refine' Fj (K:=K) ?_|with_reducible exact qJ|with_reducible exact O9|with_reducible exact n_|with_reducible exact qV|with_reducible exact pe|with_reducible exact qM|with_reducible exact l8|with_reducible exact oh|with_reducible exact yV|with_reducible exact vh|with_reducible exact zK|with_reducible exact wC|with_reducible exact nW|with_reducible refine' HD ?_|with_reducible refine' oQ (P:=P) (w:=w) (K:=K) ?_ ?_ ?_ ?_|with_reducible refine' F4 (P:=P) (w:=w) (K:=K) ?_ ?_ ?_ ?_)|((with_reducible show PT _ _ _);first|with_reducible refine' Ek ?_|((with_reducible show PT _ (.Compare _ _ _ _) _);first|refine' yT ?_ ?_ ?_ (by first|exact Bu _|with_unfolding_all rfl)|refine' Ng ?_ ?_ ?_ ?_ ?_)|((with_reducible show PT _ (.BoolOp _ _ _) _);first|refine' PW.pt ?_)|refine' uW (K:=K) rfl ?_ (λ_=>rfl))|((with_reducible show PW _ _ _);first|with_reducible refine' G_ ?_|with_reducible refine' FZ ?_ ?_|with_reducible refine' Io ?_|with_reducible refine' nq ?_ ?_)|((with_reducible show PO _ _ _);first|with_reducible exact Kk|with_reducible refine' KU ?_)|((with_reducible show PF _ _ _);first|with_reducible exact oP|with_reducible refine' rm ?_)|((with_reducible show PJ _ _ _);first|with_reducible exact ox|with_reducible refine' LZ ?_ ?_)|((with_reducible show PI _ _ _ _);first|((with_reducible show PI _ _ (.Call (.Name _ _) _ _ _) _);first|refine' Oh rfl T.X3 ?_|refine' Q6 (K:=K) rfl (NC rfl T.VN ?_)|refine' Np (K:=K) rfl (pL rfl T.b_zip ?_))|refine' jy (K:=K) rfl ?_)|((with_reducible show PG _ _ _);first|refine' uA (by first|exact nd|exact h0.n|exact h1.n) ?_ (by first|exact Or.inl rfl|exact Or.inr rfl)|refine' J4 (K:=K) rfl (KO (n:=2) rfl ?_)|refine' J4 (K:=K) rfl (KO (n:=3) rfl ?_))|((with_reducible show tq _ _ _);first|with_reducible exact Pl|refine' P8 ?_ ?_)|with_reducible exact qG|with_reducible exact oB|exact rfl|exact DM|refine' Pf ?_|exact hu);repeat' first|(with_reducible first|((show SA _ _ _ _);first|exact cH|apply bF)|((show SE _ _ _ _);first|exact aS|exact vU|exact iw|apply dr|apply iU|apply Ho|apply qU|apply EW|apply Bs|apply lF|apply CN|apply CO|apply Gw|apply PY|apply rq|apply wO|apply pj|apply DZ|apply L0|apply xr|apply Cs|apply wZ|apply CH|apply rn|exact nT|exact EG|exact C9|(refine' mr λ_ _=> ?_;simp only[RV];refine' (congrArg V.ref ?_).symm))|((show S2 _ _ _);first|exact t8|exact Cv|exact su|exact mH|exact sC|exact rJ|exact nN|exact rP|exact oj|exact lV|exact oV|exact ny|exact zS|exact xC|exact uE|exact vY|exact CV|exact zD)|((show SS _ _ _ _);first|exact Cb|apply cy|apply vc|apply jA|apply dg|apply Jl|apply nC|apply EJ|apply DA|apply va|apply AZ|apply Az|apply BP)|((show ST _ _ _ _);first|apply vG|apply yC|apply Eg|apply lS|apply DQ|exact yP)|((show SL _ _ _);first|exact Ko|exact pT|exact sA|exact nX|exact rV|exact pQ|exact nZ|exact nV)|((show SN _ _ _ _);first|apply xI|apply JB)|((show SI _ _ _ _);first|apply jr|apply Ls|apply N3|apply rG)|((show SG _ _ _ _);first|exact cY|apply oS)|((show Ah _ _ _ _);first|exact Nb|apply QG)|((show SO _ _ _ _);first|exact lW|apply nh)|((show SJ _ _ _ _);first|exact nP|apply OC)|((show di _ _ _);first|exact pY T|exact NR T|exact K5 T|exact HB T|exact ph T|exact Oa T|exact Js T|exact LW T|exact FA T)|exact oz|exact sk|exact Ln|exact fc T|exact oO T|exact kE T|exact sH T|exact sX T|exact mR T|exact kK T|exact kX T|exact iR T|exact l4 T|exact lB T|exact lY T|exact CQ T|exact kM T|exact l_ T|exact kT T|exact lA T|exact pk T|exact rfl|assumption)|apply Az|apply cy|apply vc|apply jA|apply dg|apply Jl|apply nC|apply EJ|apply DA|apply va|apply AZ|apply BP|apply qX|exact rfl|exact Nt ⋯ |refine' QY ?_|exact Qi|refine' MU ⋯ ?_):Si P w K mg base (CXE P w) (k+1) f fd ps (fD (ct T) z):=eh F S (hb S.nd) hz hp hn hle
seal PE PA PS VP
local macro_rules | `(tactic| trivial) => `(tactic| first | exact Or.inl rfl | exact Or.inr rfl)
seal FnG TB jw0
theorem xb:OK T base 1 T.Zf jQ:=by
 exact bM T.Zf (au T base T.Zf.F ["answer","number"])
theorem lq:OK T base 1 T.ZY cj:=by
 have h0:Hi ["number"] [] []:=⟨⋯⟩;exact bM T.ZY (au T base T.ZY.F ["numbers"])
theorem yq:OK T base 1 T.Zg f6:=by
 have h0:Hi ["sign"] [] []:=⟨⋯⟩;exact bM T.Zg (au T base T.Zg.F ["word"])
theorem DK:OK T base 2 T.ZF dF:=by
 have h0:Hi ["word"] [] []:=⟨⋯⟩;have:=yq T base;exact bM T.ZF (au T base T.ZF.F ["words"])
theorem zH:OK T base 3 T.Zt gS:=by
 have:=DK T base;exact bM T.Zt (au T base T.Zt.F ["words"])
theorem mP:OK T base 3 T.Zv fJ:=by
 have h0:Hi ["one","other"] [] []:=⟨⋯⟩;have h1:Hi ["number"] [] []:=⟨⋯⟩;have:=DK T base;exact bM T.Zv (au T base T.Zv.F ["words","bars","numbers"])
theorem mW:OK T base 3 T.Y9 ee:=by
 refine bM T.Y9 (eh (b:=ow) T.Y9.F C4 λSz A outer s H E hr=> ?_);have hu:=hr.units;refine⟨_,(cC (eA (i:=1) C4.nd rfl (by trivial) (tF (K:=K) rfl (tI PySem.F.plainAttrs_str PySem.F.slot_str_split PySem.F.type_str_split Jo (pv 0) (bx xA b_))))
   (cC (eA (i:=2) C4.nd rfl (by trivial) (lJ P w K hu (pv 1) ic))
   (cC (BW (PW.pt (nq (yT (F4 (P:=P) (w:=w) (K:=K) rfl rfl rfl hu) (pv 2) (s_ T.S5) (by with_unfolding_all rfl)) (Io (yT (HD hu) (jO (IQ (P:=P) (w:=w) (K:=K) rfl rfl rfl) (by rfl) T.Yq Ki (bx (pv 1) b_)) (Am (Fj (K:=K) rfl) ic (lJ P w K hu (s_ T.S5) (pv 2))) (Bu _))))) (dM (Jj T.x_Yb xA (hr.mono (w6 _)))) BM)
   (dM (mL (Cf (Lx (K:=K) rfl) (by rfl) T.X2 LD (bx (Am (Fj (K:=K) rfl) (ya (bx (pv 2) b_)) (c9 (DK T base) (hm hr) eT (bx (Ig (uY (K:=K) rfl) (pv 1) (KU ic) Kk) b_))) b_))))))),?_⟩
 exact(cy (dg (lF (JB aS (bF vU cH))) cY)
   (cy (dg (fu aS iw) cY)
   (cy (vc (lS (vG (dr CV aS (mr λ_ _=>by unfold ur;simp only[RV];exact⟨_,_,rfl,T.S4,rfl⟩))) (vG (dr ny (qU Ko (bF aS cH)) (dr Cv iw (fu (mr λ_ _=>by unfold ur;simp only[RV];exact⟨_,_,rfl,T.S4,rfl⟩) aS))))) (DA (CQ T) vU) Cb)
   (jA (qU Qd (bF (dr Cv (lF (xI (bF aS cH))) (iU (bF (xr aS (nh iw) lW) cH))) cH))))))
theorem uB:OK T base 4 T.Za iJ:=by
 have:=mW T base;exact bM T.Za (au T base T.Za.F ["row","told"])
theorem vz:OK T base 1 T.H_Qr yS:=by
 exact bM T.H_Qr Ab
theorem uT:OK T base 4 T.Zl dH:=by
 have:=mW T base;exact bM T.Zl (au T base T.Zl.F ["row","bars","switches_ahead","switch"])
theorem zQ:OM T base 1 T.ZZ rE:=by
 exact au T base T.ZZ.F ["self","one","other"]
theorem yX:OM T base 1 T.ZQ nE:=by
 exact au T base T.ZQ.F ["self","bar"]
theorem vo:OM T base 1 T.ZK r6:=by
 exact au T base T.ZK.F ["self","bar"]
theorem t5:OM T base 1 T.Z1 ri:=by
 exact au T base T.Z1.F ["self","one","other"]
theorem ua:OK T base 3 T.Zi fN:=by
 have:=gT T.WB T.mt_Qk T.ZK (vo T base);have:=gT T.WC T.mt_Qc T.ZQ (yX T base);have:=gT T.VS T.mt_Q2 T.ZZ (zQ T base);have:=gT T.VT T.mt_Q0 T.Z1 (t5 T base);exact bM T.Zi (au T base T.Zi.F ["switch","kind"])
theorem yo:OM T base 4 T.Wz c_:=by
 have h0:Hi ["switch"] [] []:=⟨⋯⟩;have:=ua T base;exact au T base T.Wz.F ["self","yard"]
theorem yx:OM T base 6 T.ZR h8:=by
 refine eh (b:=iF) T.ZR.F xR λSz A outer s H E hr=> ?_;have hu:=hr.units;refine⟨_,(cC (pq (K:=K) rfl (pd (pv 0) (Br (bx (lJ P w K hu (pv 1) ic) (bx (Cf (Ny (K:=K) rfl) (by rfl) T.Xz K0 (bx (lJ P w K hu (pv 1) ic) b_)) b_))) rfl))
   (cC (pq (K:=K) rfl (pd (pv 0) (Fi (gT T.S8 T.Vz T.Wz (yo T base)) (hm hr) eT (bx (DP (K:=K) rfl (D9 (pv 0) rfl)) b_)) rfl))
   (cC (pq (K:=K) rfl (pd (pv 0) ic rfl))
   (cC (pq (K:=K) rfl (pd (pv 0) ic rfl))
   (cC (pq (K:=K) rfl (pd (pv 0) Mn rfl))
   (dM (pq (K:=K) rfl (pd (pv 0) ic rfl)))))))),?_⟩
 exact(cy (nC (FA T) aS (Bs (bF (fu aS iw) (bF (lF (pN (bF (fu aS iw) cH))) cH))))
   (cy (nC (HB T) aS (Gw (iR T) (bF (EW (FA T) aS) cH)))
   (cy (nC (Js T) aS iw)
   (cy (nC (K5 T) aS iw)
   (cy (nC (Kl T) aS pK)
   (nC (NO T) aS iw))))))
theorem xZ:OM T base 8 T.Zp dh:=by
 have:=gT T.TH T.mt_Qb T.ZR (yx T base);exact au T base T.Zp.F ["self","yard"]
theorem JN:TB (ct T) mg base 8 "begin" vm:=by
 exact(bH (kE T) T.U9.cl T.mt_Xb (xZ T base) ⋯ T.Zp.B cO)
theorem wH:OM T base 9 T.ZV ie:=by
 have:=uT T base;have:=JN T base;exact au T base T.ZV.F ["self","row","bars","switches"]
theorem sY:OK T base 1 T.XB eV:=by
 exact bM T.XB (au T base T.XB.F ["some","number"])
theorem vf:OM T base 1 T.H_Q4 xi:=by
 exact Ab
theorem Fg:OK T base 1 T.ZG gA:=by
 exact bM T.ZG (au T base T.ZG.F ["yard","number"])
theorem BQ:OM T base 1 T.W2 eE:=by
 exact au T base T.W2.F ["self"]
theorem xv:OM T base 1 T.Zn o_:=by
 exact au T base T.Zn.F ["self"]
theorem Cq:OM T base 1 T.W3 dW:=by
 exact au T base T.W3.F ["self"]
theorem yU:OM T base 1 T.ZW oH:=by
 exact au T base T.ZW.F ["self"]
theorem Kv:TB (ct T) mg base 1 "feeds" iT:=by
 exact(bH (An T) T.X6.cl T.mt_Qu (BQ T base) ⋯ T.W2.B (bH (sX T) T.WB.cl T.mt_Xd (xv T base) ⋯ T.Zn.B (bH (sH T) T.WC.cl T.UN (BQ T base) ⋯ T.W2.B (bH (oO T) T.VS.cl T.Uk (BQ T base) ⋯ T.W2.B (bH (pk T) T.VT.cl T.T_ (BQ T base) ⋯ T.W2.B cO)))))
theorem KA:TB (ct T) mg base 1 "gentle" i5:=by
 exact(bH (An T) T.X6.cl T.mt_Qg (Cq T base) ⋯ T.W3.B (bH (sX T) T.WB.cl T.UK (Cq T base) ⋯ T.W3.B (bH (sH T) T.WC.cl T.Ux (Cq T base) ⋯ T.W3.B (bH (oO T) T.VS.cl T.Ua (Cq T base) ⋯ T.W3.B (bH (pk T) T.VT.cl T.mt_Q6 (yU T base) ⋯ T.ZW.B cO)))))
theorem zB:OK T base 2 T.Ze fV:=by
 have:=Kv T base;have:=KA T base;exact bM T.Ze (au T base T.Ze.F ["switch"])
theorem z_:OM T base 3 T.Zr eG:=by
 have:=Fg T base;have:=zB T base;have:=sY T base;exact au T base T.Zr.F ["self","number"]
theorem wQ:OK T base 1 T.Y6 eX:=by
 exact bM T.Y6 (au T base T.Y6.F ["some"])
theorem DN:OM T base 1 T.XC gG:=by
 exact au T base T.XC.F ["self"]
theorem uF:OM T base 1 T.ZJ pB:=by
 exact au T base T.ZJ.F ["self"]
theorem xm:OM T base 1 T.ZU nU:=by
 exact au T base T.ZU.F ["self"]
theorem t6:OM T base 2 T.ZM i6:=by
 have h0:Hi ["number","switch"] ["standing"] [1]:=⟨⋯⟩;have:=sY T base;exact au T base T.ZM.F ["self","standing"]
theorem Le:TB (ct T) mg base 1 "joins" gD:=by
 exact(bH (An T) T.X6.cl T.mt_Qn (DN T base) ⋯ T.XC.B (bH (sX T) T.WB.cl T.U5 (DN T base) ⋯ T.XC.B (bH (sH T) T.WC.cl T.UM (DN T base) ⋯ T.XC.B (bH (oO T) T.VS.cl T.mt_Ql (uF T base) ⋯ T.ZJ.B (bH (pk T) T.VT.cl T.mt_Q8 (xm T base) ⋯ T.ZU.B cO)))))
theorem CT:TB (ct T) mg base 2 "shut_ones" jg:=by
 exact(bH (iR T) T.S8.cl T.mt_Qi (t6 T base) ⋯ T.ZM.B cO)
theorem vi:OM T base 3 T.ZX ji:=by
 have h0:Hi ["switch"] [] []:=⟨⋯⟩;have:=CT T base;have:=Le T base;exact au T base T.ZX.F ["self","standing","some","pairs","reached","ahead","pair"]
theorem Cr:TB (ct T) mg base 3 "joined_bars" qR:=by
 exact(bH (iR T) T.S8.cl T.mt_Q5 (vi T base) ⋯ T.ZX.B cO)
theorem yR:OM T base 4 T.ZL jJ:=by
 have:=CT T base;have:=Kv T base;have:=Cr T base;exact au T base T.ZL.F ["self","standing","fed","switch"]
theorem AY:TB (ct T) mg base 4 "live_bars" lT:=by
 exact(bH (iR T) T.S8.cl T.mt_Qj (yR T base) ⋯ T.ZL.B cO)
theorem lK:OK T base 5 T.Y5 eZ:=by
 have:=wQ T base;have:=KA T base;have:=Le T base;have:=AY T base;have:=Cr T base;exact bM T.Y5 (au T base T.Y5.F ["net","standing","number","switch","apart","ends"])
theorem Bn:OK T base 1 T.Zo dD:=by
 exact bM T.Zo (au T base T.Zo.F ["standing","number"])
theorem A3:OM T base 1 T.W4 eF:=by
 exact au T base T.W4.F ["self"]
theorem uo:OM T base 1 T.ZD pJ:=by
 exact au T base T.ZD.F ["self"]
theorem NY:TB (ct T) mg base 1 "earths" mE:=by
 exact(bH (An T) T.X6.cl T.mt_Qe (A3 T base) ⋯ T.W4.B (bH (sX T) T.WB.cl T.UL (A3 T base) ⋯ T.W4.B (bH (sH T) T.WC.cl T.mt_Qx (uo T base) ⋯ T.ZD.B (bH (oO T) T.VS.cl T.Ub (A3 T base) ⋯ T.W4.B (bH (pk T) T.VT.cl T.TU (A3 T base) ⋯ T.W4.B cO)))))
theorem zM:OM T base 3 T.ZI jC:=by
 have:=CT T base;have:=NY T base;exact au T base T.ZI.F ["self","standing","led","switch"]
theorem Mp:TB (ct T) mg base 3 "led_bars" xj:=by
 exact(bH (iR T) T.S8.cl T.mt_Qm (zM T base) ⋯ T.ZI.B cO)
theorem xh:OM T base 4 T.Z0 jW:=by
 have:=Cr T base;have:=Mp T base;exact au T base T.Z0.F ["self","standing"]
theorem Fv:TB (ct T) mg base 4 "earthed_bars" tN:=by
 exact(bH (iR T) T.S8.cl T.mt_Q1 (xh T base) ⋯ T.Z0.B cO)
theorem yY:OM T base 5 T.Zy jU:=by
 have:=AY T base;have:=Fv T base;exact au T base T.Zy.F ["self","standing"]
theorem Qh:TB (ct T) mg base 5 "is_safe" CL:=by
 exact(bH (iR T) T.S8.cl T.mt_X1 (yY T base) ⋯ T.Zy.B cO)
theorem kQ:OK T base 6 T.Y8 fI:=by
 have:=Bn T base;have:=Qh T base;exact bM T.Y8 (au T base T.Y8.F ["net","standing","number"])
theorem vT:OK T base 7 T.Y7 fZ:=by
 have:=Fg T base;have:=gT T.S8 T.Vz T.Wz (yo T base);have:=lK T base;have:=kQ T base;have:=Bn T base;exact bM T.Y7 (au T base T.Y7.F ["yard","standing","number","net"])
theorem yD:OM T base 1 T.Zs fX:=by
 refine eh (b:=pH) T.Zs.F BD λSz A outer s H E hr=> ?_;have hu:=hr.units;refine⟨_,(cC (eA (i:=1) BD.nd rfl (by trivial) ic)
   (cC (QU dS rfl (DP (K:=K) rfl (D9 (pv 0) rfl)) (uA (i:=2) BD.nd rfl (by trivial)) (dM (eA (i:=1) BD.nd rfl (by trivial) (Am l8 (pv 1) (lJ P w K hu (pv 2) ic)))))
   (dM (mL (pv 1))))),?_⟩
 exact(cy (dg iw cY)
   (cy (M_ (EW (Kl T) aS) cY (dg (dr lV aS (fu aS iw)) cY))
   (jA aS)))
theorem Ik:TB (ct T) mg base 1 "held" tG:=by
 exact(bH (fc T) T.TH.cl T.mt_X8 (yD T base) ⋯ T.Zs.B cO)
theorem uU:OM T base 8 T.Zw du:=by
 have:=Fg T base;have:=sY T base;have:=vT T base;have:=Ik T base;exact au T base T.Zw.F ["self","number"]
theorem uK:OM T base 1 T.H_Qv yp:=by
 exact Ab
theorem LX:TB (ct T) mg base 1 "give_back" K9:=by
 exact(bH (fc T) T.TH.cl T.mt_Q4 (vf T base) ⋯ T.H_Q4.B cO)
theorem OB:TB (ct T) mg base 3 "lock" CG:=by
 exact(bH (fc T) T.TH.cl T.mt_X9 (z_ T base) ⋯ T.Zr.B cO)
theorem Md:TB (ct T) mg base 8 "turn" EF:=by
 exact(bH (fc T) T.TH.cl T.mt_X3 (uU T base) ⋯ T.Zw.B cO)
theorem QE:TB (ct T) mg base 1 "unlock" JA:=by
 exact(bH (fc T) T.TH.cl T.mt_Qv (uK T base) ⋯ T.H_Qv.B cO)
theorem ue:OM T base 9 T.Zh dA:=by
 have:=sY T base;have:=Md T base;have:=OB T base;have:=QE T base;have:=LX T base;exact au T base T.Zh.F ["self","kind","number"]
theorem zW:OM T base 1 T.H_Qs t7:=by
 exact Ab
theorem vQ:OK T base 1 T.Zd jZ:=by
 exact bM T.Zd (au T base T.Zd.F ["kind","place"])
theorem yA:OK T base 2 T.ZN hG:=by
 have h0:Hi ["number"] ["fixed"] [1]:=⟨⋯⟩;have:=sY T base;exact bM T.ZN (au T base T.ZN.F ["yard","fixed"])
theorem zL:OK T base 7 T.ZC jK:=by
 refine bM T.ZC (eh (b:=iH) T.ZC.F uJ λSz A outer s H E hr=> ?_);have hu:=hr.units;refine⟨_,(cC (eA (i:=4) uJ.nd rfl (by trivial) (ya b_))
   (cC (y9 dS rfl (jy (K:=K) rfl (pv 2)) (uA (i:=5) uJ.nd rfl (by trivial)) (dM (y9 dS rfl (jy (K:=K) rfl (pv 1)) (uA (i:=6) uJ.nd rfl (by trivial)) (cC (eA (i:=7) uJ.nd rfl (by trivial) (c9 (Bn T base) (hm hr) eT (bx (pv 5) (bx (pv 6) b_))))
   (dM (BW (PW.pt (FZ (yT (F4 (P:=P) (w:=w) (K:=K) rfl rfl rfl hu) (pv 7) (pv 3) (by with_unfolding_all rfl)) (FZ (Ek (uW (K:=K) rfl (c9 (lK T base) (hm hr) eT (bx (pv 0) (bx (pv 5) (bx (pv 6) b_)))) (λ_=>rfl))) (G_ (Ek (uW (K:=K) rfl (c9 (kQ T base) (hm hr) eT (bx (pv 0) (bx (pv 5) (bx (pv 6) b_)))) (λ_=>rfl))))))) (cC (MQ (zX hr) (pv 3) (pv 7) (pv 6) rfl)
   (dM (EM (tF (K:=K) rfl (tI PySem.F.plainAttrs_list PySem.F.slot_list_append PySem.F.type_list_append Aj (pv 4) (bx (pv 7) b_)))))) BM))))))
   (dM (mL (jO (Ib (K:=K) rfl rfl) (by rfl) T.VM Lh (bx (pv 4) b_)))))),?_⟩
 exact(cy (dg (CN (xI cH)) cY)
   (cy (va (jr aS) cY (va (jr aS) cY (cy (dg (iU (bF aS (bF aS cH))) cY)
   (vc (Eg (vG (dr CV aS aS)) (Eg (DQ (yC (iU (bF aS (bF aS (bF aS cH)))))) (DQ (yC (iU (bF aS (bF aS (bF aS cH)))))))) (cy (N2 aS aS aS)
   (BP aS aS)) Cb))))
   (Az (i:=4) (jA (lF (Jn (bF aS cH)))))))
theorem vp:OK T base 5 T.Y4 fh:=by
 have:=AY T base;have:=Fv T base;exact bM T.Y4 (au T base T.Y4.F ["net","standing","wish","under_power","grounded"])
theorem yi:OK T base 2 T.Zc jk:=by
 refine bM T.Zc (eh (b:=hU) T.Zc.F AJ λSz A outer s H E hr=> ?_);have hu:=hr.units;refine⟨_,(cC (eA (i:=2) AJ.nd rfl (by trivial) (ya b_))
   (cC (EB dS (yT (Nn) (lJ P w K hu (pv 1) (pv 0)) Gm (Bu _)) (cC (eA (i:=3) AJ.nd rfl (by trivial) (lJ P w K hu (pv 1) (pv 0)))
   (cC (EM (tF (K:=K) rfl (tI PySem.F.plainAttrs_list PySem.F.slot_list_append PySem.F.type_list_append Aj (pv 2) (bx (pv 3) b_))))
   (dM (eA (i:=0) AJ.nd rfl (by trivial) (c9 (Bn T base) (hm hr) eT (bx (pv 0) (bx (pv 3) b_))))))))
   (dM (mL (oZ (K:=K) rfl (Nj rfl (by rfl) T.Xz (by rfl) T.Ww (bx (pv 2) b_))))))),?_⟩
 exact(cy (dg (CN (xI cH)) cY)
   (cy (AZ (vG (dr Mf (fu aS aS) EG)) (cy (dg (fu aS aS) cY)
   (cy (BP aS aS)
   (dg (iU (bF aS (bF aS cH))) cY))))
   (Az (i:=2) (jA (lF (Mc (bF aS cH)))))))
theorem vV:OK T base 8 T.Y2 ju:=by
 refine bM T.Y2 (eh (b:=fG) T.Y2.F rR λSz A outer s H E hr=> ?_);have hu:=hr.units;refine⟨_,(cC (eA (i:=4) rR.nd rfl (by trivial) (Fi (gT T.S8 T.Vz T.Wz (yo T base)) (hm hr) eT (bx (pv 0) b_)))
   (cC (eA (i:=5) rR.nd rfl (by trivial) (c9 (yA T base) (hm hr) eT (bx (pv 0) (bx (pv 2) b_))))
   (cC (eA (i:=6) rR.nd rfl (by trivial) (P4 (NT (pv 1) Gm Oj) rfl rfl (List.cons_ne_nil _ _) (gj rfl)))
   (cC (eA (i:=7) rR.nd rfl (by trivial) (ya (bx (pv 1) b_)))
   (cC (EB dS (uW (K:=K) rfl (pv 7) (λ_=>rfl)) (cC (y9 dS rfl (jy (K:=K) rfl (pv 7)) (uA (i:=8) rR.nd rfl (by trivial)) (dM (BW (uW (K:=K) rfl (c9 (vp T base) (hm hr) eT (bx (pv 4) (bx (pv 8) (bx (pv 3) b_)))) (λ_=>rfl)) (dM (mL (Br (bx xA (bx (c9 (yi T base) (hm hr) eT (bx (pv 8) (bx (pv 6) b_))) b_))))) BM)))
   (dM (eA (i:=7) rR.nd rfl (by trivial) (c9 (zL T base) (hm hr) eT (bx (pv 4) (bx (pv 5) (bx (pv 7) (bx (pv 6) b_)))))))))
   (dM (mL (Br (bx xA (bx (jO (Ib (K:=K) rfl rfl) (by rfl) T.VM Lh (bx (pv 6) b_)) b_)))))))))),?_⟩
 exact(cy (dg (Gw (iR T) (bF aS cH)) cY)
   (cy (dg (iU (bF aS (bF aS cH))) cY)
   (cy (dg (Nl aS EG) cY)
   (cy (dg (lF (xI (bF aS cH))) cY)
   (cy (AZ (yC aS) (cy (va (jr aS) cY (vc (yC (iU (bF aS (bF aS (bF aS cH))))) (jA (Bs (bF vU (bF (iU (bF aS (bF aS cH))) cH)))) Cb))
   (dg (iU (bF aS (bF aS (bF aS (bF aS cH))))) cY)))
   (jA (Bs (bF vU (bF (lF (Jn (bF aS cH))) cH)))))))))
theorem Af:OM T base 1 T.ZH fH:=by
 exact au T base T.ZH.F ["self"]
theorem vW:OM T base 1 T.ZP dU:=by
 exact au T base T.ZP.F ["self"]
theorem G7:TB (ct T) mg base 1 "locked" uL:=by
 exact(bH (fc T) T.TH.cl T.mt_Qp (Af T base) ⋯ T.ZH.B cO)
theorem K8:TB (ct T) mg base 1 "standing" j6:=by
 exact(bH (fc T) T.TH.cl T.mt_Qd (vW T base) ⋯ T.ZP.B cO)
theorem yG:OM T base 9 T.Zq h_:=by
 have h0:Hi ["number"] [] []:=⟨⋯⟩;have:=vQ T base;have:=mP T base;have:=vV T base;have:=K8 T base;have:=G7 T base;have:=Ik T base;exact au T base T.Zq.F ["self","words","wish","told"]
theorem um:OK T base 1 T.H_Yf uj:=by
 exact bM T.H_Yf Ab
theorem x_:OK T base 2 T.Zu e8:=by
 have h0:Hi ["number"] ["some"] [0]:=⟨⋯⟩;have:=sY T base;exact bM T.Zu (au T base T.Zu.F ["some"])
theorem uy:OK T base 6 T.Y3 jS:=by
 have:=gT T.S8 T.Vz T.Wz (yo T base);have:=AY T base;exact bM T.Y3 (au T base T.Y3.F ["yard","standing"])
theorem xQ:OK T base 6 T.Y_ i_:=by
 have:=gT T.S8 T.Vz T.Wz (yo T base);have:=Fv T base;exact bM T.Y_ (au T base T.Y_.F ["yard","standing"])
theorem wX:OM T base 7 T.Zk kA:=by
 have:=lq T base;have:=x_ T base;have:=uy T base;have:=xQ T base;have:=um T base;have:=K8 T base;have:=G7 T base;exact au T base T.Zk.F ["self","kind"]
theorem P7:TB (ct T) mg base 9 "add_switch" Ff:=by
 exact(bH (kE T) T.U9.cl T.mt_Q7 (wH T base) ⋯ T.ZV.B cO)
theorem LM:TB (ct T) mg base 9 "done" EN:=by
 exact(bH (kE T) T.U9.cl T.mt_Xm (ue T base) ⋯ T.Zh.B cO)
theorem Pz:TB (ct T) mg base 1 "permit" Ic:=by
 exact(bH (fc T) T.TH.cl T.mt_Qs (zW T base) ⋯ T.H_Qs.B cO)
theorem Ol:TB (ct T) mg base 9 "reach" CU:=by
 exact(bH (kE T) T.U9.cl T.mt_Xa (yG T base) ⋯ T.Zq.B cO)
theorem Pj:TB (ct T) mg base 7 "tell" EL:=by
 exact(bH (kE T) T.U9.cl T.mt_Xg (wX T base) ⋯ T.Zk.B cO)
theorem yW:OM T base 10 T.Zb br:=by
 have:=uB T base;have:=zH T base;have:=mP T base;have:=lq T base;have:=vz T base;have:=JN T base;have:=P7 T base;have:=LM T base;have:=Pz T base;have:=Ol T base;have:=Pj T base;exact au T base T.Zb.F ["self","row","words","kind","number"]
theorem Aq:TB (ct T) mg base 10 "say" eD:=by
 exact(bH (kE T) T.U9.cl T.mt_Xv (yW T base) ⋯ T.Zb.B cO)
theorem nc:OK T base 11 T.ZS ft:=by
 have:=xb T base;have:=Aq T base;exact bM T.ZS (au T base T.ZS.F ["desk","kind","bar"])
theorem ED:OK T base 11 T.Zj bV:=by
 refine bM T.Zj (eh (b:=fW) T.Zj.F CZ λSz A outer s H E hr=> ?_);have hu:=hr.units;refine⟨_,(cC (eA (i:=2) CZ.nd rfl (by trivial) GR)
   (cC (rQ rfl rfl (Nq (Mb (L_ (P:=P) (w:=w) (K:=K) (mg:=mg) (base:=base) rfl rfl rfl rfl rfl (pW (k:=10) (pv 0) (hm hr) (bx (pv 1) b_)))) Nf) (OY (K:=K) rfl (N9 rfl T.x_Xk.mg_ T.WM (λea=>(dM (eA (i:=2) CZ.nd rfl (by trivial) GR))) rH)))
   (dM (mL (pv 2))))),?_⟩
 exact(cy (dg nT cY)
   (cy (qN (pX (LA (Ma (Aq T base) (λ_=>aS) (bF aS cH)))) (OZ (rT T) (dg nT cY) (λc=>sD)))
   (jA aS)))
theorem yJ:OK T base 12 T.Zx iq:=by
 have:=nc T base;have:=ED T base;exact bM T.Zx (au T base T.Zx.F ["desk","cells","count","kind","bar","turns","cell"])
theorem wI:OK T base 1 T.ZA ja:=by
 exact bM T.ZA (au T base T.ZA.F ["answer","count","words","found","word"])
theorem yb:OK T base 12 T.ZT j_:=by
 have:=nc T base;have:=ED T base;exact bM T.ZT (au T base T.ZT.F ["desk","steps","kind","bar","k"])
theorem uR:OK T base 1 T.Zz cU:=by
 exact bM T.Zz (au T base T.Zz.F ["cell","bars","one","other"])
theorem v5:OK T base 1 T.ZE bw:=by
 exact bM T.ZE (au T base T.ZE.F ["script","k"])
theorem Aa:OK T base 11 T.Zm fq:=by
 have h0:Hi ["bar"] [] []:=⟨⋯⟩;have h1:Hi ["row"] ["desk"] [0]:=⟨⋯⟩;have:=Aq T base;exact bM T.Zm (au T base T.Zm.F ["desk","bars","switches","rows","switch"])
theorem yZ:OM T base 1 T.ZO dt:=by
 exact au T base T.ZO.F ["self"]
theorem ok_law:Si P w K mg base (CXE P w) 13 T.Yo T.Wd ["script"] (fD (ct T) Fl):=by
 have h0:Hi ["k"] ["bars","script"] [1,0]:=⟨⋯⟩;have:=v5 T base;have:=uR T base;have:=gT T.U9 T.mt_Qf T.ZO (yZ T base);have:=Aa T base;have:=ED T base;have:=yJ T base;have:=wI T base;have:=yb T base;have:=Aq T base;exact au T base T.H_law.F ["script","bars","count","switches","desks","cells","half","cell","row","bar","kind","before","answer","turns","steps"]
end
end My
local macro_rules | `(tactic| k_head) => do
 let hw:=Lean.mkIdent `hw;let hc:=Lean.mkIdent `hc
 `(tactic| refine PySem.W.holds_open (q:=My.vw) (loose:=[(PySem.Str.ofString "NUMBERS_BEHIND")]) (Xt:=(λs=>PySem.W.xlAt My.vw [] s&&PySem.W.recOk (PySem.Challenge.rw_earthward_k43_whole_reach_from_text).row.records s)) (XP:=PySem.W.XL My.vw []) (Yf:=PySem.W.Hook.obs (PySem.W.kHook My.pre.heap_39 My.wAl My.wHk)) (Ya:=PySem.W.Hook.val (PySem.W.kHook My.pre.heap_39 My.wAl My.wHk)) (YP:=PySem.W.Hook.says (PySem.W.kHook My.pre.heap_39 My.wAl My.wHk)) (N:=9443) My.left (PySem.W.Hook.of (PySem.W.kHook My.pre.heap_39 My.wAl My.wHk)) (PySem.W.Hook.keeps (PySem.W.kHook My.pre.heap_39 My.wAl My.wHk)) (λs e=>PySem.W.xl_of s (kq.mp e).1) PySem.W.XL.keeps (by rfl) (by rfl) (by rfl) (λs e=>PySem.W.recFacts_of (kq.mp e).2) (by rfl) (by first | assumption | decide+kernel) (by decide+kernel) ⟨rfl,rfl,rfl,rfl,rfl,by decide+kernel⟩ ?$hw ?$hc)
set_option maxRecDepth 100000 in
set_option maxHeartbeats 0 in
theorem PySem.Challenge.cw_earthward_k43_whole_reach_from_text_holds : PySem.Challenge.rw_earthward_k43_whole_reach_from_text.Holds := by
 w_on;o_law;k_head;(case hw=>w_witness2)
 k_fill
 refine L2.walk_ofE (l:=PySem.Challenge.rw_earthward_k43_whole_reach_from_text) (n:=63) (k:=13) (x:="script") (CX:=λw=>L2.CXE (PySem.Challenge.rw_earthward_k43_whole_reach_from_text).prog w) (sp:=L2.spL) rfl (by decide) rfl ⟨rfl,by decide,by decide⟩ (λw h Y=>PySem.W.kIn_of Y) ?F ?S ?C
 case F=>
  intro w mg fa h KX G hmg
  have T:Nonempty (My.Txt (PySem.Challenge.rw_earthward_k43_whole_reach_from_text).prog w (L2.KOf KX) mg):=by
   dsimp only[L2.KOf]
   open L2 in refine' ⟨⟨_,_,_,_,_,_,_,_,_,_,_,_,_,_,_,_,_,_,_,_,_,_,_,_,_,_,_,_,_,_,_,_,_,_,_,_,_,_,_,_,_,_,_,_,_,140,104,128,68,152,56,212,44,92,200,188,176,164,80,116,_,_,_,_,_,_,_,_,_,_,_,_,_,_,_,_,_,_,_,_,_,_,_,_,_,_,_,_,_,_,_,_,_,_,_,_,_,_,_,_,_,_,_,_,_,_,_,_,_,_,_,_,_,_,_,_,_,_,_,_,_,_,_,_,_,_,_,_,_,_,_,_,_,_,_,_,_,_,_,_,_,_,_,_,_,_,_,_,_,_,_,_,_,_,_,_,_,_,_,_,_,_,_,_,_,_,_,_,_,_,_,_,_,_,clm KX G ?_ ?_ ?_ ?_ ?_ ?_ ?_,⟨?_,?_,?_⟩,fnm ?_ ?_ ?_,⟨?_,?_,?_⟩,fnm ?_ ?_ ?_,⟨?_,?_,?_⟩,fnm ?_ ?_ ?_,⟨?_,?_,?_⟩,fnm ?_ ?_ ?_,clm KX G ?_ ?_ ?_ ?_ ?_ ?_ ?_,⟨?_,?_,?_⟩,fnm ?_ ?_ ?_,⟨?_,?_,?_⟩,fnm ?_ ?_ ?_,⟨?_,?_,?_⟩,⟨?_,?_,?_⟩,⟨?_,?_,?_⟩,naOf ?_,clm KX G ?_ ?_ ?_ ?_ ?_ ?_ ?_,⟨?_,?_,?_⟩,fnm ?_ ?_ ?_,⟨?_,?_,?_⟩,fnm ?_ ?_ ?_,⟨?_,?_,?_⟩,⟨?_,?_,?_⟩,⟨?_,?_,?_⟩,naOf ?_,clm KX G ?_ ?_ ?_ ?_ ?_ ?_ ?_,⟨?_,?_,?_⟩,fnm ?_ ?_ ?_,⟨?_,?_,?_⟩,fnm ?_ ?_ ?_,⟨?_,?_,?_⟩,⟨?_,?_,?_⟩,⟨?_,?_,?_⟩,naOf ?_,naOf ?_,clm KX G ?_ ?_ ?_ ?_ ?_ ?_ ?_,⟨?_,?_,?_⟩,fnm ?_ ?_ ?_,⟨?_,?_,?_⟩,fnm ?_ ?_ ?_,⟨?_,?_,?_⟩,fnm ?_ ?_ ?_,⟨?_,?_,?_⟩,⟨?_,?_,?_⟩,naOf ?_,naOf ?_,clm KX G ?_ ?_ ?_ ?_ ?_ ?_ ?_,⟨?_,?_,?_⟩,fnm ?_ ?_ ?_,⟨?_,?_,?_⟩,fnm ?_ ?_ ?_,⟨?_,?_,?_⟩,fnm ?_ ?_ ?_,⟨?_,?_,?_⟩,fnm ?_ ?_ ?_,⟨?_,?_,?_⟩,fnm ?_ ?_ ?_,⟨?_,?_,?_⟩,fnm ?_ ?_ ?_,⟨?_,?_,?_⟩,fnm ?_ ?_ ?_,naOf ?_,clm KX G ?_ ?_ ?_ ?_ ?_ ?_ ?_,naOf ?_,naOf ?_,naOf ?_,naOf ?_,naOf ?_,naOf ?_,naOf ?_,clm KX G ?_ ?_ ?_ ?_ ?_ ?_ ?_,⟨?_,?_,?_⟩,fnm ?_ ?_ ?_,⟨?_,?_,?_⟩,fnm ?_ ?_ ?_,⟨?_,?_,?_⟩,fnm ?_ ?_ ?_,⟨?_,?_,?_⟩,fnm ?_ ?_ ?_,⟨?_,?_,?_⟩,fnm ?_ ?_ ?_,⟨?_,?_,?_⟩,fnm ?_ ?_ ?_,⟨?_,?_,?_⟩,fnm ?_ ?_ ?_,⟨?_,?_,?_⟩,fnm ?_ ?_ ?_,⟨?_,?_,?_⟩,fnm ?_ ?_ ?_,naOf ?_,naOf ?_,naOf ?_,naOf ?_,naOf ?_,naOf ?_,clm KX G ?_ ?_ ?_ ?_ ?_ ?_ ?_,⟨?_,?_,?_⟩,fnm ?_ ?_ ?_,⟨?_,?_,?_⟩,fnm ?_ ?_ ?_,⟨?_,?_,?_⟩,fnm ?_ ?_ ?_,⟨?_,?_,?_⟩,fnm ?_ ?_ ?_,⟨?_,?_,?_⟩,fnm ?_ ?_ ?_,⟨?_,?_,?_⟩,fnm ?_ ?_ ?_,⟨?_,?_,?_⟩,fnm ?_ ?_ ?_,naOf ?_,naOf ?_,?_,?_,PySem.W.mg_of KX G ?_,?_,?_,PySem.W.mg_of KX G ?_,?_,?_,PySem.W.mg_of KX G ?_,?_,?_,PySem.W.mg_of KX G ?_,?_,?_,PySem.W.mg_of KX G ?_,?_,?_,PySem.W.mg_of KX G ?_,?_,?_,PySem.W.mg_of KX G ?_,?_,?_,PySem.W.mg_of KX G ?_,?_,?_,PySem.W.mg_of KX G ?_,?_,?_,PySem.W.mg_of KX G ?_,?_,?_,PySem.W.mg_of KX G ?_,?_,?_,PySem.W.mg_of KX G ?_,?_,?_,PySem.W.mg_of KX G ?_,?_,?_,PySem.W.mg_of KX G ?_,?_,?_,PySem.W.mg_of KX G ?_,?_,?_,PySem.W.mg_of KX G ?_,fnt KX G ?_ (fnm ?_ ?_ ?_),fnt KX G ?_ (fnm ?_ ?_ ?_),fnt KX G ?_ (fnm ?_ ?_ ?_),fnt KX G ?_ (fnm ?_ ?_ ?_),fnt KX G ?_ (fnm ?_ ?_ ?_),fnt KX G ?_ (fnm ?_ ?_ ?_),fnt KX G ?_ (fnm ?_ ?_ ?_),fnt KX G ?_ (fnm ?_ ?_ ?_),fnt KX G ?_ (fnm ?_ ?_ ?_),fnt KX G ?_ (fnm ?_ ?_ ?_),fnt KX G ?_ (fnm ?_ ?_ ?_),fnt KX G ?_ (fnm ?_ ?_ ?_),fnt KX G ?_ (fnm ?_ ?_ ?_),fnt KX G ?_ (fnm ?_ ?_ ?_),fnt KX G ?_ (fnm ?_ ?_ ?_),fnt KX G ?_ (fnm ?_ ?_ ?_),fnt KX G ?_ (fnm ?_ ?_ ?_),fnt KX G ?_ (fnm ?_ ?_ ?_),fnt KX G ?_ (fnm ?_ ?_ ?_),fnt KX G ?_ (fnm ?_ ?_ ?_),fnt KX G ?_ (fnm ?_ ?_ ?_),fnt KX G ?_ (fnm ?_ ?_ ?_),fnt KX G ?_ (fnm ?_ ?_ ?_),fnt KX G ?_ (fnm ?_ ?_ ?_),fnt KX G ?_ (fnm ?_ ?_ ?_),fnt KX G ?_ (fnm ?_ ?_ ?_),fnt KX G ?_ (fnm ?_ ?_ ?_),fnt KX G ?_ (fnm ?_ ?_ ?_),fnt KX G ?_ (fnm ?_ ?_ ?_),fnt KX G ?_ (fnm ?_ ?_ ?_),fnt KX G ?_ (fnm ?_ ?_ ?_),fnt KX G ?_ (fnm ?_ ?_ ?_),fnt KX G ?_ (fnm ?_ ?_ ?_),fnt KX G ?_ (fnm ?_ ?_ ?_),fnt KX G ?_ (fnm ?_ ?_ ?_),fnt KX G ?_ (fnm ?_ ?_ ?_),fnt KX G ?_ (fnm ?_ ?_ ?_),fnt KX G ?_ (fnm ?_ ?_ ?_),PySem.W.mg_none_of KX G ?_,PySem.W.mg_none_of KX G ?_,PySem.W.mg_none_of KX G ?_,PySem.W.mg_none_of KX G ?_,PySem.W.mg_none_of KX G ?_,PySem.W.mg_none_of KX G ?_,PySem.W.mg_none_of KX G ?_,PySem.W.mg_none_of KX G ?_,PySem.W.mg_none_of KX G ?_,PySem.W.mg_none_of KX G ?_,PySem.W.mg_none_of KX G ?_,PySem.W.mg_none_of KX G ?_,PySem.W.mg_none_of KX G ?_,PySem.W.mg_none_of KX G ?_,PySem.W.mg_none_of KX G ?_,PySem.W.mg_none_of KX G ?_,PySem.W.mg_none_of KX G ?_,⟨_,PySem.W.mg_of KX G ?_,rfl⟩,⟨_,PySem.W.mg_of KX G ?_,_,rfl⟩,⟨_,PySem.W.mg_of KX G ?_,_,rfl⟩,⟨_,PySem.W.mg_of KX G ?_,_,rfl⟩,⟨_,PySem.W.mg_of KX G ?_,_,rfl⟩,⟨?_,?_,?_⟩,?_,?_,?_,?_,?_,?_,?_,?_,?_,?_,?_,?_,?_,?_,?_,kdict_of ?_ ?_ ?_ ?_ (by decide+kernel),?_⟩⟩
   all_goals try first|(k_is;done)|(k_exc;done)|(rfl;done)|(k_keys;done)|((repeat (first|exact True.intro|refine And.intro ⟨_,_,rfl,rfl⟩ (And.intro ⟨_,rfl⟩ ?_)));done)|(intro s u;exact .of_eq rfl;done)
  obtain⟨T⟩:=T
  have e0:=hmg.symm.trans T.H_law.m
  cases e0
  exact⟨_,T.Bl,λbase kb nb=>L2.law_ok (C:=My.ct T) (My.ok_law T _) My.law_true⟩
 case S=>exact L2.spL_of
 case C=>exact λ_ _ _ _ _ z=>L2.cxe_out z
#print axioms PySem.Challenge.cw_earthward_k43_whole_reach_from_text_holds
