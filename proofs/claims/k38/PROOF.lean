import PyProof.Rows.All
import Wide.All
import OpenK.AllK
import Wide.FinOn
import Lean
import PyProof.EqAt
import PyProof.EqKinds
import PyProof.TupleCall
import PyProof.StrBlockL
import PyProof.Lay0
import KE.IntText
import PyProof.SliceList
import PyProof.StrLawsReplace
import PyProof.StrLawsIn
import KE.IntTextLaws
import KE.KIntText
import KE.KPairComp
import PyProof.Rows.StrMul
import PyProof.Rows.BitMore
import PyProof.ZipIter
import PySem.Challenge.RW_earthward_k38_the_board_by_rows
set_option Elab.async false
set_option linter.all false
set_option bootstrap.genMatcherCode false
set_option genSizeOf false
set_option compiler.extract_closed false
set_option maxRecDepth 100000
noncomputable section
set_option genSizeOf false
set_option maxHeartbeats 4000000
section
local macro_rules | `(tactic| o_head $H) => `(tactic| exact False.elim (by assumption))
set_option maxHeartbeats 0 in
theorem My.pre(hF:False):PySem.Challenge.rw_earthward_k38_the_board_by_rows.Holds:=by
 w_on;o_law;k_head
end
noncomputable abbrev q8:=@List.getElem?_eq_some_iff
noncomputable abbrev q9:=@List.mem_cons_of_mem
noncomputable abbrev qa:=@PySem.Heap.get?_push_of_some
noncomputable abbrev qb:=@Nat.le_refl
noncomputable abbrev qd:=@PySem.Heap.lt_size
noncomputable abbrev qe:=@List.getElem?_set_ne
noncomputable abbrev qf:=@List.mem_cons_self
noncomputable abbrev qg:=@List.getElem?_set_self
noncomputable abbrev qh:=@Nat.lt_of_lt_of_le
noncomputable abbrev qi:=@List.length_map
noncomputable abbrev qj:=@Option.map_eq_some_iff
noncomputable abbrev qk:=@List.size_toArray
noncomputable abbrev ql:=@List.mem_of_getElem?
noncomputable abbrev qm:=@List.forall_mem_nil
noncomputable abbrev qo:=@Nat.ne_of_lt
noncomputable abbrev qq:=@Bool.false_ne_true
noncomputable abbrev qr:=@List.mem_cons
noncomputable abbrev qt:=@List.getElem?_eq_getElem
noncomputable abbrev qu:=@Bool.and_eq_true
noncomputable abbrev qv:=@List.mem_map
noncomputable abbrev qw:=@PySem.Heap.get?_push_size
noncomputable abbrev qx:=@Nat.zero_le
noncomputable abbrev qy:=@List.forall_mem_cons
noncomputable abbrev qz:=@List.length_cons
noncomputable abbrev z4:=@Option.bind_eq_some_iff
noncomputable abbrev za:=@List.getElem?_append_left
noncomputable abbrev zb:=@List.getElem?_map
noncomputable abbrev zd:=@Nat.le_trans
noncomputable abbrev ze:=@Nat.pow_lt_pow_right
noncomputable abbrev zf:=@List.length_append
noncomputable abbrev zg:=@List.mem_append_right
noncomputable abbrev zh:=@List.getElem?_cons_zero
noncomputable abbrev zi:=@List.mem_append
noncomputable abbrev zj:=@List.mem_range
noncomputable abbrev zk:=@Nat.le_of_eq
noncomputable abbrev zm:=@Nat.lt_of_le_of_lt
noncomputable abbrev zn:=@List.getElem?_cons_succ
noncomputable abbrev zo:=@List.getElem?_append_right
noncomputable abbrev zp:=@Nat.eq_of_testBit_eq
noncomputable abbrev zq:=@List.find?_cons
noncomputable abbrev zr:=@Nat.two_pow_pos
noncomputable abbrev zt:=@List.replicate_succ
noncomputable abbrev zu:=@Nat.le_succ_of_le
noncomputable abbrev zv:=@List.mem_filter
noncomputable abbrev zw:=@List.map_nil
noncomputable abbrev zx:=@List.append_nil
noncomputable abbrev zy:=@Nat.lt_succ_self
noncomputable abbrev zz:=@List.mem_singleton
noncomputable abbrev w4:=@Int.emod_lt_of_pos
noncomputable abbrev w5:=@Option.isSome_iff_exists
noncomputable abbrev w6:=@List.any_cons
noncomputable abbrev w9:=@Nat.testBit_or
noncomputable abbrev wa:=@List.getElem?_replicate
noncomputable abbrev wb:=@List.length_set
noncomputable abbrev wc:=@Int.emod_nonneg
noncomputable abbrev wd:=@Bool.false_eq_true
noncomputable abbrev we:=@List.length_filter_le
noncomputable abbrev wf:=@Nat.testBit_and
noncomputable abbrev wg:=@List.flatten_cons
noncomputable abbrev wj:=@Nat.lt_irrefl
noncomputable abbrev wk:=@List.all_cons
noncomputable abbrev wm:=@List.filterMap_cons
noncomputable abbrev wo:=@List.filter_cons
noncomputable abbrev wp:=@List.getElem_mem
noncomputable abbrev wq:=@Nat.log2_le_self
noncomputable abbrev wr:=@List.take_of_length_le
noncomputable abbrev wt:=@Bool.eq_iff_iff
noncomputable abbrev wu:=@List.nodup_cons
noncomputable abbrev wv:=@List.getElem?_eq_none
noncomputable abbrev ww:=@Nat.or_lt_two_pow
noncomputable abbrev wx:=@List.mem_append_left
noncomputable abbrev wy:=@Nat.pow_le_pow_right
noncomputable abbrev wz:=@Bool.and_eq_true_iff
noncomputable abbrev k6:=@Nat.ne_of_gt
noncomputable abbrev k7:=@List.length_take
noncomputable abbrev k8:=@List.not_mem_nil
noncomputable abbrev k9:=@List.drop_eq_getElem_cons
noncomputable abbrev ka:=@List.getElem?_take_of_lt
noncomputable abbrev ke:=@Option.map_some
noncomputable abbrev kf:=@PySem.Heap.size_push
noncomputable abbrev kg:=@List.length_range
noncomputable abbrev kh:=@List.length_replicate
noncomputable abbrev ki:=@List.lookup_cons
noncomputable abbrev kj:=@Nat.le_add_right
noncomputable abbrev km:=@List.any_eq_true
noncomputable abbrev ko:=@List.sum_cons
noncomputable abbrev kq:=@Bool.and_true
noncomputable abbrev kr:=@List.mem_of_mem_take
noncomputable abbrev kt:=@List.eq_nil_of_length_eq_zero
noncomputable abbrev ku:=@List.length_nil
noncomputable abbrev ky:=@Nat.testBit_xor
noncomputable abbrev kz:=@Array.length_toList
noncomputable abbrev g5:=@List.getElem_of_mem
noncomputable abbrev g6:=@Int.toNat_of_nonneg
noncomputable abbrev g7:=@List.map_eq_nil_iff
noncomputable abbrev g8:=@List.mem_filterMap
noncomputable abbrev g9:=@List.set_cons_succ
noncomputable abbrev gc:=@List.set_cons_zero
noncomputable abbrev gf:=@Nat.le_succ
noncomputable abbrev gi:=@Option.isSome_map
noncomputable abbrev gj:=@Nat.lt_succ_of_lt
noncomputable abbrev gk:=@Bool.true_and
noncomputable abbrev gm:=@List.length_drop
noncomputable abbrev gn:=@List.cons_append
noncomputable abbrev gp:=@List.of_mem_zip
noncomputable abbrev gq:=@List.nil_append
noncomputable abbrev gr:=@List.all_append
namespace My
section
open PySem PySem.W
theorem left_split{Xt:Shared->Bool}{α:Type}{Yf:Shared->α}{Ya:World->α}{N:Nat}(row:String)(e:opening p=plainProg p.main.scope.names)(hN:Nat.ble 600 N=true)(f:∀s,fenceModules? p s=some s)
  (h1:∀(w:World) (os:OsState),(topFrom treeTable p (w.withFollow row false) N ⟨boot_heap (w.withFollow row false).params,Array.mk [],boot_drawn,boot_toks,os⟩).map (λs=>(openSeen q loose (importedModules p.main.body) Xt g0 s,Yf s))=some (openGood q loose,Ya (w.withFollow row false)))
  (h2:∀(w:World) (os:OsState),(topFrom treeTable p (w.withFollow row true) N ⟨boot_heap (w.withFollow row true).params,Array.mk [],boot_drawn,boot_toks,os⟩).map (λs=>(openSeen q loose (importedModules p.main.body) Xt g0 s,Yf s))=some (openGood q loose,Ya (w.withFollow row true))):LeftO p q loose Xt Yf Ya N g0:=by
 refine LeftO.of_split row λw=> ?_;obtain⟨⟨hh,gs,d,k,os⟩,e1,e2⟩:=qj.mp (boot_open e hN f w);simp only[Prod.mk.injEq]at e2;obtain⟨rfl,rfl,rfl,rfl⟩:=e2;rw[e1];exact congrArg some (Prod.ext (h1 w os) (h2 w os))
noncomputable abbrev RunA{β:Type}(p:Program)(w:World)(m₀:Nat)(ann:Option Value)(env:Env)(qp pb pf:Pos)(n3 n4:Nat)(Sb:SharedT)(l:List Stmt)(F:Shared->β)(v:β):Prop:=
  (segRunT treeTable p w m₀ ann 1 n3 Sb (piecesOf l env (.body (behindTheImports p) env) pb [topFrame qp])).bind (λr=>(topRun treeTable p w m₀ ann n4 r.2.1.abs ⟨doneF .next,.body (behindTheImports p) env,pf,[topFrame qp]⟩).bind λs₁=>some ((r.1,r.2.2.1,r.2.2.2),F s₁))=some ((.next,.body (behindTheImports p) env,pf),v)
noncomputable abbrev chkA(p:Program)(w:World){α:Type}(Yf:Shared->α)(s₁:Shared):Bool×α:=(staticsOk (importedModules p.main.body) (boot_heap w.params) s₁.heap&&namesBound p s₁.heap&&gensDone s₁&&laidKept (boot_heap w.params) s₁.heap,Yf s₁)
noncomputable def Ends(p q:Program)(loose:List Str)(Xt:Shared->Bool){α:Type}(Yf:Shared->α)(Ya:World->α)(g0:Bool)(w:World)(m₀:Nat)(ann:Option Value)(env:Env)(qp pb:Pos)(n:Nat)(Sb:SharedT)(l:List Stmt):Prop:=
  ∃s₁,topRun treeTable p w m₀ ann n Sb.abs (restOf l env (.body (behindTheImports p) env) pb [topFrame qp])=some s₁/\(staticsOk (importedModules p.main.body) (boot_heap w.params) s₁.heap&&namesBound p s₁.heap&&gensDone s₁&&laidKept (boot_heap w.params) s₁.heap)=true/\openSeen q loose (importedModules p.main.body) Xt g0 s₁=openGood q loose/\Yf s₁=Ya w
section
variable {p q : Program} {loose : List Str} {Xt : Shared -> Bool} {α : Type} {Yf : Shared -> α} {Ya : World -> α} {g0 : Bool} {w : World} {m₀ : Nat} {ann : Option Value} {env : Env} {qp pb : Pos} {Sb : SharedT} {l : List Stmt}
theorem ends_two(r1:RunA p w m₀ ann env qp pb pf n3 n4 Sb l (chkA p w Yf) (true,Ya w))(r2:RunA p w m₀ ann env qp pb pf n3 n4 Sb l (λs=>(openSeen q loose (importedModules p.main.body) Xt g0 s).1) (openGood q loose).1)(r5:RunA p w m₀ ann env qp pb pf n3 n4 Sb l (λs=>(openSeen q loose (importedModules p.main.body) Xt g0 s).2.1) (openGood q loose).2.1)(r4:RunA p w m₀ ann env qp pb pf n3 n4 Sb l (λs=>(openSeen q loose (importedModules p.main.body) Xt g0 s).2.2.1) (openGood q loose).2.2.1)(r3:RunA p w m₀ ann env qp pb pf n3 n4 Sb l (λs=>(openSeen q loose (importedModules p.main.body) Xt g0 s).2.2.2) (openGood q loose).2.2.2):Ends p q loose Xt Yf Ya g0 w m₀ ann env qp pb (n3+n4) Sb l:=by
 obtain⟨⟨f,s2,c2,p2⟩,hr,h⟩:=z4.mp r1;obtain⟨s₁,hs,h⟩:=z4.mp h;simp only[Option.some.injEq,Prod.mk.injEq]at h;obtain⟨⟨rfl,rfl,rfl⟩,l1,l3⟩:=h;obtain⟨r',hr',h'⟩:=z4.mp r2;rw[hr]at hr';cases hr';obtain⟨s₂,hs',h'⟩:=z4.mp h';rw[hs]at hs';cases hs';obtain⟨r',hr',h3⟩:=z4.mp r3;rw[hr]at hr';cases hr';obtain⟨s₂,hs',h3⟩:=z4.mp h3;rw[hs]at hs';cases hs';obtain⟨r',hr',h4⟩:=z4.mp r4;rw[hr]at hr';cases hr';obtain⟨s₂,hs',h4⟩:=z4.mp h4;rw[hs]at hs';cases hs';obtain⟨r',hr',h5⟩:=z4.mp r5;rw[hr]at hr';cases hr';obtain⟨s₂,hs',h5⟩:=z4.mp h5;rw[hs]at hs';cases hs';simp only[Option.some.injEq,Prod.mk.injEq]at h' h3 h4 h5;have k3:=piece_app (rest:=[]) (segRun_of hr) (piece_nil hs);rw[zx]at k3;exact⟨s₁,k3,l1,Prod.ext h'.2 (Prod.ext h5.2 (Prod.ext h4.2 h3.2)),l3⟩
theorem ends_cut(run:segRunT treeTable p w m₀ ann 1 na Sb (piecesOf (l.take j) env (.body (behindTheImports p) env) pb [topFrame qp])=some (.next,Sm,.body (behindTheImports p) env,pm))(h:Ends p q loose Xt Yf Ya g0 w m₀ ann env qp pm n Sm (l.drop j)):Ends p q loose Xt Yf Ya g0 w m₀ ann env qp pb (na+n) Sb l:=by
 obtain⟨s₁,k,r⟩:=h;have:=piece_app (segRun_of run) k;rw[List.take_append_drop]at this;exact⟨s₁,this,r⟩
end
theorem top_tree{Xt:Shared->Bool}{α:Type}{Yf:Shared->α}{Ya:World->α}{N:Nat}{os:OsState}
  (size:((boot_heap w.params).isNs mainGlobals&&(Array.mk []:Array GenState).size==0,(boot_heap w.params).objs.size,(boot_heap w.params).nsMap mainGlobals "__annotations__")=(true,m₀,ann))
  (pre:topGo treeTable p w m₀ ann n1 ⟨boot_heap w.params,Array.mk [],boot_drawn,boot_toks,os⟩ (topStub p)=some (Sa,⟨denote treeTable (.body (behindTheImports p) env),.body (behindTheImports p) env,pp,[topFrame qp]⟩))
  (block:segRun treeTable p w m₀ ann 1 n2 Sa (blockOf (behindTheImports p) env (.body (behindTheImports p) env) pp [topFrame qp])=some (.next,Sb.abs,.body (behindTheImports p) env,pb))
  (run:Ends p q loose Xt Yf Ya g0 w m₀ ann env qp pb n3 Sb (behindTheImports p))
  (le:Nat.ble (n1+(n2+n3)) N=true):
  (topFrom treeTable p w N ⟨boot_heap w.params,Array.mk [],boot_drawn,boot_toks,os⟩).map (λs=>(openSeen q loose (importedModules p.main.body) Xt g0 s,Yf s))=some (openGood q loose,Ya w):=by
 obtain⟨s₁,k3,l1,l2,l3⟩:=run;have k1:=go_top pre (piece_block block k3);have r:=topRun_mono (N - (n1+(n2+n3))) _ _ _ _ k1;rw[show n1+(n2+n3)+(N - (n1+(n2+n3)))=N by have:=Nat.le_of_ble_eq_true le;omega]at r;obtain⟨z1,z2,z3⟩:_/\_/\_:=by simpa only[Prod.mk.injEq]using size
 have t:topFrom treeTable p w N ⟨boot_heap w.params,Array.mk [],boot_drawn,boot_toks,os⟩=some s₁:=by
  unfold topFrom;dsimp only;rw[z1,z2,z3,r];show(match staticsOk (importedModules p.main.body) (boot_heap w.params) s₁.heap&&namesBound p s₁.heap&&gensDone s₁&&laidKept (boot_heap w.params) s₁.heap with|true=>_|false=>_)=_;rw[l1]
 rw[t];exact congrArg some (Prod.ext l2 l3)
end
noncomputable def o0:=PySem.W.boot_o_0
noncomputable def o1:=PySem.W.boot_o_1
noncomputable def o2:=PySem.W.boot_o_2
noncomputable def o3:=PySem.W.boot_o_3
noncomputable def o4:=PySem.W.boot_o_4
noncomputable def o5:=PySem.W.boot_o_5
noncomputable def o6:=PySem.W.boot_o_6
noncomputable def o7:=PySem.W.boot_o_7
noncomputable def o8:=PySem.W.boot_o_8
noncomputable def o9:=PySem.W.boot_o_9
noncomputable def o10:=PySem.W.boot_o_10
noncomputable def o11(_:PySem.Params):PySem.Obj:=.mk (.type "tuple") none (.seq #[]) #[]
noncomputable def o12(_:PySem.Params):PySem.Obj:=.mk .none none (.fields #[]) #[]
noncomputable def o13(_:PySem.Params):PySem.Obj:=.mk (.type "code") none (.fields #[.str (PySem.Str.ofString "<module>") 182,.str (PySem.Str.ofString "<module>") 183,.str (PySem.Str.ofString "/claim/cut.py") 184,.int 1 0,.int 0 0,.int 0 0,.int 0 0,.int 0 0,.ref 11,.bool false,.int 181 0,.ref 12,.none,.none,.none,.none,.int 185 0,.int 1 0,.str (PySem.Str.ofString "/claim/cut.py") 186]) #[]
noncomputable def o14(_:PySem.Params):PySem.Obj:=.mk (.type "frame") none .plain #[some (.ref 13),some (.ref 3),some (.ref 3),none,some (.str (PySem.Str.ofString "__main__") 164),none,some (.ref 0)]
noncomputable def Sa(w:PySem.World)(os:PySem.OsState):PySem.Shared:=let P:=w.params;⟨⟨⟨[o0 P,o1 P,o2 P,o3 P,o4 P,o5 P,o6 P,o7 P,o8 P,o9 P,o10 P,o11 P,o12 P,o13 P,o14 P]⟩,{}⟩,Array.mk [],{},187,os⟩
noncomputable def bt(P:PySem.Params):PySem.W.BT:=(.node (o0 P) (.node (o1 P) (.node (o3 P) (.node (o7 P) .nil .nil) (.node (o11 P) .nil .nil)) (.node (o5 P) (.node (o9 P) .nil .nil) (.node (o13 P) .nil .nil))) (.node (o2 P) (.node (o4 P) (.node (o8 P) .nil .nil) (.node (o12 P) .nil .nil)) (.node (o6 P) (.node (o10 P) .nil .nil) (.node (o14 P) .nil .nil))))
noncomputable def Sb(w:PySem.World)(os:PySem.OsState):PySem.W.SharedT:=⟨bt w.params,15,{},Array.mk [],{},187,os⟩
noncomputable def tenv:PySem.Env:={scope:=PySem.Challenge.pw_earthward_k38_the_board_by_rows.main.scope,locals:=PySem.mainNs,globals:=PySem.mainNs,cells:=[],code:=.ref 13,frame:=some 14}
noncomputable def vw:PySem.Program:={PySem.Challenge.pw_earthward_k38_the_board_by_rows with main:={PySem.Challenge.pw_earthward_k38_the_board_by_rows.main with body:=[0,2,3,4,5,6,7,8,9,10,11,12,13,14,15,16,17,19,20,21,22,23,24,26,27,28,29,30,31,32,33,34,36,37,38,39,40,42,43,44,45,46,48,49,51,52,53,54,55,57,58,59,60,61,62,63,64,65,66,67,68,70,71,72,73,74,76,77,78,79,80,81,82,83,84,85,86,87,88].filterMap λi=>PySem.Challenge.pw_earthward_k38_the_board_by_rows.main.body[i]?}}
end My
set_option maxRecDepth 100000
set_option maxHeartbeats 0
namespace My
noncomputable abbrev wAl:List PySem.Addr:=[2,3,15,17,18,20,21,22,29,30,31,32,35,42,43,44,47,54,55,56,59,66,67,68,71,78,79,80,83,90,91,92,95,102,103,104,107,114,115,116,119,126,127,128,131,138,139,140,143,150,151,152,155,162,163,164,167,174,175,176,179,186,187,188,191,198,199,200,203,210,211,212,222,224,225,227,228,229,231,232,234,235,236,238,239,241,242,243,245,246,248,249,250,251,252,253,254,257,264,266,267,269,270,271,273,274,276,277,278,279,280,283,290,292,293,295,296,297,299,300,302,303,304,305,306,309,316,318,319,321,322,323,325,326,328,329,330,331,332,335,342,344,345,347,348,349,351,352,354,355,356,358,359,361,362,363,364,365,368,370,371,373,374,375,377,378,380,381,389,392,393,394,397,398,399,402,403,404,406,407,409,410,411,413,414,416,417,418,420,421,423,424,425,427,428,430,431,432,433,434,435,436,439,441,442,444,445,446,448,449,451,452,453,455,456,458,459,460,463,464,465,467,468,470,471,472,474,475,477,478,479,481,482,484,485,486,488,489,491,492,493,495,496,498,499,500,502,503,505,506,507,509,510,512,513,514,516,517,519,520,521,523,524,526,527,528,530,531,533,534,535,537,538,540,541,549,551,552,554,555,556,558,559,561,562,563,565,566,568,569,570,572,573,575,576,577,579,580,582,583,584,586,587,589,590,591,593,594,596,597,598,601,602,603,605,606,608,609,610,612,613,615,616,617,619,620,622,623,624,625,626,627,628,631,634,635,636,639,640,648,650,651,653,654,655,657,658,660,661,662,664,665,667,668,669,671,672,674,675,676,678,679,681,682,683,685,686,688,689,690,692,693,695,696,697,699,700,702,703,704,706,707,709,710,711,713,714,716,717,718,719,720,721,722,725,728,729,730,732,733,735,736,737,739,740,742,743,744,746,747,749,750,751,753,754,756,757,758,759,762,763,764,767,768,769,771,772,774,775,776,778,779,781,782,783,785,786,788,789,790,793,794,795,798,799,800,803,804,805,807,808,810,811,812,815,816,817,819,820,822,823,831,833,834,836,837,838,840,841,843,844,845,847,848,850,851,852,854,855,857,858,859,861,862,864,865,866,869,870,871,873,874,876,877,878,879,880,881,882,885,887,888,890,891,892,894,895,897,898,899,902,903,904,906,907,909,910,911,913,914,916,917,918,920,921,923,924,925,927,928,930,931,932,935,936,937,940,941,942,944,945,947,948,949,951,952,954,955,956,959,960,961,964,965]
theorem wHk(P:PySem.Params):wAl=(My.pre.heap_39 P).map (·.1):=by kernel_rfl
noncomputable abbrev sS:=PySem.Str.ofString
noncomputable abbrev dE(P:PySem.Params)(x:String)(t:Nat)(v:PySem.Value):PySem.DictEntry:=.mk (PySem.PyData.keyHash P (sS x)) (.str (sS x) t) v
noncomputable def kO(P:PySem.Params)(j:Nat):PySem.Obj:=match(My.pre.heap_39 P).drop j with|x::_=>x.2|[]=>o0 P
noncomputable def wTb:List PySem.Stmt:=PySem.Challenge.pw_earthward_k38_the_board_by_rows.main.body
noncomputable def wCb(k:Nat):List PySem.Stmt:=match wTb.drop k with|.ClassDef _ _ _ b _ _ _ _ _ _ _::_=>b|_=>[]
noncomputable def wFd(l:List PySem.Stmt)(k:Nat)(q:String):PySem.Obj:=match l.drop k with|.FunctionDef n a b _ _ _ c _ _ _::_=>.mk .none none (.func (.mk n (sS q) a (.stmts b) c 0 [] .none .none .none .none none .none .none 0)) #[]|_=>.mk .none none (.fields #[]) #[]
noncomputable def m3(P:PySem.Params):PySem.Obj:=.mk (.type "dict") none (.dict #[dE P "__name__" 165 (.str (sS "earthward.switches") 454),dE P "__doc__" 166 .none,dE P "__package__" 167 .none,dE P "__loader__" 168 (.builtin "__main__.__loader__#opaque"),dE P "__spec__" 169 .none,dE P "__annotations__" 170 (.ref 6),dE P "__builtins__" 171 (.ref 4),dE P "__file__" 173 (.str (sS "/claim/cut.py") 172),dE P "__cached__" 174 .none,dE P "_wall" 193 (.ref 21),dE P "WardError" 213 (.ref 31),dE P "NoRow" 229 (.ref 44),dE P "NoMeasure" 245 (.ref 56),dE P "NoBar" 261 (.ref 68),dE P "Same" 277 (.ref 80),dE P "NoSwitch" 293 (.ref 92),dE P "Loaded" 309 (.ref 104),dE P "Shorted" 325 (.ref 116),dE P "Locked" 341 (.ref 128),dE P "Held" 357 (.ref 140),dE P "NoLock" 373 (.ref 152),dE P "NotOpen" 389 (.ref 164),dE P "NotLocked" 405 (.ref 176),dE P "NotEarthed" 421 (.ref 188),dE P "NotDead" 437 (.ref 200),dE P "NoPermit" 453 (.ref 212),dE P "Switch" 503 (.ref 252),dE P "Feed" 535 (.ref 280),dE P "Earth" 567 (.ref 306)] 29) #[]
noncomputable def mk0:PySem.Obj:=.mk (.type "tuple") none (.seq #[]) #[]
noncomputable def m12:PySem.Obj:=.mk .none none (.fields #[.int 1 0,.int 0 0,.ref 20,.int 5 0,.int 0 0,.ref 27,.int 7 0,.int 0 0,.ref 40,.int 9 0,.int 0 0,.ref 52,.int 11 0,.int 0 0,.ref 64,.int 13 0,.int 0 0,.ref 76,.int 15 0,.int 0 0,.ref 88,.int 17 0,.int 0 0,.ref 100,.int 19 0,.int 0 0,.ref 112,.int 21 0,.int 0 0,.ref 124,.int 23 0,.int 0 0,.ref 136,.int 25 0,.int 0 0,.ref 148,.int 27 0,.int 0 0,.ref 160,.int 29 0,.int 0 0,.ref 172,.int 31 0,.int 0 0,.ref 184,.int 33 0,.int 0 0,.ref 196,.int 35 0,.int 0 0,.ref 208,.int 38 0,.int 0 0,.ref 220,.int 51 0,.int 0 0,.ref 262,.int 58 0,.int 0 0,.ref 288]) #[]
noncomputable def mk1(x0:String)(x1:Nat)(x2:Nat)(x3:Nat):PySem.Obj:=.mk (.type "code") none (.fields #[.str (sS x0) x1,.str (sS x0) (x1+1),.str (sS "/claim/cut.py") (x1+2),.int x2 0,.int 0 0,.int 0 0,.int 0 0,.int 0 0,.ref x3,.bool false,.int 181 0,.ref (x3+1),.none,.none,.none,.none,.int (x1+3) 0,.int x2 0,.str (sS "/claim/cut.py") (x1+4)]) #[]
noncomputable def mk2(x0:Nat)(x1:Nat)(x2:String)(x3:Nat):PySem.Obj:=.mk (.type "frame") none .plain #[some (.ref x0),some (.ref 3),some (.ref x1),none,some (.str (sS x2) x3),none,some (.ref 0)]
noncomputable def mk3:PySem.Obj:=.mk .none none (.fields #[]) #[]
noncomputable def mk4:PySem.Obj:=.mk (.type "builtin_function_or_method") none (.fields #[.builtin "type.__prepare__",.type "type"]) #[]
noncomputable def mk5(P:PySem.Params)(x0:Nat)(x1:String)(x2:Nat)(x3:Nat):PySem.Obj:=.mk (.type "dict") none (.dict #[dE P "__module__" x0 (.str (sS "earthward.errors") 194),dE P "__qualname__" (x0+2) (.str (sS x1) (x0+1)),dE P "__firstlineno__" (x0+4) (.int x2 (x0+3)),dE P "__static_attributes__" (x0+5) (.ref x3)] 4) #[]
noncomputable def mk6(x0:Nat):PySem.Obj:=.mk (.type "super") none (.fields #[.ref x0,.ref x0,.ref x0]) #[]
noncomputable def mk7(x0:Nat):PySem.Obj:=.mk (.type "builtin_function_or_method") none (.fields #[.builtin "object.__init_subclass__",.ref x0]) #[]
noncomputable def m217(P:PySem.Params):PySem.Obj:=.mk (.type "dict") none (.dict #[dE P "__module__" 463 (.str (sS "earthward.switches") 454),dE P "__qualname__" 465 (.str (sS "Switch") 464),dE P "__firstlineno__" 467 (.int 38 466),dE P "feeds" 474 (.ref 228),dE P "earths" 481 (.ref 235),dE P "joins" 488 (.ref 242),dE P "gentle" 495 (.ref 249),dE P "__static_attributes__" 496 (.ref 250)] 8) #[]
noncomputable def m219:PySem.Obj:=.mk .none none (.fields #[.int 40 0,.int 4 0,.ref 227,.int 43 0,.int 4 0,.ref 234,.int 46 0,.int 4 0,.ref 241,.int 49 0,.int 4 0,.ref 248]) #[]
noncomputable def m252:PySem.Obj:=.mk (.type "type") none (.cls (PySem.ClassData.mk (sS "Switch") [.type "object"] [.ref 252,.type "object"] 251 (sS "Switch") true [] [.ref 280,.ref 306] false none false)) #[none,none,some (.str (sS "Switch") 456),some (.str (sS "Switch") 464),some (.builtin "object.__new__"),some (.bool true)]
noncomputable def mk8(P:PySem.Params)(x0:Nat)(x1:String)(x2:Nat)(x3:Nat)(x4:String):PySem.Obj:=.mk (.type "dict") none (.dict #[dE P "__module__" x0 (.str (sS "earthward.switches") 454),dE P "__qualname__" (x0+2) (.str (sS x1) (x0+1)),dE P "__firstlineno__" (x0+4) (.int x2 (x0+3)),dE P "__init__" (x0+12) (.ref x3),dE P x4 (x0+19) (.ref (x3+7)),dE P "__static_attributes__" (x0+21) (.ref (x3+8))] 6) #[]
noncomputable def mk9(x0:Nat)(x1:Nat):PySem.Obj:=.mk .none none (.fields #[.int x0 0,.int 4 0,.ref x1,.int (x0+3) 0,.int 4 0,.ref (x1+7)]) #[]
noncomputable def wEv:List PySem.Obj->List PySem.Obj
 | []=>[]
 | [a]=>[a]
 | a::_::l=>a::wEv l
noncomputable def wTr:Nat->List PySem.Obj->PySem.W.BT
 | 0,_=>.nil
 | _,[]=>.nil
 | n+1,a::l=>.node a (wTr n (wEv l)) (wTr n (wEv (l.drop 1)))
noncomputable def mt(P:PySem.Params):PySem.W.BT:=wTr 12 [PySem.W.boot_o_0 P,PySem.W.boot_o_1 P,PySem.W.boot_o_2 P,m3 P,PySem.W.boot_o_4 P,PySem.W.boot_o_5 P,PySem.W.boot_o_6 P,PySem.W.boot_o_7 P,PySem.W.boot_o_8 P,PySem.W.boot_o_9 P,PySem.W.boot_o_10 P,mk0,m12,mk1 "<module>" 182 1 11,mk2 13 3 "__main__" 164,kO P 2,mk3,kO P 3,kO P 4,wFd wTb 0 "_wall",kO P 5,kO P 6,kO P 7,mk4,mk5 P 203 "WardError" 5 29,mk0,mk3,mk1 "WardError" 198 5 25,mk2 27 24 "earthward.errors" 194,kO P 8,kO P 9,kO P 10,kO P 11,mk6 31,mk7 31,kO P 12,mk4,mk5 P 221 "NoRow" 7 42,mk0,mk3,mk1 "NoRow" 216 7 38,mk2 40 37 "earthward.errors" 194,kO P 13,kO P 14,kO P 15,mk6 44,mk7 44,kO P 16,mk4,mk5 P 237 "NoMeasure" 9 54,mk0,mk3,mk1 "NoMeasure" 232 9 50,mk2 52 49 "earthward.errors" 194,kO P 17,kO P 18,kO P 19,mk6 56,mk7 56,kO P 20,mk4,mk5 P 253 "NoBar" 11 66,mk0,mk3,mk1 "NoBar" 248 11 62,mk2 64 61 "earthward.errors" 194,kO P 21,kO P 22,kO P 23,mk6 68,mk7 68,kO P 24,mk4,mk5 P 269 "Same" 13 78,mk0,mk3,mk1 "Same" 264 13 74,mk2 76 73 "earthward.errors" 194,kO P 25,kO P 26,kO P 27,mk6 80,mk7 80,kO P 28,mk4,mk5 P 285 "NoSwitch" 15 90,mk0,mk3,mk1 "NoSwitch" 280 15 86,mk2 88 85 "earthward.errors" 194,kO P 29,kO P 30,kO P 31,mk6 92,mk7 92,kO P 32,mk4,mk5 P 301 "Loaded" 17 102,mk0,mk3,mk1 "Loaded" 296 17 98,mk2 100 97 "earthward.errors" 194,kO P 33,kO P 34,kO P 35,mk6 104,mk7 104,kO P 36,mk4,mk5 P 317 "Shorted" 19 114,mk0,mk3,mk1 "Shorted" 312 19 110,mk2 112 109 "earthward.errors" 194,kO P 37,kO P 38,kO P 39,mk6 116,mk7 116,kO P 40,mk4,mk5 P 333 "Locked" 21 126,mk0,mk3,mk1 "Locked" 328 21 122,mk2 124 121 "earthward.errors" 194,kO P 41,kO P 42,kO P 43,mk6 128,mk7 128,kO P 44,mk4,mk5 P 349 "Held" 23 138,mk0,mk3,mk1 "Held" 344 23 134,mk2 136 133 "earthward.errors" 194,kO P 45,kO P 46,kO P 47,mk6 140,mk7 140,kO P 48,mk4,mk5 P 365 "NoLock" 25 150,mk0,mk3,mk1 "NoLock" 360 25 146,mk2 148 145 "earthward.errors" 194,kO P 49,kO P 50,kO P 51,mk6 152,mk7 152,kO P 52,mk4,mk5 P 381 "NotOpen" 27 162,mk0,mk3,mk1 "NotOpen" 376 27 158,mk2 160 157 "earthward.errors" 194,kO P 53,kO P 54,kO P 55,mk6 164,mk7 164,kO P 56,mk4,mk5 P 397 "NotLocked" 29 174,mk0,mk3,mk1 "NotLocked" 392 29 170,mk2 172 169 "earthward.errors" 194,kO P 57,kO P 58,kO P 59,mk6 176,mk7 176,kO P 60,mk4,mk5 P 413 "NotEarthed" 31 186,mk0,mk3,mk1 "NotEarthed" 408 31 182,mk2 184 181 "earthward.errors" 194,kO P 61,kO P 62,kO P 63,mk6 188,mk7 188,kO P 64,mk4,mk5 P 429 "NotDead" 33 198,mk0,mk3,mk1 "NotDead" 424 33 194,mk2 196 193 "earthward.errors" 194,kO P 65,kO P 66,kO P 67,mk6 200,mk7 200,kO P 68,mk4,mk5 P 445 "NoPermit" 35 210,mk0,mk3,mk1 "NoPermit" 440 35 206,mk2 208 205 "earthward.errors" 194,kO P 69,kO P 70,kO P 71,mk6 212,mk7 212,mk0,mk4,m217 P,mk0,m219,mk1 "Switch" 458 38 218,mk2 220 217 "earthward.switches" 454,kO P 72,mk3,kO P 73,kO P 74,wFd (wCb 19) 0 "Switch.feeds",kO P 75,kO P 76,kO P 77,mk3,kO P 78,kO P 79,wFd (wCb 19) 1 "Switch.earths",kO P 80,kO P 81,kO P 82,mk3,kO P 83,kO P 84,wFd (wCb 19) 2 "Switch.joins",kO P 85,kO P 86,kO P 87,mk3,kO P 88,kO P 89,wFd (wCb 19) 3 "Switch.gentle",kO P 90,kO P 91,kO P 92,kO P 93,m252,kO P 95,kO P 96,mk6 252,mk7 252,kO P 97,mk4,mk8 P 511 "Feed" 51 270 "feeds",mk0,mk9 53 269,mk1 "Feed" 506 51 260,mk2 262 259 "earthward.switches" 454,kO P 98,mk3,kO P 99,kO P 100,wFd (wCb 20) 0 "Feed.__init__",kO P 101,kO P 102,kO P 103,mk3,kO P 104,kO P 105,wFd (wCb 20) 1 "Feed.feeds",kO P 106,kO P 107,kO P 108,kO P 109,kO P 110,mk6 280,mk7 280,kO P 111,mk4,mk8 P 543 "Earth" 58 296 "earths",mk0,mk9 60 295,mk1 "Earth" 538 58 286,mk2 288 285 "earthward.switches" 454,kO P 112,mk3,kO P 113,kO P 114,wFd (wCb 21) 0 "Earth.__init__",kO P 115,kO P 116,kO P 117,mk3,kO P 118,kO P 119,wFd (wCb 21) 1 "Earth.earths",kO P 120,kO P 121,kO P 122,kO P 123,kO P 124,mk6 306,mk7 306]
noncomputable def Sm(w:PySem.World)(os:PySem.OsState):PySem.W.SharedT:=⟨mt w.params,309,PySem.Life.mk [] [] [] 0 [] [] false #[] [] 0 false false false 0 [2000,10,10] false 0 true [] [] 0 false,Array.mk [],PySem.Drawn.mk 0 0 0 0,568,os⟩
noncomputable def m3b(P:PySem.Params):PySem.Obj:=.mk (.type "dict") none (.dict #[dE P "__name__" 165 (.str (sS "law_earthward_k38_the_board_by_rows") 1375),dE P "__doc__" 166 .none,dE P "__package__" 167 .none,dE P "__loader__" 168 (.builtin "__main__.__loader__#opaque"),dE P "__spec__" 169 .none,dE P "__annotations__" 170 (.ref 6),dE P "__builtins__" 171 (.ref 4),dE P "__file__" 173 (.str (sS "/claim/cut.py") 172),dE P "__cached__" 174 .none,dE P "_wall" 193 (.ref 21),dE P "WardError" 213 (.ref 31),dE P "NoRow" 229 (.ref 44),dE P "NoMeasure" 245 (.ref 56),dE P "NoBar" 261 (.ref 68),dE P "Same" 277 (.ref 80),dE P "NoSwitch" 293 (.ref 92),dE P "Loaded" 309 (.ref 104),dE P "Shorted" 325 (.ref 116),dE P "Locked" 341 (.ref 128),dE P "Held" 357 (.ref 140),dE P "NoLock" 373 (.ref 152),dE P "NotOpen" 389 (.ref 164),dE P "NotLocked" 405 (.ref 176),dE P "NotEarthed" 421 (.ref 188),dE P "NotDead" 437 (.ref 200),dE P "NoPermit" 453 (.ref 212),dE P "Switch" 503 (.ref 252),dE P "Feed" 535 (.ref 280),dE P "Earth" 567 (.ref 306),dE P "Breaker" 601 (.ref 332),dE P "Splitter" 642 (.ref 365),dE P "switch_of" 650 (.ref 374),dE P "has" 660 (.ref 381),dE P "Net" 735 (.ref 434),dE P "live" 743 (.ref 445),dE P "earthed" 751 (.ref 452),dE P "lowest" 758 (.ref 459),dE P "numbers_in" 764 (.ref 464),dE P "steps_from" 778 (.ref 471),dE P "numbers_back" 789 (.ref 478),dE P "way" 804 (.ref 485),dE P "check_switch" 814 (.ref 492),dE P "after_turn" 822 (.ref 499),dE P "loads" 834 (.ref 506),dE P "shorts" 843 (.ref 513),dE P "turned" 853 (.ref 520),dE P "can_lock" 862 (.ref 527),dE P "all_switches" 869 (.ref 534),dE P "keeps_dead" 878 (.ref 541),dE P "Bundle" 1011 (.ref 626),dE P "fewest_locks" 1017 (.ref 635),dE P "own_earths" 1025 (.ref 640),dE P "Board" 1129 (.ref 720),dE P "free_switches" 1137 (.ref 729),dE P "layer_behind" 1151 (.ref 736),dE P "meets" 1162 (.ref 743),dE P "deeds_to" 1172 (.ref 750),dE P "plan" 1187 (.ref 757),dE P "MOST_BARS" 1191 (.int 10 1190),dE P "MOST_SWITCHES" 1193 (.int 12 1192),dE P "MOST_FIGURES" 1195 (.int 9 1194),dE P "FIGURES" 1197 (.str (sS "0123456789") 1196),dE P "NUMBERS_BEHIND" 1213 (.ref 758),dE P "is_number" 1219 (.ref 763),dE P "numbers_told" 1225 (.ref 768),dE P "parted" 1234 (.ref 775),dE P "count_in" 1242 (.ref 782),dE P "switch_in" 1252 (.ref 789),dE P "row_of" 1258 (.ref 794),dE P "shown" 1264 (.ref 799),dE P "joined_by_blanks" 1272 (.ref 804),dE P "one_number" 1279 (.ref 811),dE P "place_told" 1285 (.ref 816),dE P "wish_for" 1293 (.ref 823),dE P "Desk" 1374 (.ref 880),dE P "_law_draw" 1387 (.ref 891),dE P "_law_switch" 1397 (.ref 898),dE P "_law_yard" 1403 (.ref 903),dE P "_law_classes" 1411 (.ref 910),dE P "_law_said" 1422 (.ref 917)] 80) #[]
noncomputable def mk0b:PySem.Obj:=.mk (.type "tuple") none (.seq #[]) #[]
noncomputable def m12b:PySem.Obj:=.mk .none none (.fields #[.int 1 0,.int 0 0,.ref 20,.int 5 0,.int 0 0,.ref 27,.int 7 0,.int 0 0,.ref 40,.int 9 0,.int 0 0,.ref 52,.int 11 0,.int 0 0,.ref 64,.int 13 0,.int 0 0,.ref 76,.int 15 0,.int 0 0,.ref 88,.int 17 0,.int 0 0,.ref 100,.int 19 0,.int 0 0,.ref 112,.int 21 0,.int 0 0,.ref 124,.int 23 0,.int 0 0,.ref 136,.int 25 0,.int 0 0,.ref 148,.int 27 0,.int 0 0,.ref 160,.int 29 0,.int 0 0,.ref 172,.int 31 0,.int 0 0,.ref 184,.int 33 0,.int 0 0,.ref 196,.int 35 0,.int 0 0,.ref 208,.int 38 0,.int 0 0,.ref 220,.int 51 0,.int 0 0,.ref 262,.int 58 0,.int 0 0,.ref 288,.int 65 0,.int 0 0,.ref 314,.int 73 0,.int 0 0,.ref 340,.int 84 0,.int 0 0,.ref 373,.int 94 0,.int 0 0,.ref 380,.int 96 0,.int 0 0,.ref 387,.int 132 0,.int 0 0,.ref 444,.int 134 0,.int 0 0,.ref 451,.int 136 0,.int 0 0,.ref 458,.int 138 0,.int 0 0,.ref 463,.int 140 0,.int 0 0,.ref 470,.int 147 0,.int 0 0,.ref 477,.int 154 0,.int 0 0,.ref 484,.int 168 0,.int 0 0,.ref 491,.int 171 0,.int 0 0,.ref 498,.int 173 0,.int 0 0,.ref 505,.int 182 0,.int 0 0,.ref 512,.int 184 0,.int 0 0,.ref 519,.int 193 0,.int 0 0,.ref 526,.int 195 0,.int 0 0,.ref 533,.int 197 0,.int 0 0,.ref 540,.int 199 0,.int 0 0,.ref 547,.int 287 0,.int 0 0,.ref 634,.int 295 0,.int 0 0,.ref 639,.int 298 0,.int 0 0,.ref 646,.int 369 0,.int 0 0,.ref 728,.int 371 0,.int 0 0,.ref 735,.int 380 0,.int 0 0,.ref 742,.int 384 0,.int 0 0,.ref 749,.int 391 0,.int 0 0,.ref 756,.int 408 0,.int 0 0,.ref 762,.int 414 0,.int 0 0,.ref 767,.int 418 0,.int 0 0,.ref 774,.int 424 0,.int 0 0,.ref 781,.int 431 0,.int 0 0,.ref 788,.int 442 0,.int 0 0,.ref 793,.int 444 0,.int 0 0,.ref 798,.int 448 0,.int 0 0,.ref 803,.int 452 0,.int 0 0,.ref 810,.int 456 0,.int 0 0,.ref 815,.int 463 0,.int 0 0,.ref 822,.int 469 0,.int 0 0,.ref 829,.int 540 0,.int 0 0,.ref 890,.int 546 0,.int 0 0,.ref 897,.int 552 0,.int 0 0,.ref 902,.int 556 0,.int 0 0,.ref 909,.int 561 0,.int 0 0,.ref 916]) #[]
noncomputable def mk1b(x0:String)(x1:Nat)(x2:Nat)(x3:Nat):PySem.Obj:=.mk (.type "code") none (.fields #[.str (sS x0) x1,.str (sS x0) (x1+1),.str (sS "/claim/cut.py") (x1+2),.int x2 0,.int 0 0,.int 0 0,.int 0 0,.int 0 0,.ref x3,.bool false,.int 181 0,.ref (x3+1),.none,.none,.none,.none,.int (x1+3) 0,.int x2 0,.str (sS "/claim/cut.py") (x1+4)]) #[]
noncomputable def mk2b(x0:Nat)(x1:Nat)(x2:String)(x3:Nat):PySem.Obj:=.mk (.type "frame") none .plain #[some (.ref x0),some (.ref 3),some (.ref x1),none,some (.str (sS x2) x3),none,some (.ref 0)]
noncomputable def mk3b:PySem.Obj:=.mk .none none (.fields #[]) #[]
noncomputable def mk4b:PySem.Obj:=.mk (.type "builtin_function_or_method") none (.fields #[.builtin "type.__prepare__",.type "type"]) #[]
noncomputable def mk5b(P:PySem.Params)(x0:Nat)(x1:String)(x2:Nat)(x3:Nat):PySem.Obj:=.mk (.type "dict") none (.dict #[dE P "__module__" x0 (.str (sS "earthward.errors") 194),dE P "__qualname__" (x0+2) (.str (sS x1) (x0+1)),dE P "__firstlineno__" (x0+4) (.int x2 (x0+3)),dE P "__static_attributes__" (x0+5) (.ref x3)] 4) #[]
noncomputable def mk6b(x0:Nat):PySem.Obj:=.mk (.type "super") none (.fields #[.ref x0,.ref x0,.ref x0]) #[]
noncomputable def mk7b(x0:Nat):PySem.Obj:=.mk (.type "builtin_function_or_method") none (.fields #[.builtin "object.__init_subclass__",.ref x0]) #[]
noncomputable def m217b(P:PySem.Params):PySem.Obj:=.mk (.type "dict") none (.dict #[dE P "__module__" 463 (.str (sS "earthward.switches") 454),dE P "__qualname__" 465 (.str (sS "Switch") 464),dE P "__firstlineno__" 467 (.int 38 466),dE P "feeds" 474 (.ref 228),dE P "earths" 481 (.ref 235),dE P "joins" 488 (.ref 242),dE P "gentle" 495 (.ref 249),dE P "__static_attributes__" 496 (.ref 250)] 8) #[]
noncomputable def m219b:PySem.Obj:=.mk .none none (.fields #[.int 40 0,.int 4 0,.ref 227,.int 43 0,.int 4 0,.ref 234,.int 46 0,.int 4 0,.ref 241,.int 49 0,.int 4 0,.ref 248]) #[]
noncomputable def mk8b(P:PySem.Params)(x0:Nat)(x1:String)(x2:Nat)(x3:Nat)(x4:Nat)(x5:String)(x6:Nat):PySem.Obj:=.mk (.type "dict") none (.dict #[dE P "__module__" x0 (.str (sS "earthward.switches") 454),dE P "__qualname__" (x0+2) (.str (sS x1) (x0+1)),dE P "__firstlineno__" (x0+4) (.int x2 (x0+3)),dE P "__init__" x3 (.ref x4),dE P x5 (x3+7) (.ref (x4+7)),dE P "__static_attributes__" x6 (.ref (x4+8))] 6) #[]
noncomputable def mk9b(x0:Nat)(x1:Nat)(x2:Nat):PySem.Obj:=.mk .none none (.fields #[.int x0 0,.int 4 0,.ref x1,.int x2 0,.int 4 0,.ref (x1+7)]) #[]
noncomputable def m337b(P:PySem.Params):PySem.Obj:=.mk (.type "dict") none (.dict #[dE P "__module__" 609 (.str (sS "earthward.switches") 454),dE P "__qualname__" 611 (.str (sS "Splitter") 610),dE P "__firstlineno__" 613 (.int 73 612),dE P "__init__" 622 (.ref 348),dE P "joins" 629 (.ref 355),dE P "gentle" 636 (.ref 362),dE P "__static_attributes__" 639 (.ref 363)] 7) #[]
noncomputable def m339b:PySem.Obj:=.mk .none none (.fields #[.int 75 0,.int 4 0,.ref 347,.int 79 0,.int 4 0,.ref 354,.int 82 0,.int 4 0,.ref 361]) #[]
noncomputable def mk10b(P:PySem.Params)(x0:Nat)(x1:String)(x2:Nat)(x3:String)(x4:Nat)(x5:Nat)(x6:Nat)(x7:String)(x8:Nat)(x9:Nat)(x10:String)(x11:Nat)(x12:Nat)(x13:String)(x14:String)(x15:Nat)(x16:String)(x17:Nat)(x18:String):PySem.Obj:=.mk (.type "dict") none (.dict #[dE P "__module__" x0 (.str (sS x1) x2),dE P "__qualname__" (x0+2) (.str (sS x3) (x0+1)),dE P "__firstlineno__" (x0+4) (.int x4 (x0+3)),dE P "__init__" x5 (.ref x6),dE P x7 x8 (.ref x9),dE P x10 x11 (.ref x12),dE P x13 (x11+10) (.ref (x12+7)),dE P x14 x15 (.ref (x12+14)),dE P x16 x17 (.ref (x9+26)),dE P x18 (x17+8) (.ref (x9+33)),dE P "__static_attributes__" (x8+44) (.ref (x9+34))] 11) #[]
noncomputable def mk11b(x0:Nat)(x1:Nat)(x2:Nat)(x3:Nat)(x4:Nat)(x5:Nat)(x6:Nat)(x7:Nat)(x8:Nat)(x9:Nat):PySem.Obj:=.mk .none none (.fields #[.int x0 0,.int 4 0,.ref x1,.int x2 0,.int 4 0,.ref x3,.int x4 0,.int 4 0,.ref x5,.int x6 0,.int 4 0,.ref (x5+7),.int x7 0,.int 4 0,.ref (x5+14),.int x8 0,.int 4 0,.ref (x3+26),.int x9 0,.int 4 0,.ref (x3+33)]) #[]
noncomputable def m544b(P:PySem.Params):PySem.Obj:=.mk (.type "dict") none (.dict #[dE P "__module__" 886 (.str (sS "earthward.locks") 854),dE P "__qualname__" 888 (.str (sS "Bundle") 887),dE P "__firstlineno__" 890 (.int 199 889),dE P "__init__" 902 (.ref 555),dE P "pair_of" 910 (.ref 562),dE P "joined_in_common" 918 (.ref 569),dE P "steps_by" 931 (.ref 576),dE P "row_in" 942 (.ref 583),dE P "steps_left" 950 (.ref 590),dE P "widen" 959 (.ref 597),dE P "rim" 965 (.ref 602),dE P "row_of_a_way" 975 (.ref 609),dE P "way_by" 986 (.ref 616),dE P "take_ways" 996 (.ref 623),dE P "__static_attributes__" 1004 (.ref 624)] 15) #[]
noncomputable def m546b:PySem.Obj:=.mk .none none (.fields #[.int 201 0,.int 4 0,.ref 554,.int 212 0,.int 4 0,.ref 561,.int 217 0,.int 4 0,.ref 568,.int 220 0,.int 4 0,.ref 575,.int 233 0,.int 4 0,.ref 582,.int 242 0,.int 4 0,.ref 589,.int 247 0,.int 4 0,.ref 596,.int 256 0,.int 4 0,.ref 601,.int 262 0,.int 4 0,.ref 608,.int 268 0,.int 4 0,.ref 615,.int 278 0,.int 4 0,.ref 622]) #[]
noncomputable def m643b(P:PySem.Params):PySem.Obj:=.mk (.type "dict") none (.dict #[dE P "__module__" 1033 (.str (sS "earthward.board") 1018),dE P "__qualname__" 1035 (.str (sS "Board") 1034),dE P "__firstlineno__" 1037 (.int 298 1036),dE P "__init__" 1045 (.ref 654),dE P "standing" 1052 (.ref 661),dE P "locked" 1059 (.ref 668),dE P "held" 1068 (.ref 675),dE P "permits" 1075 (.ref 682),dE P "turn" 1083 (.ref 689),dE P "lock" 1091 (.ref 696),dE P "unlock" 1099 (.ref 703),dE P "permit" 1107 (.ref 710),dE P "give_back" 1115 (.ref 717),dE P "__static_attributes__" 1122 (.ref 718)] 14) #[]
noncomputable def m645b:PySem.Obj:=.mk .none none (.fields #[.int 300 0,.int 4 0,.ref 653,.int 308 0,.int 4 0,.ref 660,.int 311 0,.int 4 0,.ref 667,.int 314 0,.int 4 0,.ref 674,.int 320 0,.int 4 0,.ref 681,.int 323 0,.int 4 0,.ref 688,.int 332 0,.int 4 0,.ref 695,.int 343 0,.int 4 0,.ref 702,.int 352 0,.int 4 0,.ref 709,.int 363 0,.int 4 0,.ref 716]) #[]
noncomputable def mtb(P:PySem.Params):PySem.W.BT:=wTr 12 [PySem.W.boot_o_0 P,PySem.W.boot_o_1 P,PySem.W.boot_o_2 P,m3b P,PySem.W.boot_o_4 P,PySem.W.boot_o_5 P,PySem.W.boot_o_6 P,PySem.W.boot_o_7 P,PySem.W.boot_o_8 P,PySem.W.boot_o_9 P,PySem.W.boot_o_10 P,mk0b,m12b,mk1b "<module>" 182 1 11,mk2b 13 3 "__main__" 164,kO P 2,mk3b,kO P 3,kO P 4,wFd wTb 0 "_wall",kO P 5,kO P 6,kO P 7,mk4b,mk5b P 203 "WardError" 5 29,mk0b,mk3b,mk1b "WardError" 198 5 25,mk2b 27 24 "earthward.errors" 194,kO P 8,kO P 9,kO P 10,kO P 11,mk6b 31,mk7b 31,kO P 12,mk4b,mk5b P 221 "NoRow" 7 42,mk0b,mk3b,mk1b "NoRow" 216 7 38,mk2b 40 37 "earthward.errors" 194,kO P 13,kO P 14,kO P 15,mk6b 44,mk7b 44,kO P 16,mk4b,mk5b P 237 "NoMeasure" 9 54,mk0b,mk3b,mk1b "NoMeasure" 232 9 50,mk2b 52 49 "earthward.errors" 194,kO P 17,kO P 18,kO P 19,mk6b 56,mk7b 56,kO P 20,mk4b,mk5b P 253 "NoBar" 11 66,mk0b,mk3b,mk1b "NoBar" 248 11 62,mk2b 64 61 "earthward.errors" 194,kO P 21,kO P 22,kO P 23,mk6b 68,mk7b 68,kO P 24,mk4b,mk5b P 269 "Same" 13 78,mk0b,mk3b,mk1b "Same" 264 13 74,mk2b 76 73 "earthward.errors" 194,kO P 25,kO P 26,kO P 27,mk6b 80,mk7b 80,kO P 28,mk4b,mk5b P 285 "NoSwitch" 15 90,mk0b,mk3b,mk1b "NoSwitch" 280 15 86,mk2b 88 85 "earthward.errors" 194,kO P 29,kO P 30,kO P 31,mk6b 92,mk7b 92,kO P 32,mk4b,mk5b P 301 "Loaded" 17 102,mk0b,mk3b,mk1b "Loaded" 296 17 98,mk2b 100 97 "earthward.errors" 194,kO P 33,kO P 34,kO P 35,mk6b 104,mk7b 104,kO P 36,mk4b,mk5b P 317 "Shorted" 19 114,mk0b,mk3b,mk1b "Shorted" 312 19 110,mk2b 112 109 "earthward.errors" 194,kO P 37,kO P 38,kO P 39,mk6b 116,mk7b 116,kO P 40,mk4b,mk5b P 333 "Locked" 21 126,mk0b,mk3b,mk1b "Locked" 328 21 122,mk2b 124 121 "earthward.errors" 194,kO P 41,kO P 42,kO P 43,mk6b 128,mk7b 128,kO P 44,mk4b,mk5b P 349 "Held" 23 138,mk0b,mk3b,mk1b "Held" 344 23 134,mk2b 136 133 "earthward.errors" 194,kO P 45,kO P 46,kO P 47,mk6b 140,mk7b 140,kO P 48,mk4b,mk5b P 365 "NoLock" 25 150,mk0b,mk3b,mk1b "NoLock" 360 25 146,mk2b 148 145 "earthward.errors" 194,kO P 49,kO P 50,kO P 51,mk6b 152,mk7b 152,kO P 52,mk4b,mk5b P 381 "NotOpen" 27 162,mk0b,mk3b,mk1b "NotOpen" 376 27 158,mk2b 160 157 "earthward.errors" 194,kO P 53,kO P 54,kO P 55,mk6b 164,mk7b 164,kO P 56,mk4b,mk5b P 397 "NotLocked" 29 174,mk0b,mk3b,mk1b "NotLocked" 392 29 170,mk2b 172 169 "earthward.errors" 194,kO P 57,kO P 58,kO P 59,mk6b 176,mk7b 176,kO P 60,mk4b,mk5b P 413 "NotEarthed" 31 186,mk0b,mk3b,mk1b "NotEarthed" 408 31 182,mk2b 184 181 "earthward.errors" 194,kO P 61,kO P 62,kO P 63,mk6b 188,mk7b 188,kO P 64,mk4b,mk5b P 429 "NotDead" 33 198,mk0b,mk3b,mk1b "NotDead" 424 33 194,mk2b 196 193 "earthward.errors" 194,kO P 65,kO P 66,kO P 67,mk6b 200,mk7b 200,kO P 68,mk4b,mk5b P 445 "NoPermit" 35 210,mk0b,mk3b,mk1b "NoPermit" 440 35 206,mk2b 208 205 "earthward.errors" 194,kO P 69,kO P 70,kO P 71,mk6b 212,mk7b 212,mk0b,mk4b,m217b P,mk0b,m219b,mk1b "Switch" 458 38 218,mk2b 220 217 "earthward.switches" 454,kO P 72,mk3b,kO P 73,kO P 74,wFd (wCb 19) 0 "Switch.feeds",kO P 75,kO P 76,kO P 77,mk3b,kO P 78,kO P 79,wFd (wCb 19) 1 "Switch.earths",kO P 80,kO P 81,kO P 82,mk3b,kO P 83,kO P 84,wFd (wCb 19) 2 "Switch.joins",kO P 85,kO P 86,kO P 87,mk3b,kO P 88,kO P 89,wFd (wCb 19) 3 "Switch.gentle",kO P 90,kO P 91,kO P 92,kO P 93,kO P 94,kO P 95,kO P 96,mk6b 252,mk7b 252,kO P 97,mk4b,mk8b P 511 "Feed" 51 523 270 "feeds" 532,mk0b,mk9b 53 269 56,mk1b "Feed" 506 51 260,mk2b 262 259 "earthward.switches" 454,kO P 98,mk3b,kO P 99,kO P 100,wFd (wCb 20) 0 "Feed.__init__",kO P 101,kO P 102,kO P 103,mk3b,kO P 104,kO P 105,wFd (wCb 20) 1 "Feed.feeds",kO P 106,kO P 107,kO P 108,kO P 109,kO P 110,mk6b 280,mk7b 280,kO P 111,mk4b,mk8b P 543 "Earth" 58 555 296 "earths" 564,mk0b,mk9b 60 295 63,mk1b "Earth" 538 58 286,mk2b 288 285 "earthward.switches" 454,kO P 112,mk3b,kO P 113,kO P 114,wFd (wCb 21) 0 "Earth.__init__",kO P 115,kO P 116,kO P 117,mk3b,kO P 118,kO P 119,wFd (wCb 21) 1 "Earth.earths",kO P 120,kO P 121,kO P 122,kO P 123,kO P 124,mk6b 306,mk7b 306,kO P 125,mk4b,mk8b P 575 "Breaker" 65 588 322 "joins" 598,mk0b,mk9b 67 321 71,mk1b "Breaker" 570 65 312,mk2b 314 311 "earthward.switches" 454,kO P 126,mk3b,kO P 127,kO P 128,wFd (wCb 22) 0 "Breaker.__init__",kO P 129,kO P 130,kO P 131,mk3b,kO P 132,kO P 133,wFd (wCb 22) 1 "Breaker.joins",kO P 134,kO P 135,kO P 136,kO P 137,kO P 138,mk6b 332,mk7b 332,kO P 139,mk4b,m337b P,mk0b,m339b,mk1b "Splitter" 604 73 338,mk2b 340 337 "earthward.switches" 454,kO P 140,mk3b,kO P 141,kO P 142,wFd (wCb 23) 0 "Splitter.__init__",kO P 143,kO P 144,kO P 145,mk3b,kO P 146,kO P 147,wFd (wCb 23) 1 "Splitter.joins",kO P 148,kO P 149,kO P 150,mk3b,kO P 151,kO P 152,wFd (wCb 23) 2 "Splitter.gentle",kO P 153,kO P 154,kO P 155,kO P 156,kO P 157,mk6b 365,mk7b 365,kO P 158,mk3b,kO P 159,kO P 160,wFd wTb 24 "switch_of",kO P 161,kO P 162,kO P 163,mk3b,kO P 164,kO P 165,wFd wTb 26 "has",kO P 166,kO P 167,mk0b,mk4b,mk10b P 668 "earthward.reach" 651 "Net" 96 678 393 "shut_ones" 684 398 "joined_bars" 690 403 "live_bars" "led_bars" 710 "earthed_bars" 718 "is_safe",mk0b,mk11b 98 392 101 397 104 402 115 121 127 130,mk1b "Net" 663 96 385,mk2b 387 384 "earthward.reach" 651,kO P 168,mk3b,wFd (wCb 27) 0 "Net.__init__",kO P 169,kO P 170,kO P 171,mk3b,wFd (wCb 27) 1 "Net.shut_ones",kO P 172,kO P 173,kO P 174,mk3b,wFd (wCb 27) 2 "Net.joined_bars",kO P 175,kO P 176,kO P 177,mk3b,kO P 178,kO P 179,wFd (wCb 27) 3 "Net.live_bars",kO P 180,kO P 181,kO P 182,mk3b,kO P 183,kO P 184,wFd (wCb 27) 4 "Net.led_bars",kO P 185,kO P 186,kO P 187,mk3b,kO P 188,kO P 189,wFd (wCb 27) 5 "Net.earthed_bars",kO P 190,kO P 191,kO P 192,mk3b,kO P 193,kO P 194,wFd (wCb 27) 6 "Net.is_safe",kO P 195,kO P 196,kO P 197,kO P 198,kO P 199,kO P 200,kO P 201,mk6b 434,mk7b 434,kO P 202,mk3b,kO P 203,kO P 204,wFd wTb 28 "live",kO P 205,kO P 206,kO P 207,mk3b,kO P 208,kO P 209,wFd wTb 29 "earthed",kO P 210,kO P 211,kO P 212,mk3b,kO P 213,kO P 214,wFd wTb 30 "lowest",kO P 215,kO P 216,kO P 217,mk3b,wFd wTb 31 "numbers_in",kO P 218,kO P 219,kO P 220,mk3b,kO P 221,kO P 222,wFd wTb 32 "steps_from",kO P 223,kO P 224,kO P 225,mk3b,kO P 226,kO P 227,wFd wTb 33 "numbers_back",kO P 228,kO P 229,kO P 230,mk3b,kO P 231,kO P 232,wFd wTb 34 "way",kO P 233,kO P 234,kO P 235,mk3b,kO P 236,kO P 237,wFd wTb 36 "check_switch",kO P 238,kO P 239,kO P 240,mk3b,kO P 241,kO P 242,wFd wTb 37 "after_turn",kO P 243,kO P 244,kO P 245,mk3b,kO P 246,kO P 247,wFd wTb 38 "loads",kO P 248,kO P 249,kO P 250,mk3b,kO P 251,kO P 252,wFd wTb 39 "shorts",kO P 253,kO P 254,kO P 255,mk3b,kO P 256,kO P 257,wFd wTb 40 "turned",kO P 258,kO P 259,kO P 260,mk3b,kO P 261,kO P 262,wFd wTb 42 "can_lock",kO P 263,kO P 264,kO P 265,mk3b,kO P 266,kO P 267,wFd wTb 43 "all_switches",kO P 268,kO P 269,kO P 270,mk3b,kO P 271,kO P 272,wFd wTb 44 "keeps_dead",kO P 273,kO P 274,mk0b,mk4b,m544b P,mk0b,m546b,mk1b "Bundle" 881 199 545,mk2b 547 544 "earthward.locks" 854,kO P 275,mk3b,kO P 276,kO P 277,wFd (wCb 45) 0 "Bundle.__init__",kO P 278,kO P 279,kO P 280,mk3b,kO P 281,kO P 282,wFd (wCb 45) 1 "Bundle.pair_of",kO P 283,kO P 284,kO P 285,mk3b,kO P 286,kO P 287,wFd (wCb 45) 2 "Bundle.joined_in_common",kO P 288,kO P 289,kO P 290,mk3b,kO P 291,kO P 292,wFd (wCb 45) 3 "Bundle.steps_by",kO P 293,kO P 294,kO P 295,mk3b,kO P 296,kO P 297,wFd (wCb 45) 4 "Bundle.row_in",kO P 298,kO P 299,kO P 300,mk3b,kO P 301,kO P 302,wFd (wCb 45) 5 "Bundle.steps_left",kO P 303,kO P 304,kO P 305,mk3b,kO P 306,kO P 307,wFd (wCb 45) 6 "Bundle.widen",kO P 308,kO P 309,kO P 310,mk3b,wFd (wCb 45) 7 "Bundle.rim",kO P 311,kO P 312,kO P 313,mk3b,kO P 314,kO P 315,wFd (wCb 45) 8 "Bundle.row_of_a_way",kO P 316,kO P 317,kO P 318,mk3b,kO P 319,kO P 320,wFd (wCb 45) 9 "Bundle.way_by",kO P 321,kO P 322,kO P 323,mk3b,kO P 324,kO P 325,wFd (wCb 45) 10 "Bundle.take_ways",kO P 326,kO P 327,kO P 328,kO P 329,kO P 330,kO P 331,kO P 332,mk6b 626,mk7b 626,kO P 333,mk3b,wFd wTb 46 "fewest_locks",kO P 334,kO P 335,kO P 336,mk3b,wFd wTb 48 "own_earths",kO P 337,kO P 338,mk0b,mk4b,m643b P,mk0b,m645b,mk1b "Board" 1028 298 644,mk2b 646 643 "earthward.board" 1018,kO P 339,mk3b,kO P 340,kO P 341,wFd (wCb 49) 0 "Board.__init__",kO P 342,kO P 343,kO P 344,mk3b,kO P 345,kO P 346,wFd (wCb 49) 1 "Board.standing",kO P 347,kO P 348,kO P 349,mk3b,kO P 350,kO P 351,wFd (wCb 49) 2 "Board.locked",kO P 352,kO P 353,kO P 354,mk3b,kO P 355,kO P 356,wFd (wCb 49) 3 "Board.held",kO P 357,kO P 358,kO P 359,mk3b,kO P 360,kO P 361,wFd (wCb 49) 4 "Board.permits",kO P 362,kO P 363,kO P 364,mk3b,kO P 365,kO P 366,wFd (wCb 49) 5 "Board.turn",kO P 367,kO P 368,kO P 369,mk3b,kO P 370,kO P 371,wFd (wCb 49) 6 "Board.lock",kO P 372,kO P 373,kO P 374,mk3b,kO P 375,kO P 376,wFd (wCb 49) 7 "Board.unlock",kO P 377,kO P 378,kO P 379,mk3b,kO P 380,kO P 381,wFd (wCb 49) 8 "Board.permit",kO P 382,kO P 383,kO P 384,mk3b,kO P 385,kO P 386,wFd (wCb 49) 9 "Board.give_back",kO P 387,kO P 388,kO P 389,kO P 390,kO P 391,kO P 392,kO P 393,mk6b 720,mk7b 720,kO P 394,mk3b,wFd wTb 51 "free_switches",kO P 395,kO P 396,kO P 397,mk3b,kO P 398,kO P 399,wFd wTb 52 "layer_behind",kO P 400,kO P 401,kO P 402,mk3b,kO P 403,kO P 404,wFd wTb 53 "meets",kO P 405,kO P 406,kO P 407,mk3b,kO P 408,kO P 409,wFd wTb 54 "deeds_to",kO P 410,kO P 411,kO P 412,mk3b,kO P 413,kO P 414,wFd wTb 55 "plan",kO P 415,kO P 416,kO P 417,kO P 418,mk3b,wFd wTb 62 "is_number",kO P 419,kO P 420,kO P 421,mk3b,wFd wTb 63 "numbers_told",kO P 422,kO P 423,kO P 424,mk3b,kO P 425,kO P 426,wFd wTb 64 "parted",kO P 427,kO P 428,kO P 429,mk3b,kO P 430,kO P 431,wFd wTb 65 "count_in",kO P 432,kO P 433,kO P 434,mk3b,kO P 435,kO P 436,wFd wTb 66 "switch_in",kO P 437,kO P 438,kO P 439,mk3b,wFd wTb 67 "row_of",kO P 440,kO P 441,kO P 442,mk3b,wFd wTb 68 "shown",kO P 443,kO P 444,kO P 445,mk3b,wFd wTb 70 "joined_by_blanks",kO P 446,kO P 447,kO P 448,mk3b,kO P 449,kO P 450,wFd wTb 71 "one_number",kO P 451,kO P 452,kO P 453,mk3b,wFd wTb 72 "place_told",kO P 454,kO P 455,kO P 456,mk3b,kO P 457,kO P 458,wFd wTb 73 "wish_for",kO P 459,kO P 460,mk0b,mk4b,mk10b P 1301 "earthward.desk" 1265 "Desk" 469 1312 837 "say" 1323 844 "begin" 1331 851 "add_switch" "done" 1350 "reach" 1356 "tell",mk0b,mk11b 471 836 475 843 497 850 502 507 518 527,mk1b "Desk" 1296 469 827,mk2b 829 826 "earthward.desk" 1265,kO P 461,mk3b,kO P 462,kO P 463,wFd (wCb 74) 0 "Desk.__init__",kO P 464,kO P 465,kO P 466,mk3b,kO P 467,kO P 468,wFd (wCb 74) 1 "Desk.say",kO P 469,kO P 470,kO P 471,mk3b,kO P 472,kO P 473,wFd (wCb 74) 2 "Desk.begin",kO P 474,kO P 475,kO P 476,mk3b,kO P 477,kO P 478,wFd (wCb 74) 3 "Desk.add_switch",kO P 479,kO P 480,kO P 481,mk3b,kO P 482,kO P 483,wFd (wCb 74) 4 "Desk.done",kO P 484,kO P 485,kO P 486,mk3b,wFd (wCb 74) 5 "Desk.reach",kO P 487,kO P 488,kO P 489,mk3b,kO P 490,kO P 491,wFd (wCb 74) 6 "Desk.tell",kO P 492,kO P 493,kO P 494,kO P 495,kO P 496,kO P 497,kO P 498,mk6b 880,mk7b 880,kO P 499,mk3b,kO P 500,kO P 501,wFd wTb 76 "_law_draw",kO P 502,kO P 503,kO P 504,mk3b,kO P 505,kO P 506,wFd wTb 77 "_law_switch",kO P 507,kO P 508,kO P 509,mk3b,wFd wTb 78 "_law_yard",kO P 510,kO P 511,kO P 512,mk3b,kO P 513,kO P 514,wFd wTb 79 "_law_classes",kO P 515,kO P 516,kO P 517,mk3b,kO P 518,kO P 519,wFd wTb 80 "_law_said",kO P 520,kO P 521]
noncomputable def Smb(w:PySem.World)(os:PySem.OsState):PySem.W.SharedT:=⟨mtb w.params,918,PySem.Life.mk [] [] [] 0 [] [] false #[] [] 0 false false false 0 [2000,10,10] false 0 true [] [] 0 false,Array.mk [],PySem.Drawn.mk 0 0 0 0,1423,os⟩
noncomputable abbrev wS(w:PySem.World)(n:Nat)(S:PySem.W.SharedT)(l:List PySem.Stmt)(p:PySem.Pos)(S1:PySem.W.SharedT)(q:PySem.Pos):Prop:=PySem.W.segRunT PySem.treeTable PySem.Challenge.pw_earthward_k38_the_board_by_rows w 11 (some (.ref 6)) 1 n S (PySem.W.piecesOf l My.tenv (.body (PySem.W.behindTheImports PySem.Challenge.pw_earthward_k38_the_board_by_rows) My.tenv) p [PySem.W.topFrame ⟨0,0,0,0⟩])=some (.next,S1,.body (PySem.W.behindTheImports PySem.Challenge.pw_earthward_k38_the_board_by_rows) My.tenv,q)
noncomputable abbrev wS0(w:PySem.World)(os:PySem.OsState):Prop:=wS w 4353 (My.Sb w os) ((PySem.W.behindTheImports PySem.Challenge.pw_earthward_k38_the_board_by_rows).take 22) ⟨0,0,0,0⟩ (My.Sm w os) ⟨58,0,64,28⟩
theorem run0a(w:PySem.World)(os:PySem.OsState):wS0 (PySem.World.withFollow w "special-get-raises" false) os:=by kernel_rfl
noncomputable abbrev wS1(w:PySem.World)(os:PySem.OsState):Prop:=wS w 3944 (My.Sm w os) (((PySem.W.behindTheImports PySem.Challenge.pw_earthward_k38_the_board_by_rows).drop 22).take 59) ⟨58,0,64,28⟩ (My.Smb w os) ⟨561,0,570,15⟩
theorem run0b(w:PySem.World)(os:PySem.OsState):wS1 (PySem.World.withFollow w "special-get-raises" false) os:=by kernel_rfl
noncomputable abbrev wR(w:PySem.World)(os:PySem.OsState){β:Type}(F:PySem.Shared->β)(v:β):Prop:=RunA PySem.Challenge.pw_earthward_k38_the_board_by_rows w 11 (some (.ref 6)) My.tenv ⟨0,0,0,0⟩ ⟨561,0,570,15⟩ ⟨636,0,654,86⟩ 647 5 (My.Smb w os) (((PySem.W.behindTheImports PySem.Challenge.pw_earthward_k38_the_board_by_rows).drop 22).drop 59) F v
noncomputable abbrev wRx(w:PySem.World)(os:PySem.OsState):Prop:=wR w os (chkA PySem.Challenge.pw_earthward_k38_the_board_by_rows w (PySem.W.Hook.obs (PySem.W.kHook My.pre.heap_39 My.wAl My.wHk))) (true,PySem.W.Hook.val (PySem.W.kHook My.pre.heap_39 My.wAl My.wHk) w)
noncomputable abbrev wSn(s:PySem.Shared):=PySem.W.openSeen My.vw [(PySem.Str.ofString "NUMBERS_BEHIND")] (PySem.importedModules PySem.Challenge.pw_earthward_k38_the_board_by_rows.main.body) (λs=>PySem.W.xlAt My.vw [] s&&PySem.W.recOk (PySem.Challenge.rw_earthward_k38_the_board_by_rows).row.records s) true s
noncomputable abbrev wGd:=PySem.W.openGood My.vw [(PySem.Str.ofString "NUMBERS_BEHIND")]
theorem run0x(w:PySem.World)(os:PySem.OsState):wRx (PySem.World.withFollow w "special-get-raises" false) os:=by kernel_rfl
theorem run0y(w:PySem.World)(os:PySem.OsState):wR (PySem.World.withFollow w "special-get-raises" false) os (λs=>(wSn s).1) wGd.1:=by kernel_rfl
theorem run0u(w:PySem.World)(os:PySem.OsState):wR (PySem.World.withFollow w "special-get-raises" false) os (λs=>(wSn s).2.1) wGd.2.1:=by kernel_rfl
theorem run0v(w:PySem.World)(os:PySem.OsState):wR (PySem.World.withFollow w "special-get-raises" false) os (λs=>(wSn s).2.2.1) wGd.2.2.1:=by kernel_rfl
theorem run0z(w:PySem.World)(os:PySem.OsState):wR (PySem.World.withFollow w "special-get-raises" false) os (λs=>(wSn s).2.2.2) wGd.2.2.2:=by kernel_rfl
theorem run1a(w:PySem.World)(os:PySem.OsState):wS0 (PySem.World.withFollow w "special-get-raises" true) os:=by kernel_rfl
theorem run1b(w:PySem.World)(os:PySem.OsState):wS1 (PySem.World.withFollow w "special-get-raises" true) os:=by kernel_rfl
theorem run1x(w:PySem.World)(os:PySem.OsState):wRx (PySem.World.withFollow w "special-get-raises" true) os:=by kernel_rfl
theorem run1y(w:PySem.World)(os:PySem.OsState):wR (PySem.World.withFollow w "special-get-raises" true) os (λs=>(wSn s).1) wGd.1:=by kernel_rfl
theorem run1u(w:PySem.World)(os:PySem.OsState):wR (PySem.World.withFollow w "special-get-raises" true) os (λs=>(wSn s).2.1) wGd.2.1:=by kernel_rfl
theorem run1v(w:PySem.World)(os:PySem.OsState):wR (PySem.World.withFollow w "special-get-raises" true) os (λs=>(wSn s).2.2.1) wGd.2.2.1:=by kernel_rfl
theorem run1z(w:PySem.World)(os:PySem.OsState):wR (PySem.World.withFollow w "special-get-raises" true) os (λs=>(wSn s).2.2.2) wGd.2.2.2:=by kernel_rfl
theorem left:PySem.W.LeftO PySem.Challenge.pw_earthward_k38_the_board_by_rows My.vw [(PySem.Str.ofString "NUMBERS_BEHIND")] (λs=>PySem.W.xlAt My.vw [] s&&PySem.W.recOk (PySem.Challenge.rw_earthward_k38_the_board_by_rows).row.records s) (PySem.W.Hook.obs (PySem.W.kHook My.pre.heap_39 My.wAl My.wHk)) (PySem.W.Hook.val (PySem.W.kHook My.pre.heap_39 My.wAl My.wHk)) 9524 true:=My.left_split "special-get-raises" (by kernel_rfl) (by kernel_rfl) (λs=>rfl) (λw os=>My.top_tree (os:=os) (m₀:=11) (ann:=some (.ref 6)) (env:=My.tenv) (qp:=⟨0,0,0,0⟩) (pp:=⟨0,0,0,0⟩) (pb:=⟨0,0,0,0⟩) (n1:=12) (n2:=1) (n3:=8949) (Sa:=My.Sa (PySem.World.withFollow w "special-get-raises" false) os) (Sb:=My.Sb (PySem.World.withFollow w "special-get-raises" false) os) (by kernel_rfl) (by kernel_rfl) (by kernel_rfl) (My.ends_cut (j:=22) (My.run0a w os) (My.ends_cut (j:=59) (My.run0b w os) (My.ends_two (My.run0x w os) (My.run0y w os) (My.run0u w os) (My.run0v w os) (My.run0z w os)))) (by kernel_rfl)) (λw os=>My.top_tree (os:=os) (m₀:=11) (ann:=some (.ref 6)) (env:=My.tenv) (qp:=⟨0,0,0,0⟩) (pp:=⟨0,0,0,0⟩) (pb:=⟨0,0,0,0⟩) (n1:=12) (n2:=1) (n3:=8949) (Sa:=My.Sa (PySem.World.withFollow w "special-get-raises" true) os) (Sb:=My.Sb (PySem.World.withFollow w "special-get-raises" true) os) (by kernel_rfl) (by kernel_rfl) (by kernel_rfl) (My.ends_cut (j:=22) (My.run1a w os) (My.ends_cut (j:=59) (My.run1b w os) (My.ends_two (My.run1x w os) (My.run1y w os) (My.run1u w os) (My.run1v w os) (My.run1z w os)))) (by kernel_rfl))
end My
set_option maxHeartbeats 4000000
namespace L2
open PySem PySem.Spec PyProof.Rows
noncomputable abbrev cp:=Sum Int Str
noncomputable def uS:cp->Value->Bool
 | .inl k,v=>Value.isInt k v
 | .inr x,v=>Value.isStrOf x v
noncomputable def FZ(w:World):cp->Int
 | .inl k=>hashInt k
 | .inr x=>hashStr w x
theorem lE:∀{k:cp} {v:Value},uS k v=true->(∃i t,k=Sum.inl i/\v=Value.int i t)\/(∃x t,k=Sum.inr x/\v=Value.str x t)
 | .inl i,v,h=>by
  obtain⟨t,e⟩:=Value.isInt_shape (k:=i) (v:=v) h;exact .inl ⟨i,t,rfl,e⟩
 | .inr x,v,h=>by
  obtain⟨t,e⟩:=Value.isStrOf_shape (x:=x) (v:=v) h;exact .inr ⟨x,t,rfl,e⟩
theorem Ou(i:Int)(t:Tok):uS (.inl i) (.int i t)=true:=by simp[uS,Value.isInt]
theorem Pg(x:Str)(t:Tok):uS (.inr x) (.str x t)=true:=by simp[uS,Value.isStrOf]
theorem pE(a b:Int):decide ((Sum.inl a:cp)=Sum.inl b)=(a==b):=by
 by_cases e:a=b
 ·subst e;simp
 ·have h:¬(Sum.inl a:cp)=Sum.inl b:=λq=>e (Sum.inl.inj q)
  rw[decide_eq_false h];exact(beq_eq_false_iff_ne.mpr e).symm
theorem qN(a b:Str):decide ((Sum.inr a:cp)=Sum.inr b)=decide (a=b):=by
 by_cases e:a=b
 ·subst e;simp
 ·have h:¬(Sum.inr a:cp)=Sum.inr b:=λq=>e (Sum.inr.inj q)
  rw[decide_eq_false h,decide_eq_false e]
theorem tY(a:Int)(b:Str):decide ((Sum.inl a:cp)=Sum.inr b)=false:=decide_eq_false (λq=>nomatch q)
theorem qX(a:Str)(b:Int):decide ((Sum.inr a:cp)=Sum.inl b)=false:=decide_eq_false (λq=>nomatch q)
noncomputable def eJ(prog:Program)(w:World):PySem.KeyKind prog w cp where
 is:=uS
 hash:=FZ w
 inj:=λv a b ha hb=>by
  rcases lE ha with⟨i,t,rfl,rfl⟩|⟨x,t,rfl,rfl⟩
  ·rcases lE hb with⟨j,u,rfl,e⟩|⟨y,u,rfl,e⟩
   ·injection e with e1 _;rw[e1]
   ·exact nomatch e
  ·rcases lE hb with⟨j,u,rfl,e⟩|⟨y,u,rfl,e⟩
   ·exact nomatch e
   ·injection e with e1 _;rw[e1]
 byValue:=λk v h=>by
  rcases lE h with⟨i,t,rfl,rfl⟩|⟨x,t,rfl,rfl⟩<;>rfl
 pyHash:=λhv h=>by
  rcases lE hv with⟨i,t,rfl,rfl⟩|⟨x,t,rfl,rfl⟩
  ·exact wpAny_pyHash_int h
  ·exact wpAny_pyHash_str h
 eqBool:=λhu hv h=>by
  rcases lE hu with⟨i,t,rfl,rfl⟩|⟨x,t,rfl,rfl⟩
  ·rcases lE hv with⟨j,u,rfl,rfl⟩|⟨y,u,rfl,rfl⟩
   ·rw[pE]at h;exact wpAny_eqBool_int h
   ·rw[tY]at h;exact SeqAt.EqAt.int_str i t y u _ _ _ _ h
  ·rcases lE hv with⟨j,u,rfl,rfl⟩|⟨y,u,rfl,rfl⟩
   ·rw[qX]at h;exact SeqAt.EqAt.str_int x t j u _ _ _ _ h
   ·rw[qN]at h;exact wpAny_eqBool_str h
 «strs»:=λk x t v h=>by
  rcases lE h with⟨i,u,rfl,e⟩|⟨y,u,rfl,e⟩
  ·exact nomatch e
  ·injection e with e1 _
   subst e1;cases v<;>rfl
theorem Ot(prog:Program)(w:World)(i:Int)(t:Tok):(eJ prog w).is (.inl i) (.int i t)=true:=Ou i t
theorem FA(prog:Program)(w:World)(x:Str)(t:Tok):(eJ prog w).is (.inr x) (.str x t)=true:=Pg x t
inductive V where
 | non|bl (b:Bool)|int (i:Int)|str (x:Str)|byt (b:Array UInt8)|flt (b:UInt64)|ref (a:Addr)|ty (n:String)
 deriving DecidableEq
noncomputable def RelV:V->Value->Prop
 | .non,u=>u=Value.none
 | .bl b,u=>u=Value.bool b
 | .int i,u=>∃t,u=Value.int i t
 | .str x,u=>∃t,u=Value.str x t
 | .byt b,u=>∃t,u=Value.bytes b t
 | .flt b,u=>∃t,u=Value.float b t
 | .ref a,u=>u=Value.ref a
 | .ty n,u=>u=Value.type n
noncomputable abbrev Vals:List V->List Value->Prop:=Paired RelV
theorem Vals.length(r:Vals xs us):xs.length=us.length:=Paired.length r
theorem Vals.get:∀{xs:List V} {us:List Value} {i:Nat} {x:V},Vals xs us->xs[i]?=some x->∃u,us[i]?=some u/\RelV x u
 | _,_,_,_,.nil,e=>by simp at e
 | _,_,0,_,.cons r _,e=>by simp at e;subst e;exact⟨_,rfl,r⟩
 | _,_,i+1,x,.cons _ t,e=>by
  obtain⟨u,h1,h2⟩:=Vals.get (i:=i) (x:=x) t (by simpa using e);exact⟨u,by simpa using h1,h2⟩
theorem Vals.append:∀{xs ys:List V} {us ws:List Value},Vals xs us->Vals ys ws->Vals (xs++ys) (us++ws)
 | _,_,_,_,.nil,s=>s
 | _,_,_,_,.cons r t,s=>.cons r (Vals.append t s)
theorem Vals.take:∀{xs:List V} {us:List Value} (n:Nat),Vals xs us->Vals (xs.take n) (us.take n)
 | _,_,0,_=>.nil
 | _,_,_+1,.nil=>.nil
 | _,_,n+1,.cons r t=>.cons r (Vals.take n t)
theorem Vals.drop:∀{xs:List V} {us:List Value} (n:Nat),Vals xs us->Vals (xs.drop n) (us.drop n)
 | _,_,0,r=>r
 | _,_,_+1,.nil=>.nil
 | _,_,n+1,.cons _ t=>Vals.drop n t
noncomputable def RelO:Option V->Option Value->Prop
 | some v,some u=>RelV v u
 | none,none=>True
 | _,_=>False
noncomputable def KV{κ:Type}:List (κ×V)->List (κ×Value)->Prop:=Paired λ(p:κ×V) (q:κ×Value)=>p.1=q.1/\RelV p.2 q.2
noncomputable def kV:cp->V
 | .inl i=>.int i
 | .inr x=>.str x
inductive HO where
 | lst (xs:List V)
 | tup (xs:List V)
 | dK (kvs:List (cp×V))|dT (kvs:List (List cp×V))
 | set (S:Int->Bool) (n:Nat)
 | ins (C dx:Addr) (fs:List (Str×V))
 | own (x:Addr)
 | xd (fs:List (Str×V))
 | met (f x:Addr)
 | rng (lo hi:Int)
 | frz (o:Obj) (u:HO)
 | tbl (ps:Array Value)
 | ext (φ:Heap->Prop)
noncomputable abbrev Hp:=Addr->Option HO
noncomputable def aQ(H:Hp)(a:Addr)(o:HO):Hp:=λb=>if b=a then some o else H b
theorem df:aQ H a o a=some o:=by unfold aQ;rw[if_pos rfl]
theorem aW(h:b≠a):aQ H a o b=H b:=by unfold aQ;rw[if_neg h]
theorem vA{H:Hp}(h:H a=some o)(h':H b=some u)(d:o≠u):a≠b:=by
 intro e;subst e;rw[h]at h';exact d (Option.some.inj h')
theorem ed{H:Hp}(h:H a=some o)(h':H b=none):a≠b:=by
 intro e;subst e;rw[h]at h';cases h'
section
variable (P : Program) (w : World)
noncomputable def jcq(H:Hp)(h:Heap)(a:Addr):HO->Prop
 | .lst xs=>xs.length<=sizeLine/\∃(its:List Value) (n:Nat),Vals xs its/\h.get? a=some {cls:=.type "list",data:=.seq its.toArray n}
 | .tup xs=>xs.length<=sizeLine/\∃its:List Value,Vals xs its/\IsTup h a its.toArray
 | .dK kvs=>kvs.length<=sizeLine/\(a==sysModules)=false/\∃vs,KV kvs vs/\h.DictOf (eJ P w) a vs
 | .dT kvs=>kvs.length<=sizeLine/\(a==sysModules)=false/\∃xs:List (List cp×Addr×Value),
   Paired (λ(p:List cp×V) (q:List cp×Addr×Value)=>p.1=q.1/\H q.2.1=some (.tup (p.1.map kV))/\RelV p.2 q.2.2) kvs xs/\
   ∃o es ep,h.get? a=some o/\o.ExactDict/\o.data=.dict es ep/\es.toList=xs.map (entryOfKey (tupleKind (eJ P w)))/\(xs.map (·.1)).Nodup
 | .set S n=>h.SetOf (intKind P w) a S n
 | .ins C dx fs=>H dx=some (.own a)/\fs.length<=1000/\dx≠a/\h.get? a=some (W.instObj C dx)/\
   ∃mA,h.Ns1 dx mA/\(∀f,RelO (fs.lookup f) (mA f))/\PySem.Within mA (fs.map (·.1))
 | .own _=>∃o,h.get? a=some o
 | .xd fs=>∃mA,h.Ns1 a mA/\∀f,RelO (fs.lookup f) (mA f)
 | .rng lo hi=>∃t u v,h.get? a=some {cls:=.type "range",data:=.fields #[.int lo t,.int hi u,.int 1 v]}
 | .frz o u=>h.get? a=some o/\jcq H h a u
 | .tbl ps=>h.get? a=some {cls:=.none,data:=.fields ps}
 | .met f x=>h.get? a=some (W.methodObj (.ref f) (.ref x))
 | .ext φ=>φ h/\(∃o,h.get? a=some o)/\∀h1 h2:Heap,φ h1->(∀o,h1.get? a=some o->h2.get? a=some o)->φ h2
noncomputable def HOk(H:Hp)(h:Heap):Prop:=∀a o,H a=some o->jcq P w H h a o
end
section
variable {P : Program} {w : World} {H H' : Hp} {h h' : Heap} {a : Addr} {o : HO}
theorem jcq.lt(x:jcq P w H h a o):a<h.objs.size:=by
 cases o with
 | lst xs=>obtain⟨_,_,_,_,e⟩:=x;exact qd e
 | tup xs=>obtain⟨_,_,_,p⟩:=x;exact p.lt
 | dK kvs=>obtain⟨_,_,_,_,o,_,_,e,_⟩:=x;exact qd e
 | dT kvs=>obtain⟨_,_,_,_,o,_,_,e,_⟩:=x;exact qd e
 | set S n=>obtain⟨o,_,_,_,e,_⟩:=x;exact qd e
 | ins C dx fs=>obtain⟨_,_,_,e,_⟩:=x;exact qd e
 | own y=>obtain⟨_,e⟩:=x;exact qd e
 | xd fs=>obtain⟨_,⟨_,_,_,e,_⟩,_⟩:=x;exact qd e
 | rng lo hi=>obtain⟨_,_,_,e⟩:=x;exact qd e
 | frz ob u=>obtain⟨e,_⟩:=x;exact qd e
 | tbl ps=>exact qd (show h.get? a=some _ from x)
 | met f y=>exact qd (show h.get? a=some _ from x)
 | ext φ=>obtain⟨_,⟨_,e⟩,_⟩:=x;exact qd e
theorem Paired.mapP{α β:Type}{F G:α->β->Prop}:∀{l₁:List α} {l₂:List β},Paired F l₁ l₂->(∀a b,F a b->G a b)->Paired G l₁ l₂
 | _,_,.nil,_=>.nil
 | _,_,.cons r t,f=>.cons (f _ _ r) (Paired.mapP t f)
theorem jcq.stay(x:jcq P w H h a o)(k:∀b u,(b=a\/H b=some (.own a))->h.get? b=some u->h'.get? b=some u)
  (ho:∀b,H b=some (.own a)->H' b=some (.own a)) (ht:∀b xs,H b=some (.tup xs)->H' b=some (.tup xs)):jcq P w H' h' a o:=by
 induction o with
 | lst xs=>obtain⟨z,its,n,r,e⟩:=x;exact⟨z,its,n,r,k _ _ (.inl rfl) e⟩
 | tup xs=>obtain⟨z,its,r,ob,e,c⟩:=x;exact⟨z,its,r,ob,k _ _ (.inl rfl) e,c⟩
 | dK kvs=>obtain⟨z,y,vs,r,ob,es,ep,e,c⟩:=x;exact⟨z,y,vs,r,ob,es,ep,k _ _ (.inl rfl) e,c⟩
 | dT kvs=>
  obtain⟨z,y,xs,r,ob,es,ep,e,c⟩:=x;exact⟨z,y,xs,Paired.mapP r λp q z=>⟨z.1,ht _ _ z.2.1,z.2.2⟩,ob,es,ep,k _ _ (.inl rfl) e,c⟩
 | set S n=>obtain⟨ob,es,ep,t,e,c⟩:=x;exact⟨ob,es,ep,t,k _ _ (.inl rfl) e,c⟩
 | ins C dx fs=>
  obtain⟨d,z,ne,e,mA,⟨od,es,ep,e2,c⟩,r⟩:=x;exact⟨ho _ d,z,ne,k _ _ (.inl rfl) e,mA,⟨od,es,ep,k _ _ (.inr d) e2,c⟩,r⟩
 | own y=>obtain⟨ob,e⟩:=x;exact⟨ob,k _ _ (.inl rfl) e⟩
 | xd fs=>obtain⟨mA,⟨od,es,ep,e,c⟩,r⟩:=x;exact⟨mA,⟨od,es,ep,k _ _ (.inl rfl) e,c⟩,r⟩
 | rng lo hi=>obtain⟨t,u,v,e⟩:=x;exact⟨t,u,v,k _ _ (.inl rfl) e⟩
 | frz ob u ih=>obtain⟨e,q⟩:=x;exact⟨k _ _ (.inl rfl) e,ih q⟩
 | tbl ps=>
  have e:h.get? a=some {cls:=.none,data:=.fields ps}:=x;show h'.get? a=some {cls:=.none,data:=.fields ps};exact k a _ (.inl rfl) e
 | met f y=>
  have e:h.get? a=some (W.methodObj (.ref f) (.ref y)):=x;show h'.get? a=some (W.methodObj (.ref f) (.ref y));exact k a _ (.inl rfl) e
 | ext φ=>obtain⟨p,⟨o,e⟩,st⟩:=x;exact⟨st _ _ p λo q=>k _ _ (.inl rfl) q,⟨o,k _ _ (.inl rfl) e⟩,st⟩
theorem HOk.lt(x:HOk P w H h)(e:H a=some o):a<h.objs.size:=(x a o e).lt
theorem HOk.fresh(x:HOk P w H h)(e:h.objs.size<=a):H a=none:=by
 cases q:H a with
 | none=>rfl
 | some u=>exact absurd (qh (x.lt q) e) (wj _)
theorem HOk.kept(x:HOk P w H h)(k:∀b u,h.get? b=some u->h'.get? b=some u):HOk P w H h':=λa o e=>
 (x a o e).stay (λb u _ q=>k b u q) (λ_ q=>q) λ_ _ q=>q
theorem HOk.laid(x:HOk P w H h)(k:∀b u,h.get? b=some u->h'.get? b=some u)(hp:h.objs.size<=a)(new:jcq P w (aQ H a o) h' a o):HOk P w (aQ H a o) h':=λb u e=>by
 have hn:=x.fresh hp;by_cases hb:b=a
 ·subst hb;rw[df]at e;cases e;exact new
 ·rw[aW hb]at e
  exact(x b u e).stay (λc v _ q=>k c v q) (λc q=>by rw[aW (ed q hn)];exact q) λc xs q=>by rw[aW (ed q hn)];exact q
end
noncomputable def Rd(H:Hp)(a:Addr)(u:HO):Prop:=H a=some u\/∃o,H a=some (.frz o u)
theorem Rd.ok(r:Rd H a u)(x:HOk P w H h):jcq P w H h a u:=by
 rcases r with r|⟨o,r⟩
 ·exact x a u r
 ·obtain⟨_,q⟩:=x a _ r
  exact q
noncomputable def zQ:Option HO->Prop
 | some (.lst _)=>True
 | some (.dK _)=>True
 | some (.dT _)=>True
 | some (.set _ _)=>True
 | some (.ins _ _ _)=>True
 | some (.ext _)=>True
 | _=>False
section
variable {P : Program} {w : World} {H : Hp} {h h' : Heap} {x e : Addr} {o' : HO}
theorem HOk.write(ok:HOk P w H h)(mu:zQ (H x))(he:e=x\/H e=some (.own x))(k:∀b u,b≠e->h.get? b=some u->h'.get? b=some u)(heo:∃u,h'.get? e=some u)
  (new:jcq P w (aQ H x o') h' x o'):HOk P w (aQ H x o') h':=λb u q=>by
 have nown:∀c y,H c=some (.own y)->c≠x:=λc y r z=>by subst z;rw[r]at mu;exact mu
 have ntup:∀c xs,H c=some (.tup xs)->c≠x:=λc xs r z=>by subst z;rw[r]at mu;exact mu
 by_cases hb:b=x
 ·subst hb;rw[df]at q;cases q;exact new
 ·rw[aW hb]at q
  by_cases hbe:b=e
  ·have q':H b=some (.own x):=by
    rcases he with z|z
    ·exact absurd (hbe.trans z) hb
    ·rw[hbe];exact z
   rw[q]at q';cases q';obtain⟨v,hv⟩:=heo;exact⟨v,by rw[hbe];exact hv⟩
  ·refine(ok b u q).stay (λc v hc r=>k c v ?_ r) (λc r=>by rw[aW (nown c b r)];exact r) λc xs r=>by rw[aW (ntup c xs r)];exact r
   rcases hc with rfl|hc
   ·exact hbe
   ·rintro rfl
    rcases he with z|z
    ·exact nown c b hc z
    ·rw[hc]at z;cases z;exact hb rfl
end
structure Un (fs ex:List Addr) (H H':Hp) (h h':Heap):Prop where
 keep:∀b o,h.get? b=some o->H b=none->b∉fs->b∉ex->h'.get? b=some o
 slot:∀b o,h.get? b=some o->H b=none->b∈fs->b∉ex->∃sl,h'.get? b=some {o with slots:=sl}
 free:∀b o,h.get? b=some o->H b=none->b∉ex->H' b=none
 there:∀b o,h.get? b=some o->b∉ex->∃o',h'.get? b=some o'
 tups:∀b xs,H b=some (.tup xs)->H' b=some (.tup xs)
 frzs:∀b o u,H b=some (.frz o u)->H' b=some (.frz o u)
 tbls:∀b ps,H b=some (.tbl ps)->∃more,H' b=some (.tbl (ps++more))
section
variable {fs fs' ex ex' : List Addr} {H H1 H2 : Hp} {h h1 h2 h' : Heap} {a x e : Addr} {o : HO}
theorem Un.any(u:Un fs ex H H1 h h1)(q:h.get? b=some ob)(n:H b=none)(hx:b∉ex):∃sl,h1.get? b=some {ob with slots:=sl}:=by
 by_cases hb:b∈fs
 ·exact u.slot b ob q n hb hx
 ·exact⟨ob.slots,u.keep b ob q n hb hx⟩
theorem Un.kept(k:∀b u,h.get? b=some u->h'.get? b=some u):Un fs ex H H h h':=
 ⟨λb ob q _ _ _=>k b ob q,λb ob q _ _ _=>⟨ob.slots,k b ob q⟩,λ_ _ _ n _=>n,λb ob q _=>⟨ob,k b ob q⟩,λ_ _ q=>q,λ_ _ _ q=>q,λ_ ps q=>⟨#[],by rw[q];simp⟩⟩
theorem Un.refl:Un fs ex H H h h:=Un.kept λ_ _ q=>q
theorem Un.laid(k:∀b u,h.get? b=some u->h'.get? b=some u)(hp:h.objs.size<=a)(hn:H a=none):Un fs ex H (aQ H a o) h h' where
 keep:=λb u q _ _ _=>k b u q
 slot:=λb u q _ _ _=>⟨u.slots,k b u q⟩
 free:=λb u q n _=>by rw[aW (qo (qh (qd q) hp))];exact n
 there:=λb u q _=>⟨u,k b u q⟩
 tups:=λb xs q=>by rw[aW (ed q hn)];exact q
 frzs:=λb u xs q=>by rw[aW (ed q hn)];exact q
 tbls:=λb ps q=>⟨#[],by rw[aW (ed q hn),q];simp⟩
theorem Un.write(mu:zQ (H x))(he:e=x\/H e=some (.own x))(k:∀b u,b≠e->h.get? b=some u->h'.get? b=some u)(heo:∃u,h'.get? e=some u):Un fs ex H (aQ H x o) h h':=by
 have hx:∀b,H b=none->b≠x:=λb n z=>by subst z;rw[n]at mu;exact mu
 have hb:∀b,H b=none->b≠e:=λb n z=>by
  subst z;rcases he with r|r
  ·exact hx b n r
  ·rw[n]at r;cases r
 have hm:∀b u,H b=some u->¬zQ (some u)->b≠x:=λb u q nm z=>by subst z;rw[q]at mu;exact nm mu
 refine⟨λb u q n _ _=>k b u (hb b n) q,λb u q n _ _=>⟨u.slots,k b u (hb b n) q⟩,λb u q n _=>by rw[aW (hx b n)];exact n,λb u q _=> ?_,
  λb xs q=>by rw[aW (hm b _ q λz=>z)];exact q,λb u xs q=>by rw[aW (hm b _ q λz=>z)];exact q,λb ps q=>⟨#[],by rw[aW (hm b _ q λz=>z),q];simp⟩⟩
 by_cases hbe:b=e
 ·subst hbe;exact heo
 ·exact⟨u,k b u hbe q⟩
end
noncomputable def Eh(h:Heap)(H:Hp):List Addr:=(List.range h.objs.size).filter λa=>(H a).isSome
noncomputable def fE(h:Heap)(H:Hp):Heap:=W.hideAll h (Eh h H)
theorem O7(h:Heap)(H:Hp):(fE h H).objs.size=h.objs.size:=W.hideAll_size _ _
theorem Ma(e:h.get? b=some o)(n:H b=none):(fE h H).get? b=some o:=
 W.hideAll_get _ e λhm=>by
  have q:(H b).isSome=true:=(zv.mp hm).2;rw[n]at q;simp at q
theorem LI(e:(fE h H).get? b=some o):h.get? b=some o/\H b=none:=by
 have e':h.get? b=some o:=W.of_hideAll (Eh h H) e;refine⟨e',?_⟩;cases q:H b with
 | none=>rfl
 | some x=>
  have hm:b∈Eh h H:=zv.mpr ⟨zj.mpr (qd e'),by simp[q]⟩;have z:(fE h H).get? b=none:=W.hideAll_none (Eh h H) hm;rw[z]at e;cases e
structure Mod (K:W.Frag) (mg:Str->Option Value) (base:Heap):Prop where
 kin:K.In base
 glob:base.Ns mainGlobals mg
 blt:∃mb,base.Ns builtinsNs mb/\∀x:Str,x≠"__name__"->mb x=bootBuiltins x
 nolimit:base.NoLimit
structure Cx where
 prog:Program
 w:World
 K:W.Frag
 mg:Str->Option Value
 base:Heap
 A:Around
 N:List Str
 s₀:Shared
 H₀:Hp
 env:Env
 outer:List Env
 stack:List Env
 ex:List Addr
 fn:Str->Bool
 calm:Bool
 pn:List (Addr×Obj)
 xe:Value->Shared->Prop
noncomputable def cg(l:List Env):List Addr:=l.filterMap (·.frame)
noncomputable abbrev Cx.fs(X:Cx):List Addr:=cg X.outer
noncomputable def Gi(sc:Scope)(x:Str):Prop:=sc.names.lookup x=some .local\/sc.names.lookup x=some .cell\/sc.names.lookup x=some .free
noncomputable def t_(sc:Scope)(x:Str):Prop:=sc.names.lookup x=some .local\/sc.names.lookup x=some .cell
noncomputable def FJ(env:Env)(h:Heap)(m:Str->Option Value)(x:Str)(u:Value):Prop:=
 (env.kindOf x=some .local/\m x=some u)\/((env.kindOf x=some .cell\/env.kindOf x=some .free)/\∃c,env.cells.lookup x=some c/\h.IsCell c (some u))
structure Cx.Ok (X:Cx):Prop where
 mod:Mod X.K X.mg X.base
 kind:X.env.scope.kind=.function
 glob:X.env.globals=mainGlobals
 blt:X.env.builtins=builtinsNs
 above:X.s₀.heap.objs.size<=X.env.locals
 inj:∀x y c,X.env.cells.lookup x=some c->X.env.cells.lookup y=some c->x=y
 has:∀x,(X.env.kindOf x=some .cell\/X.env.kindOf x=some .free)->∃c,X.env.cells.lookup x=some c
 cab:∀x c,X.fn x=true->X.env.cells.lookup x=some c->X.s₀.heap.objs.size<=c
 hd:X.calm=true->X.A.handled=none
 frames:X.A.frames=some X.stack
 stk:X.stack=X.outer\/(X.stack=X.env::X.outer/\X.env.frame=some X.env.locals)
 exf:∀b∈X.ex,b≠X.env.locals/\∀x c,X.env.cells.lookup x=some c->c≠b
 bs:∀b o,X.base.get? b=some o->X.s₀.heap.get? b=some o/\X.H₀ b=none
 bsz:X.base.objs.size<=X.s₀.heap.objs.size
 noex:∀b o,X.base.get? b=some o->b∉X.ex
 exfs:∀b∈X.ex,b∉X.fs
 funs:X.s₀.heap.FunFrames X.base X.outer
 frf:∀b∈X.fs,X.H₀ b=none
structure Inv (X:Cx) (pins:List (Addr×Obj)) (σ:List (Option V)) (H:Hp) (s:Shared):Prop where
 ok:X.Ok
 os:s.os=X.s₀.os
 bare:AllBare s.gens
 base:Un X.fs X.ex X.H₀ H X.s₀.heap s.heap
 loc:∃m,s.heap.Ns X.env.locals m/\∀(i:Nat) (x:Str) (v:V),X.N[i]?=some x->σ[i]?=some (some v)->Gi X.env.scope x->∃u,RelV v u/\FJ X.env s.heap m x u
 cell:∀x c,X.env.cells.lookup x=some c->∃v,s.heap.IsCell c v
 free:H X.env.locals=none
 freeC:∀x c,X.env.cells.lookup x=some c->H c=none
 pin:∀p∈X.pn++pins,s.heap.get? p.1=some p.2/\H p.1=none/\p.1≠X.env.locals/\p.1∉X.fs/\∀v,p.2.data≠ .cell v
 hok:HOk X.prog X.w H s.heap
 len:σ.length=X.N.length
section
variable {X : Cx} {pins : List (Addr × Obj)} {σ : List (Option V)} {H H' : Hp} {s : Shared} {h' : Heap}
theorem Cx.Ok.nofr(ok:X.Ok)(e:X.base.get? b=some o):b∉X.fs:=λhb=>by
 have:=(ok.funs.mem hb).1;rw[e]at this;cases this
theorem Inv.bs(I:Inv X pins σ H s):∀b o,X.base.get? b=some o->s.heap.get? b=some o/\H b=none:=λb o e=>
 ⟨I.base.keep b o (I.ok.bs b o e).1 (I.ok.bs b o e).2 (I.ok.nofr e) (I.ok.noex b o e),I.base.free b o (I.ok.bs b o e).1 (I.ok.bs b o e).2 (I.ok.noex b o e)⟩
theorem Inv.bk(I:Inv X pins σ H s):∀b o,X.base.get? b=some o->s.heap.get? b=some o:=λb o e=>(I.bs b o e).1
theorem Inv.mod(I:Inv X pins σ H s):Mod X.K X.mg X.base:=I.ok.mod
theorem Inv.kIn(I:Inv X pins σ H s):X.K.In s.heap:=I.ok.mod.kin.keeps I.bk
theorem Inv.lt(I:Inv X pins σ H s):X.env.locals<s.heap.objs.size:=let ⟨_,hn,_⟩:=I.loc;hn.lt
theorem Inv.sz(I:Inv X pins σ H s):X.s₀.heap.objs.size<=s.heap.objs.size:=zd I.ok.above (Nat.le_of_lt I.lt)
theorem Inv.nofs(I:Inv X pins σ H s){a:Addr}(h:s.heap.objs.size<=a):a∉X.fs:=λhb=>by
 obtain⟨_,o,ho,_⟩:=I.ok.funs.mem hb;exact absurd (qh (qd ho) (zd I.sz h)) (wj _)
theorem Inv.cne(I:Inv X pins σ H s):∀x c,X.env.cells.lookup x=some c->c≠X.env.locals:=λx c e z=>by
 obtain⟨v,o,ho,hd⟩:=I.cell x c e;obtain⟨m,⟨o',es,ep,ho',hd',_⟩,_⟩:=I.loc;rw[z,ho']at ho;cases ho;rw[hd']at hd;cases hd
theorem Inv.funs(I:Inv X pins σ H s):s.heap.FunFrames X.base X.outer:=by
 have all:∀(l:List Env),(∀b∈cg l,b∈X.fs)->X.s₀.heap.FunFrames X.base l->s.heap.FunFrames X.base l:=by
  intro l
  induction l with
  | nil=>intro _ _;trivial
  | cons env r ih=>
   intro hs hl;obtain⟨hk,⟨L,o,hf,hn,ho,hd⟩,hr⟩:=hl;have hL:L∈X.fs:=hs L (by unfold cg;rw[wm,hf];exact qf);obtain⟨sl,e⟩:=I.base.slot L o ho (I.ok.frf L hL) hL λz=>I.ok.exfs L z hL;exact⟨hk,⟨L,_,hf,hn,e,hd⟩,ih (λb hb=>hs b (by unfold cg;rw[wm,hf];exact q9 _ hb)) hr⟩
 exact all X.outer (λ_ hb=>hb) I.ok.funs
theorem Inv.stack(I:Inv X pins σ H s):s.heap.FunFrames X.base X.stack:=by
 rcases I.ok.stk with e|⟨e,hf⟩
 ·rw[e];exact I.funs
 ·rw[e]
  obtain⟨m,hn,_⟩:=I.loc;refine .cons (by rw[I.ok.kind];decide) hf hn ?_ I.funs;exact Heap.get?_none_of_le (zd I.ok.bsz I.ok.above)
theorem Inv.stkSub(I:Inv X pins σ H s):∀b∈cg X.stack,b∈X.env.locals::X.fs:=λb hb=>by
 rcases I.ok.stk with e|⟨e,hf⟩
 ·rw[e]at hb;exact q9 _ hb
 ·rw[e]at hb
  unfold cg at hb;rw[wm,hf]at hb;exact hb
theorem Inv.stkFree(I:Inv X pins σ H s):∀b∈cg X.stack,H b=none:=λb hb=>by
 rcases qr.mp (I.stkSub b hb)with e|hb
 ·rw[e];exact I.free
 ·obtain⟨_,o,ho,_⟩:=I.ok.funs.mem hb
  exact I.base.free b o ho (I.ok.frf b hb) λz=>I.ok.exfs b z hb
theorem Inv.step{ch:List Addr}(I:Inv X pins σ H s)
  (hch:∀b∈ch,(b∈X.ex\/X.s₀.heap.objs.size<=b)/\b≠X.env.locals/\(∀x c,X.env.cells.lookup x=some c->c≠b)/\∀p∈X.pn++pins,p.1≠b)
  (keep:∀b o,b≠X.env.locals->b∉X.fs->b∉ch->s.heap.get? b=some o->H b=none->h'.get? b=some o)
  (slot:∀b o,b≠X.env.locals->b∈X.fs->b∉ch->s.heap.get? b=some o->H b=none->∃sl,h'.get? b=some {o with slots:=sl}) (free:∀b o,b∉ch->s.heap.get? b=some o->H b=none->H' b=none)
  (there:∀b o,b∉ch->s.heap.get? b=some o->∃o',h'.get? b=some o')
  (tups:∀b xs,H b=some (.tup xs)->H' b=some (.tup xs)) (frzs:∀b o u,H b=some (.frz o u)->H' b=some (.frz o u)) (tbls:∀b ps,H b=some (.tbl ps)->∃more,H' b=some (.tbl (ps++more)))
  (ns:∀m,s.heap.Ns X.env.locals m->h'.Ns X.env.locals m) (hok:HOk X.prog X.w H' h') (hg:AllBare g'):
  Inv X pins σ H' {s with heap:=h',gens:=g',drawn:=d',toks:=t'}:=by
 have neL:∀b o,X.s₀.heap.get? b=some o->b≠X.env.locals:=λb o e=>qo (qh (qd e) I.ok.above);have neC:∀b o,X.s₀.heap.get? b=some o->b∉X.ex->b∉ch:=λb o e hx hb=>by
  rcases(hch b hb).1 with z|z
  ·exact hx z
  ·exact absurd (qh (qd e) z) (wj _)
 have cellK:∀x c,X.env.cells.lookup x=some c->∀v,s.heap.IsCell c v->h'.IsCell c v:=λx c e v ⟨o,ho,hd⟩=>by
  have nch:c∉ch:=λz=>(hch c z).2.2.1 x c e rfl;by_cases hc:c∈X.fs
  ·obtain⟨sl,q⟩:=slot c o (I.cne x c e) hc nch ho (I.freeC x c e)
   exact⟨_,q,hd⟩
  ·exact⟨o,keep c o (I.cne x c e) hc nch ho (I.freeC x c e),hd⟩
 refine⟨I.ok,I.os,hg,⟨λb o e n hb hx=> ?_,λb o e n hb hx=> ?_,λb o e n hx=> ?_,λb o e hx=> ?_,λb xs e=>tups b xs (I.base.tups b xs e),λb o xs e=>frzs b o xs (I.base.frzs b o xs e),λb ps e=> ?_⟩,?_,λx c e=> ?_,?_,λx c e=> ?_,λp hp=> ?_,hok,I.len⟩
 ·exact keep b o (neL b o e) hb (neC b o e hx) (I.base.keep b o e n hb hx) (I.base.free b o e n hx)
 ·obtain⟨sl,e1⟩:=I.base.slot b o e n hb hx
  obtain⟨sl',e2⟩:=slot b _ (neL b o e) hb (neC b o e hx) e1 (I.base.free b o e n hx);exact⟨sl',e2⟩
 ·obtain⟨o',e1⟩:=I.base.there b o e hx
  exact free b o' (neC b o e hx) e1 (I.base.free b o e n hx)
 ·obtain⟨o',e1⟩:=I.base.there b o e hx
  exact there b o' (neC b o e hx) e1
 ·obtain⟨m1,e1⟩:=I.base.tbls b ps e
  obtain⟨m2,e2⟩:=tbls b _ e1;exact⟨m1++m2,by rw[e2,Array.append_assoc]⟩
 ·obtain⟨m,hn,hl⟩:=I.loc
  refine⟨m,ns m hn,λi x v e1 e2 e3=> ?_⟩;obtain⟨u,r,l⟩:=hl i x v e1 e2 e3;refine⟨u,r,?_⟩;rcases l with l|⟨k,c,e,z⟩
  ·exact .inl l
  ·exact .inr ⟨k,c,e,cellK x c e _ z⟩
 ·obtain⟨v,z⟩:=I.cell x c e
  exact⟨v,cellK x c e v z⟩
 ·obtain⟨m,⟨o,_,_,ho,_⟩,_⟩:=I.loc
  exact free _ o (λz=>(hch _ z).2.1 rfl) ho I.free
 ·obtain⟨v,o,ho,hd⟩:=I.cell x c e
  exact free c o (λz=>(hch c z).2.2.1 x c e rfl) ho (I.freeC x c e)
 ·obtain⟨e,n,ne,nf,d⟩:=I.pin p hp
  have nch:p.1∉ch:=λz=>(hch p.1 z).2.2.2 p hp rfl;exact⟨keep p.1 p.2 ne nf nch e n,free p.1 p.2 nch e n,ne,nf,d⟩
theorem Inv.un(I:Inv X pins σ H s)(u:Un X.fs [] H H' s.heap h')(hok:HOk X.prog X.w H' h'):Inv X pins σ H' {s with heap:=h',toks:=t'}:=by
 obtain⟨m,⟨o,es,ep,ho,r⟩,_⟩:=id I.loc;obtain⟨sl,hL⟩:=u.any ho I.free (by simp);exact I.step (g':=s.gens) (d':=s.drawn) (ch:=[]) (λ_ z=>nomatch z) (λb o _ hb _ e n=>u.keep b o e n hb (by simp)) (λb o _ hb _ e n=>u.slot b o e n hb (by simp)) (λb o _ e n=>u.free b o e n (by simp)) (λb o _ e=>u.there b o e (by simp)) u.tups u.frzs u.tbls (λm' hm=>by
  obtain⟨o',es',ep',ho',r'⟩:=hm;rw[ho]at ho';cases ho';exact⟨_,es',ep',hL,r'⟩) hok I.bare
theorem Inv.call(I:Inv X pins σ H s)(u:Un (cg X.stack) ch H H' s.heap h')(hok:HOk X.prog X.w H' h')(hg:AllBare g')
  (hch:∀b∈ch,(b∈X.ex\/X.s₀.heap.objs.size<=b)/\b≠X.env.locals/\(∀x c,X.env.cells.lookup x=some c->c≠b)/\∀p∈X.pn++pins,p.1≠b):
  Inv X pins σ H' {s with heap:=h',gens:=g',drawn:=d',toks:=t'}:=by
 obtain⟨m,⟨o,es,ep,ho,r⟩,_⟩:=id I.loc;obtain⟨sl,hL⟩:=u.any ho I.free λz=>(hch _ z).2.1 rfl;exact I.step (ch:=ch) hch (λb o hL hb hc e n=>u.keep b o e n (λz=>(qr.mp (I.stkSub b z)).elim hL hb) hc) (λb o _ _ hc e n=>u.any e n hc) (λb o hc e n=>u.free b o e n hc) (λb o hc e=>u.there b o e hc) u.tups u.frzs u.tbls (λm' hm=>by
  obtain⟨o',es',ep',ho',r'⟩:=hm;rw[ho]at ho';cases ho';exact⟨_,es',ep',hL,r'⟩) hok hg
theorem Inv.turned(I:Inv X pins σ H s)(k:∀b o,b≠it->s.heap.get? b=some o->h'.get? b=some o)(hn:H it=none)(hL:it≠X.env.locals)
  (h1:it∈X.ex\/X.s₀.heap.objs.size<=it) (h2:∀x c,X.env.cells.lookup x=some c->c≠it) (h3:∀p∈X.pn++pins,p.1≠it):Inv X pins σ H {s with heap:=h',toks:=t'}:=by
 have nit:∀b u,H b=some u->b≠it:=λb u e z=>by rw[z,hn]at e;cases e
 refine I.step (g':=s.gens) (d':=s.drawn) (ch:=[it]) (λb hb=> ?_) (λb o _ _ hc e _=>k b o (λz=>hc (by simp[z])) e) (λb o _ _ hc e _=>⟨o.slots,k b o (λz=>hc (by simp[z])) e⟩) (λ_ _ _ _ n=>n)
  (λb o hc e=>⟨o,k b o (λz=>hc (by simp[z])) e⟩) (λ_ _ e=>e) (λ_ _ _ e=>e) (λb ps e=>⟨#[],by rw[e];simp⟩) (λm hm=> ?_) (λb u e=> ?_) I.bare
 ·have e:b=it:=by simpa using hb
  subst e;exact⟨h1,hL,h2,h3⟩
 ·obtain⟨o,es,ep,ho,r⟩:=hm
  exact⟨o,es,ep,k _ o (Ne.symm hL) ho,r⟩
 ·refine(I.hok b u e).stay (λc v hc q=>k c v ?_ q) (λ_ q=>q) λ_ _ q=>q
  rcases hc with z|z
  ·rw[z];exact nit b u e
  ·exact nit c _ z
theorem Inv.tok(I:Inv X pins σ H s)(t:Nat):Inv X pins σ H {s with toks:=t}:=I.un (h':=s.heap) (t':=t) Un.refl I.hok
theorem Inv.kept(I:Inv X pins σ H s)(k:∀b u,s.heap.get? b=some u->h'.get? b=some u):Inv X pins σ H {s with heap:=h',toks:=t'}:=I.un (Un.kept k) (I.hok.kept k)
theorem Inv.laid{a:Addr}(I:Inv X pins σ H s)(k:∀b u,s.heap.get? b=some u->h'.get? b=some u)(hp:s.heap.objs.size<=a)(new:jcq X.prog X.w (aQ H a o) h' a o):
  Inv X pins σ (aQ H a o) {s with heap:=h',toks:=t'}:=I.un (Un.laid k hp (I.hok.fresh hp)) (I.hok.laid k hp new)
theorem Inv.write(I:Inv X pins σ H s)(mu:zQ (H x))(he:e=x\/H e=some (.own x))(k:∀b u,b≠e->s.heap.get? b=some u->h'.get? b=some u)(heo:∃u,h'.get? e=some u)
  (new:jcq X.prog X.w (aQ H x o) h' x o):Inv X pins σ (aQ H x o) {s with heap:=h',toks:=t'}:=I.un (Un.write mu he k heo) (I.hok.write mu he k heo new)
theorem Inv.weak(I:Inv X pins σ H s)(hl:σ'.length=σ.length)(w:∀(i:Nat) v,σ'[i]?=some (some v)->σ[i]?=some (some v)):Inv X pins σ' H s:=
 ⟨I.ok,I.os,I.bare,I.base,let ⟨m,hn,hl'⟩:=I.loc;⟨m,hn,λi x v e1 e2 e3=>hl' i x v e1 (w i v e2) e3⟩,I.cell,I.free,I.freeC,I.pin,I.hok,hl.trans I.len⟩
theorem Inv.pins_of(I:Inv X pins σ H s)(h:∀p∈pins',s.heap.get? p.1=some p.2/\H p.1=none/\p.1≠X.env.locals/\p.1∉X.fs/\∀v,p.2.data≠ .cell v):Inv X pins' σ H s:=
 ⟨I.ok,I.os,I.bare,I.base,I.loc,I.cell,I.free,I.freeC,λp hp=>(zi.mp hp).elim (λz=>I.pin p (wx _ z)) (h p),I.hok,I.len⟩
theorem FT{N:List Str}(hN:N.Nodup){i j:Nat}(a:N[i]?=some x)(b:N[j]?=some x):i=j:=by
 obtain⟨h1,e1⟩:=q8.mp a;obtain⟨h2,e2⟩:=q8.mp b;exact(List.getElem_inj hN).mp (e1.trans e2.symm)
theorem JL{M:Model}{A:Around}{E:Value->Shared->Prop}{i:Nat}{x:Str}{v:V}{u:Value}{Q:Unit->Shared->Prop}(I:Inv X pins σ H s)(hN:X.N.Nodup)(hi:X.N[i]?=some x)(hx:t_ X.env.scope x)(r:RelV v u)
  (h:∀s',Inv X pins (σ.set i (some v)) H s'->(∃a,Heap.SameBut a s.heap s'.heap/\(a=X.env.locals\/X.env.cells.lookup x=some a))->Q () s') (hf:X.fn x=true\/X.env.scope.names.lookup x=some .local:=by first|exact .inl rfl|exact .inr rfl|assumption):wpAny M A (storeName X.env x u) Q E s:=by
 obtain⟨m,hn,hl⟩:=id I.loc;have hcls:(X.env.scope.kind== .class||(X.env.scope.kind== .module&&X.env.locals !=X.env.globals))=false:=by rw[I.ok.kind];rfl
 have hiσ:i<σ.length:=by rw[I.len];exact(q8.mp hi).1
 have cne:=I.cne;have tracked:∀{a:Addr} {h':Heap},(∃o,s.heap.get? a=some o/\H a=none)->Heap.SameBut a s.heap h'->HOk X.prog X.w H h':=fun{a h'} ha hs b ob e=>by
  obtain⟨_,_,hfree⟩:=ha;refine(I.hok b ob e).stay (λc w' hc q=>(hs.2 c ?_).trans q) (λ_ q=>q) λ_ _ q=>q;rintro rfl;rcases hc with rfl|hc
  ·rw[hfree]at e;cases e
  ·rw[hfree]at hc;cases hc
 rcases hx with hk|hk
 ·refine wpAny_storeName_local hk hn (λh' hn' hs=> ?_) hcls
  obtain⟨oL,_,_,hoL,_⟩:=id hn;refine h _ ⟨I.ok,I.os,I.bare,⟨λb o e n hb hx=> ?_,λb o e n hb hx=> ?_,I.base.free,λb o e hx=> ?_,I.base.tups,I.base.frzs,I.base.tbls⟩,⟨_,hn',λj y v' e1 e2 e3=> ?_⟩,λy c e=> ?_,I.free,I.freeC,λp hp=> ?_,tracked ⟨oL,hoL,I.free⟩ hs,by simpa using I.len⟩ ⟨_,hs,.inl rfl⟩
  ·exact(hs.2 b (qo (qh (qd e) I.ok.above))).trans (I.base.keep b o e n hb hx)
  ·obtain⟨sl,e1⟩:=I.base.slot b o e n hb hx
   exact⟨sl,(hs.2 b (qo (qh (qd e) I.ok.above))).trans e1⟩
  ·obtain⟨o',e1⟩:=I.base.there b o e hx
   exact⟨o',(hs.2 b (qo (qh (qd e) I.ok.above))).trans e1⟩
  ·by_cases hj:j=i
   ·subst hj
    rw[hi]at e1;cases e1;rw[qg hiσ]at e2;cases e2;exact⟨u,r,.inl ⟨hk,by simp⟩⟩
   ·rw[qe (Ne.symm hj)]at e2
    obtain⟨u',r',q⟩:=hl j y v' e1 e2 e3;refine⟨u',r',?_⟩;rcases q with⟨k,e⟩|⟨k,c,e,z⟩
    ·refine .inl ⟨k,?_⟩
     have:y≠x:=λe=>hj (FT hN e1 (e▸hi));simp[this,e]
    ·exact .inr ⟨k,c,e,z.sameBut hs (cne y c e)⟩
  ·obtain⟨w',z⟩:=I.cell y c e
   exact⟨w',z.sameBut hs (cne y c e)⟩
  ·obtain⟨e,n,ne,nf,d⟩:=I.pin p hp
   exact⟨(hs.2 p.1 ne).trans e,n,ne,nf,d⟩
 ·have hfn:X.fn x=true:=by
   rcases hf with z|z
   ·exact z
   ·rw[z]at hk;cases hk
  obtain⟨c,hc⟩:=I.ok.has x (.inl hk);obtain⟨w',z⟩:=I.cell x c hc;refine wpAny_storeName_cell I.ok.kind hk hc z (λh' hc' hs=> ?_);obtain⟨oc,hoc,hocd⟩:=id z;refine h {s with heap:=h'} ⟨I.ok,I.os,I.bare,⟨λb o e n hb hx=> ?_,λb o e n hb hx=> ?_,I.base.free,λb o e hx=> ?_,I.base.tups,I.base.frzs,I.base.tbls⟩,⟨m,hn.sameBut hs (Ne.symm (cne x c hc)),λj y v' e1 e2 e3=> ?_⟩,λy c' e=> ?_,I.free,I.freeC,λp hp=> ?_,tracked ⟨oc,hoc,I.freeC x c hc⟩ hs,by simpa using I.len⟩ ⟨c,hs,.inr hc⟩
  ·exact(hs.2 b (qo (qh (qd e) (I.ok.cab x c hfn hc)))).trans (I.base.keep b o e n hb hx)
  ·obtain⟨sl,e1⟩:=I.base.slot b o e n hb hx
   exact⟨sl,(hs.2 b (qo (qh (qd e) (I.ok.cab x c hfn hc)))).trans e1⟩
  ·obtain⟨o',e1⟩:=I.base.there b o e hx
   exact⟨o',(hs.2 b (qo (qh (qd e) (I.ok.cab x c hfn hc)))).trans e1⟩
  ·by_cases hj:j=i
   ·subst hj
    rw[hi]at e1;cases e1;rw[qg hiσ]at e2;cases e2;exact⟨u,r,.inr ⟨.inl hk,c,hc,hc'⟩⟩
   ·rw[qe (Ne.symm hj)]at e2
    obtain⟨u',r',q⟩:=hl j y v' e1 e2 e3;refine⟨u',r',?_⟩;rcases q with q|⟨k,c',e,z'⟩
    ·exact .inl q
    ·refine .inr ⟨k,c',e,z'.sameBut hs ?_⟩
     rintro rfl;exact hj (FT hN e1 (I.ok.inj _ _ _ e hc▸hi))
  ·by_cases hcc:c'=c
   ·subst hcc;exact⟨_,hc'⟩
   ·obtain⟨w2,z2⟩:=I.cell y c' e
    exact⟨w2,z2.sameBut hs hcc⟩
  ·obtain⟨e,n,ne,nf,d⟩:=I.pin p hp
   refine⟨(hs.2 p.1 ?_).trans e,n,ne,nf,d⟩;intro q;rw[q,hoc]at e;have q':oc=p.2:=Option.some.inj e;exact d w' (by rw[<-q'];exact hocd)
theorem DU{M:Model}{A:Around}{E:Value->Shared->Prop}{i:Nat}{x:Str}{v:V}{u:Value}{Q:Unit->Shared->Prop}(I:Inv X pins σ H s)(hN:X.N.Nodup)(hi:X.N[i]?=some x)(hx:t_ X.env.scope x)(r:RelV v u)
  (h:∀s',Inv X pins (σ.set i (some v)) H s'->Q () s') (hf:X.fn x=true\/X.env.scope.names.lookup x=some .local:=by first|exact .inl rfl|exact .inr rfl|assumption):wpAny M A (storeName X.env x u) Q E s:=
 JL I hN hi hx r (λs' I' _=>h s' I') hf
theorem Inv.call'(I:Inv X pins σ H s)(ho:s'.os=s.os)(u:Un (cg X.stack) ch H H' s.heap s'.heap)(hok:HOk X.prog X.w H' s'.heap)(hg:AllBare s'.gens)
  (hch:∀b∈ch,(b∈X.ex\/X.s₀.heap.objs.size<=b)/\b≠X.env.locals/\(∀x c,X.env.cells.lookup x=some c->c≠b)/\∀p∈X.pn++pins,p.1≠b):Inv X pins σ H' s':=by
 obtain⟨h',g',d',t',o'⟩:=s';have e:o'=s.os:=ho;subst e;exact I.call (g':=g') (t':=t') (d':=d') u hok hg hch
end
noncomputable abbrev XK:=Value->Option Addr->Hp->Prop
noncomputable abbrev St:=List (Option V)
noncomputable abbrev VK:=V->Hp->Prop
noncomputable abbrev TE:=St->Hp->VK->Prop
noncomputable abbrev TT:=St->Hp->(Bool->Hp->Prop)->Prop
noncomputable abbrev TA:=St->Hp->(List V->Hp->Prop)->Prop
structure Ends where
 nx:St->Hp->Prop
 rt:VK
 bk:St->Hp->Prop:=λ_ _=>False
 ct:St->Hp->Prop:=λ_ _=>False
noncomputable abbrev TS:=Ends->St->Hp->Prop
noncomputable def EP(X:Cx)(pins:List (Addr×Obj))(σ:St)(Q:VK)(u:Value)(s':Shared):Prop:=∃v H',Inv X pins σ H' s'/\RelV v u/\Q v H'
noncomputable def TP(X:Cx)(pins:List (Addr×Obj))(σ:St)(Q:Bool->Hp->Prop)(b:Bool)(s':Shared):Prop:=∃H',Inv X pins σ H' s'/\Q b H'
noncomputable def AP(X:Cx)(pins:List (Addr×Obj))(σ:St)(Q:List V->Hp->Prop)(us:List Value)(s':Shared):Prop:=∃vs H',Inv X pins σ H' s'/\Vals vs us/\Q vs H'
noncomputable def SP(X:Cx)(pins:List (Addr×Obj))(D:Ends)(f:Flow)(s':Shared):Prop:=
 match f with
 | .next=>∃σ' H',Inv X pins σ' H' s'/\D.nx σ' H'
 | .brk=>∃σ' H',Inv X pins σ' H' s'/\D.bk σ' H'
 | .cont=>∃σ' H',Inv X pins σ' H' s'/\D.ct σ' H'
 | .ret u=>∃v σ' H',Inv X pins σ' H' s'/\RelV v u/\D.rt v H'
noncomputable def PE(X:Cx)(e:Expr)(t:TE):Prop:=
 ∀(pins:List (Addr×Obj)) (s:Shared) (σ:St) (H:Hp) (Q:VK),Inv X pins σ H s->t σ H Q->wpAny (model X.prog X.w) X.A (eval e X.env) (EP X pins σ Q) X.xe s
noncomputable def PT(X:Cx)(e:Expr)(t:TT):Prop:=
 ∀(pins:List (Addr×Obj)) (s:Shared) (σ:St) (H:Hp) (Q:Bool->Hp->Prop),Inv X pins σ H s->t σ H Q->wpAny (model X.prog X.w) X.A (isTrue e X.env (eval e X.env)) (TP X pins σ Q) X.xe s
noncomputable def PW(X:Cx)(e:Expr)(t:TT):Prop:=
 ∀(whole:Sem Value) (pins:List (Addr×Obj)) (s:Shared) (σ:St) (H:Hp) (Q:Bool->Hp->Prop),Inv X pins σ H s->t σ H Q->wpAny (model X.prog X.w) X.A (isTrue e X.env whole) (TP X pins σ Q) X.xe s
theorem PW.pt(h:PW X e t):PT X e t:=h _
noncomputable def PA(X:Cx)(es:List Expr)(t:TA):Prop:=
 ∀(pos:Pos) (pins:List (Addr×Obj)) (s:Shared) (σ:St) (H:Hp) (Q:List V->Hp->Prop),Inv X pins σ H s->t σ H Q->wpAny (model X.prog X.w) X.A (spliced (backTo pos (starEach es X.env))) (AP X pins σ Q) X.xe s
noncomputable def PS(X:Cx)(st:Stmt)(t:TS):Prop:=
 ∀(pins:List (Addr×Obj)) (s:Shared) (σ:St) (H:Hp) (D:Ends),Inv X pins σ H s->t D σ H->wpAny (model X.prog X.w) X.A (exec st X.env) (SP X pins D) X.xe s
noncomputable def PSs(X:Cx)(st:List Stmt)(t:TS):Prop:=
 ∀(pins:List (Addr×Obj)) (s:Shared) (σ:St) (H:Hp) (D:Ends),Inv X pins σ H s->t D σ H->wpAny (model X.prog X.w) X.A (execs st X.env) (SP X pins D) X.xe s
theorem bx{α:Type}{t:Sem α}{Q Q':α->Shared->Prop}{E:Value->Shared->Prop}(h:wpAny M A t Q E s)(hQ:∀a s,Q a s->Q' a s):wpAny M A t Q' E s:=wpAny_mono h hQ λ_ _ x=>x
section
variable {X : Cx}
noncomputable def qO(i:Nat):TE:=λσ H Q=>∃v,σ[i]?=some (some v)/\Q v H
noncomputable def tC(v:V):TE:=λ_ H Q=>Q v H
theorem sH{i:Nat}{x:Str}{pos:Pos}(hN:X.N[i]?=some x)(hv:Gi X.env.scope x)(hd:(x==("__debug__":Str))=false:=by decide)(hcd:(x==("__classdict__":Str))=false:=by decide):PE X (.Name x pos) (qO i):=by
 intro pins s σ H Q I h;obtain⟨v,e,h⟩:=h;obtain⟨m,hn,hl⟩:=I.loc;obtain⟨u,r,l⟩:=hl i x v hN e hv;have fin:EP X pins σ Q u s:=⟨v,H,I,r,h⟩;rcases l with⟨hk,hm⟩|⟨hk,c,hc,hcell⟩
 ·exact wpAny_Name (wpAny_loadName_local I.ok.kind hk hn hm fin) hd
 ·rcases hk with hk|hk
  ·exact wpAny_Name (wpAny_loadName_cell I.ok.kind hk hc hcell fin) hd
  ·exact wpAny_Name (wpAny_loadName_free I.ok.kind hk hc hcell fin hcd) hd
theorem aB{i j pos}:PE X (.Constant (.int i) j pos) (tC (.int i)):=λ_ _ _ H _ I h=>wpAny_Constant_int ⟨.int i,H,I.tok _,⟨_,rfl⟩,h⟩
theorem lS{b j pos}:PE X (.Constant (.bool b) j pos) (tC (.bl b)):=λ_ _ _ H _ I h=>Constant_bool ⟨.bl b,H,I,rfl,h⟩
theorem kL{j pos}:PE X (.Constant .none j pos) (tC .non):=λ_ _ _ H _ I h=>Constant_none ⟨.non,H,I,rfl,h⟩
theorem aO{x j pos}:PE X (.Constant (.str x) j pos) (tC (.str x)):=λ_ _ _ H _ I h=>Calls.Constant_str ⟨.str x,H,I.tok _,⟨_,rfl⟩,h⟩
noncomputable def Gl(X:Cx)(x:Str):Prop:=X.env.kindOf x=some .globalImplicit
theorem q_{E:Value->Shared->Prop}{pins:List (Addr×Obj)}{s:Shared}{σ:St}{H:Hp}{x:Str}{u:Value}{pos:Pos}{Q:Value->Shared->Prop}(I:Inv X pins σ H s)(hg:Gl X x)(hm:X.mg x=some u)(h:Q u s)
  (hd:(x==("__debug__":Str))=false:=by decide):wpAny (model X.prog X.w) X.A (eval (.Name x pos) X.env) Q E s:=
 Calls.Name_function_global I.ok.kind hg (Calls.loadGlobal_global (by rw[I.ok.glob];exact I.mod.glob.keeps I.bk) hm h) hd
theorem uN{E:Value->Shared->Prop}{pins:List (Addr×Obj)}{s:Shared}{σ:St}{H:Hp}{x:Str}{u:Value}{pos:Pos}{Q:Value->Shared->Prop}(I:Inv X pins σ H s)(hg:Gl X x)(hm:X.mg x=none)(hv:bootBuiltins x=some u)(h:Q u s)
  (hn:x≠"__name__":=by decide) (hd:(x==("__debug__":Str))=false:=by decide):wpAny (model X.prog X.w) X.A (eval (.Name x pos) X.env) Q E s:=by
 obtain⟨mb,h1,h2⟩:=I.mod.blt;exact Calls.Name_function_global I.ok.kind hg (Calls.loadGlobal_builtin (by rw[I.ok.glob];exact I.mod.glob.keeps I.bk) hm (by rw[I.ok.blt];exact h1.keeps I.bk) ((h2 x hn).trans hv) h) hd
theorem Nx{x:Str}{v:V}{u:Value}{pos:Pos}(hg:Gl X x)(hm:X.mg x=some u)(r:RelV v u)(hd:(x==("__debug__":Str))=false:=by decide):PE X (.Name x pos) (tC v):=
 λ_ _ _ H _ I h=>q_ I hg hm ⟨v,H,I,r,h⟩ hd
theorem Me{x:Str}{v:V}{u:Value}{pos:Pos}(hg:Gl X x)(hm:X.mg x=none)(hv:bootBuiltins x=some u)(r:RelV v u)(hn:x≠"__name__":=by decide)(hd:(x==("__debug__":Str))=false:=by decide):PE X (.Name x pos) (tC v):=
 λ_ _ _ H _ I h=>uN I hg hm hv ⟨v,H,I,r,h⟩ hn hd
variable {a b : Expr} {ta tb : TE} {pos : Pos}
noncomputable def tB(t:TE):TT:=λσ H Q=>t σ H λx H1=>∃c,x=.bl c/\Q c H1
variable {tA tB' : TT} {rest : List Expr}
noncomputable def eS(t u:TT):TT:=λσ H Q=>t σ H λc H1=>if c=true then u σ H1 Q else Q false H1
noncomputable def ug(t u:TT):TT:=λσ H Q=>t σ H λc H1=>if c=true then Q true H1 else u σ H1 Q
noncomputable def cq(t:TT):TT:=λσ H Q=>t σ H λc H1=>Q (!c) H1
theorem C6(ha:PT X a tA):PW X (.BoolOp .And [a] pos) tA:=by
 intro wh pins s σ H Q I h;refine isTrue_and (bx (ha pins s σ H Q I h) λc s1 e=> ?_);cases c with
 | true=>exact isTrue_and_nil e
 | false=>exact e
theorem JG(ha:PT X a tA):PW X (.BoolOp .Or [a] pos) tA:=by
 intro wh pins s σ H Q I h;refine isTrue_or (bx (ha pins s σ H Q I h) λc s1 e=> ?_);cases c with
 | false=>exact isTrue_or_nil e
 | true=>exact e
theorem C5(ha:PT X a tA)(hb:PW X (.BoolOp .And (b::rest) pos) tB'):PW X (.BoolOp .And (a::b::rest) pos) (eS tA tB'):=by
 intro wh pins s σ H Q I h;refine isTrue_and (bx (ha pins s σ H _ I h) λc s1 ⟨H1,I1,q1⟩=> ?_);cases c with
 | true=>exact hb wh pins s1 σ H1 Q I1 q1
 | false=>exact⟨H1,I1,q1⟩
theorem nS(ha:PT X a tA)(hb:PW X (.BoolOp .Or (b::rest) pos) tB'):PW X (.BoolOp .Or (a::b::rest) pos) (ug tA tB'):=by
 intro wh pins s σ H Q I h;refine isTrue_or (bx (ha pins s σ H _ I h) λc s1 ⟨H1,I1,q1⟩=> ?_);cases c with
 | true=>exact⟨H1,I1,q1⟩
 | false=>exact hb wh pins s1 σ H1 Q I1 q1
theorem ip(ha:PT X a tA):PT X (.UnaryOp .Not a pos) (cq tA):=by
 intro pins s σ H Q I h;exact isTrue_not (ha pins s σ H (λc H1=>Q (!c) H1) I h)
noncomputable def oA(ta tb:TE):TE:=λσ H Q=>ta σ H λx H1=>∃c,x=.bl c/\if c=true then tb σ H1 Q else Q (.bl false) H1
noncomputable def xt(ta tb:TE):TE:=λσ H Q=>ta σ H λx H1=>∃c,x=.bl c/\if c=true then Q (.bl true) H1 else tb σ H1 Q
theorem Fb{op}(h:PE X a t):PE X (.BoolOp op [a] pos) t:=λpins s σ H Q I hw=>BoolOp_one (h pins s σ H Q I hw)
theorem Gh(ha:PE X a ta)(hb:PE X (.BoolOp .And (b::rest) pos) tb):PE X (.BoolOp .And (a::b::rest) pos) (oA ta tb):=by
 intro pins s σ H Q I h;refine BoolOp_and (bx (ha pins s σ H _ I h) λv s1 ⟨x,H1,I1,r1,q1⟩=> ?_);obtain⟨c,rfl,q1⟩:=q1;cases r1;refine wpAny_truthy_bool ?_;cases c with
 | true=>exact hb pins s1 σ H1 Q I1 q1
 | false=>exact⟨.bl false,H1,I1,rfl,q1⟩
theorem BW(ha:PE X a ta)(hb:PE X (.BoolOp .Or (b::rest) pos) tb):PE X (.BoolOp .Or (a::b::rest) pos) (xt ta tb):=by
 intro pins s σ H Q I h;refine BoolOp_or (bx (ha pins s σ H _ I h) λv s1 ⟨x,H1,I1,r1,q1⟩=> ?_);obtain⟨c,rfl,q1⟩:=q1;cases r1;refine wpAny_truthy_bool ?_;cases c with
 | false=>exact hb pins s1 σ H1 Q I1 q1
 | true=>exact⟨.bl true,H1,I1,rfl,q1⟩
noncomputable def Jv(t:TT)(ta tb:TE):TE:=λσ H Q=>t σ H λc H1=>if c=true then ta σ H1 Q else tb σ H1 Q
theorem Nl(hc:PT X c tA)(ha:PE X a ta)(hb:PE X b tb):PE X (.IfExp c a b pos) (Jv tA ta tb):=by
 intro pins s σ H Q I h;refine wpAny_IfExp (bx (hc pins s σ H _ I h) λd s1 ⟨H1,I1,q1⟩=> ?_);cases d with
 | true=>exact ha pins s1 σ H1 Q I1 q1
 | false=>exact hb pins s1 σ H1 Q I1 q1
end
noncomputable def SqL(K:W.Frag)(H:Hp)(a:Addr)(xs:List V):Prop:=
 Rd H a (.lst xs)\/
  ∃(o:Obj) (its:Array Value) (n:Nat),K.lookup a=some o/\o.cls=.type "list"/\o.dict=none/\o.data=.seq its n/\its.size<=sizeLine/\Vals xs its.toList
noncomputable def SqT(K:W.Frag)(H:Hp)(a:Addr)(xs:List V):Prop:=
 Rd H a (.tup xs)\/
  ∃(o:Obj) (its:Array Value) (n:Nat),K.lookup a=some o/\o.cls=.type "tuple"/\o.data=.seq its n/\its.size<=sizeLine/\Vals xs its.toList
noncomputable def Gg:Value->Option V
 | .none=>some .non
 | .bool b=>some (.bl b)
 | .int i _=>some (.int i)
 | .str x _=>some (.str x)
 | .bytes b _=>some (.byt b)
 | .float b _=>some (.flt b)
 | .ref a=>some (.ref a)
 | .type n=>some (.ty n)
 | _=>none
theorem RelV.abs(r:RelV x u):Gg u=some x:=by
 cases x with
 | non=>cases r;rfl
 | bl _=>cases r;rfl
 | int _=>obtain⟨t,rfl⟩:=r;rfl
 | str _=>obtain⟨t,rfl⟩:=r;rfl
 | byt _=>obtain⟨t,rfl⟩:=r;rfl
 | flt _=>obtain⟨t,rfl⟩:=r;rfl
 | ref _=>cases r;rfl
 | ty _=>cases r;rfl
theorem RelV.inj(r:RelV x u)(q:RelV y u):x=y:=Option.some.inj (r.abs.symm.trans q.abs)
theorem Vals.inj:∀{xs ys:List V} {us:List Value},Vals xs us->Vals ys us->xs=ys
 | _,_,_,.nil,.nil=>rfl
 | _,_,_,.cons r t,.cons r' t'=>by rw[r.inj r',Vals.inj t t']
section
variable {X : Cx} {pins : List (Addr × Obj)} {σ : St} {H : Hp} {s : Shared} {a : Addr} {xs ys : List V}
theorem SqL.of{K:W.Frag}(h:H a=some (.lst xs)):SqL K H a xs:=.inl (.inl h)
theorem SqT.of{K:W.Frag}(h:H a=some (.tup xs)):SqT K H a xs:=.inl (.inl h)
theorem Inv.list(I:Inv X pins σ H s)(h:SqL X.K H a xs):∃its:List Value,Vals xs its/\PlainL s.heap a its.toArray/\xs.length<=sizeLine:=by
 rcases h with h|⟨o,its,n,hk,hc,hd,hs,hz,r⟩
 ·obtain⟨z,its,n,r,e⟩:=h.ok I.hok
  exact⟨its,r,⟨_,n,e,rfl,rfl,rfl⟩,z⟩
 ·refine⟨its.toList,r,⟨o,n,I.kIn a o hk,hc,hd,by simpa using hs⟩,?_⟩
  have e:=r.length;simp only[kz]at e;omega
theorem Inv.tuple(I:Inv X pins σ H s)(h:SqT X.K H a xs):∃its:List Value,Vals xs its/\IsTup s.heap a its.toArray/\xs.length<=sizeLine:=by
 rcases h with h|⟨o,its,n,hk,hc,hs,hz,r⟩
 ·obtain⟨z,its,r,p⟩:=h.ok I.hok
  exact⟨its,r,p,z⟩
 ·refine⟨its.toList,r,⟨o,I.kIn a o hk,hc,n,by simpa using hs⟩,?_⟩
  have e:=r.length;simp only[kz]at e;omega
theorem Inv.list_inj(I:Inv X pins σ H s)(h:SqL X.K H a xs)(h':SqL X.K H a ys):xs=ys:=by
 obtain⟨its,r,⟨o,n,e,_,_,d⟩,_⟩:=I.list h;obtain⟨its',r',⟨o',n',e',_,_,d'⟩,_⟩:=I.list h';rw[e]at e';cases e';rw[d]at d';injection d' with d1 _;have:its=its':=by simpa using congrArg Array.toList d1
 subst this;exact r.inj r'
theorem Inv.tuple_inj(I:Inv X pins σ H s)(h:SqT X.K H a xs)(h':SqT X.K H a ys):xs=ys:=by
 obtain⟨its,r,⟨o,e,_,n,d⟩,_⟩:=I.tuple h;obtain⟨its',r',⟨o',e',_,n',d'⟩,_⟩:=I.tuple h';rw[e]at e';cases e';rw[d]at d';injection d' with d1 _;have:its=its':=by simpa using congrArg Array.toList d1
 subst this;exact r.inj r'
end
noncomputable abbrev Cx.wish(X:Cx)(E:Value->Shared->Prop):Cx:={X with xe:=E}
noncomputable abbrev Cx.nox(X:Cx):Cx:=X.wish λ_ _=>False
theorem Cx.Ok.wish{X:Cx}(ok:X.Ok)(E:Value->Shared->Prop):(X.wish E).Ok:=
 ⟨ok.mod,ok.kind,ok.glob,ok.blt,ok.above,ok.inj,ok.has,ok.cab,ok.hd,ok.frames,ok.stk,ok.exf,ok.bs,ok.bsz,ok.noex,ok.exfs,ok.funs,ok.frf⟩
theorem Cx.Ok.unwish{X:Cx}{E:Value->Shared->Prop}(ok:(X.wish E).Ok):X.Ok:=
 ⟨ok.mod,ok.kind,ok.glob,ok.blt,ok.above,ok.inj,ok.has,ok.cab,ok.hd,ok.frames,ok.stk,ok.exf,ok.bs,ok.bsz,ok.noex,ok.exfs,ok.funs,ok.frf⟩
section
variable {X : Cx} {pins : List (Addr × Obj)} {σ : St} {H : Hp} {s : Shared} {E : Value -> Shared -> Prop}
theorem Inv.wish(I:Inv X pins σ H s)(E:Value->Shared->Prop):Inv (X.wish E) pins σ H s:=⟨I.ok.wish E,I.os,I.bare,I.base,I.loc,I.cell,I.free,I.freeC,I.pin,I.hok,I.len⟩
theorem Inv.unwish(I:Inv (X.wish E) pins σ H s):Inv X pins σ H s:=⟨I.ok.unwish,I.os,I.bare,I.base,I.loc,I.cell,I.free,I.freeC,I.pin,I.hok,I.len⟩
end
section
variable {X : Cx} {st : Stmt} {rest : List Stmt} {t u : TS} {e : Expr} {te : TE} {pos : Pos}
noncomputable def DP:TS:=λD σ H=>D.nx σ H
noncomputable def xZ(t u:TS):TS:=λD σ H=>t {D with nx:=u D} σ H
theorem bM:PSs X [] DP:=λ_ _ σ H _ I h=>wpAny_execs_nil ⟨σ,H,I,h⟩
theorem aD(h1:PS X st t)(h2:PSs X rest u):PSs X (st::rest) (xZ t u):=by
 intro pins s σ H D I h;refine wpAny_execs_cons (bx (h1 pins s σ H {D with nx:=u D} I h) λf s1 q=> ?_);cases f with
 | next=>
  obtain⟨σ',H',I',q⟩:=q;exact h2 pins s1 σ' H' D I' q
 | ret v=>exact q
 | brk=>exact q
 | cont=>exact q
theorem aC(h1:PS X st t):PSs X [st] t:=by
 intro pins s σ H D I h;refine wpAny_execs_cons (bx (h1 pins s σ H D I h) λf s1 q=> ?_);cases f with
 | next=>exact wpAny_execs_nil q
 | ret v=>exact q
 | brk=>exact q
 | cont=>exact q
theorem Inv.quiet{σ:St}(I:Inv X pins σ H s):interactive X.env=false:=by simp[interactive,I.ok.kind]
noncomputable def Fl(te:TE):TS:=λD σ H=>te σ H λ_ H1=>D.nx σ H1
theorem jd(he:PE X e te)(hs:swapsWith e none pos.line X.env=pure false:=by rfl):PS X (.Expr e pos) (Fl te):=by
 intro pins s σ H D I h;exact wpAny_Expr_any (bx (he pins s σ H _ I h) λv s1 ⟨x,H1,I1,r1,q1⟩=>⟨σ,H1,I1,q1⟩) I.quiet hs
noncomputable def BR(te:TE):TS:=λD σ H=>te σ H D.rt
theorem aZ(he:PE X e te):PS X (.Return (some e) pos) (BR te):=by
 intro pins s σ H D I h;exact wpAny_Return_some (bx (he pins s σ H _ I h) λv s1 ⟨x,H1,I1,r1,q1⟩=>⟨x,σ,H1,I1,r1,q1⟩)
noncomputable def Cy(c:TT)(t u:TS):TS:=λD σ H=>c σ H λb H1=>if b=true then t D σ H1 else u D σ H1
theorem bH(hc:PT X c tc)(ha:PSs X a t)(hb:PSs X b u):PS X (.If c a b pos) (Cy tc t u):=by
 intro pins s σ H D I h;refine wpAny_If (bx (hc pins s σ H _ I h) λd s1 ⟨H1,I1,q1⟩=> ?_);cases d with
 | true=>exact ha pins s1 σ H1 D I1 q1
 | false=>exact hb pins s1 σ H1 D I1 q1
end
noncomputable abbrev TG:=V->St->Hp->(St->Hp->Prop)->Prop
noncomputable abbrev jZ:=List V->St->Hp->(St->Hp->Prop)->Prop
noncomputable def PG(X:Cx)(target:Expr)(t:TG):Prop:=
 ∀(pins:List (Addr×Obj)) (s:Shared) (σ:St) (H:Hp) (v:V) (u:Value) (Q:St->Hp->Prop),Inv X pins σ H s->RelV v u->t v σ H Q->
  wpAny (model X.prog X.w) X.A (assign target X.env u) (λ_ s'=>∃σ' H',Inv X pins σ' H' s'/\Q σ' H') X.xe s
noncomputable def vV(X:Cx)(ts:List Expr)(t:jZ):Prop:=
 ∀(pins:List (Addr×Obj)) (s:Shared) (σ:St) (H:Hp) (vs:List V) (us:List Value) (Q:St->Hp->Prop),Inv X pins σ H s->Vals vs us->t vs σ H Q->
  wpAny (model X.prog X.w) X.A (assignInOrder ((assignEach ts X.env).map (·.2)) us) (λ_ s'=>∃σ' H',Inv X pins σ' H' s'/\Q σ' H') X.xe s
section
variable {X : Cx} {pos : Pos}
noncomputable def ay(i:Nat):TG:=λv σ H Q=>Q (σ.set i (some v)) H
theorem cP{i:Nat}{x:Str}(hN:X.N.Nodup)(hi:X.N[i]?=some x)(hx:t_ X.env.scope x)(hf:X.fn x=true\/X.env.scope.names.lookup x=some .local:=by first|exact .inl rfl|exact .inr rfl|assumption):PG X (.Name x pos) (ay i):=by
 intro pins s σ H v u Q I r h;exact wpAny_assign_Name (DU I hN hi hx r (λs' I'=>⟨_,H,I',h⟩) hf)
noncomputable def pB:jZ:=λvs σ H Q=>vs=[]/\Q σ H
noncomputable def Hm(t:TG)(u:jZ):jZ:=λvs σ H Q=>∃v r,vs=v::r/\t v σ H λσ' H'=>u r σ' H' Q
theorem GD:vV X [] pB:=by
 intro pins s σ H vs us Q I r h;obtain⟨e,h⟩:=h;subst e;cases r;exact assignInOrder_nil ⟨σ,H,I,h⟩
theorem uO{e:Expr}{es:List Expr}{t:TG}{u:jZ}(h1:PG X e t)(h2:vV X es u)
  (hs:(assignEach (e::es) X.env).map (·.2)=assign e X.env::(assignEach es X.env).map (·.2):=by rfl):vV X (e::es) (Hm t u):=by
 intro pins s σ H vs us Q I r h;obtain⟨v,vr,e1,h⟩:=h;subst e1;cases r with
 | cons r rr=>
  rw[hs];refine assignInOrder_cons (bx (h1 pins s σ H _ _ _ I r h) λ_ s1 ⟨σ1,H1,I1,q1⟩=> ?_);exact h2 pins s1 σ1 H1 _ _ Q I1 rr q1
noncomputable def dO(K:W.Frag)(n:Nat)(t:jZ):TG:=λv σ H Q=>∃a xs,v=.ref a/\SqT K H a xs/\xs.length=n/\t xs σ H Q
theorem qD{es:List Expr}{k:Nat}{t:jZ}{n:Nat}(hc:X.calm=true)(h:vV X es t)
  (hn:(assignEach es X.env).length=n:=by rfl) (hst:(assignEach es X.env).findIdx? (·.1)=none:=by rfl):PG X (.Tuple es k pos) (dO X.K n t):=by
 intro pins s σ H v u Q I r hw;obtain⟨a,xs,e1,hq,hl,hw⟩:=hw;subst e1;cases r;obtain⟨its,rv,ht,hz⟩:=I.tuple hq;refine assign_Tuple_tuple (I.ok.hd hc) ht (by simp[hn,<-hl,rv.length]) hst λh' hx=> ?_;have I1:Inv X pins σ H {s with heap:=h'}:=I.kept (t':=s.toks) λb o e=>hx b o (qo (qd e)) e;exact h pins _ σ H xs _ Q I1 (by simpa using rv) hw
noncomputable def yV(te:TE)(g:TG):TS:=λD σ H=>te σ H λx H1=>g x σ H1 D.nx
theorem bX{i:Nat}{x:Str}{e:Expr}{te:TE}{pos':Pos}(hN:X.N.Nodup)(hi:X.N[i]?=some x)(hx:t_ X.env.scope x)(he:PE X e te)(hs:swapsWith e (some (.Name x pos')) pos.line X.env=pure false:=by rfl)(hf:X.fn x=true\/X.env.scope.names.lookup x=some .local:=by first|exact .inl rfl|exact .inr rfl|assumption):
  PS X (.Assign [.Name x pos'] e pos) (yV te (ay i)):=by
 intro pins s σ H D I h;refine wpAny_Assign_Name (bx (he pins s σ H _ I h) λv s1 ⟨y,H1,I1,r1,q1⟩=> ?_) hs;exact DU I1 hN hi hx r1 (λs2 I2=>⟨_,H1,I2,q1⟩) hf
end
section
variable {X : Cx} {pos : Pos}
noncomputable def Jm(c:TT)(tb:TS):TS:=λD σ H=>∃W:Nat->St->Hp->Prop,(∃m,W m σ H)/\∀m σ H,W m σ H->
 c σ H λb H1=>if b=true then ∃N:St->Hp->Prop,(∀σ' H',N σ' H'->∃m',m'<m/\W m' σ' H')/\tb {D with nx:=N,ct:=N,bk:=D.nx} σ H1 else D.nx σ H1
theorem OH(hp:PassesOwn (model X.prog X.w) X.A X.env X.xe)(hc:PT X c tc)(hb:PSs X body tb):PS X (.While c body [] pos) (Jm tc tb):=by
 intro pins s σ H D I h;obtain⟨W,⟨m0,w0⟩,turn⟩:=h;refine wpAny_While (codeAny_whileLoop (λn s'=>∃σ' H',Inv X pins σ' H' s'/\W n σ' H') ?_ m0 ⟨σ,H,I,w0⟩);rintro n s1 ⟨σ1,H1,I1,w1⟩;refine wpAny_passesOwn hp (bx (hc pins s1 σ1 H1 _ I1 (turn n σ1 H1 w1)) λb s2 ⟨H2,I2,q2⟩=> ?_);cases b with
 | true=>
  obtain⟨N,hN,q2⟩:=q2;rw[if_pos rfl];refine wpAny_passesOwn hp (bx (hb pins s2 σ1 H2 _ I2 q2) λf s3 q3=> ?_);cases f with
  | next=>
   obtain⟨σ3,H3,I3,n3⟩:=q3;obtain⟨m',hm,w3⟩:=hN σ3 H3 n3;exact⟨m',hm,σ3,H3,I3,w3⟩
  | cont=>
   obtain⟨σ3,H3,I3,n3⟩:=q3;obtain⟨m',hm,w3⟩:=hN σ3 H3 n3;exact⟨m',hm,σ3,H3,I3,w3⟩
  | brk=>exact q3
  | ret v=>exact q3
 | false=>
  rw[if_neg qq];exact wpAny_execs_nil ⟨σ1,H2,I2,q2⟩
end
structure It where
 go:Nat->Hp->Prop
 yld:Nat->Hp->V->Hp->Prop
 stop:Nat->Hp->Prop
noncomputable def dU(X:Cx)(pins:List (Addr×Obj))(H:Hp)(b:Addr):Prop:=
 H b=none/\b≠X.env.locals/\b∉X.fs/\(b∈X.ex\/X.s₀.heap.objs.size<=b)/\(∀x c,X.env.cells.lookup x=some c->c≠b)/\∀p∈X.pn++pins,p.1≠b
theorem Inv.fpOk{σ:St}{b:Addr}(I:Inv X pins σ H s)(hb:s.heap.objs.size<=b)(hn:H' b=none):dU X pins H' b:=by
 refine⟨hn,k6 (qh I.lt hb),I.nofs hb,.inr (zd I.sz hb),λx c e z=> ?_,λp hp z=> ?_⟩
 ·obtain⟨v,q⟩:=I.cell x c e
  exact absurd (qh q.lt (by rw[z];exact hb)) (wj _)
 ·exact absurd (qh (qd (I.pin p hp).1) (by rw[z];exact hb)) (wj _)
structure Turn (P:Program) (w:World) (K:W.Frag) (tg:Expr) (J:It) (fp:List Addr) (it:Addr) (tn:Nat->Heap->Prop):Prop where
 mem:it∈fp
 obj:∀i h,tn i h->∀b∈fp,∃o,h.get? b=some o/\∀v,o.data≠ .cell v
 keep:∀i h h',tn i h->(∀b∈fp,∀o,h.get? b=some o->h'.get? b=some o)->tn i h'
 item:∀(X:Cx),X.prog=P->X.w=w->X.K=K->X.calm=true->∀(i:Nat) (pins:List (Addr×Obj)) (s:Shared) (σ:St) (H:Hp) (E:Value->Shared->Prop),Inv X pins σ H s->(∀b∈fp,dU X pins H b)->tn i s.heap->J.go i H->
  wpAny (model P w) X.A (pyNext (.ref it)) (λr s1=>∃u,r=some u/\
   wpAny (model P w) X.A (letOwnedTupleGo tg (.ref it) u) (λ_ s2=>∃x H',Inv X pins σ H' s2/\RelV x u/\J.yld i H x H'/\tn (i+1) s2.heap/\∀b∈fp,H' b=none) E s1) E s
 done:∀(X:Cx),X.prog=P->X.w=w->X.K=K->X.calm=true->∀(i:Nat) (pins:List (Addr×Obj)) (s:Shared) (σ:St) (H:Hp) (E:Value->Shared->Prop),Inv X pins σ H s->(∀b∈fp,dU X pins H b)->tn i s.heap->J.stop i H->
  wpAny (model P w) X.A (pyNext (.ref it)) (λr s1=>r=none/\Inv X pins σ H s1) E s
 self:∀(A:Around) (i:Nat) (s:Shared) (Q:Value->Shared->Prop) (E:Value->Shared->Prop),tn i s.heap->Q (.ref it) s->wpAny (model P w) A (pyIter (.ref it)) Q E s
noncomputable abbrev TI:=St->Hp->(It->Hp->Prop)->Prop
noncomputable def ER(X:Cx)(pins:List (Addr×Obj))(σ:St)(tg:Expr)(R:It->Hp->Prop)(itv:Value)(s2:Shared):Prop:=
 ∃(it:Addr) (fp:List Addr) (tn:Nat->Heap->Prop) (J:It) (H':Hp),itv=.ref it/\Inv X pins σ H' s2/\Turn X.prog X.w X.K tg J fp it tn/\tn 0 s2.heap/\(∀b∈fp,dU X pins H' b)/\R J H'
noncomputable def PI(X:Cx)(tg iter:Expr)(wi:TI):Prop:=
 ∀(pins:List (Addr×Obj)) (s:Shared) (σ:St) (H:Hp) (R:It->Hp->Prop),Inv X pins σ H s->wi σ H R->
  wpAny (model X.prog X.w) X.A (eval iter X.env) (λv s1=>wpAny (model X.prog X.w) X.A (pyIter v) (ER X pins σ tg R) X.xe s1) X.xe s
theorem uf{E:Value->Shared->Prop}{Q:Unit->Shared->Prop}(ho:s.heap.get? it=some o)(hc:o.cls=.type n)(hd:o.data=.fields vs)
    (hn:["enumerate","zip","dict_itemiterator","dict_reverseitemiterator","odict_iterator","itertools.zip_longest","itertools.pairwise"].contains n=false) (hQ:Q () s):wpAny M A (letOwnedTupleGo tg (.ref it) u) Q E s:=by
  unfold letOwnedTupleGo;cases tg<;>first
    | exact wpAny_pure hQ
    | (cases u<;>first
        | exact wpAny_pure hQ
        | (refine wpAny_bind (wpAny_load ho ?_)
           rw[hc,hd];show wpAny M A (if(["enumerate","zip","dict_itemiterator","dict_reverseitemiterator","odict_iterator","itertools.zip_longest","itertools.pairwise"].contains n&&vs[0]?==some (rawInt _))=true then _ else _) Q E s;rw[if_neg (by intro h;rw[hn,Bool.false_and]at h;cases h)];exact wpAny_pure hQ))
noncomputable def EU(K:W.Frag)(a:Addr):It:=
 ⟨λi H=>∃xs x,SqL K H a xs/\xs[i]?=some x,λi H x H'=>H'=H/\∀xs,SqL K H a xs->xs[i]?=some x,λi H=>∃xs,SqL K H a xs/\xs.length<=i⟩
noncomputable def Ff(K:W.Frag)(a:Addr):It:=
 ⟨λi H=>∃xs x,SqT K H a xs/\xs[i]?=some x,λi H x H'=>H'=H/\∀xs,SqT K H a xs->xs[i]?=some x,λi H=>∃xs,SqT K H a xs/\xs.length<=i⟩
noncomputable def Dl(lo:Int)(n:Nat):It:=⟨λi _=>i<n,λi H x H'=>H'=H/\x=.int (lo+i),λi _=>n<=i⟩
theorem OF{K:W.Frag}(a it:Addr):Turn P w K tg (EU K a) [it] it (λi h=>h.IsListIter it a i)where
 mem:=by simp
 obj:=λi h st b hb=>by
  have e:b=it:=by simpa using hb
  subst e;obtain⟨o,e,c,d⟩:=st;exact⟨o,e,λv z=>by rw[d]at z;cases z⟩
 keep:=λi h h' st k=>st.at λo e=>k it (by simp) o e
 item:=by
  intro X hP hw hK hc i pins s σ H E I hf st hg;subst hP hw hK;obtain⟨xs,x,hq,hx⟩:=hg;obtain⟨its,rv,p,hz⟩:=I.list hq;obtain⟨u,hu,ru⟩:=rv.get hx;obtain⟨f0,f1,f2,f3,f4,f5⟩:=hf it (by simp);refine wpAny_pyNext_list_item st p.isList (x:=u) (by simpa using hu) λh' st' sb=> ?_;have I1:Inv X pins σ H {s with heap:=h'}:=I.turned (t':=s.toks) (λb o hb e=>(sb.2 b hb).trans e) f0 f1 f3 f4 f5;obtain⟨o,e,c,d⟩:=id st';exact⟨u,rfl,uf (s:={s with heap:=h'}) e c d (by decide) ⟨x,H,I1,ru,⟨rfl,λys hy=>by rw[I.list_inj hy hq];exact hx⟩,st',λb hb=>(hf b hb).1⟩⟩
 done:=by
  intro X hP hw hK hc i pins s σ H E I hf st hg;subst hP hw hK;obtain⟨xs,hq,hx⟩:=hg;obtain⟨its,rv,p,hz⟩:=I.list hq;obtain⟨f0,f1,f2,f3,f4,f5⟩:=hf it (by simp);have hl:=rv.length;exact wpAny_pyNext_list_end (I.ok.hd hc) st p.isList (by simp;omega) λh' eb=>⟨rfl,I.turned (t':=s.toks) (λb o hb e=>eb b o hb e) f0 f1 f3 f4 f5⟩
 self:=λ_ _ _ _ _ st h=>wpAny_pyIter_listiter st h
theorem LW{K:W.Frag}(a it:Addr):Turn P w K tg (Ff K a) [it] it (λi h=>h.IsTupleIter it a i)where
 mem:=by simp
 obj:=λi h st b hb=>by
  have e:b=it:=by simpa using hb
  subst e;obtain⟨o,e,c,d⟩:=st;exact⟨o,e,λv z=>by rw[d]at z;cases z⟩
 keep:=λi h h' st k=>st.at λo e=>k it (by simp) o e
 item:=by
  intro X hP hw hK hc i pins s σ H E I hf st hg;subst hP hw hK;obtain⟨xs,x,hq,hx⟩:=hg;obtain⟨its,rv,p,hz⟩:=I.tuple hq;obtain⟨u,hu,ru⟩:=rv.get hx;obtain⟨f0,f1,f2,f3,f4,f5⟩:=hf it (by simp);refine wpAny_pyNext_tuple_item st (show s.heap.IsTuple a its.toArray from p) (x:=u) (by simpa using hu) λh' st' sb=> ?_;have I1:Inv X pins σ H {s with heap:=h'}:=I.turned (t':=s.toks) (λb o hb e=>(sb.2 b hb).trans e) f0 f1 f3 f4 f5;obtain⟨o,e,c,d⟩:=id st';exact⟨u,rfl,uf (s:={s with heap:=h'}) e c d (by decide) ⟨x,H,I1,ru,⟨rfl,λys hy=>by rw[I.tuple_inj hy hq];exact hx⟩,st',λb hb=>(hf b hb).1⟩⟩
 done:=by
  intro X hP hw hK hc i pins s σ H E I hf st hg;subst hP hw hK;obtain⟨xs,hq,hx⟩:=hg;obtain⟨its,rv,p,hz⟩:=I.tuple hq;obtain⟨f0,f1,f2,f3,f4,f5⟩:=hf it (by simp);have hl:=rv.length;exact wpAny_pyNext_tuple_end (I.ok.hd hc) st (show s.heap.IsTuple a its.toArray from p) (by simp;omega) λh' eb=>⟨rfl,I.turned (t':=s.toks) (λb o hb e=>eb b o hb e) f0 f1 f3 f4 f5⟩
 self:=λ_ _ _ _ _ st h=>wpAny_pyIter_tupleiter st h
theorem PR{K:PySem.W.Frag}(it:Addr)(lo:Int)(n:Nat):Turn P w K tg (Dl lo n) [it] it (λi h=>IsRangeIter h it (lo+(i:Nat)*1) ((n:Int) - (i:Nat)) 1)where
 mem:=by simp
 obj:=λi h st b hb=>by
  have e:b=it:=by simpa using hb
  subst e;exact⟨_,st,λv z=>by
   have z':Data.fields _=Data.cell v:=z;cases z'⟩
 keep:=λi h h' st k=>k it (by simp) _ st
 item:=by
  intro X hP hw hK hc i pins s σ H E I hf st hg;subst hP hw hK;obtain⟨f0,f1,f2,f3,f4,f5⟩:=hf it (by simp);have W:=Walks.range (prog:=X.prog) (w:=X.w) (I.ok.hd hc) it lo 1 n;refine W.item i s _ _ hg st λv h' tk hv st' kk=> ?_;obtain⟨t,rfl⟩:=hv;have I1:Inv X pins σ H {s with heap:=h',toks:=tk}:=I.turned (λb o hb e=>kk b o (by simpa using hb) e) f0 f1 f3 f4 f5;refine⟨_,rfl,uf (s:={s with heap:=h',toks:=tk}) (n:="range_iterator") st' rfl rfl (by decide) ⟨.int (lo+i),H,I1,⟨t,?_⟩,⟨rfl,rfl⟩,st',λb hb=>(hf b hb).1⟩⟩;rw[Int.mul_one]
 done:=by
  intro X hP hw hK hc i pins s σ H E I hf st hg;subst hP hw hK;obtain⟨f0,f1,f2,f3,f4,f5⟩:=hf it (by simp);exact wpAny_pyNext_range_end (I.ok.hd hc) st (by have:n<=i:=hg;omega) λh' eb=>⟨rfl,I.turned (t':=s.toks) (λb o hb e=>eb b o hb e) f0 f1 f3 f4 f5⟩
 self:=λ_ _ _ _ _ st h=>wpAny_pyIter_rangeiter st h
section
variable {X : Cx} {tg : Expr}
theorem P1{σ:St}{R:It->Hp->Prop}{E:Value->Shared->Prop}{lo hi:Int}(I:Inv X pins σ H s)(h1: -(2^62)<=lo)(h2:lo<2^62)(h3: -(2^62)<=hi)(h4:hi<2^62)
  (q:R (Dl lo (hi - lo).toNat) H):wpAny (model X.prog X.w) X.A (pyIter (.ref s.heap.objs.size)) (ER X pins σ tg R) E {s with heap:=s.heap.push {cls:=.type "range",data:=.fields #[.int lo t,.int hi u,.int 1 v]},toks:=tk}:=by
 refine wpAny_pyIter_range (IsRange.new ..) (small_one h1 h2 h3 h4) ?_;have I1:Inv X pins σ H {s with heap:=s.heap.push {cls:=.type "range",data:=.fields #[.int lo t,.int hi u,.int 1 v]},toks:=tk}:=I.kept λb o e=>qa _ e;refine⟨(s.heap.push {cls:=.type "range",data:=.fields #[.int lo t,.int hi u,.int 1 v]}).objs.size,[(s.heap.push {cls:=.type "range",data:=.fields #[.int lo t,.int hi u,.int 1 v]}).objs.size],_,_,H,rfl,
  I1.kept (t':=tk) λb o e=>qa _ e,PR _ lo (hi - lo).toNat,?_,λb hb=> ?_,q⟩
 ·have e1:lo+((0:Nat):Int)*1=lo:=by simp
  have e2:(((hi - lo).toNat:Nat):Int) - ((0:Nat):Int)=Builtin.Range.rangeSize lo hi 1:=by rw[rangeSize_one];split<;>omega
  show IsRangeIter _ _ (lo+((0:Nat):Int)*1) ((((hi - lo).toNat:Nat):Int) - ((0:Nat):Int)) 1;rw[e1,e2];exact qw _ rfl
 ·have e:b=(s.heap.push {cls:=.type "range",data:=.fields #[.int lo t,.int hi u,.int 1 v]}).objs.size:=by simpa using hb
  subst e;exact I1.fpOk (qb _) (I1.hok.fresh (qb _))
noncomputable def nW(ta:TA):TI:=λσ H R=>ta σ H λvs H1=>∃j:Int,vs=[.int j]/\ -(2^62)<=j/\j<2^62/\R (Dl 0 j.toNat) H1
theorem ox{a:Expr}{ta:TA}{p pos:Pos}(hg:Gl X "range")(hm:X.mg "range"=none)(ha:PA X [a] ta)(hs:starEach [a] X.env=[(false,eval a X.env)]:=by rfl):PI X tg (.Call (.Name "range" p) [a] [] pos) (nW ta):=by
 intro pins s σ H R I h;refine Call_ (uN I hg hm boot_range (PyProof.Rows.callWith_type1 (bx (ha pos pins s σ H _ I h) λus s1 ⟨vs,H1,I1,r1,q1⟩=> ?_) hs rfl));obtain⟨j,e,q1,q2,q⟩:=q1;subst e;cases r1 with
 | cons r rr=>
  cases rr
  obtain⟨t,rfl⟩:=r;exact call_range_1 (P1 I1 (by omega) (by omega) q1 q2 (by simpa using q))
noncomputable def pW(wi:TI)(g:TG)(tb:TS):TS:=λD σ H=>wi σ H λJ H1=>∃W:Nat->Nat->St->Hp->Prop,(∃m,W 0 m σ H1)/\∀i m σ H,W i m σ H->
 (J.stop i H/\D.nx σ H)\/(J.go i H/\∃N:St->Hp->Prop,(∀σ' H',N σ' H'->∃m',m'<m/\W (i+1) m' σ' H')/\∀x H',J.yld i H x H'->g x σ H' λσ2 H2=>tb {D with nx:=N,ct:=N,bk:=D.nx} σ2 H2)
noncomputable def yt(fp:List Addr)(h:Heap):List (Addr×Obj):=fp.filterMap λb=>(h.get? b).map λo=>(b,o)
theorem CM(hb:b∈fp)(e:h.get? b=some o):(b,o)∈yt fp h:=g8.mpr ⟨b,hb,by rw[e];rfl⟩
theorem NU(hp:p∈yt fp h):p.1∈fp/\h.get? p.1=some p.2:=by
 obtain⟨b,hb,e⟩:=g8.mp hp;cases q:h.get? b with
 | none=>rw[q]at e;cases e
 | some o=>
  rw[q]at e;have e':(b,o)=p:=Option.some.inj e;subst e';exact⟨hb,q⟩
theorem Inv.pinned{σ:St}(I:Inv X pins σ H s)(hf:∀b∈fp,dU X pins H b)(ho:∀b∈fp,∃o,s.heap.get? b=some o/\∀v,o.data≠ .cell v):Inv X (pins++yt fp s.heap) σ H s:=
 I.pins_of λp hp=>(zi.mp hp).elim (λz=>I.pin p (zg _ z)) λz=>by
  obtain⟨hb,e⟩:=NU z;obtain⟨f0,f1,f2,_⟩:=hf p.1 hb;obtain⟨o,e',d⟩:=ho p.1 hb;rw[e]at e';cases e';exact⟨e,f0,f1,f2,d⟩
theorem Inv.unpinned{σ:St}(I:Inv X (pins++pl) σ H s):Inv X pins σ H s:=I.pins_of λp hp=>I.pin p (zg _ (wx _ hp))
theorem mI{iter:Expr}{body:List Stmt}{wi:TI}{g:TG}{tb:TS}{pos:Pos}(hp:PassesOwn (model X.prog X.w) X.A X.env X.xe)(hc:X.calm=true)(hi:PI X tg iter wi)(hg:PG X tg g)(hb:PSs X body tb)
  (hs:∀x,foldedSetIterable iter X.env x=pure x:=by intro _;rfl):PS X (.For tg iter body [] pos) (pW wi g tb):=by
 intro pins s σ H D I h;refine wpAny_For (bx (hi pins s σ H _ I h) λv s1 h1=>bx h1 λitv s2 h2=> ?_) hs;obtain⟨it,fp,tn,J,H2,e,I2,T,st2,f2,W,⟨m0,w0⟩,turn⟩:=h2;subst e;have stat:∀{H':Hp},(∀b∈fp,H' b=none)->∀b∈fp,dU X pins H' b:=λhn b hb=>⟨hn b hb,(f2 b hb).2⟩;refine codeAny_forLoop_any (λn s'=>∃i σ' H',Inv X pins σ' H' s'/\tn i s'.heap/\(∀b∈fp,H' b=none)/\W i n σ' H') ?_ m0 ⟨0,σ,H2,I2,st2,λb hb=>(f2 b hb).1,w0⟩;rintro n s3 ⟨i,σ3,H3,I3,st3,fr3,w3⟩;rcases turn i n σ3 H3 w3 with⟨stop,qn⟩|⟨go,N,hN,step⟩
 ·refine wpAny_passesOwn hp (bx (T.done X rfl rfl rfl hc i pins s3 σ3 H3 X.xe I3 (stat fr3) st3 stop) λr s4 ⟨hr,I4⟩=> ?_)
  subst hr;exact wpAny_execs_nil ⟨σ3,H3,I4,qn⟩
 ·refine wpAny_passesOwn hp (bx (T.item X rfl rfl rfl hc i pins s3 σ3 H3 X.xe I3 (stat fr3) st3 go) λr s4 ⟨u,hr,h4⟩=> ?_)
  subst hr;refine wpAny_passesOwn hp (bx h4 λ_ s5 ⟨x,H5,I5,r5,y5,st5,fr5⟩=> ?_);have I5':=I5.pinned (stat fr5) (T.obj _ _ st5);refine wpAny_passesOwn hp (bx (hg _ s5 σ3 H5 x u _ I5' r5 (step x H5 y5)) λ_ s6 ⟨σ6,H6,I6,q6⟩=> ?_);refine wpAny_passesOwn hp (bx (hb _ s6 σ6 H6 _ I6 q6) λf s7 q7=> ?_);have again:∀{σ7:St} {H7:Hp},Inv X (pins++yt fp s5.heap) σ7 H7 s7->N σ7 H7->∃m,m<n/\∃i σ' H',Inv X pins σ' H' s7/\tn i s7.heap/\(∀b∈fp,H' b=none)/\W i m σ' H':=fun{σ7 H7} I7 n7=>by
   obtain⟨m',hm,w7⟩:=hN σ7 H7 n7;refine⟨m',hm,i+1,σ7,H7,I7.unpinned,T.keep _ _ _ st5 λb hb o e=>(I7.pin (b,o) (zg _ (zg _ (CM hb e)))).1,λb hb=> ?_,w7⟩;obtain⟨o,e,d⟩:=T.obj _ _ st5 b hb;exact(I7.pin (b,o) (zg _ (zg _ (CM hb e)))).2.1
  cases f with
  | next=>obtain⟨σ7,H7,I7,n7⟩:=q7;exact again I7 n7
  | cont=>obtain⟨σ7,H7,I7,n7⟩:=q7;exact again I7 n7
  | brk=>obtain⟨σ7,H7,I7,q7⟩:=q7;exact⟨σ7,H7,I7.unpinned,q7⟩
  | ret v=>obtain⟨x7,σ7,H7,I7,r7,q7⟩:=q7;exact⟨x7,σ7,H7,I7.unpinned,r7,q7⟩
end
noncomputable abbrev R2:=V->V->Hp->VK->Prop
noncomputable def cw(X:Cx)(f:Value->Value->Sem Value)(r:R2):Prop:=
 ∀(pins:List (Addr×Obj)) (s:Shared) (σ:St) (H:Hp) (x y:V) (v u:Value) (Q:VK),Inv X pins σ H s->RelV x v->RelV y u->r x y H Q->
  wpAny (model X.prog X.w) X.A (f v u) (EP X pins σ Q) X.xe s
noncomputable def DA(X:Cx)(f:Value->Sem Value)(r:V->Hp->VK->Prop):Prop:=
 ∀(pins:List (Addr×Obj)) (s:Shared) (σ:St) (H:Hp) (x:V) (v:Value) (Q:VK),Inv X pins σ H s->RelV x v->r x H Q->
  wpAny (model X.prog X.w) X.A (f v) (EP X pins σ Q) X.xe s
noncomputable def jcn(X:Cx)(f:Value)(r:List V->Hp->VK->Prop):Prop:=
 ∀(pins:List (Addr×Obj)) (s:Shared) (σ:St) (H:Hp) (xs:List V) (us:List Value) (Q:VK),Inv X pins σ H s->Vals xs us->r xs H Q->
  wpAny (model X.prog X.w) X.A (call f us) (EP X pins σ Q) X.xe s
noncomputable def GU(X:Cx)(r:V->Hp->(Bool->Hp->Prop)->Prop):Prop:=
 ∀(pins:List (Addr×Obj)) (s:Shared) (σ:St) (H:Hp) (x:V) (v:Value) (Q:Bool->Hp->Prop),Inv X pins σ H s->RelV x v->r x H Q->
  wpAny (model X.prog X.w) X.A (truthy v) (TP X pins σ Q) X.xe s
noncomputable def ou(r:R2)(ta tb:TE):TE:=λσ H Q=>ta σ H λx H1=>tb σ H1 λy H2=>r x y H2 Q
noncomputable def Ia(r:V->Hp->VK->Prop)(ta:TE):TE:=λσ H Q=>ta σ H λx H1=>r x H1 Q
noncomputable def rI(C:Int->Int->Prop)(g:Int->Int->V):R2:=λx y H Q=>∃i j,x=.int i/\y=.int j/\C i j/\Q (g i j) H
noncomputable def eU(g:Int->Int->V):R2:=λx y H Q=>∃i j,x=.int i/\y=.int j/\Q (g i j) H
noncomputable def rU(g:Int->V):V->Hp->VK->Prop:=λx H Q=>∃i,x=.int i/\Q (g i) H
section
variable {X : Cx} {a b c : Expr} {ta tb tc : TE} {pos : Pos}
theorem pI(ha:PE X a ta)(hb:PE X b tb){σ:St}{R:V->V->Hp->Prop}(I:Inv X pins σ H s)
  (h:ta σ H λx H1=>tb σ H1 λy H2=>R x y H2) {Q:Value->Shared->Prop} {f:Value->Value->Sem Value}
  (hf:∀v u s2 x y H2,Inv X pins σ H2 s2->RelV x v->RelV y u->R x y H2->wpAny (model X.prog X.w) X.A (f v u) Q X.xe s2):
  wpAny (model X.prog X.w) X.A (eval a X.env) (λv s₁=>wpAny (model X.prog X.w) X.A (eval b X.env) (λu s₂=>wpAny (model X.prog X.w) X.A (f v u) Q X.xe s₂) X.xe s₁) X.xe s:=by
 refine bx (ha pins s σ H _ I h) λv s1 ⟨x,H1,I1,r1,q1⟩=> ?_;refine bx (hb pins s1 σ H1 _ I1 q1) λu s2 ⟨y,H2,I2,r2,q2⟩=> ?_;exact hf v u s2 x y H2 I2 r1 r2 q2
theorem aK(ho:cw X (binaryOp op) r)(ha:PE X a ta)(hb:PE X b tb):PE X (.BinOp a op b pos) (ou r ta tb):=by
 intro pins s σ H Q I h;exact wpAny_BinOp (pI ha hb I h λv u s2 x y H2 I2 rx ry q=>ho pins s2 σ H2 x y v u Q I2 rx ry q)
theorem qE{r:V->Hp->VK->Prop}(ho:DA X (unaryOp op) r)(ha:PE X a ta):PE X (.UnaryOp op a pos) (Ia r ta):=by
 intro pins s σ H Q I h;exact UnaryOp_ (bx (ha pins s σ H _ I h) λv s1 ⟨x,H1,I1,r1,q1⟩=>ho pins s1 σ H1 x v Q I1 r1 q1)
theorem ud{f:Value->Value->Sem Value}{C:Int->Int->Prop}{g:Int->Int->Int}
  (rule:∀(i j:Int) (t u:Tok) (s:Shared) (Q:Value->Shared->Prop) (E:Value->Shared->Prop),C i j->Q (.int (g i j) s.toks) {s with toks:=s.toks+1}->wpAny (model X.prog X.w) X.A (f (.int i t) (.int j u)) Q E s):
  cw X f (rI C λi j=>.int (g i j)):=by
 intro pins s σ H x y v u Q I rx ry h;obtain⟨i,j,rfl,rfl,hc,q⟩:=h;obtain⟨t,rfl⟩:=rx;obtain⟨t',rfl⟩:=ry;exact rule i j t t' s _ _ hc ⟨.int (g i j),H,I.tok _,⟨_,rfl⟩,q⟩
theorem jP{f:Value->Value->Sem Value}{g:Int->Int->Int}
  (rule:∀(i j:Int) (t u:Tok) (s:Shared) (Q:Value->Shared->Prop) (E:Value->Shared->Prop),Q (.int (g i j) s.toks) {s with toks:=s.toks+1}->wpAny (model X.prog X.w) X.A (f (.int i t) (.int j u)) Q E s):
  cw X f (eU λi j=>.int (g i j)):=by
 intro pins s σ H x y v u Q I rx ry h;obtain⟨i,j,rfl,rfl,q⟩:=h;obtain⟨t,rfl⟩:=rx;obtain⟨t',rfl⟩:=ry;exact rule i j t t' s _ _ ⟨.int (g i j),H,I.tok _,⟨_,rfl⟩,q⟩
theorem l6{f:Value->Value->Sem Value}{g:Int->Int->Bool}
  (rule:∀(i j:Int) (t u:Tok) (s:Shared) (Q:Value->Shared->Prop) (E:Value->Shared->Prop),Q (.bool (g i j)) s->wpAny (model X.prog X.w) X.A (f (.int i t) (.int j u)) Q E s):
  cw X f (eU λi j=>.bl (g i j)):=by
 intro pins s σ H x y v u Q I rx ry h;obtain⟨i,j,rfl,rfl,q⟩:=h;obtain⟨t,rfl⟩:=rx;obtain⟨t',rfl⟩:=ry;exact rule i j t t' s _ _ ⟨.bl (g i j),H,I,rfl,q⟩
noncomputable def AK(i j:Int):Prop:=0<j/\j<1073741824
noncomputable def iK(i j:Int):Prop:=0<=j/\j<=1000000/\i.natAbs<2^64
noncomputable def CMul(i j:Int):Prop:=(-(2^64)<i/\i<2^64)\/(-(2^64)<j/\j<2^64)
theorem CMul.ok(h:CMul i j):IntMulOk i j:=by
 rcases h with⟨h1,h2⟩|⟨h1,h2⟩
 ·exact .of_left (intBits_le_64 h1 h2)
 ·exact .of_right (intBits_le_64 h1 h2)
theorem Pt(k:Nat):(0:Int)<=2^k:=by
 rw[two_pow_cast];exact Int.natCast_nonneg _
theorem rF:cw X (binaryOp .Add) (eU λi j=>.int (i+j)):=jP λ_ _ _ _ _ _ _ q=>add_int q
theorem BQ:cw X (binaryOp .Sub) (eU λi j=>.int (i - j)):=jP λ_ _ _ _ _ _ _ q=>sub_int q
theorem qP:cw X (binaryOp .Mult) (rI CMul λi j=>.int (i*j)):=ud λ_ _ _ _ _ _ _ hc q=>mul_int q hc.ok
theorem hX:cw X (binaryOp .FloorDiv) (rI AK λi j=>.int (i / j)):=ud λi j _ _ _ _ _ hc q=>by
 have h1:(0:Int)<j:=hc.1;have h2:j<1073741824:=hc.2;exact floordiv_int (by omega) (by rw[Int.fdiv_eq_ediv_of_nonneg i (by omega)];exact q) (.inl (PyProof.noPylong_small (by omega)))
theorem dD:cw X (binaryOp .Mod) (rI (λ_ j=>0<j) λi j=>.int (i % j)):=ud λi j _ _ _ _ _ hc q=>by
 have h1:(0:Int)<j:=hc;exact mod_int' (by omega) (by rw[Int.fmod_eq_emod_of_nonneg i (by omega)];exact q)
theorem rW:cw X (binaryOp .Pow) (rI iK λi j=>.int (i^j.toNat)):=ud λ_ _ _ _ _ _ _ hc q=>pow_int_small hc.1 hc.2.1 hc.2.2 q
theorem gG:cw X (binaryOp .LShift) (rI iK λi j=>.int (i*2^j.toNat)):=ud λ_ _ _ _ _ _ _ hc q=>lshift_int_small hc.1 hc.2.1 hc.2.2 q
theorem ub:cw X (binaryOp .RShift) (rI (λ_ j=>0<=j) λi j=>.int (i / 2^j.toNat)):=ud λi j _ _ _ _ _ hc q=>
 rshift_int hc (by rw[Int.fdiv_eq_ediv_of_nonneg i (Pt _)];exact q)
theorem fX:cw X (binaryOp .BitAnd) (eU λi j=>.int (Builtin.bitAnd i j)):=jP λ_ _ _ _ _ _ _ q=>and_int q
theorem ly:cw X (binaryOp .BitOr) (eU λi j=>.int (Builtin.bitOr i j)):=jP λ_ _ _ _ _ _ _ q=>or_int q
theorem pz:cw X (binaryOp .BitXor) (eU λi j=>.int (Builtin.bitXor i j)):=jP λ_ _ _ _ _ _ _ q=>xor_int q
theorem HB{f:Value->Sem Value}{g:Int->Int}
  (rule:∀(i:Int) (t:Tok) (s:Shared) (Q:Value->Shared->Prop) (E:Value->Shared->Prop),Q (.int (g i) s.toks) {s with toks:=s.toks+1}->wpAny (model X.prog X.w) X.A (f (.int i t)) Q E s):
  DA X f (rU λi=>.int (g i)):=by
 intro pins s σ H x v Q I rx h;obtain⟨i,rfl,q⟩:=h;obtain⟨t,rfl⟩:=rx;exact rule i t s _ _ ⟨.int (g i),H,I.tok _,⟨_,rfl⟩,q⟩
theorem J6:DA X (unaryOp .USub) (rU λi=>.int (-i)):=HB λ_ _ _ _ _ q=>neg_int q
theorem vx:DA X (unaryOp .Invert) (rU λi=>.int (Builtin.bitNot i)):=HB λ_ _ _ _ _ q=>invert_int q
end
noncomputable def ji:V->V->Bool
 | .non,.non=>true|.non,.int _=>true|.int _,.non=>true|.non,.bl _=>true|.bl _,.non=>true|.non,.str _=>true|.str _,.non=>true
 | .int _,.int _=>true|.bl _,.bl _=>true|.str _,.str _=>true|.byt _,.byt _=>true
 | .int _,.str _=>true|.str _,.int _=>true|.bl _,.str _=>true|.str _,.bl _=>true
 | _,_=>false
noncomputable def ND:R2:=λx y H Q=>ji x y=true/\Q (.bl (decide (x=y))) H
noncomputable def Pc:R2:=λx y H Q=>ji x y=true/\Q (.bl (!decide (x=y))) H
theorem IU:decide (V.int i=V.int j)=(i==j):=by
 rw[wt];simp
theorem GP:decide (V.bl i=V.bl j)=(i==j):=by
 rw[wt];simp
theorem J7:decide (V.str i=V.str j)=(i==j):=by
 rw[wt];simp
theorem HW:decide (V.byt i=V.byt j)=(i.toList==j.toList):=by
 rw[wt];cases i;cases j;simp
section
variable {X : Cx} {a b c : Expr} {ta tb tc : TE} {pos : Pos}
theorem cV{σ:St}(I:Inv X pins σ H s)(q:Q (.bl k) H)(e:k=k'):EP X pins σ Q (.bool k') s:=by
 subst e;exact⟨.bl k,H,I,rfl,q⟩
theorem xP:cw X (compareOp .Eq) ND:=by
 intro pins s σ H x y v u Q I rx ry h;obtain⟨hs,q⟩:=h;cases x with
 | non=>
  cases rx
  cases y with
  | non=>cases ry;exact PySem.EqNone.eq_none_none (cV I q (by simp))
  | bl j=>cases ry;exact PySem.EqNone.eq_none_bool (cV I q (by simp))
  | int j=>obtain⟨t',rfl⟩:=ry;exact PySem.EqNone.eq_none_int (cV I q (by simp))
  | str j=>obtain⟨t',rfl⟩:=ry;exact PySem.EqNone.eq_none_str (cV I q (by simp))
  | _=>exact absurd (show false=true from hs) qq
 | bl i=>
  cases rx
  cases y with
  | non=>cases ry;exact PySem.EqNone.eq_bool_none (cV I q (by simp))
  | bl j=>cases ry;exact eq_bool (cV I q GP)
  | str j=>obtain⟨t',rfl⟩:=ry;exact PySem.EqMixed.eq_bool_str (cV I q (by simp))
  | _=>exact absurd (show false=true from hs) qq
 | int i=>
  obtain⟨t,rfl⟩:=rx;cases y with
  | non=>cases ry;exact PySem.EqNone.eq_int_none (cV I q (by simp))
  | int j=>obtain⟨t',rfl⟩:=ry;exact eq_int (cV I q IU)
  | str j=>obtain⟨t',rfl⟩:=ry;exact PySem.EqMixed.eq_int_str (cV I q (by simp))
  | _=>exact absurd (show false=true from hs) qq
 | str i=>
  obtain⟨t,rfl⟩:=rx;cases y with
  | non=>cases ry;exact PySem.EqNone.eq_str_none (cV I q (by simp))
  | bl j=>cases ry;exact PySem.EqMixed.eq_str_bool (cV I q (by simp))
  | int j=>obtain⟨t',rfl⟩:=ry;exact PySem.EqMixed.eq_str_int (cV I q (by simp))
  | str j=>obtain⟨t',rfl⟩:=ry;exact eq_str (cV I q J7)
  | _=>exact absurd (show false=true from hs) qq
 | byt i=>
  obtain⟨t,rfl⟩:=rx;cases y with
  | byt j=>obtain⟨t',rfl⟩:=ry;exact W.eq_bytes (cV I q HW)
  | _=>exact absurd (show false=true from hs) qq
 | _=>cases y<;>exact absurd (show false=true from hs) qq
theorem zW:cw X (compareOp .NotEq) Pc:=by
 intro pins s σ H x y v u Q I rx ry h;obtain⟨hs,q⟩:=h;cases x with
 | non=>
  cases rx
  cases y with
  | non=>cases ry;exact PySem.EqNone.ne_none_none (cV I q (by simp))
  | bl j=>cases ry;exact PySem.EqNone.ne_none_bool (cV I q (by simp))
  | int j=>obtain⟨t',rfl⟩:=ry;exact PySem.EqNone.ne_none_int (cV I q (by simp))
  | str j=>obtain⟨t',rfl⟩:=ry;exact PySem.EqNone.ne_none_str (cV I q (by simp))
  | _=>exact absurd (show false=true from hs) qq
 | bl i=>
  cases rx
  cases y with
  | non=>cases ry;exact PySem.EqNone.ne_bool_none (cV I q (by simp))
  | bl j=>cases ry;exact ne_bool (cV I q (congrArg not GP))
  | str j=>obtain⟨t',rfl⟩:=ry;exact PySem.EqMixed.ne_bool_str (cV I q (by simp))
  | _=>exact absurd (show false=true from hs) qq
 | int i=>
  obtain⟨t,rfl⟩:=rx;cases y with
  | non=>cases ry;exact PySem.EqNone.ne_int_none (cV I q (by simp))
  | int j=>obtain⟨t',rfl⟩:=ry;exact ne_int (cV I q (congrArg not IU))
  | str j=>obtain⟨t',rfl⟩:=ry;exact PySem.EqMixed.ne_int_str (cV I q (by simp))
  | _=>exact absurd (show false=true from hs) qq
 | str i=>
  obtain⟨t,rfl⟩:=rx;cases y with
  | non=>cases ry;exact PySem.EqNone.ne_str_none (cV I q (by simp))
  | bl j=>cases ry;exact PySem.EqMixed.ne_str_bool (cV I q (by simp))
  | int j=>obtain⟨t',rfl⟩:=ry;exact PySem.EqMixed.ne_str_int (cV I q (by simp))
  | str j=>obtain⟨t',rfl⟩:=ry;exact ne_str (cV I q (congrArg not J7))
  | _=>exact absurd (show false=true from hs) qq
 | byt i=>
  obtain⟨t,rfl⟩:=rx;cases y with
  | byt j=>obtain⟨t',rfl⟩:=ry;exact W.ne_bytes (cV I q (congrArg not HW))
  | _=>exact absurd (show false=true from hs) qq
 | _=>cases y<;>exact absurd (show false=true from hs) qq
theorem DI:cw X (compareOp .Lt) (eU λi j=>.bl (decide (i<j))):=l6 λ_ _ _ _ _ _ _ q=>lt_int q
theorem xE:cw X (compareOp .LtE) (eU λi j=>.bl (decide (i<=j))):=l6 λ_ _ _ _ _ _ _ q=>le_int q
theorem nM:cw X (compareOp .Gt) (eU λi j=>.bl (decide (j<i))):=l6 λ_ _ _ _ _ _ _ q=>gt_int q
theorem D8:cw X (compareOp .GtE) (eU λi j=>.bl (decide (j<=i))):=l6 λ_ _ _ _ _ _ _ q=>ge_int q
theorem ON:cw X (compareOp .In) (λx y H Q=>∃i j,x=.str i/\y=.str j/\Q (.bl (!(Builtin.Str.occurrences j i 0 j.length 1).isEmpty)) H):=by
 intro pins s σ H x y v u Q I rx ry h;obtain⟨i,j,rfl,rfl,q⟩:=h;obtain⟨t,rfl⟩:=rx;obtain⟨t',rfl⟩:=ry;exact in_str (cV I q rfl)
theorem rD:cw X (compareOp .Is) (λx y H Q=>y=.non/\Q (.bl (decide (x=.non))) H):=by
  intro pins s σ H x y v u Q I rx ry h;obtain⟨rfl,q⟩:=h;cases ry;refine is_none_gen (cV I q ?_);cases x<;>first
    | (cases rx;rfl)
    | (obtain⟨t,rfl⟩:=rx;rfl)
theorem Of:cw X (compareOp .IsNot) (λx y H Q=>y=.non/\Q (.bl (!decide (x=.non))) H):=by
  intro pins s σ H x y v u Q I rx ry h;obtain⟨rfl,q⟩:=h;cases ry;refine isnot_none_gen (cV I q ?_);cases x<;>first
    | (cases rx;rfl)
    | (obtain⟨t,rfl⟩:=rx;rfl)
theorem bK(b:Expr){op:CmpOp}(h:op≠ .In:=by decide)(h2:op≠ .NotIn:=by decide):behindInMarks op b=false:=by
 have e1:(op==CmpOp.In)=false:=by cases op<;>first|rfl|exact absurd rfl h
 have e2:(op==CmpOp.NotIn)=false:=by cases op<;>first|rfl|exact absurd rfl h2
 cases b<;>simp[behindInMarks,e1,e2]
theorem gJ(ho:cw X (compareOp op) r)(ha:PE X a ta)(hb:PE X b tb)(hm:behindInMarks op b=false):PE X (.Compare a [op] [b] pos) (ou r ta tb):=by
 intro pins s σ H Q I h;exact wpAny_Compare1 (pI ha hb I h λv u s2 x y H2 I2 rx ry q=>ho pins s2 σ H2 x y v u Q I2 rx ry q) hm
noncomputable def FI(t:TE):TT:=λσ H Q=>t σ H λx H'=>∃k,x=.bl k/\Q k H'
theorem b7(ho:cw X (compareOp op) r)(ha:PE X a ta)(hb:PE X b tb)(hm:behindInMarks op b=false):PT X (.Compare a [op] [b] pos) (FI (ou r ta tb)):=by
 intro pins s σ H Q I h;refine wpAny_isTrue_Compare1 (bx (ha pins s σ H _ I h) λv s1 ⟨x,H1,I1,r1,q1⟩=>bx (hb pins s1 σ H1 _ I1 q1) λu s2 ⟨y,H2,I2,r2,q2⟩=>
  bx (ho pins s2 σ H2 x y v u _ I2 r1 r2 q2) λc s3 ⟨z,H3,I3,r3,k,e,q3⟩=> ?_) hm
 subst e;cases r3;exact wpAny_truthy_bool ⟨H3,I3,q3⟩
noncomputable def Iw(r r':R2)(ta tb tc:TE):TE:=λσ H Q=>ta σ H λx H1=>tb σ H1 λy H2=>r x y H2 λz H3=>∃k,z=.bl k/\
 (if k=true then tc σ H3 λw' H4=>r' y w' H4 Q else Q (.bl false) H3)
theorem Cz{op op':CmpOp}{r r':R2}(ho:cw X (compareOp op) r)(ho':cw X (compareOp op') r')(ha:PE X a ta)(hb:PE X b tb)(hc:PE X c tc)
  (hm:lastMarks [op,op'] [b,c]=false:=by with_unfolding_all rfl):PT X (.Compare a [op,op'] [b,c] pos) (FI (Iw r r' ta tb tc)):=by
 intro pins s σ H Q I h;refine isTrue_chain (bx (ha pins s σ H _ I h) λv s1 ⟨x,H1,I1,r1,q1⟩=>test_link (bx (hb pins s1 σ H1 _ I1 q1) λu s2 ⟨y,H2,I2,r2,q2⟩=>
  bx (ho pins s2 σ H2 x y v u _ I2 r1 r2 q2) λd s3 ⟨z,H3,I3,r3,k,e,q3⟩=> ?_)) hm
 subst e;cases r3;refine wpAny_truthy_bool ?_;cases k with
 | false=>
  obtain⟨k',e',q'⟩:=q3;cases e';exact ite_ff ⟨H3,I3,q'⟩
 | true=>
  refine ite_tt (test_last (bx (hc pins s3 σ H3 _ I3 q3) λw' s4 ⟨z',H4,I4,r4,q4⟩=>bx (ho' pins s4 σ H4 y z' u w' _ I4 r2 r4 q4) λd' s5 ⟨z2,H5,I5,r5,k2,e2,q5⟩=> ?_));subst e2;cases r5;exact wpAny_truthy_bool ⟨H5,I5,q5⟩
noncomputable def fo(K:W.Frag)(x:V)(H:Hp)(k:Bool):Prop:=
 match x with
 | .non=>k=false
 | .bl b=>k=b
 | .int i=>k=(i !=0)
 | .str y=>y.length<=sizeLine/\k=((y.length:Int)!=0)
 | .byt y=>y.size<=sizeLine/\k=((y.size:Int)!=0)
 | .ref p=>(∃xs,SqL K H p xs/\k= !xs.isEmpty)\/(∃xs,SqT K H p xs/\k= !xs.isEmpty)\/∃kvs,H p=some (.dK kvs)/\k= !kvs.isEmpty
 | _=>False
theorem NL{κ:Type}{kvs:List (κ×V)}{vs:List (κ×Value)}(r:KV kvs vs):(!vs.isEmpty)= !kvs.isEmpty:=by
 cases r<;>rfl
theorem Kg(r:Vals xs its):(!its.toArray.isEmpty)= !xs.isEmpty:=by
 cases r<;>simp
theorem uh:(sizeLine:Nat)<2^63:=by rw[sizeLine_eq];decide
theorem JK:GU X (λx H Q=>∃k,fo X.K x H k/\Q k H):=by
 intro pins s σ H x v Q I rx h;obtain⟨k,e,q⟩:=h;have hl:=uh;have hs:sizeLine=16777216:=sizeLine_eq;cases x with
 | non=>
  cases rx
  have e':k=false:=e;subst e';exact truthy_none ⟨H,I,q⟩
 | bl b=>
  cases rx
  have e':k=b:=e;subst e';exact wpAny_truthy_bool ⟨H,I,q⟩
 | int i=>
  obtain⟨t,rfl⟩:=rx;have e':k=(i !=0):=e;subst e';exact PySem.P.truthy_int ⟨H,I,q⟩
 | str y=>
  obtain⟨t,rfl⟩:=rx;obtain⟨hy,e'⟩:y.length<=sizeLine/\k=((y.length:Int)!=0):=e;subst e';exact PySem.P.truthy_str (by omega) ⟨H,I.tok _,q⟩
 | byt y=>
  obtain⟨t,rfl⟩:=rx;obtain⟨hy,e'⟩:y.size<=sizeLine/\k=((y.size:Int)!=0):=e;subst e';exact W.truthy_bytes (by omega) ⟨H,I.tok _,q⟩
 | ref p=>
  cases rx
  have e':(∃xs,SqL X.K H p xs/\k= !xs.isEmpty)\/(∃xs,SqT X.K H p xs/\k= !xs.isEmpty)\/∃kvs,H p=some (.dK kvs)/\k= !kvs.isEmpty:=e;rcases e' with⟨xs,hx,e'⟩|⟨xs,hx,e'⟩|⟨kvs,hx,e'⟩
  ·subst e'
   obtain⟨its,r,pl,hz⟩:=I.list hx;have hlen:=r.length;exact wpAny_truthy_list pl.isList (by simp only[qk];omega) ⟨H,I.tok _,by rw[Kg r];exact q⟩
  ·subst e'
   obtain⟨its,r,pl,hz⟩:=I.tuple hx;have hlen:=r.length;exact truthy_tuple pl (by simp only[qk];omega) ⟨H,I.tok _,by rw[Kg r];exact q⟩
  ·subst e'
   obtain⟨hz,hS,vs,r,m⟩:kvs.length<=sizeLine/\(p==sysModules)=false/\∃vs,KV kvs vs/\s.heap.DictOf (eJ X.prog X.w) p vs:=I.hok p _ hx;have hlen:kvs.length=vs.length:=Paired.length r;exact wpAny_truthy_dict hS m (by omega) ⟨H,I.tok _,by rw[NL r];exact q⟩
 | _=>exact(show False from e).elim
theorem NS(ha:PE X a ta)(he:∀whole,isTrue a X.env whole=(do let v<-whole;standAt a.pos;holding [v] (truthy v))):
  PT X a (λσ H Q=>ta σ H λx H'=>∃k,fo X.K x H' k/\Q k H'):=by
 intro pins s σ H Q I h;exact isTrue_plain (bx (ha pins s σ H _ I h) λv s1 ⟨x,H1,I1,r1,q1⟩=>JK pins s1 σ H1 x v Q I1 r1 q1) (he _)
theorem Lx:cw X (binaryOp .Add) (λx y H Q=>∃i j,x=.str i/\y=.str j/\i.length+j.length<=sizeLine/\Q (.str (i++j)) H):=by
 intro pins s σ H x y v u Q I rx ry h;obtain⟨i,j,rfl,rfl,hz,q⟩:=h;obtain⟨t,rfl⟩:=rx;obtain⟨t',rfl⟩:=ry;exact add_str (λt' tk=>⟨.str (i++j),H,I.tok _,⟨_,rfl⟩,q⟩) hz
theorem iq(r:Vals [x] us):∃u,us=[u]/\RelV x u:=by
 cases r with
 | cons r1 r2=>cases r2;exact⟨_,rfl,r1⟩
theorem oz(r:Vals [x,y] us):∃u w',us=[u,w']/\RelV x u/\RelV y w':=by
 cases r with
 | cons r1 r2=>
  cases r2 with
  | cons r3 r4=>cases r4;exact⟨_,_,rfl,r1,r3⟩
theorem NJ(hc:X.calm=true):jcn X (.builtin "max") (λxs H Q=>∃i j,xs=[.int i,.int j]/\Q (.int (if j>i then j else i)) H):=by
 intro pins s σ H xs us Q I r h;obtain⟨i,j,rfl,q⟩:=h;obtain⟨u,w',rfl,⟨t,rfl⟩,⟨t',rfl⟩⟩:=oz r;refine max_two_ints (I.ok.hd hc) λh' tk k=>⟨_,H,I.kept k,?_,q⟩;by_cases hj:j>i
 ·rw[if_pos hj,if_pos hj];exact⟨_,rfl⟩
 ·rw[if_neg hj,if_neg hj];exact⟨_,rfl⟩
theorem Mo:jcn X (.type "int") (λxs H Q=>(∃i,xs=[.int i]/\Q (.int i) H)\/∃k,xs=[.bl k]/\Q (.int (if k then 1 else 0)) H):=by
 intro pins s σ H xs us Q I r h;rcases h with⟨i,rfl,q⟩|⟨k,rfl,q⟩
 ·obtain⟨u,rfl,t,rfl⟩:=iq r
  exact call_int_int ⟨.int i,H,I,⟨_,rfl⟩,q⟩
 ·obtain⟨u,rfl,r1⟩:=iq r
  cases r1
  exact call_int_bool ⟨.int (if k then 1 else 0),H,I.tok _,⟨_,rfl⟩,q⟩
theorem O1:jcn X (.type "str") (λxs H Q=>∃i,xs=[.int i]/\i.natAbs.log2<1920/\Q (.str (toString i)) H):=by
 intro pins s σ H xs us Q I r h;obtain⟨i,rfl,hz,q⟩:=h;obtain⟨u,rfl,t,rfl⟩:=iq r;exact PySem.P.str_of_int hz ⟨.str _,H,I.tok _,⟨_,rfl⟩,q⟩
end
structure ObjM (h:Heap) (x dx C:Addr) (mA:Str->Option Value):Prop where
 obj:h.get? x=some (W.instObj C dx)
 ns:h.Ns1 dx mA
 ne:dx≠x
theorem OE{h:Heap}{mA:Str->Option Value}(n:h.Ns1 dx mA):∃od,h.get? dx=some od/\∀name,W.lookIn name od=some (mA name):=by
 obtain⟨o,es,ep,ho,hd,hk,_,hm⟩:=n;refine⟨o,ho,λname=> ?_⟩;have e:=hm name;unfold nsFind findBy at e;rw[<-Array.find?_toList]at e;unfold W.lookIn;rw[hd];dsimp only;split
 ·rename_i y q
  rw[q]at e;exact congrArg some e
 ·rename_i q
  rw[q]at e;have a:es.toList.any (·.refKey)=false:=by
   rw[List.any_eq_false];intro y hy;obtain⟨z,t,hkey⟩:=hk y (Array.mem_toList_iff.mp hy);simp[DictEntry.refKey,hkey]
  have a':¬es.toList.any (·.refKey)=true:=by rw[a];exact qq
  rw[if_neg a'];exact congrArg some e
theorem ObjM.look{mA:Str->Option Value}(I:ObjM h x dx C mA):∃od,W.InstAt h x (W.instObj C dx) C (some od)/\∀name,W.lookIn name od=some (mA name):=
 let ⟨od,ho,hl⟩:=OE I.ns
 ⟨od,⟨I.obj,rfl,rfl,ho⟩,hl⟩
section
variable {prog : Program} {w : World} {A : Around} {E : Value -> Shared -> Prop} {s : Shared} {K : W.Frag} {x dx C f : Addr} {mA : Str -> Option Value} {name : Str} {v : Value}
theorem NH{Q:Value->Shared->Prop}(X:K.In s.heap)(I:ObjM s.heap x dx C mA)(hg:W.plainGet K C name=true)(hh:W.hasDictIn K C=true)
  (ha:W.findIn K (.ref C) name=some none) (hv:mA name=some v) (hv':W.handedIn v=true) (h:Q v {s with toks:=s.toks+1}):
  wpAny (model prog w) A (getAttr (.ref x) name expr) Q E s:=by
 obtain⟨od,J,hl⟩:=I.look;exact W.get_value X J (W.plainGet_of hg).1 (W.findObj_own hh ha rfl (by rw[hl,hv])) hv' h
theorem MK{Q:Value×List Value->Shared->Prop}(X:K.In s.heap)(I:ObjM s.heap x dx C mA)(hg:W.plainGet K C name=true)
  (hf:W.findIn K (.ref C) name=some (some (.ref f))) (ht:W.isFn K (.ref f)=true) (hv:mA name=none) (h:Q (.ref f,[.ref x]) s):
  wpAny (model prog w) A (getMethod (.ref x) name pl) Q E s:=by
 obtain⟨od,J,hl⟩:=I.look;exact W.method_fn X J (W.plainGet_of hg).1 (W.plainGet_of hg).2 hf (beq_iff_eq.mp ht) (by show(W.lookIn name od).map (·.isSome)=some false;rw[hl,hv];rfl) h
theorem OI{Q:Unit->Shared->Prop}(X:K.In s.heap)(I:ObjM s.heap x dx C mA)
  (hs:W.findIn K (.ref C) "__setattr__"=some (some (.builtin "object.__setattr__"))) (hp:W.plainOver K C=true) (ht:W.takerIn K C name=some none) (hh:W.hasDictIn K C=true)
  (hw:PySem.Within mA ns) (hsz:ns.length<=sizeLine)
  (h:∀h',ObjM h' x dx C (λy=>if y=name then some v else mA y)->Heap.SameBut dx s.heap h'->Q () {s with heap:=h',toks:=s.toks+2}):
  wpAny (model prog w) A (setAttr (.ref x) name v) Q E s:=by
 obtain⟨od,J,hl⟩:=I.look;refine W.set_plain X J hs (W.osa_open (s:={s with toks:=s.toks+1}) (r:=none) X J hp ht λb=> ?_);obtain⟨cd,hc,hd'⟩:=W.any_some hh;have hx:s.heap.get? x=some ⟨.ref C,some dx,.plain,#[]⟩:=I.obj;refine wpAny_bind (wpAny_pure (wpAny_bind (wpAny_bind (wpAny_loadPart hx (wpAny_bind (W.Looks.here (s:={s with toks:=s.toks+1}) (W.looks_clsIn X hc) ?_))))));rw[hd'];refine wpAny_pure (a:=some dx) (wpAny_bind (wpAny_pure (wpAny_bind ?_)));refine wpAny_nsSet1 (s:={s with toks:=s.toks+1}) I.ns λh' hn2 hs2=> ?_;obtain⟨oD,esD,epD,hoD,hdD,hcD⟩:=hn2.count (PySem.Within.cons name v hw);refine wpAny_bind (wpAny_lookBehind hoD (by rw[hdD];exact pastItsLine_dict (zd hcD (by rw[qz];omega))) ?_);exact wpAny_pure (h _ ⟨(hs2.2 _ (Ne.symm I.ne)).trans I.obj,hn2,I.ne⟩ hs2)
theorem OD{R:Result->Shared->Prop}(X:K.In s.heap)(hm:W.makesIn K C=true)
    (hi:W.findIn K (.ref C) "__init__"=some (some (.ref f))) (hf:W.typeIn K (.ref f)=some (.type "function"))
    (h:codeAny (model prog w) (A.under (.builtin "type.__call__" ⟨.ref C::vs,kw⟩)) (.call (.ref f) ⟨.ref (s.heap.objs.size+1)::vs,kw⟩) (W.InitBack (s.heap.objs.size+1) R)
      {s with heap:=(s.heap.push W.emptyDict).push (W.instObj C s.heap.objs.size)}):
    codeAny (model prog w) A (.call (.ref C) ⟨vs,kw⟩) R s:=by
  obtain⟨hh,g,d,t,os⟩:=s;exact W.make_core (W.makes_of X hm) (W.looks_findIn X hi) (λself=>W.bind_fn X self hf) (.inl rfl) h
end
noncomputable def bA(f:Str)(v:V):List (Str×V)->List (Str×V)
  | []=>[(f,v)]
  | (g,x)::r=>if g=f then(g,v)::r else(g,x)::bA f v r
theorem Jo(f g:Str)(v:V):∀fs:List (Str×V),(bA f v fs).lookup g=if g=f then some v else fs.lookup g
  | []=>by
    show List.lookup g [(f,v)]=_;by_cases h:g=f
    · have hb:(g==f)=true:=beq_iff_eq.mpr h
      simp only[List.lookup,hb,if_pos h]
    · have hb:(g==f)=false:=beq_eq_false_iff_ne.mpr h
      simp only[List.lookup,hb,if_neg h]
  | (k,x)::r=>by
    have ih:=Jo f g v r;rw[show bA f v ((k,x)::r)=(if k=f then(k,v)::r else(k,x)::bA f v r)from rfl];by_cases hk:k=f
    · rw[if_pos hk]
      by_cases h:g=k
      · have hb:(g==k)=true:=beq_iff_eq.mpr h
        simp only[List.lookup,hb,if_pos (h.trans hk)]
      · have hb:(g==k)=false:=beq_eq_false_iff_ne.mpr h
        simp only[List.lookup,hb,if_neg (λe:g=f=>h (e.trans hk.symm))]
    · rw[if_neg hk]
      by_cases h:g=k
      · have hb:(g==k)=true:=beq_iff_eq.mpr h
        simp only[List.lookup,hb,if_neg (λe:g=f=>hk (h.symm.trans e))]
      · have hb:(g==k)=false:=beq_eq_false_iff_ne.mpr h
        simp only[List.lookup,hb];exact ih
theorem Ha(f:Str)(v:V):∀fs:List (Str×V),f∈(bA f v fs).map (·.1)/\∀g,g∈fs.map (·.1)->g∈(bA f v fs).map (·.1)
  | []=>⟨by simp[bA],λg h=>by simp at h⟩
  | (k,x)::r=>by
    obtain⟨i1,i2⟩:=Ha f v r;rw[show bA f v ((k,x)::r)=(if k=f then(k,v)::r else(k,x)::bA f v r)from rfl];by_cases hk:k=f
    · rw[if_pos hk]
      subst hk;exact⟨by simp,λg h=>by simpa using h⟩
    · rw[if_neg hk]
      refine⟨?_,λg h=> ?_⟩
      · rw[List.map_cons]
        exact q9 _ i1
      · rw[List.map_cons]at h ⊢
        rcases qr.mp h with e|e
        · exact qr.mpr (.inl e)
        · exact q9 _ (i2 g e)
theorem JM(f:Str)(v:V):∀fs:List (Str×V),(bA f v fs).length<=fs.length+1
  | []=>by simp[bA]
  | (k,x)::r=>by
    have ih:=JM f v r;rw[show bA f v ((k,x)::r)=(if k=f then(k,v)::r else(k,x)::bA f v r)from rfl];by_cases hk:k=f
    · rw[if_pos hk,qz,qz];omega
    · rw[if_neg hk,qz,qz];omega
theorem RelO.some_of(r:RelO (some v) o):∃u,o=some u/\RelV v u:=by
 cases o with
 | none=>exact(show False from r).elim
 | some u=>exact⟨u,rfl,r⟩
theorem RelO.none_of(r:RelO none o):o=none:=by
 cases o with
 | none=>rfl
 | some u=>exact(show False from r).elim
theorem Nb(r:RelV v u):W.handedIn u=true:=by
 cases v with
 | non=>cases(show u=Value.none from r);rfl
 | bl b=>cases(show u=Value.bool b from r);rfl
 | int i=>obtain⟨t,e⟩:=(show ∃t,u=Value.int i t from r);cases e;rfl
 | str x=>obtain⟨t,e⟩:=(show ∃t,u=Value.str x t from r);cases e;rfl
 | byt b=>obtain⟨t,e⟩:=(show ∃t,u=Value.bytes b t from r);cases e;rfl
 | flt b=>obtain⟨t,e⟩:=(show ∃t,u=Value.float b t from r);cases e;rfl
 | ref a=>cases(show u=Value.ref a from r);rfl
 | ty n=>cases(show u=Value.type n from r);rfl
section
variable {P : Program} {w : World} {H H' : Hp} {h h' : Heap} {a C dx : Addr} {fs fs' : List (Str × V)}
theorem Dp(hok:HOk P w H h)(e:H a=some (.ins C dx fs)):∃mA,ObjM h a dx C mA/\(∀f,RelO (fs.lookup f) (mA f))/\PySem.Within mA (fs.map (·.1))/\fs.length<=1000/\H dx=some (.own a):=by
 obtain⟨d,z,ne,ob,mA,n,r,q⟩:=(show jcq P w H h a (.ins C dx fs)from hok a _ e);exact⟨mA,⟨ob,n,ne⟩,r,q,z,d⟩
end
structure Cls (K:W.Frag) (C:Addr):Prop where
 pg:W.plainGet K C Str.empty=true
 hd:W.hasDictIn K C=true
 po:W.plainOver K C=true
 sa:W.findIn K (.ref C) "__setattr__"=some (some (.builtin "object.__setattr__"))
theorem Cls.get{K:W.Frag}(c:Cls K C)(f:Str):W.plainGet K C f=true:=c.pg
noncomputable def jbw(K:W.Frag)(C:Addr)(f:Str):Prop:=W.findIn K (.ref C) f=some none
theorem jbw.taker{K:W.Frag}(n:jbw K C f):W.takerIn K C f=some none:=by
 unfold W.takerIn;rw[show W.findIn K (.ref C) f=some none from n];rfl
structure Meth (K:W.Frag) (C:Addr) (m:Str) (f:Addr):Prop where
 at_:W.findIn K (.ref C) m=some (some (.ref f))
 fn:W.isFn K (.ref f)=true
 kp:W.keepIn K (.ref f)=true
section
variable {X : Cx} {pins : List (Addr × Obj)} {σ : St} {H : Hp} {s : Shared} {a C dx : Addr} {fs : List (Str × V)} {f : Str} {v : V} {A : Around} {E : Value -> Shared -> Prop}
theorem Nd{Q:Value->Shared->Prop}(I:Inv X pins σ H s)(e:H a=some (.ins C dx fs))(c:Cls X.K C)(n:jbw X.K C f)(l:fs.lookup f=some v)
  (h:∀u s',Inv X pins σ H s'->RelV v u->Q u s'):wpAny (model X.prog X.w) A (getAttr (.ref a) f b) Q E s:=by
 obtain⟨mA,O,r,_,_,_⟩:=Dp I.hok e;obtain⟨u,hu,ru⟩:=RelO.some_of (v:=v) (o:=mA f) (by rw[<-l];exact r f);exact NH I.kIn O (c.get f) c.hd n hu (Nb ru) (h u _ (I.tok _) ru)
theorem Fq{Q:Value×List Value->Shared->Prop}(I:Inv X pins σ H s)(e:H a=some (.ins C dx fs))(c:Cls X.K C)(k:Meth X.K C m g)(l:fs.lookup m=none)
  (h:Q (.ref g,[.ref a]) s):wpAny (model X.prog X.w) A (getMethod (.ref a) m pl) Q E s:=by
 obtain⟨mA,O,r,_,_,_⟩:=Dp I.hok e;have hn:mA m=none:=RelO.none_of (by rw[<-l];exact r m);exact MK I.kIn O (c.get m) k.at_ k.fn hn h
theorem Na{Q:Unit->Shared->Prop}(I:Inv X pins σ H s)(e:H a=some (.ins C dx fs))(c:Cls X.K C)(n:jbw X.K C f)(hl:fs.length<1000)(ry:RelV y u)
  (h:∀s',Inv X pins σ (aQ H a (.ins C dx (bA f y fs))) s'->Q () s'):wpAny (model X.prog X.w) A (setAttr (.ref a) f u) Q E s:=by
 obtain⟨mA,O,r,wi,_,ho⟩:=Dp I.hok e;have hz:(fs.map (·.1)).length<=sizeLine:=by rw[qi,sizeLine_eq];omega
 refine OI I.kIn O c.sa c.po n.taker c.hd wi hz λh' O' sb=>h _ ?_;have hd:∃o,h'.get? dx=some o:=let ⟨o,_,_,e',_⟩:=O'.ns;⟨o,e'⟩;refine I.write (x:=a) (e:=dx) (by rw[e];exact True.intro) (.inr ho) (λb q hb z=>(sb.2 b hb).trans z) hd ?_;refine⟨by rw[aW O.ne];exact ho,?_,O.ne,O'.obj,_,O'.ns,λg=> ?_,λg hg=> ?_⟩
 ·have:=JM f y fs;omega
 ·show RelO ((bA f y fs).lookup g) (if g=f then some u else mA g)
  rw[Jo];by_cases q:g=f
  ·rw[if_pos q,if_pos q];exact ry
  ·rw[if_neg q,if_neg q];exact r g
 ·by_cases q:g=f
  ·rw[q];exact(Ha f y fs).1
  ·refine(Ha f y fs).2 g (wi g λz=>hg ?_)
   show(if g=f then some u else mA g)=none;rw[if_neg q];exact z
theorem Inv.made(I:Inv X pins σ H s):Inv X pins σ (aQ (aQ H s.heap.objs.size (.own (s.heap.objs.size+1))) (s.heap.objs.size+1) (.ins C s.heap.objs.size []))
    {s with heap:=(s.heap.push W.emptyDict).push (W.instObj C s.heap.objs.size)}:=by
  have e1:(s.heap.push W.emptyDict).get? s.heap.objs.size=some W.emptyDict:=qw s.heap rfl;have e2:((s.heap.push W.emptyDict).push (W.instObj C s.heap.objs.size)).get? (s.heap.objs.size+1)=some (W.instObj C s.heap.objs.size):=by
    have:=qw (s.heap.push W.emptyDict) (o:=W.instObj C s.heap.objs.size) rfl
    rwa [kf]at this
  have e3:(s.heap.push W.emptyDict).Ns s.heap.objs.size (λ_=>none):=⟨W.emptyDict,#[],_,e1,rfl,(λe he=>absurd he (by simp)),λ_=>rfl⟩;have I1:=I.laid (a:=s.heap.objs.size) (o:=.own (s.heap.objs.size+1)) (h':=s.heap.push W.emptyDict) (t':=s.toks) (λb u q=>qa _ q) (qb _) ⟨_,e1⟩;refine I1.laid (a:=s.heap.objs.size+1) (o:=.ins C s.heap.objs.size []) (t':=s.toks) (λb u q=>qa _ q) (zk (kf _ _)) ?_;have ne:s.heap.objs.size≠s.heap.objs.size+1:=qo (zy _);refine⟨by rw[aW ne,df],qx _,ne,e2,λ_=>none,(Heap.Ns1.of_empty e3).at λo q=>qa _ q,λ_=>True.intro,λy hy=>absurd rfl hy⟩
theorem Oe{Q:Value->Shared->Prop}(hb:attributeBase e f env (eval e env)=eval e env)
  (h:wpAny (model prog w) A (eval e env) (λo s₁=>wpAny (model prog w) A (getAttr o f true) Q E s₁) E s):wpAny (model prog w) A (eval (.Attribute e f pos) env) Q E s:=
 Attribute_any_ h (by rw[arm_eval_Attribute,hb])
end
noncomputable def mG(K:W.Frag)(ta:TE)(f:Str):TE:=λσ H Q=>ta σ H λx H1=>∃a C dx fs v,x=.ref a/\H1 a=some (.ins C dx fs)/\Cls K C/\jbw K C f/\fs.lookup f=some v/\Q v H1
noncomputable def kZ(K:W.Frag)(ta tv:TE)(f:Str):TS:=λD σ H=>tv σ H λy H1=>ta σ H1 λx H2=>∃a C dx fs,x=.ref a/\H2 a=some (.ins C dx fs)/\Cls K C/\jbw K C f/\fs.length<1000/\
 D.nx σ (aQ H2 a (.ins C dx (bA f y fs)))
section
variable {X : Cx} {o e value : Expr} {f : Str} {pos pos' tpos : Pos} {ta tv : TE}
theorem bV(he:PE X e ta)(hb:attributeBase e f X.env (eval e X.env)=eval e X.env):PE X (.Attribute e f pos) (mG X.K ta f):=by
 intro pins s σ H Q I h;refine Oe hb (bx (he pins s σ H _ I h) λu s1 ⟨x,H1,I1,rx,a,C,dx,fs,v,ex,ea,c,n,l,q⟩=> ?_);subst ex;obtain rfl:u=Value.ref a:=rx;exact Nd I1 ea c n l λu' s2 I2 ru=>⟨v,H1,I2,ru,q⟩
theorem eM(ha:PE X o ta)(hv:PE X value tv)(hs:swapsWith value (some (.Attribute o f pos')) pos.line X.env=pure false):PS X (.Assign [.Attribute o f pos'] value pos) (kZ X.K ta tv f):=by
 intro pins s σ H D I h;refine plainObj_wpAny_Assign_Attribute (bx (hv pins s σ H _ I h) λu s1 ⟨y,H1,I1,ry,q⟩=>bx (ha pins s1 σ H1 _ I1 q) λov s2 ⟨x,H2,I2,rx,a,C,dx,fs,ex,ea,c,n,l,q2⟩=> ?_) hs;subst ex;obtain rfl:ov=Value.ref a:=rx;exact Na I2 ea c n l ry λs3 I3=>⟨σ,_,I3,q2⟩
end
section
variable {X : Cx} {pins : List (Addr × Obj)} {σ : St} {H : Hp} {s : Shared} {A : Around} {E : Value -> Shared -> Prop} {Q : Value -> Shared -> Prop} {c : Value} {b : Bool}
inductive TyOf (K:W.Frag) (H:Hp):V->Value->Prop where
 | non:TyOf K H .non (.type "NoneType")
 | bl (x:Bool):TyOf K H (.bl x) (.type "bool")
 | int (i:Int):TyOf K H (.int i) (.type "int")
 | str (x:Str):TyOf K H (.str x) (.type "str")
 | flt (x:UInt64):TyOf K H (.flt x) (.type "float")
 | lst {a:Addr} {xs:List V} (e:H a=some (.lst xs)):TyOf K H (.ref a) (.type "list")
 | frz {a:Addr} {o:Obj} {xs:List V} (e:H a=some (.frz o (.lst xs))):TyOf K H (.ref a) (.type "list")
 | tup {a:Addr} {xs:List V} (e:H a=some (.tup xs)):TyOf K H (.ref a) (.type "tuple")
 | dK {a:Addr} {kvs:List (cp×V)} (e:H a=some (.dK kvs)):TyOf K H (.ref a) (.type "dict")
 | dT {a:Addr} {kvs:List (List cp×V)} (e:H a=some (.dT kvs)):TyOf K H (.ref a) (.type "dict")
 | ins {a C dx:Addr} {fs:List (Str×V)} (e:H a=some (.ins C dx fs)) (cl:Cls K C) (ha:W.findIn K (.ref C) "__class__"=some (some (.builtin "object.__class__")))
   (hn:W.specialIn K (.builtin "object.__class__") "__get__"=some (some (.builtin "getset_descriptor.__get__"))) (htk:W.takesIn K (.builtin "object.__class__")=some true)
   (hm:W.mroIn K C (.type "object")=some true):TyOf K H (.ref a) (.ref C)
theorem Pq(I:Inv X pins σ H s)(rx:RelV x u)(ty:TyOf X.K H x t)(e:W.kitOne X.K t c=some b)(h:∀tk,Q (.bool b) {s with toks:=tk}):
  wpAny (model X.prog X.w) A (call (.builtin "isinstance") [u,c]) Q E s:=by
 cases ty with
 | non=>cases(show u=Value.none from rx);exact W.kia_one W.kitx_none I.kIn True.intro e (λz=>nomatch z) h
 | bl y=>cases(show u=Value.bool y from rx);exact W.kia_one W.kitx_bool I.kIn True.intro e (λz=>nomatch z) h
 | int i=>obtain⟨t,q⟩:=(show ∃t,u=Value.int i t from rx);cases q;exact W.kia_one W.kitx_int I.kIn True.intro e (λz=>nomatch z) h
 | str y=>obtain⟨t,q⟩:=(show ∃t,u=Value.str y t from rx);cases q;exact W.kia_one W.kitx_str I.kIn True.intro e (λz=>nomatch z) h
 | flt y=>obtain⟨t,q⟩:=(show ∃t,u=Value.float y t from rx);cases q;exact W.kia_one W.kitx_float I.kIn True.intro e (λz=>nomatch z) h
 | @lst a xs ea=>
  cases(show u=Value.ref a from rx)
  obtain⟨_,_,n,_,h1⟩:=(show jcq X.prog X.w H s.heap a (.lst xs)from I.hok a _ ea);exact W.kia_one W.kitx_list I.kIn ⟨_,h1,rfl⟩ e (λz=>nomatch z) h
 | @frz a ob xs ea=>
  cases(show u=Value.ref a from rx)
  obtain⟨_,_,_,n,_,h1⟩:=(show jcq X.prog X.w H s.heap a (.frz ob (.lst xs))from I.hok a _ ea);exact W.kia_one W.kitx_list I.kIn ⟨_,h1,rfl⟩ e (λz=>nomatch z) h
 | @tup a xs ea=>
  cases(show u=Value.ref a from rx)
  obtain⟨_,_,_,p⟩:=(show jcq X.prog X.w H s.heap a (.tup xs)from I.hok a _ ea);obtain⟨o,h1,h2,_⟩:=p;exact W.kia_one W.kitx_tuple I.kIn ⟨o,h1,h2⟩ e (λz=>nomatch z) h
 | @dK a kvs ea=>
  cases(show u=Value.ref a from rx)
  obtain⟨_,_,vs,_,p⟩:=(show jcq X.prog X.w H s.heap a (.dK kvs)from I.hok a _ ea);obtain⟨o,es,ep,h1,h2,_⟩:=p;exact W.kia_one W.kitx_dict I.kIn ⟨o,h1,h2.1⟩ e (λz=>nomatch z) h
 | @dT a kvs ea=>
  cases(show u=Value.ref a from rx)
  obtain⟨_,_,xs,_,o,es,ep,h1,h2,_⟩:=(show jcq X.prog X.w H s.heap a (.dT kvs)from I.hok a _ ea);exact W.kia_one W.kitx_dict I.kIn ⟨o,h1,h2.1⟩ e (λz=>nomatch z) h
 | @ins a C dx fs ea cl ha hn htk hm=>
  cases(show u=Value.ref a from rx)
  obtain⟨mA,O,_⟩:=Dp I.hok ea;obtain⟨od,J,_⟩:=O.look;exact W.kia_one (W.kitx_own (cl.get _) cl.hd ha hn htk hm) I.kIn J e (λz=>nomatch z) h
end
structure Room (k:Nat) (A:Around):Prop where
 hd:A.handled=none
 dp:A.depth+3*k+5<recursionLimit
 un:A.units+16*k+200<cLine
theorem Room.mono(r:Room k A)(h:j<=k):Room j A:=⟨r.hd,by have:=r.dp;omega,by have:=r.un;omega⟩
theorem Room.deeper(r:Room (k+1) A)(env:Env):Room k (A.deeper env):=
 ⟨r.hd,by have:=r.dp;show A.depth+1+3*k+5<_;omega,by have:=r.un;show A.units+3+16*k+200<_;omega⟩
theorem Pu{A:Around}:(A.under (.builtin "type.__call__" ⟨.ref C::us,kw⟩)).depth=A.depth+1:=by
 first|rfl|simp[Around.under,Code.weight,Code.isCreation,Code.isGuard,Code.isCaller,Code.frames,Code.isFrame,guardIds]
theorem M3{A:Around}:(A.under (.builtin "type.__call__" ⟨.ref C::us,kw⟩)).units=A.units+1:=by
 first|rfl|simp[Around.under,Code.cUnits,Code.frames,Code.isFrame]
theorem Room.make(r:Room (k+1) A)(C:Addr)(us:List Value)(kw:List (Str×Value)):Room k (A.under (.builtin "type.__call__" ⟨.ref C::us,kw⟩)):=
 ⟨r.hd,by have:=r.dp;rw[Pu];omega,by have:=r.un;rw[M3];omega⟩
theorem Room.depth(r:Room k A):A.depth<recursionLimit:=by have:=r.dp;omega
theorem Room.units(r:Room k A):A.units+64<cLine:=by have:=r.un;omega
noncomputable def iJ:TA:=λ_ H Q=>Q [] H
noncomputable def EZ(ta:TE)(tr:TA):TA:=λσ H Q=>ta σ H λx H1=>tr σ H1 λxs H2=>Q (x::xs) H2
section
variable {X : Cx} {e : Expr} {es : List Expr} {te : TE} {t : TA} {pos : Pos}
theorem av:PA X [] iJ:=λ_ _ _ _ H Q I h=>Calls.spliced_nil ⟨[],H,I,.nil,h⟩
theorem ak(ha:PE X e te)(hr:PA X es t)(hs:starEach (e::es) X.env=(false,eval e X.env)::starEach es X.env:=by rfl):PA X (e::es) (EZ te t):=by
 intro pos pins s σ H Q I h;rw[hs];show wpAny _ _ (spliced ((false,eval e X.env)::backTo pos (starEach es X.env))) _ _ s;refine Calls.spliced_cons (bx (ha pins s σ H _ I h) λu s1 ⟨x,H1,I1,r1,q1⟩=> ?_);exact bx (hr pos pins s1 σ H1 _ I1 q1) λus s2 ⟨xs,H2,I2,r2,q2⟩=>⟨x::xs,H2,I2,.cons r1 r2,q2⟩
noncomputable def Aq(t:TA):TE:=λσ H Q=>t σ H λxs H1=>xs.length<=sizeLine/\∀p,H1 p=none->Q (.ref p) (aQ H1 p (.tup xs))
noncomputable def zJ(t:TA):TE:=λσ H Q=>t σ H λxs H1=>xs.length<=sizeLine/\∀p,H1 p=none->Q (.ref p) (aQ H1 p (.lst xs))
theorem dX{x1}(h:PA X es t):PE X (.Tuple es x1 pos) (Aq t):=by
 intro pins s σ H Q I hq;refine wpAny_Tuple_spliced (bx (h pos pins s σ H _ I hq) λus s1 ⟨xs,H1,I1,r,z,q⟩=>⟨by rw[<-r.length];exact z,?_⟩);have hf:H1 s1.heap.objs.size=none:=I1.hok.fresh (qb _);refine⟨.ref s1.heap.objs.size,aQ H1 s1.heap.objs.size (.tup xs),I1.laid (t':=s1.toks) (λb u e=>qa _ e) (qb _) ?_,rfl,q _ hf⟩;exact⟨z,us,r,⟨_,qw _ rfl,rfl,_,rfl⟩⟩
theorem dM(h:PA X es t):PE X (.List es pos) (zJ t):=by
 intro pins s σ H Q I hq;refine wpAny_List_spliced (bx (h pos pins s σ H _ I hq) λus s1 ⟨xs,H1,I1,r,z,q⟩=>⟨by rw[<-r.length];exact z,?_⟩);have hf:H1 s1.heap.objs.size=none:=I1.hok.fresh (qb _);refine⟨.ref s1.heap.objs.size,aQ H1 s1.heap.objs.size (.lst xs),I1.laid (t':=s1.toks) (λb u e=>qa _ e) (qb _) ?_,rfl,q _ hf⟩;exact⟨z,us,0,r,qw _ rfl⟩
end
noncomputable abbrev Sp:=List V->Hp->VK->XK->Prop
noncomputable abbrev iE:=List Env->Hp->Shared->XK->Value->Shared->Prop
structure Env0 (P:Program) (w:World) (K:W.Frag) (mg:Str->Option Value) (base:Heap) (A:Around) (outer:List Env) (s:Shared) (H:Hp):Prop where
 frames:A.frames=some outer
 mod:Mod K mg base
 bs:∀b o,base.get? b=some o->s.heap.get? b=some o/\H b=none
 bsz:base.objs.size<=s.heap.objs.size
 funs:s.heap.FunFrames base outer
 frf:∀b∈cg outer,H b=none
 hok:HOk P w H s.heap
 bare:AllBare s.gens
noncomputable def CE(outer:List Env)(P:Program)(w:World)(H:Hp)(s:Shared)(Q:VK)(u:Value)(s':Shared):Prop:=
 ∃v H',s'.os=s.os/\AllBare s'.gens/\Un (cg outer) [] H H' s.heap s'.heap/\HOk P w H' s'.heap/\RelV v u/\Q v H'
noncomputable def CR(CX:iE)(outer:List Env)(P:Program)(w:World)(H:Hp)(s:Shared)(Q:VK)(E:XK)(r:Result)(s':Shared):Prop:=
 match r with
 | .ok (.ret u)=>CE outer P w H s Q u s'
 | .ok _=>False
 | .error e=>CX outer H s E e s'
structure FnOk (P:Program) (w:World) (K:W.Frag) (mg:Str->Option Value) (base:Heap) (CX:iE) (k:Nat) (f:Addr) (fd:FuncData) (ps:List Str) (sp:Sp):Prop where
 len:∀vs H Q E,sp vs H Q E->vs.length=ps.length
 run:∀(A:Around) (outer:List Env) (s:Shared) (H:Hp) (args:Args) (us:List Value) (vs:List V) (Q:VK) (E:XK),Room k A->Env0 P w K mg base A outer s H->BindsTo s fd args (ps.zip us)->Vals vs us->sp vs H Q E->
  codeAny (model P w) A (.call (.ref f) args) (CR CX outer P w H s Q E) s
theorem FnOk.mono{K:W.Frag}{mg:Str->Option Value}(F:FnOk P w K mg base CX j f fd ps sp)(h:j<=k):
  FnOk P w K mg base CX k f fd ps sp:=⟨F.len,λA outer s H args us vs Q E hr=>F.run A outer s H args us vs Q E (hr.mono h)⟩
theorem FnOk.imp{K:W.Frag}{mg:Str->Option Value}(F:FnOk P w K mg base CX k f fd ps sp)
  (h:∀vs H Q E,sp' vs H Q E->sp vs H Q E):FnOk P w K mg base CX k f fd ps sp':=
 ⟨λvs H Q E q=>F.len vs H Q E (h _ _ _ _ q),λA outer s H args us vs Q E hr he hb hv hs=>F.run A outer s H args us vs Q E hr he hb hv (h _ _ _ _ hs)⟩
theorem Env0.make{K:W.Frag}{mg:Str->Option Value}(e:Env0 P w K mg base A outer s H)(C:Addr)(us:List Value)(kw:List (Str×Value)):
  Env0 P w K mg base (A.under (.builtin "type.__call__" ⟨.ref C::us,kw⟩)) outer s H:=⟨by first|exact e.frames|(simpa [Around.under,Code.envs,Code.isFrame,pushEnvs]using e.frames),e.mod,e.bs,e.bsz,e.funs,e.frf,e.hok,e.bare⟩
section
variable {X : Cx} {pins : List (Addr × Obj)} {σ : St} {H : Hp} {s s' : Shared}
theorem Inv.env0(I:Inv X pins σ H s):Env0 X.prog X.w X.K X.mg X.base X.A X.stack s H:=
 ⟨I.ok.frames,I.ok.mod,I.bs,zd I.ok.bsz I.sz,I.stack,I.stkFree,I.hok,I.bare⟩
theorem Inv.after(I:Inv X pins σ H s)(h:CE X.stack X.prog X.w H s Q u s'):EP X pins σ Q u s':=by
 obtain⟨v,H',os,bare,un,hok,r,q⟩:=h;obtain⟨hh,g,d,t,os'⟩:=s';obtain rfl:os'=s.os:=os;exact⟨v,H',I.call (h':=hh) (g':=g) (d':=d) (t':=t) (ch:=[]) un hok bare (λb z=>absurd z (by simp)),r,q⟩
end
noncomputable def DX(sp:Sp)(dvs:List V)(E:XK)(t:TA):TE:=λσ H Q=>t σ H λvs H1=>sp (vs++dvs) H1 Q E
noncomputable def uk(C:Addr)(sp:Sp)(dvs:List V)(E:XK)(t:TA):TE:=λσ H Q=>t σ H λvs H1=>∀x dx,H1 x=none->H1 dx=none->dx≠x->
 sp (.ref x::(vs++dvs)) (aQ (aQ H1 dx (.own x)) x (.ins C dx [])) (λv H2=>v=.non/\Q (.ref x) H2) E
noncomputable def jfb(K:W.Frag)(fd:FuncData)(ps:List Str)(ds:List Value):Prop:=
 ∀(s:Shared) (us:List Value),K.In s.heap->(us++ds).length=ps.length->BindsTo s fd ⟨us,[]⟩ (ps.zip (us++ds))
theorem jfb.all{K:W.Frag}(h:∀us:List Value,us.length=ps.length->bindArgs fd ⟨us,[]⟩=pure (ps.zip us)):jfb K fd ps []:=λs us _ hl=>by
 rw[zx]at hl ⊢;exact .of_eq (h us hl)
noncomputable def ja(CX:iE)(X:Cx)(E:XK):Prop:=∀(pins:List (Addr×Obj)) (σ:St) (H:Hp) (s:Shared) (e:Value) (s':Shared),Inv X pins σ H s->CX X.stack H s E e s'->X.xe e s'
section
variable {X : Cx} {CX : iE} {k : Nat} {f C : Addr} {fd : FuncData} {ps : List Str} {sp : Sp} {dvs : List V} {ds : List Value} {E : XK} {x m : Str} {p pos apos : Pos} {e o : Expr} {es : List Expr} {ta : TE} {t : TA}
theorem EL{σ:St}(F:FnOk X.prog X.w X.K X.mg X.base CX k f fd ps sp)(hr:Room k X.A)(hb:jfb X.K fd ps ds)(hd:Vals dvs ds)(hx:ja CX X E)
  (I:Inv X pins σ H s) (r:Vals vs us) (h:sp (vs++dvs) H Q E):wpAny (model X.prog X.w) X.A (call (.ref f) us) (EP X pins σ Q) X.xe s:=by
 have r2:Vals (vs++dvs) (us++ds):=r.append hd;have hl:(us++ds).length=ps.length:=by rw[<-r2.length];exact F.len _ _ _ _ h
 refine wpAny_call (codeAny_mono (F.run X.A X.stack s H ⟨us,[]⟩ (us++ds) (vs++dvs) Q E hr I.env0 (hb s us I.kIn hl) r2 h) λr s' hq=> ?_);cases r with
 | error e=>exact hx pins σ H s e s' I hq
 | ok fl=>
  cases fl with
  | ret u=>exact I.after hq
  | next=>exact False.elim hq
  | brk=>exact False.elim hq
  | cont=>exact False.elim hq
theorem NY(F:FnOk X.prog X.w X.K X.mg X.base CX k f fd ps sp)(hr:Room k X.A)(hg:Gl X x)(hm:X.mg x=some (.ref f))(hk:W.keepIn X.K (.ref f)=true)(hb:jfb X.K fd ps ds)(hd:Vals dvs ds)(hx:ja CX X E)
  (ha:PA X (e::es) t) (hdb:(x==("__debug__":Str))=false:=by decide) (he:starEach (e::es) X.env=(false,eval e X.env)::starEach es X.env:=by rfl) (hpl:(backTo pos (starEach es X.env)).any (·.1)=false:=by rfl):
  PE X (.Call (.Name x p) (e::es) [] pos) (DX sp dvs E t):=by
 intro pins s σ H Q I h;refine wpAny_Call_Name_kw (q_ I hg hm ?_ hdb);refine W.callWith_K (h₀:=X.base) I.ok.mod.kin hk (bx (ha pos pins s σ H _ I h) λus s1 ⟨vs,H1,I1,r,q⟩=>⟨I1.kIn,?_⟩) he hpl;exact EL F hr hb hd hx I1 r q
structure Mk (K:W.Frag) (C f:Addr):Prop where
 makes:W.makesIn K C=true
 init:W.findIn K (.ref C) "__init__"=some (some (.ref f))
 fn:W.isFn K (.ref f)=true
 kp:W.keepIn K (.ref C)=true
theorem KL{σ:St}(M:Mk X.K C f)(F:FnOk X.prog X.w X.K X.mg X.base CX k f fd ps sp)(hr:Room (k+1) X.A)(hb:jfb X.K fd ps ds)(hd:Vals dvs ds)
  (hx:ja CX X E) (I:Inv X pins σ H s) (r:Vals vs us)
  (h:∀x dx,H x=none->H dx=none->dx≠x->sp (.ref x::(vs++dvs)) (aQ (aQ H dx (.own x)) x (.ins C dx [])) (λv H2=>v=.non/\Q (.ref x) H2) E):
  wpAny (model X.prog X.w) X.A (call (.ref C) us) (EP X pins σ Q) X.xe s:=by
 have hq:=h (s.heap.objs.size+1) s.heap.objs.size (I.hok.fresh (gf _)) (I.hok.fresh (qb _)) (qo (zy _));have I2:=Inv.made (C:=C) I;have r2:Vals (V.ref (s.heap.objs.size+1)::(vs++dvs)) (Value.ref (s.heap.objs.size+1)::(us++ds)):=.cons rfl (r.append hd);have hl:(Value.ref (s.heap.objs.size+1)::us++ds).length=ps.length:=by
  have e:=r2.length;rw[F.len _ _ _ _ hq]at e;exact e.symm
 refine wpAny_call (OD (f:=f) I.kIn M.makes M.init (beq_iff_eq.mp M.fn) (codeAny_mono (F.run _ X.stack _ _ ⟨Value.ref (s.heap.objs.size+1)::us,[]⟩ (Value.ref (s.heap.objs.size+1)::(us++ds)) _ _ E (hr.make C us [])
  (I2.env0.make C us []) (hb _ (Value.ref (s.heap.objs.size+1)::us) I2.kIn hl) r2 hq) λr s' hq'=> ?_))
 cases r with
 | error e=>exact hx pins σ _ _ e s' I2 hq'
 | ok fl=>
  cases fl with
  | ret u=>
   obtain⟨v,H',I3,rv,ev,q3⟩:=I2.after hq';subst ev;exact⟨rv,⟨V.ref (s.heap.objs.size+1),H',I3,rfl,q3⟩⟩
  | next=>exact False.elim hq'
  | brk=>exact False.elim hq'
  | cont=>exact False.elim hq'
theorem LH(M:Mk X.K C f)(F:FnOk X.prog X.w X.K X.mg X.base CX k f fd ps sp)(hr:Room (k+1) X.A)(hg:Gl X x)(hm:X.mg x=some (.ref C))(hb:jfb X.K fd ps ds)(hd:Vals dvs ds)(hx:ja CX X E)
  (ha:PA X (e::es) t) (hdb:(x==("__debug__":Str))=false:=by decide) (he:starEach (e::es) X.env=(false,eval e X.env)::starEach es X.env:=by rfl) (hpl:(backTo pos (starEach es X.env)).any (·.1)=false:=by rfl):
  PE X (.Call (.Name x p) (e::es) [] pos) (uk C sp dvs E t):=by
 intro pins s σ H Q I h;refine wpAny_Call_Name_kw (q_ I hg hm ?_ hdb);refine W.callWith_K (h₀:=X.base) I.ok.mod.kin M.kp (bx (ha pos pins s σ H _ I h) λus s1 ⟨vs,H1,I1,r,q⟩=>⟨I1.kIn,?_⟩) he hpl;exact KL M F hr hb hd hx I1 r q
theorem M4(M:Mk X.K C f)(F:FnOk X.prog X.w X.K X.mg X.base CX k f fd ps sp)(hr:Room (k+1) X.A)(hg:Gl X x)(hm:X.mg x=some (.ref C))(hb:jfb X.K fd ps ds)(hd:Vals dvs ds)(hx:ja CX X E)
  (hdb:(x==("__debug__":Str))=false:=by decide):PE X (.Call (.Name x p) [] [] pos) (uk C sp dvs E iJ):=by
 intro pins s σ H Q I h;refine wpAny_Call_Name_kw (q_ I hg hm ?_ hdb);exact W.callWith_K0 I.kIn M.kp (KL (us:=[]) M F hr hb hd hx I .nil h)
end
structure FnScope (N P:List Str) (sc:Scope):Prop where
 kind:sc.kind=.function
 co:sc.isCoroutine=false
 gen:sc.isGenerator=false
 nd:N.Nodup
 pre:N.take P.length=P
 par:∀x∈P,sc.names.lookup x=some .local\/sc.names.lookup x=some .cell
 nofree:∀y∈sc.names,y.2≠ .free
theorem H_{kindOf:Str->Option NameKind}:∀{binds:List (Str×Value)} {m:Str->Option Value},(∀v,(x,v)∉binds)->bindL kindOf binds m x=m x
  | [],_,_=>rfl
  | (n,v)::r,m,h=>by
    unfold bindL;rw[H_ λw hw=>h w (q9 _ hw)];split
    · have:x≠n:=by rintro rfl;exact h v qf
      simp[this]
    · rfl
theorem Jr{kindOf:Str->Option NameKind}:∀{binds:List (Str×Value)} {m:Str->Option Value},(∀v,(x,v)∉binds)->bindC kindOf binds m x=m x
  | [],_,_=>rfl
  | (n,v)::r,m,h=>by
    unfold bindC;rw[Jr λw hw=>h w (q9 _ hw)];split
    · rfl
    · have:x≠n:=by rintro rfl;exact h v qf
      simp[this]
theorem Iv{kindOf:Str->Option NameKind}{x:Str}{v:Value}:∀{P:List Str} {vs:List Value} {i:Nat} {m:Str->Option Value},P.Nodup->P[i]?=some x->vs[i]?=some v->kindOf x=some .local->
  bindL kindOf (P.zip vs) m x=some v
 | [],_,_,_,_,h,_,_=>by simp at h
 | _::_,[],_,_,_,_,h,_=>by simp at h
 | p::P,w::vs,0,m,nd,h1,h2,hk=>by
  simp at h1 h2;subst h1;subst h2;show bindL kindOf ((p,w)::P.zip vs) m p=_;unfold bindL;rw[H_ λv hv=>(wu.mp nd).1 (gp hv).1,if_pos hk];simp
 | p::P,w::vs,i+1,m,nd,h1,h2,hk=>by
  show bindL kindOf ((p,w)::P.zip vs) m x=_;unfold bindL;exact Iv (i:=i) (wu.mp nd).2 (by simpa using h1) (by simpa using h2) hk
theorem Jj{kindOf:Str->Option NameKind}{x:Str}{v:Value}:∀{P:List Str} {vs:List Value} {i:Nat} {m:Str->Option Value},P.Nodup->P[i]?=some x->vs[i]?=some v->kindOf x≠some .local->
  bindC kindOf (P.zip vs) m x=some v
 | [],_,_,_,_,h,_,_=>by simp at h
 | _::_,[],_,_,_,_,h,_=>by simp at h
 | p::P,w::vs,0,m,nd,h1,h2,hk=>by
  simp at h1 h2;subst h1;subst h2;show bindC kindOf ((p,w)::P.zip vs) m p=_;unfold bindC;rw[Jr λv hv=>(wu.mp nd).1 (gp hv).1,if_neg hk];simp
 | p::P,w::vs,i+1,m,nd,h1,h2,hk=>by
  show bindC kindOf ((p,w)::P.zip vs) m x=_;unfold bindC;exact Jj (i:=i) (wu.mp nd).2 (by simpa using h1) (by simpa using h2) hk
noncomputable def start(N:List Str)(vs:List V):St:=vs.map some++List.replicate (N.length - vs.length) none
noncomputable def bD(CX:iE)(P:Program)(w:World)(K:W.Frag)(mg:Str->Option Value)(base:Heap)(N:List Str)(qual:Str)(scope:Scope)(f:Addr)(cd:Value)(A:Around)(outer:List Env)(s:Shared)(H:Hp)(E:XK):Cx where
 prog:=P
 w:=w
 K:=K
 mg:=mg
 base:=base
 A:=A.deeper (envOfC qual scope s.heap.objs.size f cd)
 N:=N
 s₀:=s
 H₀:=H
 env:=envOfC qual scope s.heap.objs.size f cd
 outer:=outer
 stack:=envOfC qual scope s.heap.objs.size f cd::outer
 ex:=[]
 calm:=true
 fn:=λ_=>true
 pn:=[]
 xe:=λe s'=>wpAny (model P w) (A.deeper (envOfC qual scope s.heap.objs.size f cd)) (leaving (envOfC qual scope s.heap.objs.size f cd) e) (λ_ s''=>CX outer H s E e s'') (λe' s''=>CX outer H s E e' s'') s'
theorem JT{sc:Scope}(h:sc.names.lookup x=some .cell):∃c,(cellsFrom n sc.names []).lookup x=some c:=by
 have q:=W.cellsFrom_some sc.names n [] (.inl h);exact w5.mp q
theorem LY{K:W.Frag}{mg:Str->Option Value}
  (S:FnScope N ps scope) (hd:A.handled=none) (e0:Env0 P w K mg base A outer s H) (hl:vs.length=ps.length) (r:Vals vs us)
  (x:InCallC s s.heap.objs.size (bindL (envOfC qual scope s.heap.objs.size f cd).kindOf (ps.zip us) λ_=>none) (cellsFrom (s.heap.objs.size+1) scope.names []) (bindC (envOfC qual scope s.heap.objs.size f cd).kindOf (ps.zip us) λ_=>none) s1):
  Inv (bD CX P w K mg base N qual scope f cd A outer s H E) [] (start N vs) H s1:=by
 have hpl:ps.length<=N.length:=by have:=congrArg List.length S.pre;rw[k7]at this;omega
 obtain⟨h1,tk,rfl,hk⟩:=x.done;have noA:∀b:Addr,b∉(bD CX P w K mg base N qual scope f cd A outer s H E).ex:=λb z=>absurd (show b∈([]:List Addr)from z) (by simp);refine⟨⟨e0.mod,S.kind,rfl,rfl,qb _,λy z c h1 h2=> ?_,λy hy=> ?_,λy c _ h=> ?_,λ_=>hd,Around.frames_deeper e0.frames,.inr ⟨rfl,rfl⟩,λb z=>absurd z (noA b),e0.bs,e0.bsz,λb _ _=>noA b,λb z=>absurd z (noA b),e0.funs,e0.frf⟩,
  rfl,e0.bare,Un.kept hk,⟨_,x.toInCall.ns,λi y v h1 h2 h3=> ?_⟩,λy c h=>⟨_,x.cell y c h⟩,e0.hok.fresh (qb _),λy c h=> ?_,λp hp=>absurd (show p∈([]:List (Addr×Obj))from hp) (by simp),e0.hok.kept hk,?_⟩
 ·exact name_of_addr x.apart (PySem.mem_of_lookup h1) (PySem.mem_of_lookup h2)
 ·have hy:scope.names.lookup y=some .cell\/scope.names.lookup y=some .free:=hy
  rcases hy with hy|hy
  ·exact JT hy
  ·exact absurd rfl (S.nofree _ (PySem.mem_of_lookup hy))
 ·exact Nat.le_of_lt (x.above y c (PySem.mem_of_lookup h))
 ·have hi:i<vs.length:=by
   unfold start at h2;by_cases hi:i<vs.length
   ·exact hi
   ·rw[zo (by simpa using hi)]at h2
    rw[wa]at h2;split at h2<;>cases h2
  have ha:vs[i]?=some v:=by
   unfold start at h2;rw[za (by simpa using hi),zb]at h2;cases e:vs[i]? with
   | none=>rw[e]at h2;cases h2
   | some a=>rw[e]at h2;cases h2;rfl
  obtain⟨u,hu,rv⟩:=r.get ha;have hp:ps[i]?=some y:=by
   rw[<-S.pre,ka (by omega)];exact h1
  have ndP:ps.Nodup:=by rw[<-S.pre];exact S.nd.sublist (List.take_sublist _ _)
  refine⟨u,rv,?_⟩;rcases S.par y (ql hp)with k|k
  ·exact .inl ⟨k,Iv ndP hp hu k⟩
  ·obtain⟨c,e⟩:=JT (n:=s.heap.objs.size+1) k
   refine .inr ⟨.inl k,c,e,?_⟩;have q:=x.cell y c e;rw[Jj ndP hp hu (by show scope.names.lookup y≠_;rw[k];decide)]at q;exact q
 ·exact e0.hok.fresh (Nat.le_of_lt (x.above y c (PySem.mem_of_lookup h)))
 ·unfold start
  show _=N.length;rw[zf,qi,kh];omega
theorem u6{K:W.Frag}{mg:Str->Option Value}{dV kV doc pm cdv ct oc:Value}
 (lk:K.lookup f=some ⟨oc,od,.func (W.fnOf name qual params body scope dV kV doc pm an cdv ct),osl⟩) (hcd:W.codeIn K cdv qual=true) (S:FnScope N ps scope)
  (len:∀vs H Q E,sp vs H Q E->vs.length=ps.length)
  (hbody:∀(A:Around) (outer:List Env) (s:Shared) (H:Hp) (vs:List V) (Q:VK) (E:XK),Room k (A.deeper (envOfC qual scope s.heap.objs.size f cdv))->sp vs H Q E->
   ∃t,PSs (bD CX P w K mg base N qual scope f cdv A outer s H E) body t/\t {nx:=λ_ H'=>Q .non H',rt:=Q} (start N vs) H):
  FnOk P w K mg base CX (k+1) f (W.fnOf name qual params body scope dV kV doc pm an cdv ct) ps sp:=by
 refine⟨len,λA outer s H args us vs Q E hr e0 hb r hsp=> ?_⟩;have hl:=len _ _ _ _ hsp;have KX:K.In s.heap:=e0.mod.kin.keeps λb o e=>(e0.bs b o e).1;have lim:s.heap.NoLimit:=e0.mod.nolimit.keeps λb o e=>(e0.bs b o e).1;have hkind:∀y∈ps.zip us,scope.names.lookup y.1=some .local\/(scope.names.lookup y.1=some .cell/\((cellsFrom (s.heap.objs.size+1) scope.names []).lookup y.1).isSome=true):=λ⟨n,v⟩ hy=>by
  rcases S.par n (gp hy).1 with q|q
  ·exact .inl q
  ·exact .inr ⟨q,W.cellsFrom_some _ _ _ (.inl q)⟩
 refine codeAny_call_function hr.depth (KX _ _ lk) rfl S.co S.gen rfl (W.codeRec_of KX hcd) (hb _ _ _ _ ?_);refine wpAny_newFunctionEnv_cells S.kind hkind λenv he s1 x=> ?_;subst he;refine⟨lim.keeps x.toInCall.keep,codeAny_func ?_⟩;obtain⟨t,ht,hq⟩:=hbody A outer s H vs Q E (hr.deeper _) hsp;have I:Inv (bD CX P w K mg base N qual scope f cdv A outer s H E) [] (start N vs) H s1:=LY S hr.hd e0 hl r x;refine wpAny_mono (ht [] s1 (start N vs) H _ I hq) (λfl s' hs=> ?_) λe s' hs=>hs;have fin:∀{σ':St} {H':Hp} {v:V} {u:Value},Inv (bD CX P w K mg base N qual scope f cdv A outer s H E) [] σ' H' s'->RelV v u->Q v H'->CE outer P w H s Q u s':=
  fun{σ' H' v u} J rv q=>⟨v,H',J.os,J.bare,J.base,J.hok,rv,q⟩
 cases fl with
 | ret u=>
  obtain⟨v,σ',H',J,rv,q⟩:=hs;exact fin J rv q
 | next=>
  obtain⟨σ',H',J,q⟩:=hs;exact fin (v:=V.non) (u:=Value.none) J rfl q
 | brk=>
  obtain⟨_,_,_,q⟩:=hs;exact False.elim q
 | cont=>
  obtain⟨_,_,_,q⟩:=hs;exact False.elim q
section
variable {X : Cx} {x : Str} {p pos : Pos} {e : Expr} {es : List Expr} {t : TA} {id T : String} {r : List V -> Hp -> VK -> Prop}
noncomputable def Di(r:List V->Hp->VK->Prop)(t:TA):TE:=λσ H Q=>t σ H λvs H1=>r vs H1 Q
theorem cG(hc:jcn X (.builtin id) r)(hg:Gl X x)(hm:X.mg x=none)(hv:bootBuiltins x=some (.builtin id))(ha:PA X (e::es) t)(hn:x≠"__name__":=by decide)(hdb:(x==("__debug__":Str))=false:=by decide)
  (he:starEach (e::es) X.env=(false,eval e X.env)::starEach es X.env:=by rfl) (hpl:(backTo pos (starEach es X.env)).any (·.1)=false:=by rfl):PE X (.Call (.Name x p) (e::es) [] pos) (Di r t):=by
 intro pins s σ H Q I h;refine wpAny_Call_Name_kw (uN I hg hm hv ?_ hn hdb);exact PyProof.Rows.callWith_builtin1 (bx (ha pos pins s σ H _ I h) λus s1 ⟨vs,H1,I1,r1,q1⟩=>hc pins s1 σ H1 vs us Q I1 r1 q1) he hpl
theorem iG(hc:jcn X (.type T) r)(hg:Gl X x)(hm:X.mg x=none)(hv:bootBuiltins x=some (.type T))(ha:PA X (e::es) t)(hn:x≠"__name__":=by decide)(hdb:(x==("__debug__":Str))=false:=by decide)
  (he:starEach (e::es) X.env=(false,eval e X.env)::starEach es X.env:=by rfl) (hpl:(backTo pos (starEach es X.env)).any (·.1)=false:=by rfl):PE X (.Call (.Name x p) (e::es) [] pos) (Di r t):=by
 intro pins s σ H Q I h;refine wpAny_Call_Name_kw (uN I hg hm hv ?_ hn hdb);exact PyProof.Rows.callWith_type1 (bx (ha pos pins s σ H _ I h) λus s1 ⟨vs,H1,I1,r1,q1⟩=>hc pins s1 σ H1 vs us Q I1 r1 q1) he hpl
end
end L2
namespace HT
open PySem PyProof.Rows
section
variable {prog : Program} {w : World} {A : Around} {E : Value -> Shared -> Prop} {s : Shared}
theorem Lu{Q:Value->Shared->Prop}(ht:IsTup s.heap t vs.toArray)(hb:IsTup s.heap b ws.toArray)(hv:vs≠[])
  (h1:ws=[]->Q (.ref t) s) (h2:ws≠[]->Q (.ref s.heap.objs.size) {s with heap:=s.heap.push {cls:=.type "tuple",data:=.seq (vs++ws).toArray}})
  (hsz:vs.length+ws.length<=sizeLine):wpAny (model prog w) A (binaryOp .Add (.ref t) (.ref b)) Q E s:=by
 obtain⟨⟨cls,dd,data,sl⟩,ho,hc,n,hd⟩:=id ht;obtain⟨⟨cls2,dd2,data2,sl2⟩,ho2,hc2,n2,hd2⟩:=id hb;simp only at hc hd hc2 hd2;subst hc hd hc2 hd2;have e:vs.toArray++ws.toArray=(vs++ws).toArray:=by simp
 by_cases hw:ws=[]
 ·exact concat_meets ⟨_,ho,rfl⟩ ⟨_,ho2,rfl⟩ noFill_tuple_add seq_tuple_add PySem.F.slot_tuple_add PySem.F.entry_tuple_add (PySem.F.args_tuple_add_2 _ _)
   (tuple_addW1 t b vs.toArray ws.toArray n n2 dd dd2 sl sl2 (by simpa using hv) (by simp[hw])) ⟨ho,ho2,h1 hw⟩
 ·refine concat_meets ⟨_,ho,rfl⟩ ⟨_,ho2,rfl⟩ noFill_tuple_add seq_tuple_add PySem.F.slot_tuple_add PySem.F.entry_tuple_add (PySem.F.args_tuple_add_2 _ _)
   (tuple_addW2 t b vs.toArray ws.toArray n n2 dd dd2 sl sl2 (by simpa using hv) (by simpa using hw) (by rw[qk,qk];exact hsz)) ⟨ho,ho2,?_⟩
  rw[e];exact h2 hw
noncomputable def bS(n d:Nat):Option Int->Nat
 | none=>d
 | some v=>if v<0 then(v+(n:Int)).toNat else min v.toNat n
theorem tS(n d:Nat)(hd:d<=n)(o:Option Int):bS n d o<=n:=by
 cases o with
 | none=>exact hd
 | some v=>
  show(if v<0 then(v+(n:Int)).toNat else min v.toNat n)<=n;by_cases hv:v<0
  ·rw[if_pos hv];omega
  ·rw[if_neg hv];exact Nat.min_le_right _ _
theorem HG(v:Int)(n d:Nat):(if v<0 then max (v+(n:Int)) 0 else min v (n:Int))=((bS n d (some v):Nat):Int):=by
 show(if v<0 then max (v+(n:Int)) 0 else min v (n:Int))=(((if v<0 then(v+(n:Int)).toNat else min v.toNat n):Nat):Int);by_cases hv:v<0
 ·simp only[if_pos hv];omega
 ·simp only[if_neg hv];omega
theorem MD(lo hi:Option Int)(n:Nat):Builtin.Slice.sliceAdjust lo hi 1 (n:Int)=(((bS n 0 lo:Nat):Int),((bS n n hi:Nat):Int)):=by
 have h1:¬((1:Int)<0):=by omega
 unfold Builtin.Slice.sliceAdjust;simp only[h1,if_false];refine Prod.ext ?_ ?_
 ·cases lo with
  | none=>rfl
  | some v=>exact HG v n 0
 ·cases hi with
  | none=>rfl
  | some v=>exact HG v n n
theorem P_(i j:Nat):Builtin.Slice.slicePlaces (i:Int) (j:Int) 1=j - i:=by
 unfold Builtin.Slice.slicePlaces;have h1:(1:Int)>0:=by omega
 simp only[h1,if_true,Int.ediv_one];split<;>omega
theorem J3{Q:Option Int->Shared->Prop}(p:IsPart v o)(h:Q o s):wpAny (model prog w) A (Builtin.Slice.slicePartIndex v) Q E s:=by
 cases p with
 | none=>exact slicePart_none h
 | int i t=>exact slicePart_int h
theorem PQ{lo hi:Option Int}{Q:Int×Int×Nat->Shared->Prop}(hs:s.heap.IsSliceOf sl vl vu .none)(pl:IsPart vl lo)(pu:IsPart vu hi)
  (h:Q (((bS n 0 lo:Nat):Int),1,bS n n hi - bS n 0 lo) s):wpAny (model prog w) A (Builtin.Slice.sliceApplied (.ref sl) (pure (n:Int))) Q E s:=by
 obtain⟨os,hos,hcs,hds⟩:=id hs;unfold Builtin.Slice.sliceApplied Builtin.Slice.sliceFields;refine wpAny_bind (wpAny_bind (wpAny_field hos hds (x:=vl) rfl (wpAny_bind (wpAny_field hos hds (x:=vu) rfl (wpAny_bind (wpAny_field hos hds (x:=.none) rfl (wpAny_pure ?_)))))));refine wpAny_bind (slicePart_none ?_);show wpAny _ _ (if((1:Int)==0)=true then _ else _) _ _ s;rw[if_neg (by decide)];refine wpAny_bind (J3 pl (wpAny_bind (J3 pu (wpAny_bind (wpAny_pure ?_)))));show wpAny _ _ (match Builtin.Slice.sliceAdjust lo hi 1 (n:Int)with|(lo,hi)=>pure (lo,(1:Int),Builtin.Slice.slicePlaces lo hi 1)) _ _ s;rw[MD lo hi n];show wpAny _ _ (pure (((bS n 0 lo:Nat):Int),(1:Int),Builtin.Slice.slicePlaces ((bS n 0 lo:Nat):Int) ((bS n n hi:Nat):Int) 1)) _ _ s;rw[P_];exact wpAny_pure h
theorem MU(xs:Array Value)(i k:Nat):((List.range k).filterMap λ(m:Nat)=>xs[((i:Int)+(m:Int)*1).toNat]?).toArray=((xs.toList.drop i).take k).toArray:=by
 have e:(λ(m:Nat)=>xs[((i:Int)+(m:Int)*1).toNat]?)=λm=>xs[i+m]?:=by
  funext m;have:((i:Int)+(m:Int)*1).toNat=i+m:=by omega
  rw[this]
 rw[e];have:=pick_run xs i k;rw[List.filterMap_map]at this;have e2:((λx=>xs[x]?)∘λx=>i+x)=λm=>xs[i+m]?:=rfl;rw[e2]at this;rw[this]
theorem Ln{lo hi:Option Int}{Q:Value->Shared->Prop}(ht:IsTup s.heap t items)(hs:s.heap.IsSliceOf sl vl vu .none)(pl:IsPart vl lo)(pu:IsPart vu hi)
  (hw:¬(bS items.size 0 lo=0/\bS items.size items.size hi=items.size))
  (h:Q (.ref s.heap.objs.size) {s with heap:=s.heap.push {cls:=.type "tuple",data:=.seq ((items.toList.drop (bS items.size 0 lo)).take (bS items.size items.size hi - bS items.size 0 lo)).toArray}})
  (hsz:items.size<=sizeLine):wpAny (model prog w) A (getItem (.ref t) (.ref sl)) Q E s:=by
 have htake:sizeOk (.seq ((items.toList.drop (bS items.size 0 lo)).take (bS items.size items.size hi - bS items.size 0 lo)).toArray):=by
  show((items.toList.drop (bS items.size 0 lo)).take (bS items.size items.size hi - bS items.size 0 lo)).toArray.size<=sizeLine;rw[qk,k7,gm,kz];omega
 have hj:bS items.size items.size hi<=items.size:=tS _ _ (qb _) hi;obtain⟨os,hos,hcs,hds⟩:=id hs;have hTs:s.TypeIs (.ref sl) "slice":=⟨os,hos,hcs⟩;unfold getItem
 try with_reducible refine wpAny_holding ?_
 first|refine wpAny_bind (wpAny_pure ?_)|skip
 refine wpAny_bind (wpAny_sequenceKey ht.typeIs (by decide) ?_);refine wpAny_bind (wpAny_callSpecial?_slot (name:=Str.ofString "__getitem__") ht.typeIs PyProof.Rows.slot_tuple_getitem
  (wpAny_call_entry PyProof.Rows.slot_tuple_getitem ht.typeIs entry_tuple_getitem ?_ (args_tuple_getitem _ _)))
 show wpAny _ _ (Builtin.Tuple.tupleItemsOf (.ref t) >>= _) _ _ s;refine wpAny_bind (tupleItemsOf_ ht ?_);refine wpAny_bind (wpAny_typeOf hTs ?_);rw[if_pos (by decide)];refine wpAny_bind (PQ hs pl pu ?_);have hno:¬((((bS items.size 0 lo:Nat):Int)==0&&(1:Int)==1&&(bS items.size items.size hi - bS items.size 0 lo)==items.size)=true):=by
  intro q;rw[qu,qu]at q;have q1:((bS items.size 0 lo:Nat):Int)=0:=eq_of_beq q.1.1;have q2:bS items.size items.size hi - bS items.size 0 lo=items.size:=eq_of_beq q.2;exact hw ⟨by omega,by omega⟩
 show wpAny _ _ (if(((bS items.size 0 lo:Nat):Int)==0&&(1:Int)==1&&(bS items.size items.size hi - bS items.size 0 lo)==items.size)=true then _ else _) _ _ s;rw[if_neg hno,MU]
 first
  | exact wpAny_bind (m:=Builtin.Tuple.tupleExact _) (wpAny_newObj_type (wpAny_pure ⟨_,rfl,wpAny_pure h⟩) htake)
  | exact wpAny_bind (m:=Builtin.Tuple.tupleExact _) (wpAny_newObj_type (wpAny_bind (wpAny_pure (wpAny_pure ⟨_,rfl,wpAny_pure h⟩))) htake)
  | exact wpAny_bind (wpAny_bind (m:=Builtin.Tuple.tupleExact _) (wpAny_newObj_type (wpAny_pure (wpAny_pure ⟨_,rfl,wpAny_pure h⟩)) htake))
  | exact wpAny_bind (wpAny_bind (m:=Builtin.Tuple.tupleExact _) (wpAny_newObj_type (wpAny_pure ⟨_,rfl,wpAny_pure h⟩) htake))
end
end HT
namespace L2
open PySem PySem.Spec PyProof.Rows
noncomputable abbrev TO:=St->Hp->(Option Int->Hp->Prop)->Prop
noncomputable def PO(X:Cx)(e:Option Expr)(t:TO):Prop:=
 ∀(pins:List (Addr×Obj)) (s:Shared) (σ:St) (H:Hp) (Q:Option Int->Hp->Prop),Inv X pins σ H s->t σ H Q->
  wpAny (model X.prog X.w) X.A (evalPart e X.env) (λu s'=>∃o H',Inv X pins σ H' s'/\IsPart u o/\Q o H') X.xe s
noncomputable def HS:TO:=λ_ H Q=>Q none H
noncomputable def nE(t:TE):TO:=λσ H Q=>t σ H λx H1=>∃i,x=.int i/\Q (some i) H1
theorem NN:∀{us:List Value},Vals (ns.map V.int) us->IntsAre us ns:=by
 induction ns with
 | nil=>intro us r;rw[zw]at r;cases r;exact .nil
 | cons n ns ih=>
  intro us r;rw[List.map_cons]at r;cases r with
  | cons r1 r2=>
   obtain⟨t,e⟩:=r1;subst e;exact .cons n t (ih r2)
section
variable {X : Cx} {e : Expr} {te : TE} {lo hi : Option Expr} {tl th : TO} {pos p2 : Pos}
theorem jh:PO X none HS:=by
 intro pins s σ H Q I h;rw[evalPart_none];exact wpAny_pure ⟨none,H,I,.none,h⟩
theorem gZ(h:PE X e te):PO X (some e) (nE te):=by
 intro pins s σ H Q I hw;rw[evalPart_some];refine bx (h pins s σ H _ I hw) λu s1 ⟨x,H1,I1,r1,q1⟩=> ?_;obtain⟨i,rfl,q⟩:=q1;obtain⟨t,rfl⟩:=r1;exact⟨some i,H1,I1,.int i t,q⟩
noncomputable def SlR(X:Cx)(r:V->Option Int->Option Int->Hp->VK->Prop):Prop:=
 ∀(pins:List (Addr×Obj)) (s:Shared) (σ:St) (H:Hp) (x:V) (v vl vu:Value) (lo hi:Option Int) (sl:Addr) (Q:VK),Inv X pins σ H s->RelV x v->s.heap.IsSliceOf sl vl vu .none->IsPart vl lo->IsPart vu hi->r x lo hi H Q->
  ∃T id,typeLookup (.type T) "__getitem__"=pure (some (.builtin id))/\s.TypeIs v T/\wpAny (model X.prog X.w) X.A (getItem v (.ref sl)) (EP X pins σ Q) X.xe s
theorem SlR.or{r r':V->Option Int->Option Int->Hp->VK->Prop}(h:SlR X r)(h':SlR X r'):SlR X (λx lo hi H Q=>r x lo hi H Q\/r' x lo hi H Q):=by
 intro pins s σ H x v vl vu lo hi sl Q I rx hs pl pu q;rcases q with q|q
 ·exact h pins s σ H x v vl vu lo hi sl Q I rx hs pl pu q
 ·exact h' pins s σ H x v vl vu lo hi sl Q I rx hs pl pu q
noncomputable def IT(r:V->Option Int->Option Int->Hp->VK->Prop)(te:TE)(tl th:TO):TE:=λσ H Q=>te σ H λx H1=>tl σ H1 λl H2=>th σ H2 λu H3=>r x l u H3 Q
theorem kK{r:V->Option Int->Option Int->Hp->VK->Prop}(hr:SlR X r)(he:PE X e te)(hl:PO X lo tl)(hu:PO X hi th):PE X (.Subscript e (.Slice lo hi none p2) pos) (IT r te tl th):=by
 intro pins s σ H Q I h;refine Subscript_ (bx (he pins s σ H _ I h) λv s1 ⟨x,H1,I1,r1,q1⟩=> ?_);refine wpAny_Slice (bx (hl pins s1 σ H1 _ I1 q1) λvl s2 ⟨l,H2,I2,pl,q2⟩=>bx (hu pins s2 σ H2 _ I2 q2) λvu s3 ⟨u,H3,I3,pu,q3⟩=> ?_);rw[evalPart_none];refine wpAny_pure ?_;have I4:Inv X pins σ H3 {s3 with heap:=s3.heap.push {cls:=.type "slice",data:=.fields #[vl,vu,.none]}}:=I3.kept (t':=s3.toks) λb ob q=>qa _ q;obtain⟨T,id,hT,ht,hg⟩:=hr pins {s3 with heap:=s3.heap.push {cls:=.type "slice",data:=.fields #[vl,vu,.none]}} σ H3 x v vl vu l u s3.heap.objs.size Q I4 r1 (Heap.IsSliceOf.new ..) pl pu q3;show wpAny (model X.prog X.w) X.A (subscriptTail e (.Slice lo hi none p2) v (.ref s3.heap.objs.size)) (EP X pins σ Q) X.xe {s3 with heap:=s3.heap.push {cls:=.type "slice",data:=.fields #[vl,vu,.none]}};exact tail_any (ops:=[.ref s3.heap.objs.size,v]) ht hT hg (by with_unfolding_all rfl)
noncomputable def fY(xs:List V)(lo hi:Option Int):List V:=(xs.drop (HT.bS xs.length 0 lo)).take (HT.bS xs.length xs.length hi - HT.bS xs.length 0 lo)
theorem Ij(xs:List V)(lo hi:Option Int):(fY xs lo hi).length<=xs.length:=by
 unfold fY;rw[k7,gm];omega
noncomputable def xo(K:W.Frag):V->Option Int->Option Int->Hp->VK->Prop:=λx lo hi H Q=>∃a xs,x=.ref a/\SqT K H a xs/\
 ¬(HT.bS xs.length 0 lo=0/\HT.bS xs.length xs.length hi=xs.length)/\∀p,H p=none->Q (.ref p) (aQ H p (.tup (fY xs lo hi)))
theorem qJ:SlR X (xo X.K):=by
 intro pins s σ H x v vl vu lo hi sl Q I rx hs pl pu h;obtain⟨a,xs,rfl,hx,hw,q⟩:=h;cases rx;obtain⟨its,r,ht,hz⟩:=I.tuple hx;have hlen:its.toArray.size=xs.length:=by rw[qk];exact r.length.symm
 refine⟨"tuple",_,PyProof.Rows.slot_tuple_getitem.lookup,ht.typeIs,?_⟩;refine HT.Ln ht hs pl pu (by rw[hlen];exact hw) ?_ (by rw[hlen];exact hz);rw[hlen];refine⟨.ref s.heap.objs.size,_,I.laid (t':=s.toks) (o:=.tup (fY xs lo hi)) (λb ob q=>qa _ q) (qb _) ?_,rfl,q _ (I.hok.fresh (qb _))⟩;exact⟨zd (Ij xs lo hi) hz,_,(r.drop (HT.bS xs.length 0 lo)).take (HT.bS xs.length xs.length hi - HT.bS xs.length 0 lo),IsTup.new _ _⟩
noncomputable def oC(K:W.Frag):R2:=λx y H Q=>∃a b xs ys,x=.ref a/\y=.ref b/\SqT K H a xs/\SqT K H b ys/\xs≠[]/\xs.length+ys.length<=sizeLine/\
 (ys=[]->Q (.ref a) H)/\(ys≠[]->∀p,H p=none->Q (.ref p) (aQ H p (.tup (xs++ys))))
theorem Vals.nil_iff(r:Vals xs us):us=[]↔xs=[]:=by
 cases r with
 | nil=>simp
 | cons _ _=>simp
theorem Ls:cw X (binaryOp .Add) (oC X.K):=by
 intro pins s σ H x y v u Q I rx ry h;obtain⟨a,b,xs,ys,rfl,rfl,ha,hb,hx,hz,q1,q2⟩:=h;cases rx;cases ry;obtain⟨its,r1,p1,_⟩:=I.tuple ha;obtain⟨its2,r2,p2,_⟩:=I.tuple hb;refine HT.Lu p1 p2 (λz=>hx (r1.nil_iff.mp z)) (λz=>⟨.ref a,H,I,rfl,q1 (r2.nil_iff.mp z)⟩) (λz=> ?_) (by rw[<-r1.length,<-r2.length];exact hz);refine⟨.ref s.heap.objs.size,_,I.laid (t':=s.toks) (o:=.tup (xs++ys)) (λb ob q=>qa _ q) (qb _) ?_,rfl,q2 (λw=>z (r2.nil_iff.mpr w)) _ (I.hok.fresh (qb _))⟩;exact⟨by rw[zf];exact hz,_,r1.append r2,IsTup.new _ _⟩
end
noncomputable def g_(n:Nat)(i:Int):Option Nat:=if 0<=i then(if i<n then some i.toNat else none)else if -(n:Int)<=i then some (i+n).toNat else none
noncomputable def cZ{α:Type}(xs:List α)(i:Int):Option α:=(g_ xs.length i).bind λj=>xs[j]?
theorem OL(h:g_ n i=some j):seqIndex? i n=some j/\j<n/\ -(n:Int)<=i/\i<n:=by
 unfold g_ at h;by_cases h0:0<=i
 ·rw[if_pos h0]at h
  by_cases h1:i<n
  ·rw[if_pos h1]at h
   have e:i.toNat=j:=Option.some.inj h;exact⟨by rw[seqIndex_of h0 h1,e],by omega,by omega,h1⟩
  ·rw[if_neg h1]at h;cases h
 ·rw[if_neg h0]at h
  by_cases h1: -(n:Int)<=i
  ·rw[if_pos h1]at h
   have e:(i+n).toNat=j:=Option.some.inj h;exact⟨by rw[seqIndex_neg (by omega) h1,e],by omega,h1,by omega⟩
  ·rw[if_neg h1]at h;cases h
theorem G2{α:Type}{xs:List α}{v:α}(h:cZ xs i=some v):∃j,seqIndex? i xs.length=some j/\xs[j]?=some v/\j<xs.length/\ -(xs.length:Int)<=i/\i<xs.length:=by
 unfold cZ at h;cases e:g_ xs.length i with
 | none=>rw[e]at h;cases h
 | some j=>
  rw[e]at h;obtain⟨h1,h2,h3,h4⟩:=OL e;exact⟨j,h1,h,h2,h3,h4⟩
noncomputable def HD(b:Expr):Prop:=∀o i,subscripted b false o i=operate [o,i] (getItem o i)
noncomputable def IxR(X:Cx)(r:R2):Prop:=
 ∀(value slice:Expr) (pins:List (Addr×Obj)) (s:Shared) (σ:St) (H:Hp) (x y:V) (v u:Value) (Q:VK),Inv X pins σ H s->RelV x v->RelV y u->r x y H Q->
  subscripted slice false v u=operate [v,u] (getItem v u)->wpAny (model X.prog X.w) X.A (subscriptTail value slice v u) (EP X pins σ Q) X.xe s
noncomputable def qM(X:Cx)(id:String)(r:V->List V->Hp->VK->Prop):Prop:=
 ∀(pins:List (Addr×Obj)) (s:Shared) (σ:St) (H:Hp) (x:V) (xs:List V) (v:Value) (us:List Value) (Q:VK),Inv X pins σ H s->RelV x v->Vals xs us->r x xs H Q->
  wpAny (model X.prog X.w) X.A (call (.builtin id) (v::us)) (EP X pins σ Q) X.xe s
section
variable {X : Cx} {a b : Expr} {ta tb : TE} {pos : Pos}
theorem IxR.or(h:IxR X r)(h':IxR X r'):IxR X (λx y H Q=>r x y H Q\/r' x y H Q):=by
 intro value slice pins s σ H x y v u Q I rx ry q hs;rcases q with q|q
 ·exact h value slice pins s σ H x y v u Q I rx ry q hs
 ·exact h' value slice pins s σ H x y v u Q I rx ry q hs
theorem AG(hr:IxR X r)(ha:PE X a ta)(hb:PE X b tb)(hs:HD b):PE X (.Subscript a b pos) (ou r ta tb):=by
 intro pins s σ H Q I h;exact Subscript_ (pI ha hb I h λv u s2 x y H2 I2 rx ry q=>hr a b pins s2 σ H2 x y v u Q I2 rx ry q (hs _ _))
noncomputable def zP(K:W.Frag):R2:=λx y H Q=>∃p xs i v,x=.ref p/\y=.int i/\SqL K H p xs/\cZ xs i=some v/\Q v H
noncomputable def yF(K:W.Frag):R2:=λx y H Q=>∃p xs i v,x=.ref p/\y=.int i/\SqT K H p xs/\cZ xs i=some v/\Q v H
noncomputable def B6:R2:=λx y H Q=>∃z i c,x=.str z/\y=.int i/\z.length<=sizeLine/\cZ z.cps.toList i=some c/\Q (.str ⟨#[c]⟩) H
theorem Ow:IxR X (zP X.K):=by
 intro value slice pins s σ H x y v u Q I rx ry h hs;obtain⟨p,xs,i,z,rfl,rfl,hq,he,q⟩:=h;cases rx;obtain⟨t,rfl⟩:=ry;obtain⟨its,r,pl,hz⟩:=I.list hq;obtain⟨j,h1,h2,h3,h4,h5⟩:=G2 he;obtain⟨w,ew,rw'⟩:=r.get h2;have hl:=r.length;have hn:=uh;have fin:EP X pins σ Q w s:=⟨z,H,I,rw',q⟩;by_cases h0:0<=i
 ·have hj:i.toNat=j:=by
   rw[seqIndex_of h0 h5]at h1;exact Option.some.inj h1
  exact item_listR pl.isList h0 (by omega) (by rw[hj];simpa using ew) fin hs
 ·have hj:(i+(its.toArray.size:Int)).toNat=j:=by
   rw[seqIndex_neg (by omega) h4]at h1;rw[qk,<-hl];exact Option.some.inj h1
  exact subscriptTail_builtinR (x:=w) pl.isList.typeIs slot_list_getitem.lookup
   (wpAny_getItem_list_neg (Q:=λr s'=>r=w/\EP X pins σ Q r s') pl.isList (by omega) (by rw[qk]<;>omega) (by omega) (by rw[hj];simpa using ew) ⟨rfl,fin⟩) hs
theorem rX:IxR X (yF X.K):=by
 intro value slice pins s σ H x y v u Q I rx ry h hs;obtain⟨p,xs,i,z,rfl,rfl,hq,he,q⟩:=h;cases rx;obtain⟨t,rfl⟩:=ry;obtain⟨its,r,pl,hz⟩:=I.tuple hq;obtain⟨j,h1,h2,h3,h4,h5⟩:=G2 he;obtain⟨w,ew,rw'⟩:=r.get h2;have hl:=r.length;have hn:=uh;have fin:EP X pins σ Q w s:=⟨z,H,I,rw',q⟩;exact subscriptTail_builtinR (x:=w) pl.typeIs slot_tuple_getitem.lookup
  (getItem_tuple (j:=j) (Q:=λr s'=>r=w/\EP X pins σ Q r s') pl (by omega) (by omega) (by rw[qk,<-hl];exact h1) (by simpa using ew) ⟨rfl,fin⟩) hs
theorem tG:IxR X B6:=by
 intro value slice pins s σ H x y v u Q I rx ry h hs;obtain⟨z,i,c,rfl,rfl,hz,he,q⟩:=h;obtain⟨t,rfl⟩:=rx;obtain⟨t',rfl⟩:=ry;obtain⟨j,h1,h2,h3,h4,h5⟩:=G2 he;have hl:z.cps.toList.length=z.length:=by simp[Str.length]
 rw[hl]at h1 h4 h5;have hn:=uh;exact tail_any (typeIs_str s z t) slot_str_getitem.lookup (getItem_str (c:=c) (by
  have e1:decide (i< -(2^63:Int))=false:=decide_eq_false (by omega);have e2:decide (i>=2^63)=false:=decide_eq_false (by omega);rw[e1,e2,Bool.or_false]) (by rw[h1];simpa using h2) ⟨.str ⟨#[c]⟩,H,I.tok _,⟨_,rfl⟩,q⟩) hs
noncomputable def Kj(K:W.Frag):R2:=λx y H Q=>zP K x y H Q\/yF K x y H Q\/B6 x y H Q
theorem pC:IxR X (Kj X.K):=Ow.or (rX.or tG)
theorem LR(lo hi:Option Int)(n:Nat):(sliceBounds lo hi none n).1=((HT.bS n 0 lo:Nat):Int)/\(sliceBounds lo hi none n).2.1=((HT.bS n n hi:Nat):Int)/\(sliceBounds lo hi none n).2.2=1:=by
 refine⟨?_,?_,rfl⟩
 ·cases lo with
  | none=>simp[sliceBounds,HT.bS]
  | some i=>
   simp only[sliceBounds,HT.bS,Option.getD_none,show(1:Int)>0 by decide,if_true];by_cases h:i<0
   ·simp only[h,if_true]<;>omega
   ·simp only[h,if_false]<;>omega
 ·cases hi with
  | none=>simp[sliceBounds,HT.bS]
  | some i=>
   simp only[sliceBounds,HT.bS,Option.getD_none,show(1:Int)>0 by decide,if_true];by_cases h:i<0
   ·simp only[h,if_true]<;>omega
   ·simp only[h,if_false]<;>omega
theorem L9(its:List Value)(lo hi:Option Int):slicePick its.toArray lo hi none=((its.drop (HT.bS its.length 0 lo)).take (HT.bS its.length its.length hi - HT.bS its.length 0 lo)).toArray:=by
 obtain⟨h1,h2,h3⟩:=LR lo hi its.toArray.size;unfold slicePick;rw[h1,h2,h3];simp only[sliceRange_one,pick_run,qk]<;>rfl
noncomputable def AQ(K:W.Frag):V->Option Int->Option Int->Hp->VK->Prop:=λx lo hi H Q=>∃a xs,x=.ref a/\SqL K H a xs/\∀p,H p=none->Q (.ref p) (aQ H p (.lst (fY xs lo hi)))
theorem N9:SlR X (AQ X.K):=by
 intro pins s σ H x v vl vu lo hi sl Q I rx hs pl pu h;obtain⟨a,xs,rfl,hx,q⟩:=h;cases rx;obtain⟨its,r,ht,hz⟩:=I.list hx;have hlen:=r.length;refine⟨"list",_,slot_list_getitem.lookup,ht.isList.typeIs,?_⟩;refine wpAny_getItem_list_slice ht.isList hs pl pu .none (by simp) ?_ (by rw[qk]<;>omega);rw[L9,<-hlen];refine⟨.ref s.heap.objs.size,_,I.laid (t':=s.toks) (o:=.lst (fY xs lo hi)) (λb ob q=>qa _ q) (qb _) ?_,rfl,q _ (I.hok.fresh (qb _))⟩;exact⟨zd (Ij xs lo hi) hz,_,0,(r.drop (HT.bS xs.length 0 lo)).take (HT.bS xs.length xs.length hi - HT.bS xs.length 0 lo),qw _ rfl⟩
noncomputable def kU:V->Bool
 | .non=>true
 | .bl _=>true
 | .int _=>true
 | .str _=>true
 | _=>false
noncomputable def kQ:V->V->Bool
 | .non,.non=>true
 | .bl a,.bl b=>a==b
 | .bl a,.int b=>(if a then 1 else 0)==b
 | .int a,.bl b=>a==(if b then 1 else 0)
 | .int a,.int b=>a==b
 | .str a,.str b=>a==b
 | _,_=>false
theorem tP(ry:RelV y u)(rx:RelV x v)(fy:kU y=true)(fx:kU x=true):SeqAt.EqAt A s u v (kQ y x):=by
 cases y with
 | non=>
  cases ry
  cases x with
  | non=>cases rx;exact SeqAt.EqAt.same _
  | bl b=>cases rx;exact SeqAt.EqAt.none_bool b
  | int b=>obtain⟨t,rfl⟩:=rx;exact SeqAt.EqAt.none_int b t
  | str b=>obtain⟨t,rfl⟩:=rx;exact SeqAt.EqAt.none_str b t
  | _=>exact absurd (show false=true from fx) qq
 | bl a=>
  cases ry
  cases x with
  | non=>cases rx;exact SeqAt.EqAt.bool_none a
  | bl b=>cases rx;exact SeqAt.EqAt.bool_bool a b
  | int b=>obtain⟨t,rfl⟩:=rx;exact SeqAt.EqAt.bool_int a b t
  | str b=>obtain⟨t,rfl⟩:=rx;exact SeqAt.EqAt.bool_str a b t
  | _=>exact absurd (show false=true from fx) qq
 | int a=>
  obtain⟨t',rfl⟩:=ry;cases x with
  | non=>cases rx;exact SeqAt.EqAt.int_none a t'
  | bl b=>cases rx;exact SeqAt.EqAt.int_bool a t' b
  | int b=>obtain⟨t,rfl⟩:=rx;exact SeqAt.EqAt.int_int a t' b t
  | str b=>obtain⟨t,rfl⟩:=rx;exact SeqAt.EqAt.int_str a t' b t
  | _=>exact absurd (show false=true from fx) qq
 | str a=>
  obtain⟨t',rfl⟩:=ry;cases x with
  | non=>cases rx;exact SeqAt.EqAt.str_none a t'
  | bl b=>cases rx;exact SeqAt.EqAt.str_bool a t' b
  | int b=>obtain⟨t,rfl⟩:=rx;exact SeqAt.EqAt.str_int a t' b t
  | str b=>obtain⟨t,rfl⟩:=rx;exact SeqAt.EqAt.str_str a t' b t
  | _=>exact absurd (show false=true from fx) qq
 | _=>exact absurd (show false=true from fy) qq
noncomputable def gU(x:V)(u:Value):Bool:=match u with
 | .none=>kQ .non x
 | .bool b=>kQ (.bl b) x
 | .int i _=>kQ (.int i) x
 | .str z _=>kQ (.str z) x
 | _=>false
theorem J9(r:RelV y u)(f:kU y=true):gU x u=kQ y x:=by
 cases y with
 | non=>cases r;rfl
 | bl b=>cases r;rfl
 | int i=>obtain⟨t,rfl⟩:=r;rfl
 | str z=>obtain⟨t,rfl⟩:=r;rfl
 | _=>exact absurd (show false=true from f) qq
theorem wK{x:V}:∀{xs:List V} {us:List Value},Vals xs us->xs.all kU=true->us.any (gU x)=xs.any λy=>kQ y x
 | _,_,.nil,_=>rfl
 | y::xs,u::us,.cons r t,f=>by
  rw[wk,qu]at f;rw[w6,w6,J9 r f.1,wK t f.2]
theorem zG{A:Around}{s:Shared}{x:V}{v:Value}(rx:RelV x v)(fx:kU x=true):∀{xs:List V} {us:List Value},Vals xs us->xs.all kU=true->∀u∈us,SeqAt.EqAt A s u v (gU x u)
 | _,_,.nil,_=>λu hu=>by cases hu
 | y::xs,u::us,.cons r t,f=>λu' hu=>by
  rw[wk,qu]at f;rcases qr.mp hu with rfl|hu
  ·rw[J9 r f.1];exact tP r rx f.1 fx
  ·exact zG rx fx t f.2 u' hu
noncomputable def Hn(x:V)(xs:List V):Bool:=xs.any λy=>kQ y x
noncomputable def Ge(K:W.Frag)(neg:Bool):R2:=λx y H Q=>∃p xs,y=.ref p/\(SqL K H p xs\/SqT K H p xs)/\kU x=true/\xs.all kU=true/\Q (.bl (if neg then !Hn x xs else Hn x xs)) H
theorem O3:cw X (compareOp .In) (Ge X.K false):=by
 intro pins s σ H x y v u Q I rx ry h;obtain⟨p,xs,rfl,hq,fx,fs,q⟩:=h;cases ry;rcases hq with hq|hq
 ·obtain⟨its,r,pl,hz⟩:=I.list hq
  refine SeqAt.in_listAt (gU x) pl.isList (λw hw=>zG rx fx r fs w (by simpa using hw)) ⟨.bl _,H,I,rfl,?_⟩;rw[show its.toArray.any (gU x)=its.any (gU x) by simp,wK r fs];exact q
 ·obtain⟨its,r,pl,hz⟩:=I.tuple hq
  refine SeqAt.in_tupleAt (gU x) pl (λw hw=>zG rx fx r fs w (by simpa using hw)) ⟨.bl _,H,I,rfl,?_⟩;rw[show its.toArray.any (gU x)=its.any (gU x) by simp,wK r fs];exact q
theorem LX:cw X (compareOp .NotIn) (Ge X.K true):=by
 intro pins s σ H x y v u Q I rx ry h;obtain⟨p,xs,rfl,hq,fx,fs,q⟩:=h;cases ry;rcases hq with hq|hq
 ·obtain⟨its,r,pl,hz⟩:=I.list hq
  refine SeqAt.notIn_listAt (gU x) pl.isList (λw hw=>zG rx fx r fs w (by simpa using hw)) ⟨.bl _,H,I,rfl,?_⟩;rw[show its.toArray.any (gU x)=its.any (gU x) by simp,wK r fs];exact q
 ·obtain⟨its,r,pl,hz⟩:=I.tuple hq
  refine SeqAt.notIn_tupleAt (gU x) pl (λw hw=>zG rx fx r fs w (by simpa using hw)) ⟨.bl _,H,I,rfl,?_⟩;rw[show its.toArray.any (gU x)=its.any (gU x) by simp,wK r fs];exact q
theorem LV:cw X (compareOp .NotIn) (λx y H Q=>∃i j,x=.str i/\y=.str j/\Q (.bl (!(!(Builtin.Str.occurrences j i 0 j.length 1).isEmpty))) H):=by
 intro pins s σ H x y v u Q I rx ry h;obtain⟨i,j,rfl,rfl,q⟩:=h;obtain⟨t,rfl⟩:=rx;obtain⟨t',rfl⟩:=ry;exact notIn_str ⟨.bl _,H,I,rfl,q⟩
theorem Pz:jcn X (.builtin "len") (λxs H Q=>∃p ys,xs=[.ref p]/\(SqL X.K H p ys\/SqT X.K H p ys)/\Q (.int ys.length) H):=by
 intro pins s σ H xs us Q I r h;obtain⟨p,ys,rfl,hq,q⟩:=h;obtain⟨u,rfl,rx⟩:=iq r;cases rx;have hn:=uh;rcases hq with hq|hq
 ·obtain⟨its,r',pl,hz⟩:=I.list hq
  have hlen:=r'.length;exact Calls.call_len_list pl.isList (by simp only[qk]<;>omega) ⟨.int ys.length,H,I.tok _,⟨s.toks+1,by rw[qk,hlen]⟩,q⟩
 ·obtain⟨its,r',pl,hz⟩:=I.tuple hq
  have hlen:=r'.length;exact len_tuple pl (by simp only[qk]<;>omega) ⟨.int ys.length,H,I.tok _,⟨s.toks+1,by rw[qk,hlen]⟩,q⟩
theorem O4:jcn X (.builtin "len") (λxs H Q=>∃z,xs=[.str z]/\z.length<=sizeLine/\Q (.int z.length) H):=by
 intro pins s σ H xs us Q I r h;obtain⟨z,rfl,hz,q⟩:=h;obtain⟨u,rfl,t,rfl⟩:=iq r;have hn:=uh;exact len_str (by omega) ⟨.int z.length,H,I.tok _,⟨_,rfl⟩,q⟩
theorem jcn.or{r r':List V->Hp->VK->Prop}(h:jcn X f r)(h':jcn X f r'):jcn X f (λxs H Q=>r xs H Q\/r' xs H Q):=by
 intro pins s σ H xs us Q I rs q;rcases q with q|q
 ·exact h pins s σ H xs us Q I rs q
 ·exact h' pins s σ H xs us Q I rs q
theorem Oc:jcn X (.type "list") (λxs H Q=>∃p ys,xs=[.ref p]/\(SqL X.K H p ys\/SqT X.K H p ys)/\∀l,H l=none->Q (.ref l) (aQ H l (.lst ys))):=by
 intro pins s σ H xs us Q I r h;obtain⟨p,ys,rfl,hq,q⟩:=h;obtain⟨u,rfl,rx⟩:=iq r;cases rx;have fin:∀(its:List Value),Vals ys its->ys.length<=sizeLine->∀(h':Heap) (c':Nat),(∀b o',s.heap.get? b=some o'->h'.get? b=some o')->
   h'.get? s.heap.objs.size=some {cls:=.type "list",dict:=none,data:=.seq its.toArray c',slots:=#[]}->EP X pins σ Q (.ref s.heap.objs.size) {s with heap:=h'}:=λits r' hz h' c' kp e=>
  ⟨.ref s.heap.objs.size,_,I.laid (t':=s.toks) kp (qb _) (show jcq X.prog X.w _ h' _ (.lst ys)from⟨hz,its,c',r',e⟩),rfl,q _ (I.hok.fresh (qb _))⟩
 rcases hq with hq|hq
 ·obtain⟨its,r',pl,hz⟩:=I.list hq
  have hlen:=r'.length;obtain⟨o,ho,hc,n,hd⟩:=pl.isList;exact call_list_seq p (.inl rfl) ho hc hd (λh' c' kp e=>fin its r' hz h' c' kp e) (by simp only[qk]<;>omega)
 ·obtain⟨its,r',pl,hz⟩:=I.tuple hq
  have hlen:=r'.length;obtain⟨o,ho,hc,n,hd⟩:=pl;exact call_list_seq p (.inr rfl) ho hc hd (λh' c' kp e=>fin its r' hz h' c' kp e) (by simp only[qk]<;>omega)
theorem LM:jcn X (.type "tuple") (λxs H Q=>∃p ys,xs=[.ref p]/\((SqL X.K H p ys/\∀l,H l=none->Q (.ref l) (aQ H l (.tup ys)))\/(SqT X.K H p ys/\Q (.ref p) H))):=by
 intro pins s σ H xs us Q I r h;obtain⟨p,ys,rfl,h⟩:=h;obtain⟨u,rfl,rx⟩:=iq r;cases rx;rcases h with⟨hq,q⟩|⟨hq,q⟩
 ·obtain⟨its,r',pl,hz⟩:=I.list hq
  have hlen:=r'.length;refine call_tuple_list pl.isList (λh' kp=> ?_) (by simp only[qk]<;>omega);have I1:Inv X pins σ H {s with heap:=h'}:=I.kept (t':=s.toks) kp;have I2:Inv X pins σ (aQ H h'.objs.size (.tup ys)) {s with heap:=h'.push {cls:=.type "tuple",data:=.seq its.toArray}}:=
   I1.laid (t':=s.toks) (λb o e=>qa _ e) (qb _) (show jcq X.prog X.w _ _ _ (.tup ys)from⟨hz,its,r',IsTup.new _ _⟩)
  exact⟨.ref h'.objs.size,_,I2,rfl,q _ (I1.hok.fresh (qb _))⟩
 ·obtain⟨its,r',pl,hz⟩:=I.tuple hq
  exact call_tuple_same pl ⟨.ref p,H,I,rfl,q⟩
noncomputable def FY(K:W.Frag)(T:String)(x:V)(H:Hp):Prop:=match x with
 | .str _=>T="str"
 | .int _=>T="int"
 | .ref p=>(T="list"/\∃xs,SqL K H p xs)\/(T="tuple"/\∃o,K.lookup p=some o/\o.cls=.type "tuple"/\o.dict=none)\/
   (T="dict"/\((∃kvs,H p=some (.dK kvs))\/∃kvs,H p=some (.dT kvs)))\/(T="set"/\∃S n,H p=some (.set S n))
 | _=>False
theorem ET{σ:St}(I:Inv X pins σ H s)(r:RelV x v)(ty:FY X.K T x H):
  s.TypeIs v T/\∀a,v=.ref a->∃ob,s.heap.get? a=some ob/\ob.dict=none:=by
 cases x with
 | str z=>
  obtain⟨t,rfl⟩:=r;cases(show T="str"from ty);exact⟨typeIs_str s z t,λ_ e=>nomatch e⟩
 | int i=>
  obtain⟨t,rfl⟩:=r;cases(show T="int"from ty);exact⟨typeIs_int s i t,λ_ e=>nomatch e⟩
 | ref p=>
  cases r
  rcases ty with⟨rfl,xs,hq⟩|⟨rfl,o,hk,hc,hd⟩|⟨rfl,hk⟩|⟨rfl,S,n,hk⟩
  ·obtain⟨its,_,pl,_⟩:=I.list hq
   refine⟨pl.isList.typeIs,λa e=> ?_⟩;cases e;obtain⟨o,n,e,c,hd,_⟩:=pl;exact⟨o,e,hd⟩
  ·refine⟨⟨o,I.kIn p o hk,hc⟩,λa e=> ?_⟩
   cases e
   exact⟨o,I.kIn _ o hk,hd⟩
  ·have z:∃o,s.heap.get? p=some o/\o.ExactDict:=by
    rcases hk with⟨kvs,hk⟩|⟨kvs,hk⟩
    ·obtain⟨_,_,_,_,o,_,_,e,ex,_⟩:=I.hok p _ hk
     exact⟨o,e,ex⟩
    ·obtain⟨_,_,_,_,o,_,_,e,ex,_⟩:=I.hok p _ hk
     exact⟨o,e,ex⟩
   obtain⟨o,e,ex⟩:=z;refine⟨⟨o,e,ex.1⟩,λa e2=> ?_⟩;cases e2;exact⟨o,e,ex.2.1⟩
  ·obtain⟨o,_,_,_,e,ex,_⟩:=I.hok p _ hk
   refine⟨⟨o,e,ex.1⟩,λa e2=> ?_⟩;cases e2;exact⟨o,e,ex.2.1⟩
 | _=>exact False.elim ty
noncomputable def lX(K:W.Frag)(T:String)(r:V->List V->Hp->VK->Prop)(to:TE):TE:=λσ H Q=>to σ H λx H1=>FY K T x H1/\r x [] H1 Q
noncomputable def uz(K:W.Frag)(T:String)(r:V->List V->Hp->VK->Prop)(to:TE)(t:TA):TE:=λσ H Q=>to σ H λx H1=>FY K T x H1/\t σ H1 λxs H2=>r x xs H2 Q
variable {o e : Expr} {es : List Expr} {to : TE} {t : TA} {name : Str} {apos cpos : Pos} {T id : String} {r : V -> List V -> Hp -> VK -> Prop}
theorem tM(pa:PlainAttrs T)(slot:Slot T name id)(hty:typeOf (.builtin id)=pure (.type "method_descriptor"))(hm:qM X id r)(ho:PE X o to)
  (hbase:attributeBase o name X.env (eval o X.env)=eval o X.env:=by rfl) (hline:(apos.endLine==cpos.line)=true:=by rfl):PE X (.Call (.Attribute o name apos) [] [] cpos) (lX X.K T r to):=by
 intro pins s σ H Q I h;refine wpAny_Call_method0_late hbase hline (bx (ho pins s σ H _ I h) λv s1 ⟨x,H1,I1,r1,ty,q1⟩=> ?_);obtain⟨h1,h2⟩:=ET I1 r1 ty;exact⟨T,id,pa,slot,hty,h1,h2,Calls.callWith_builtin rfl (PySem.evalArgs_none (hm pins s1 σ H1 x [] v [] Q I1 r1 .nil q1))⟩
theorem rM(pa:PlainAttrs T)(slot:Slot T name id)(hty:typeOf (.builtin id)=pure (.type "method_descriptor"))(hm:qM X id r)(ho:PE X o to)(ha:PA X (e::es) t)
  (hbase:attributeBase o name X.env (eval o X.env)=eval o X.env:=by rfl)
  (hfew:((backTo cpos (starEach (e::es) X.env)).all (λx=> !x.1)&&(backToKw cpos (keywordEach [] X.env)).all (λx=>x.1.isSome)
   &&decide ((e::es).length+([]:List Keyword).length+(if([]:List Keyword).isEmpty then 0 else 1)<30))=true:=by rfl)
  (hline:(apos.endLine==cpos.line)=true:=by rfl) (hs:starEach (e::es) X.env=(false,eval e X.env)::starEach es X.env:=by rfl) (hplain:(backTo cpos (starEach es X.env)).any (·.1)=false:=by rfl):
  PE X (.Call (.Attribute o name apos) (e::es) [] cpos) (uz X.K T r to t):=by
 intro pins s σ H Q I h;refine wpAny_Call_method_late hbase hfew hline rfl (bx (ho pins s σ H _ I h) λv s1 ⟨x,H1,I1,r1,ty,q1⟩=> ?_);obtain⟨h1,h2⟩:=ET I1 r1 ty;refine⟨T,id,pa,slot,hty,h1,h2,?_⟩;have hA:=ha cpos pins s1 σ H1 _ I1 q1;rw[hs]at hA ⊢;refine Calls.callWith_builtin (by show(false||(backTo cpos (starEach es X.env)).any (·.1))=false;rw[hplain]<;>rfl) (Calls.evalArgs_plain ?_);exact bx hA λus s2 ⟨vs,H2,I2,r2,q2⟩=>hm pins s2 σ H2 x vs v us Q I2 r1 r2 q2
/- xs.append(e),list.index on a module's tuple .. are qM facts of 06m -/
end
noncomputable def P5(X:Cx)(id:String)(r:V->List V->Hp->VK->Prop):Prop:=
 ∀(pins:List (Addr×Obj)) (s:Shared) (σ:St) (H:Hp) (x:V) (xs:List V) (v:Value) (us:List Value) (Q:VK),Inv X pins σ H s->RelV x v->Vals xs us->r x xs H Q->
  wpAny (model X.prog X.w) X.A (call (.builtin id) (v::us)) (EP X pins σ Q) X.xe s
theorem Vals.one:∀{x:V} {us:List Value},Vals [x] us->∃u,us=[u]/\RelV x u
 | _,_,.cons r .nil=>⟨_,rfl,r⟩
theorem Vals.rep(h:Vals xs us):∀k:Nat,Vals (List.replicate k xs).flatten (List.replicate k us).flatten
 | 0=>.nil
 | k+1=>by
  rw[zt,zt,wg,wg];exact Vals.append h (Vals.rep h k)
theorem KI(its:List Value):∀(k:Nat) (acc:List Value),
  List.foldl (λx1 x2=>x1++x2) acc.toArray (List.replicate k its.toArray)=(acc++(List.replicate k its).flatten).toArray
 | 0,acc=>by simp
 | k+1,acc=>by
  have e:acc.toArray++its.toArray=(acc++its).toArray:=by simp
  have e2:(acc++its)++(List.replicate k its).flatten=acc++(List.replicate (k+1) its).flatten:=by
   rw[zt,wg,List.append_assoc]
  rw[<-e2,<-KI its k (acc++its),<-e,zt,List.foldl_cons]
section
variable {X : Cx} {pins : List (Addr × Obj)} {σ : St} {H : Hp} {s : Shared} {l b : Addr} {xs ys zs : List V}
theorem Inv.lset{its its':List Value}{f:Array Value->Array Value}(I:Inv X pins σ H s)(hH:H l=some (.lst xs))
  (e:s.heap.get? l=some {cls:=.type "list",data:=.seq its.toArray n}) (hf:f its.toArray=its'.toArray) (hv:Vals ys its') (hz:ys.length<=sizeLine):
  Inv X pins σ (aQ H l (.lst ys)) {s with heap:=s.heap.update l (Obj.mapSeq f),toks:=t'}:=by
 have q:=PySem.IsL.update e f;rw[hf]at q;refine I.write (x:=l) (e:=l) (by rw[hH];exact trivial) (.inl rfl) (λb' u hb hu=>(Heap.get?_update_other s.heap (Obj.mapSeq f) (Ne.symm hb)).trans hu) ⟨_,q⟩ ?_;exact⟨hz,its',_,hv,q⟩
theorem Inv.lnew(I:Inv X pins σ H s)(hv:Vals ys its)(hz:ys.length<=sizeLine):
  Inv X pins σ (aQ H s.heap.objs.size (.lst ys)) {s with heap:=s.heap.push {cls:=.type "list",data:=.seq its.toArray},toks:=t'}:=
 I.laid (λ_ _ q=>qa _ q) (qb _) ⟨hz,its,0,hv,qw _ rfl⟩
theorem Inv.fresh(I:Inv X pins σ H s):H s.heap.objs.size=none:=I.hok.fresh (qb _)
theorem Inv.lstM(I:Inv X pins σ H s)(hH:H l=some (.lst xs)):xs.length<=sizeLine/\∃(its:List Value) (n:Nat),Vals xs its/\xs.length=its.length/\s.heap.get? l=some {cls:=.type "list",data:=.seq its.toArray n}:=by
 obtain⟨z,its,n,r,e⟩:=I.hok l _ hH;exact⟨z,its,n,r,r.length,e⟩
theorem M_(h:n<=sizeLine):Builtin.List.listTooLong n=false:=by
 unfold Builtin.List.listTooLong;exact decide_eq_false (by omega)
end
section
variable {X : Cx}
noncomputable def JU:V->List V->Hp->VK->Prop:=λx vs H Q=>∃l xs y,x=.ref l/\vs=[y]/\H l=some (.lst xs)/\xs.length<sizeLine/\Q .non (aQ H l (.lst (xs++[y])))
theorem KQ:P5 X "list.append" JU:=by
 intro pins s σ H x vs v us Q I rx rv h;obtain⟨l,xs,y,rfl,rfl,hH,hz,q⟩:=h;cases rx;obtain⟨u,rfl,ru⟩:=rv.one;obtain⟨z,its,n,r,hl,e⟩:=I.lstM hH;refine call_meets F.slot_list_append ⟨_,e,rfl⟩ F.entry_list_append (F.args_list_append_2 _ _) (PySem.list_append l its.toArray n u (by rw[qk];omega)) ⟨e,?_⟩;refine⟨.non,_,I.lset (its':=its++[u]) hH e (by simp) (r.append (.cons ru .nil)) ?_,rfl,q⟩;rw[zf,List.length_singleton];omega
noncomputable def Bq:R2:=λx y H Q=>∃l b xs zs,x=.ref l/\y=.ref b/\H l=some (.lst xs)/\H b=some (.lst zs)/\xs.length+zs.length<=sizeLine/\∀p,H p=none->Q (.ref p) (aQ H p (.lst (xs++zs)))
theorem t5:cw X (binaryOp .Add) Bq:=by
 intro pins s σ H x y v u Q I rx ry h;obtain⟨l,b,xs,zs,rfl,rfl,hH,hB,hz,q⟩:=h;cases rx;cases ry;obtain⟨z,its,n,r,hl,e⟩:=I.lstM hH;obtain⟨z2,its2,n2,r2,hl2,e2⟩:=I.lstM hB;refine PySem.P.add_list e e2 ?_ (by rw[qk,qk];omega);have ea:its.toArray++its2.toArray=(its++its2).toArray:=by simp
 rw[ea];exact⟨.ref _,_,I.lnew (t':=s.toks) (r.append r2) (by rw[zf];omega),rfl,q _ I.fresh⟩
noncomputable def BK:R2:=λx y H Q=>∃l k xs,x=.ref l/\y=.int k/\H l=some (.lst xs)/\ -(2^63)<=k/\k<2^63/\xs.length*k.toNat<=sizeLine/\
 ∀p,H p=none->Q (.ref p) (aQ H p (.lst (List.replicate k.toNat xs).flatten))
theorem Mg{α:Type}(xs:List α)(k:Nat):(List.replicate k xs).flatten.length=k*xs.length:=by
 induction k with
 | zero=>simp
 | succ k ih=>rw[zt,wg,zf,ih,Nat.succ_mul,Nat.add_comm]
theorem sV:cw X (binaryOp .Mult) BK:=by
 intro pins s σ H x y v u Q I rx ry h;obtain⟨l,k,xs,rfl,rfl,hH,h1,h2,hz,q⟩:=h;cases rx;obtain⟨t,rfl⟩:=ry;obtain⟨z,its,n,r,hl,e⟩:=I.lstM hH;have hlen:its.toArray.size*k.toNat<=sizeLine:=by rw[qk,<-hl];exact hz
 have hcap:¬its.toArray.size*k.toNat>(2^63 - 1) / 8:=by
  have:(sizeLine:Nat)<=(2^63 - 1) / 8:=by decide
  omega
 have hfit:¬(!Builtin.List.listFitsIndex k)=true:=by
  rw[fitsIndex_both h1 h2];exact qq
 have hlong:¬Builtin.List.listTooLong (its.toArray.size*k.toNat)=true:=by
  rw[M_ hlen];exact qq
 have hnew:List.foldl (λx1 x2=>x1++x2) #[] (List.replicate (if its.toArray.isEmpty=true then 0 else k.toNat) its.toArray)=(List.replicate k.toNat its).flatten.toArray:=by
  have f0:∀m:Nat,List.foldl (λx1 x2=>x1++x2) #[] (List.replicate m its.toArray)=(List.replicate m its).flatten.toArray:=λm=>by
   have:=KI its m [];rw[gq]at this;exact this
  rw[f0];cases its with
  | nil=>simp
  | cons a r'=>rw[if_neg (by simp)]
 refine wpAny_binaryOp_repeat_ref (T:="list") (U:="int") (by decide) ⟨_,e,rfl⟩ (λs'=>typeIs_int s' k t) noFill_list_mul F.fills_int_mul F.slot_int_rmul repeat_list F.slot_int_index.lookup
  (call_meets F.slot_int_rmul (typeIs_int s k t) F.entry_int_rmul (F.args_int_rmul_2 _ _) (int___rmul___int_list k t l its.toArray n)
   ⟨e,rfl,⟨_,e,rfl⟩,call_meets F.slot_list_mul ⟨_,e,rfl⟩ F.entry_list_mul (F.args_list_mul_2 _ _) (AutoListH.list___mul___list_int_3 l its.toArray n k t hfit hcap hlong) ⟨e,?_⟩⟩)
 rw[hnew];exact⟨.ref _,_,I.lnew (t':=s.toks) (r.rep k.toNat) (by rw[Mg,Nat.mul_comm];exact hz),rfl,q _ I.fresh⟩
end
section
variable {κ : Type} [DecidableEq κ]
noncomputable def cM(kvs:List (κ×V))(k:κ):Option V:=(kvs.find? λkv=>decide (kv.1=k)).map (·.2)
noncomputable def cA(kvs:List (κ×V))(k:κ)(v:V):List (κ×V):=
 if(kvs.any λkv=>decide (kv.1=k))=true then kvs.map (λkv=>if kv.1=k then(kv.1,v)else kv)else kvs++[(k,v)]
noncomputable def lj(kvs:List (κ×V))(k:κ):List (κ×V):=kvs.filter λkv=>decide (kv.1≠k)
theorem GL{p:κ×V}{r:List (κ×V)}{k:κ}(e:p.1=k):cM (p::r) k=some p.2:=by simp[cM,zq,e]
theorem Hu{p:κ×V}{r:List (κ×V)}{k:κ}(e:¬p.1=k):cM (p::r) k=cM r k:=by simp[cM,zq,e]
theorem HN(k:κ):∀kvs:List (κ×V),(kvs.any λkv=>decide (kv.1=k))=(cM kvs k).isSome
 | []=>rfl
 | p::r=>by
  rw[w6];by_cases e:p.1=k
  ·simp only[GL e,decide_eq_true e,Bool.true_or,Option.isSome_some]
  ·rw[Hu e,decide_eq_false e,Bool.false_or];exact HN k r
theorem Kz(kvs:List (κ×V))(k:κ)(v:V):(cA kvs k v).length<=kvs.length+1:=by
 unfold cA;split
 ·rw[qi];omega
 ·rw[zf,qz,ku];omega
theorem RelO.isSome_eq(r:RelO o u):o.isSome=u.isSome:=by
 cases o with
 | none=>cases u with
  | none=>rfl
  | some _=>exact(show False from r).elim
 | some _=>cases u with
  | none=>exact(show False from r).elim
  | some _=>rfl
theorem KV.val{kvs:List (κ×V)}{vs:List (κ×Value)}(r:KV kvs vs)(k:κ):RelO (cM kvs k) (valueAt vs k):=by
 unfold KV at r
 induction r with
 | nil=>exact True.intro
 | @cons p q ps qs h t ih=>
  obtain⟨h1,h2⟩:=h;by_cases e:p.1=k
  ·have e':q.1=k:=h1.symm.trans e
   have b:valueAt (q::qs) k=some q.2:=by simp[valueAt,zq,e']
   rw[GL e,b];exact h2
  ·have e':¬q.1=k:=λz=>e (h1.trans z)
   have b:valueAt (q::qs) k=valueAt qs k:=by simp[valueAt,zq,e']
   rw[Hu e,b];exact ih
theorem KV.any{kvs:List (κ×V)}{vs:List (κ×Value)}(r:KV kvs vs)(k:κ):(kvs.any λkv=>decide (kv.1=k))=vs.any λkv=>decide (kv.1=k):=by
 unfold KV at r
 induction r with
 | nil=>rfl
 | cons h t ih=>rw[w6,w6,ih,h.1]
theorem KV.repl{kvs:List (κ×V)}{vs:List (κ×Value)}(r:KV kvs vs)(k:κ){y:V}{u:Value}(ry:RelV y u):
  KV (kvs.map λkv=>if kv.1=k then(kv.1,y)else kv) (vs.map λkv=>if kv.1=k then(kv.1,u)else kv):=by
 unfold KV at r ⊢
 induction r with
 | nil=>exact .nil
 | @cons p q ps qs h t ih=>
  rw[List.map_cons,List.map_cons];refine .cons ?_ ih;obtain⟨h1,h2⟩:=h;by_cases e:p.1=k
  ·rw[if_pos e,if_pos (h1.symm.trans e)];exact⟨h1,ry⟩
  ·rw[if_neg e,if_neg (λz=>e (h1.trans z))];exact⟨h1,h2⟩
theorem KV.put{kvs:List (κ×V)}{vs:List (κ×Value)}(r:KV kvs vs)(k:κ){y:V}{u:Value}(ry:RelV y u):KV (cA kvs k y) (stored vs k u):=by
 unfold cA stored;rw[r.any k];by_cases e:(vs.any λkv=>decide (kv.1=k))=true
 ·rw[if_pos e,if_pos e];exact r.repl k ry
 ·rw[if_neg e,if_neg e];exact Paired.snoc r ⟨rfl,ry⟩
theorem KV.drop{kvs:List (κ×V)}{vs:List (κ×Value)}(r:KV kvs vs)(k:κ):KV (lj kvs k) (without vs k):=by
 unfold KV at r ⊢;unfold lj without
 induction r with
 | nil=>exact .nil
 | @cons p q ps qs h t ih=>
  obtain⟨h1,h2⟩:=h;rw[wo,wo];by_cases e:p.1=k
  ·have a:¬decide (p.1≠k)=true:=by simp[e]
   have b:¬decide (q.1≠k)=true:=by simp[h1.symm.trans e]
   rw[if_neg a,if_neg b];exact ih
  ·have e':¬q.1=k:=λz=>e (h1.trans z)
   have a:decide (p.1≠k)=true:=by simp[e]
   have b:decide (q.1≠k)=true:=by simp[e']
   rw[if_pos a,if_pos b];exact .cons ⟨h1,h2⟩ ih
theorem KV.length{kvs:List (κ×V)}{vs:List (κ×Value)}(r:KV kvs vs):kvs.length=vs.length:=Paired.length r
theorem LP(kvs:List (κ×V))(k:κ):(lj kvs k).length<=kvs.length:=we _ _
end
theorem jc(r:RelV (kV k) u):(eJ P w).is k u=true:=by
 cases k with
 | inl i=>obtain⟨t,e⟩:=(show ∃t,u=Value.int i t from r);subst e;exact Ot P w i t
 | inr x=>obtain⟨t,e⟩:=(show ∃t,u=Value.str x t from r);subst e;exact FA P w x t
theorem Kh:∀{ks:List cp} {us:List Value},Vals (ks.map kV) us->ItemsAre (eJ P w) ks us
 | [],_,r=>by rw[zw]at r;cases r;exact .nil
 | k::ks,_,r=>by
  rw[List.map_cons]at r;cases r with
  | cons h t=>exact .cons (jc h) (Kh t)
noncomputable abbrev KT(H:Hp):List (List cp×V)->List (List cp×Addr×Value)->Prop:=Paired λp q=>p.1=q.1/\H q.2.1=some (.tup (p.1.map kV))/\RelV p.2 q.2.2
theorem KT.val(r:KT H kvs xs)(k:List cp):RelO (cM kvs k) ((atKey xs k).map (·.2)):=by
 induction r with
 | nil=>exact True.intro
 | @cons p q ps qs h t ih=>
  obtain⟨h1,_,h2⟩:=h;by_cases e:p.1=k
  ·have e':q.1=k:=h1.symm.trans e
   have b:atKey (q::qs) k=some q.2:=by simp[atKey,zq,e']
   rw[GL e,b];exact h2
  ·have e':¬q.1=k:=λz=>e (h1.trans z)
   have b:atKey (q::qs) k=atKey qs k:=by simp[atKey,zq,e']
   rw[Hu e,b];exact ih
theorem KT.repl(r:KT H kvs xs)(k:List cp)(ry:RelV y u):
  KT H (kvs.map λkv=>if kv.1=k then(kv.1,y)else kv) (xs.map (putAt k u)):=by
 induction r with
 | nil=>exact .nil
 | @cons p q ps qs h t ih=>
  rw[List.map_cons,List.map_cons];refine .cons ?_ ih;obtain⟨h1,h2,h3⟩:=h;unfold putAt;by_cases e:p.1=k
  ·rw[if_pos e,if_pos (h1.symm.trans e)];exact⟨h1,h2,ry⟩
  ·rw[if_neg e,if_neg (λz=>e (h1.trans z))];exact⟨h1,h2,h3⟩
theorem KT.put(r:KT H kvs xs)(k:List cp)(hb:H b=some (.tup (k.map kV)))(ry:RelV y u):
  KT H (cA kvs k y) (storedH xs k b u):=by
 have e:(kvs.any λkv=>decide (kv.1=k))=(atKey xs k).isSome:=by
  rw[HN,(r.val k).isSome_eq,gi]
 unfold cA storedH;rw[e];by_cases q:(atKey xs k).isSome=true
 ·rw[if_pos q,if_pos q];exact r.repl k ry
 ·rw[if_neg q,if_neg q];exact Paired.snoc r ⟨rfl,hb,ry⟩
theorem KT.keeps(r:KT H kvs xs)(ht:∀b ys,H b=some (.tup ys)->H' b=some (.tup ys)):KT H' kvs xs:=
 Paired.mapP r λ_ _ z=>⟨z.1,ht _ _ z.2.1,z.2.2⟩
section
variable {P : Program} {w : World} {H : Hp} {h : Heap} {a : Addr}
theorem n_(ok:HOk P w H h)(e:Rd H a u):jcq P w H h a u:=e.ok ok
theorem tu(ok:HOk P w H h)(e:Rd H a (.dK kvs)):kvs.length<=sizeLine/\(a==sysModules)=false/\∃vs,KV kvs vs/\h.DictOf (eJ P w) a vs:=
 show jcq P w H h a (.dK kvs)from n_ ok e
theorem Fo(ok:HOk P w H h)(e:H a=some (.dK kvs)):kvs.length<=sizeLine/\(a==sysModules)=false/\∃vs,KV kvs vs/\h.DictOf (eJ P w) a vs:=tu ok (.inl e)
theorem xU(ok:HOk P w H h)(e:H a=some (.tup (ks.map kV))):(tupleKind (eJ P w)).is h ks a:=by
 obtain⟨_,its,r,o,h1,h2,n,h3⟩:=(show jcq P w H h a (.tup (ks.map kV))from ok a _ e);exact⟨o,its.toArray,n,h1,h2,h3,by simpa using Kh r⟩
theorem uD(ok:HOk P w H h)(e:Rd H a (.dT kvs)):kvs.length<=sizeLine/\(a==sysModules)=false/\
  ∃xs,KT H kvs xs/\h.DictOfH (tupleKind (eJ P w)) a xs:=by
 obtain⟨z,y,xs,r,o,es,ep,h1,h2,h3,h4,h5⟩:=(show jcq P w H h a (.dT kvs)from n_ ok e);refine⟨z,y,xs,r,o,es,ep,h1,h2,h3,h4,λx hx=> ?_,h5⟩;have all:∀{l:List (List cp×V)} {m:List (List cp×Addr×Value)},KT H l m->∀x∈m,(tupleKind (eJ P w)).is h x.1 x.2.1:=by
  intro l m q
  induction q with
  | nil=>intro x hx;exact nomatch hx
  | @cons p q ps qs hq t ih=>
   intro x hx;rcases qr.mp hx with e|hx
   ·subst e
    exact xU ok (by rw[<-hq.1];exact hq.2.1)
   ·exact ih x hx
 exact all r x hx
theorem yH(ok:HOk P w H h)(e:H a=some (.dT kvs)):kvs.length<=sizeLine/\(a==sysModules)=false/\
  ∃xs,KT H kvs xs/\h.DictOfH (tupleKind (eJ P w)) a xs:=uD ok (.inl e)
end
noncomputable def DGet(H:Hp)(a:Addr)(y:V)(r:Option V):Prop:=
 (∃kvs k,Rd H a (.dK kvs)/\y=kV k/\r=cM kvs k)\/∃kvs k b,Rd H a (.dT kvs)/\y=.ref b/\H b=some (.tup (k.map kV))/\r=cM kvs k
noncomputable def DPut(H:Hp)(a:Addr)(y v:V)(H':Hp):Prop:=
 (∃kvs k,H a=some (.dK kvs)/\y=kV k/\kvs.length<sizeLine/\H'=aQ H a (.dK (cA kvs k v)))\/
 ∃kvs k b,H a=some (.dT kvs)/\y=.ref b/\H b=some (.tup (k.map kV))/\kvs.length<sizeLine/\H'=aQ H a (.dT (cA kvs k v))
theorem DGet.k{k}(e:H a=some (.dK kvs)):DGet H a (kV k) (cM kvs k):=.inl ⟨kvs,k,.inl e,rfl,rfl⟩
theorem DPut.k{k}(e:H a=some (.dK kvs))(hl:kvs.length<sizeLine):DPut H a (kV k) v (aQ H a (.dK (cA kvs k v))):=.inl ⟨kvs,k,e,rfl,hl,rfl⟩
section
variable {X : Cx} {pins : List (Addr × Obj)} {σ : St} {H : Hp} {s : Shared} {a : Addr} {y v : V} {u r : Value} {o : Option V} {A : Around} {E : Value -> Shared -> Prop}
theorem Inv.big(I:Inv X pins σ H s):sysModules<s.heap.objs.size:=by
 have h:mainGlobals<s.heap.objs.size:=(I.mod.glob.keeps I.bk).lt;exact Nat.lt_trans (by decide) h
theorem Ni{Q:Value->Shared->Prop}(hu:A.units+1<cLine)(I:Inv X pins σ H s)(g:DGet H a y (some v))(ry:RelV y u)(h:∀w' s',Inv X pins σ H s'->RelV v w'->Q w' s'):
  wpAny (model X.prog X.w) A (getItem (.ref a) u) Q E s:=by
 rcases g with⟨kvs,k,e,ey,l⟩|⟨kvs,k,b,e,ey,eb,l⟩
 ·subst ey
  obtain⟨z,hd,vs,rel,dd⟩:=tu I.hok e;obtain⟨w',hw,rw'⟩:=RelO.some_of (v:=v) (o:=valueAt vs k) (by rw[l];exact rel.val k);exact wpAny_getItem_of (jc ry) dd.mapOf hw (h w' _ (I.tok _) rw')
 ·subst ey
  cases(show u=Value.ref b from ry)
  obtain⟨z,hd,xs,rel,dd⟩:=uD I.hok e;obtain⟨w',hw,rw'⟩:=RelO.some_of (v:=v) (o:=(atKey xs k).map (·.2)) (by rw[l];exact rel.val k);obtain⟨p,hp,hp2⟩:=qj.mp hw;refine wpAny_getItem_heap (tupleKind_room_in1 hu) (xU I.hok eb) dd hp ?_;rw[hp2];exact h w' _ (I.tok _) rw'
theorem FO{Q:Value->Shared->Prop}(hu:A.units+1<cLine)(I:Inv X pins σ H s)(g:DGet H a y o)(ry:RelV y u)(h:∀s',Inv X pins σ H s'->Q (.bool o.isSome) s'):
  wpAny (model X.prog X.w) A (compareOp .In u (.ref a)) Q E s:=by
 rcases g with⟨kvs,k,e,ey,l⟩|⟨kvs,k,b,e,ey,eb,l⟩
 ·subst ey
  obtain⟨z,hd,vs,rel,dd⟩:=tu I.hok e;refine wpAny_in_of (jc ry) hd dd.mapOf ?_;rw[<-(rel.val k).isSome_eq,<-l];exact h _ (I.tok _)
 ·subst ey
  cases(show u=Value.ref b from ry)
  obtain⟨z,hd,xs,rel,dd⟩:=uD I.hok e;refine wpAny_in_heap (tupleKind_room_in1 hu) (xU I.hok eb) hd dd ?_;have q:=(rel.val k).isSome_eq;rw[gi]at q;rw[<-q,<-l];exact h _ (I.tok _)
theorem N3{Q:Value->Shared->Prop}(hu:A.units+1<cLine)(I:Inv X pins σ H s)(g:DGet H a y o)(ry:RelV y u)(h:∀s',Inv X pins σ H s'->Q (.bool (!o.isSome)) s'):
  wpAny (model X.prog X.w) A (compareOp .NotIn u (.ref a)) Q E s:=by
 rcases g with⟨kvs,k,e,ey,l⟩|⟨kvs,k,b,e,ey,eb,l⟩
 ·subst ey
  obtain⟨z,hd,vs,rel,dd⟩:=tu I.hok e;refine wpAny_notIn_of (jc ry) hd dd.mapOf ?_;rw[<-(rel.val k).isSome_eq,<-l];exact h _ (I.tok _)
 ·subst ey
  cases(show u=Value.ref b from ry)
  obtain⟨z,hd,xs,rel,dd⟩:=uD I.hok e;refine wpAny_notIn_heap (tupleKind_room_in1 hu) (xU I.hok eb) hd dd ?_;have q:=(rel.val k).isSome_eq;rw[gi]at q;rw[<-q,<-l];exact h _ (I.tok _)
theorem GG(I:Inv X pins σ H s)(mu:zQ (H a))(hs:Heap.SameBut a s.heap h')(he:∃q,h'.get? a=some q)(new:jcq X.prog X.w (aQ H a ob) h' a ob):
  Inv X pins σ (aQ H a ob) {s with heap:=h',toks:=t'}:=
 I.write (x:=a) (e:=a) mu (.inl rfl) (λb q hb z=>(hs.2 b hb).trans z) he new
theorem Jl(z:kvs.length<=sizeLine)(hd:(a==sysModules)=false)(rel:KV kvs vs)(dd:h'.DictOf (eJ P w) a vs):
  jcq P w H' h' a (.dK kvs):=⟨z,hd,vs,rel,dd⟩
theorem P6{Q:Unit->Shared->Prop}(hu:A.units+1<cLine)(I:Inv X pins σ H s)(g:DPut H a y v H')(ry:RelV y u)(rv:RelV v r)(h:∀s',Inv X pins σ H' s'->Q () s'):
  wpAny (model X.prog X.w) A (setItem (.ref a) u r) Q E s:=by
 rcases g with⟨kvs,k,e,ey,l,eH⟩|⟨kvs,k,b,e,ey,eb,l,eH⟩
 ·subst ey eH
  obtain⟨z,hd,vs,rel,dd⟩:=Fo I.hok e;have hz:vs.length<=sizeLine:=by rw[<-rel.length];exact z
  have hl:(cA kvs k v).length<=sizeLine:=by have:=Kz kvs k v;omega
  refine wpAny_setItem_pairs (hsz:=hz) (jc ry) dd λh' dd' hs=>h _ ?_;have he:∃q,h'.get? a=some q:=let ⟨q,_,_,hq,_⟩:=dd';⟨q,hq⟩;exact GG I (by rw[e];exact True.intro) hs he (Jl hl hd (rel.put k rv) dd')
 ·subst ey eH
  cases(show u=Value.ref b from ry)
  obtain⟨z,hd,xs,rel,dd⟩:=yH I.hok e;have hz:xs.length<=sizeLine:=by rw[<-Paired.length rel];exact z
  have hl:(cA kvs k v).length<=sizeLine:=by have:=Kz kvs k v;omega
  refine wpAny_setItem_heap (hsz:=hz) (tupleKind_room_in1 hu) (xU I.hok eb) dd λh' dd' hs=>h _ ?_;obtain⟨q,es,ep,hq,h2,h3,h4,_,h5⟩:=dd';refine GG I (by rw[e];exact True.intro) hs ⟨q,hq⟩ ⟨hl,hd,_,(rel.put k eb rv).keeps λc ys ec=> ?_,q,es,ep,hq,h2,h3,h4,h5⟩;rw[aW (vA ec e (λz=>nomatch z))];exact ec
end
section
variable {X : Cx} {pins : List (Addr × Obj)} {σ : St} {H : Hp} {s : Shared} {a : Addr} {kvs : List (cp × V)} {k : cp} {u : Value} {A : Around} {E : Value -> Shared -> Prop}
theorem yj{Q:Value->Shared->Prop}(I:Inv X pins σ H s)(e:H a=some (.dK kvs))(ry:RelV (kV k) u)(l:cM kvs k=some v)(hm:more=[]\/∃x,more=[x])
  (h:∀w' s',Inv X pins σ (aQ H a (.dK (lj kvs k))) s'->RelV v w'->Q w' s'):wpAny (model X.prog X.w) A (call (.builtin "dict.pop") (.ref a::u::more)) Q E s:=by
 obtain⟨z,hd,vs,rel,dd⟩:=Fo I.hok e;obtain⟨w',hw,rw'⟩:=RelO.some_of (v:=v) (o:=valueAt vs k) (by rw[<-l];exact rel.val k);have hp:(keyPart u).isSome=true:=by
  cases k with
  | inl i=>obtain⟨t,q⟩:=(show ∃t,u=Value.int i t from ry);subst q;rfl
  | inr x=>obtain⟨t,q⟩:=(show ∃t,u=Value.str x t from ry);subst q;rfl
 have ha:argsOk "dict.pop" ⟨.ref a::u::more,[]⟩:=by
  rcases hm with q|⟨x,q⟩
  ·subst q;exact PySem.F.args_dict_pop_2 _ _
  ·subst q;exact PySem.F.args_dict_pop_3 _ _ _
 refine call_meetsIn PySem.F.slot_dict_pop dd.typeIs PySem.F.entry_dict_pop ha (meets_dict_pop_there (eJ X.prog X.w) a (jc ry) more hm hp)
  ⟨vs,w',dd,by rw[<-rel.length];exact z,hw,λh' dd' hs=>h w' _ ?_ rw'⟩
 have he:∃q,h'.get? a=some q:=let ⟨q,_,_,hq,_⟩:=dd';⟨q,hq⟩;exact GG I (by rw[e];exact True.intro) hs he (Jl (zd (LP kvs k) z) hd (rel.drop k) dd')
theorem BM{Q:Value->Shared->Prop}(I:Inv X pins σ H s)(e:Rd H a (.dK kvs))(h:∀t s',Inv X pins σ H s'->Q (.int kvs.length t) s'):wpAny (model X.prog X.w) A (call (.builtin "len") [.ref a]) Q E s:=by
 obtain⟨z,hd,vs,rel,dd⟩:=tu I.hok e;refine call_len_dict hd dd (by rw[<-rel.length];rw[sizeLine_eq]at z;omega) ?_;rw[<-rel.length];exact h _ _ (I.tok _)
end
theorem Oz{σ:St}(I:Inv X pins σ H s)(g:DGet H a y o):s.TypeIs (.ref a) "dict":=by
 rcases g with⟨kvs,k,e,_,_⟩|⟨kvs,k,b,e,_,_,_⟩
 ·obtain⟨_,_,vs,_,dd⟩:=tu I.hok e
  exact dd.typeIs
 ·obtain⟨_,_,xs,_,dd⟩:=uD I.hok e
  exact dd.typeIs
noncomputable def nQ(td ty tv:TE):TS:=λD σ H=>tv σ H λv H1=>td σ H1 λx H2=>ty σ H2 λy H3=>∃a H4,x=.ref a/\DPut H3 a y v H4/\D.nx σ H4
section
variable {X : Cx} {o i e value : Expr} {pos pos' tpos : Pos} {td ty tv : TE}
theorem Mr(hu:X.A.units+1<cLine)(ho:PE X o td)(hi:PE X i ty)(hv:PE X value tv)(hs:swapsWith value (some (.Subscript o i pos')) pos.line X.env=pure false):
  PS X (.Assign [.Subscript o i pos'] value pos) (nQ td ty tv):=by
 intro pins s σ H D I h;refine wpAny_Assign_Subscript (bx (hv pins s σ H _ I h) λr s1 ⟨v,H1,I1,rv,q1⟩=>bx (ho pins s1 σ H1 _ I1 q1) λu s2 ⟨x,H2,I2,rx,q2⟩=>bx (hi pins s2 σ H2 _ I2 q2) λiv s3 ⟨y,H3,I3,ry,a,H4,ex,g,q3⟩=> ?_) hs;subst ex;obtain rfl:u=Value.ref a:=rx;exact P6 hu I3 g ry rv λs4 I4=>⟨σ,H4,I4,q3⟩
end
theorem Mf(h:Heap)(hb:sysModules<h.objs.size):jcq P w H (h.push {cls:=.type "dict",data:=.dict #[]}) h.objs.size (.dK []):=
 ⟨qx _,beq_eq_false_iff_ne.mpr (Ne.symm (qo hb)),[],.nil,Heap.DictOf.new h⟩
noncomputable def II:TE:=λ_ H Q=>∀p,H p=none->Q (.ref p) (aQ H p (.dK []))
section
variable {X : Cx} {pos : Pos}
theorem L8:PE X (.Dict [] [] pos) II:=λpins s σ H Q I h=>
 wpAny_Dict_empty ⟨.ref s.heap.objs.size,_,I.laid (a:=s.heap.objs.size) (o:=.dK []) (t':=s.toks) (λ_ _ q=>qa _ q) (qb _) (Mf s.heap I.big),rfl,h _ (I.hok.fresh (qb _))⟩
end
structure M1 (X:Cx) (o:Expr) (m:Str) (apos:Pos) (e:Expr) (cpos:Pos):Prop where
 base:attributeBase o m X.env (eval o X.env)=eval o X.env
 few:((backTo cpos (starEach [e] X.env)).all (λx=> !x.1)&&(backToKw cpos (keywordEach [] X.env)).all (λx=>x.1.isSome)
  &&decide (([e]:List Expr).length+([]:List Keyword).length+(if([]:List Keyword).isEmpty then 0 else 1)<30))=true
 line:(apos.endLine==cpos.line)=true
 trees:backTo cpos (starEach [e] X.env)=[(false,eval e X.env)]
noncomputable def Lf(H:Hp)(a:Addr):Prop:=(∃kvs,Rd H a (.dK kvs))\/∃kvs,Rd H a (.dT kvs)
theorem pe{σ:St}(I:Inv X pins σ H s)(d:Lf H a):
  s.TypeIs (.ref a) "dict"/\(∀b,Value.ref a=.ref b->∃ob,s.heap.get? b=some ob/\ob.dict=none)/\(a==sysModules)=false:=by
 rcases d with⟨kvs,e⟩|⟨kvs,e⟩
 ·obtain⟨_,hd,vs,_,dd⟩:=tu I.hok e
  refine⟨dd.typeIs,λb q=> ?_,hd⟩;cases q;obtain⟨ob,_,_,h1,h2,_⟩:=dd;exact⟨ob,h1,h2.2.1⟩
 ·obtain⟨_,hd,xs,_,dd⟩:=uD I.hok e
  refine⟨dd.typeIs,λb q=> ?_,hd⟩;cases q;obtain⟨ob,_,_,h1,h2,_⟩:=dd;exact⟨ob,h1,h2.2.1⟩
noncomputable def HI(td ty:TE):TE:=λσ H Q=>td σ H λx H1=>∃a,x=.ref a/\Lf H1 a/\ty σ H1 λy H2=>∃kvs k v,H2 a=some (.dK kvs)/\y=kV k/\cM kvs k=some v/\Q v (aQ H2 a (.dK (lj kvs k)))
section
variable {X : Cx} {o e f : Expr} {apos cpos : Pos} {td ty tx : TE}
theorem L6(ho:PE X o td)(he:PE X e ty)(m:M1 X o "pop" apos e cpos):PE X (.Call (.Attribute o "pop" apos) [e] [] cpos) (HI td ty):=by
 intro pins s σ H Q I h;refine wpAny_Call_method m.base m.few m.line PySem.F.plainAttrs_dict PySem.F.slot_dict_pop PySem.F.type_dict_pop (bx (ho pins s σ H _ I h) λu s1 ⟨x,H1,I1,rx,a,ex,d,q1⟩=> ?_);subst ex;obtain rfl:u=Value.ref a:=rx;obtain⟨t1,t2,_⟩:=pe I1 d;refine⟨t1,t2,?_⟩;rw[m.trees];refine Calls.callWith_builtin rfl (Calls.evalArgs_plain (Calls.spliced_cons (bx (he pins s1 σ H1 _ I1 q1) λiv s2 ⟨y,H2,I2,ry,kvs,k,v,ea,ey,l,q2⟩=>Calls.spliced_nil ?_)));subst ey;exact yj I2 ea ry l (.inl rfl) λw' s3 I3 rw'=>⟨v,_,I3,rw',q2⟩
end
end L2
namespace Att
open PySem PySem.W PySem.Calls PyProof.Rows
theorem L_:∀(ns:List Int) (vs:List Value),WellAll P h vs (ns.map WData.int)->IntsAre vs ns:=by
 intro ns
 induction ns with
 | nil=>
  intro vs w;rw[zw]at w;cases w;exact .nil
 | cons n ns ih=>
  intro vs w;rw[List.map_cons]at w;cases w with
  | cons a b=>
   cases a
   exact .cons _ _ (ih _ b)
theorem Mt{l:OpenLaw}(hn:l.most=some n)
    (hpre:l.row.toRowW.claim.pre args=true) (hwl:WellAll P h vals args):
    ∃a vs ns,vals=[Value.ref a]/\args=[WData.list (ns.map WData.int)]/\h.get? a=some {cls:=.type "list",data:=.seq vs.toArray}/\IntsAre vs ns/\ns.length<=n:=by
  have hsh:WShape.hasAll [] args [.list .int]=true:=(pre_splitW hpre).1;have hc:l.pre.holds [] {args:=args}=true:=(pre_splitW hpre).2;obtain⟨d,r,rfl,h1,h2⟩:=hasAllW_cons hsh;obtain rfl:=hasAllW_nil h2;obtain⟨xs,rfl,h3⟩:=hasW_list h1;obtain⟨ns,rfl⟩:=items_int h3;have hlen:ns.length<=n:=by
    unfold OpenLaw.pre at hc;have h4:(WTm.not (.lt (.lit (.int (n:Int))) (.len (.arg 0)))).holds [] {args:=[.list (ns.map .int)]}=true:=by
      have h4:=(holds_andW hc).1;rw[hn]at h4;exact h4
    have h5:=condW_of h4 (w_not (w_lt w_lit (w_len_list (w_arg rfl))));rw[qi]at h5;refine Nat.le_of_not_lt λq=> ?_;have q':(n:Int)<((ns.length:Nat):Int):=by omega
    first
      | (rw[decide_eq_true q']at h5;exact absurd h5 (by decide))
      | (simp at h5;omega)
  cases hwl with
  | cons w1 w2=>
    cases w2
    cases w1 with
    | list ho hall=>exact⟨_,_,ns,rfl,rfl,ho,L_ ns _ hall,hlen⟩
theorem N7(l:OpenLaw)(args:List WData):l.row.toRowW.claim.post args (.bool true) args=true:=
 postW_of (r:=l.row.toRowW) (X:=(true==true))
  (show WShape.has [] (.bool true) .bool=true by first|rfl|decide|simp[WShape.has,WShape.arms,WShape.armsAll])
  (show(WTm.eq .res (.lit (.bool true))).value [] {args:=args,res:=some (.bool true),after:=args}=some (.bool (true==true))from w_eq_bool (w_res rfl) w_lit) rfl
theorem attach_call{l:OpenLaw}{XP:(Str->Option Value)->Heap->Prop}{YP:World->Heap->Prop}
  (hn:l.most=some n) (hdf:d.params.defaults=[])
  (call:∀(w:World) (s₀ s₁:Shared) (mg mb:Str->Option Value) (fa:Addr) (o:Obj) (pm cd doc:Value) (a:Addr) (vs:List Value) (ns:List Int),
   Ground q loose [] XP w s₀ mg mb s₁.heap->YP w s₁.heap->
   s₁.heap.get? fa=some o->o.data=.func (docDef d.name d.params d.body d.scope pm cd doc)->s₁.heap.CodeRec cd d.name->mg d.name=some (.ref fa)->
   s₁.heap.get? a=some {cls:=.type "list",data:=.seq vs.toArray}->IntsAre vs ns->ns.length<=n->s₁.gens=#[]->
   codeAny (model l.prog w) callerA (.call (.ref fa) ⟨[.ref a],[]⟩) (λr s'=>r=.ok (.ret (.bool true))/\OldK s₁.heap s'.heap/\s'.os=s₁.os/\AllBare s'.gens) s₁):
  WalkO q loose XP YP l.row.toRowW d [] (λf vs=>PySem.call f vs):=by
 intro w s₀ s₁ mg mb G Y fa o pm cd doc dV kV ho hd hcd hD hmg hg args vals as hpre hlay hrd hwl hlo;obtain rfl:dV=.none:=Dflts.none hD hdf;obtain rfl:kV=.none:=Dflts.noKw hD;obtain⟨a,vs,ns,rfl,rfl,hobj,hints,hlen⟩:=Mt hn hpre hwl;refine enter_call (codeAny_mono (call w s₀ s₁ mg mb fa o pm cd doc a vs ns G Y ho (fd_plain hd) hcd hmg hobj hints hlen hg) λr s' hq=> ?_);obtain⟨rfl,h2,h3,h4⟩:=hq;exact⟨.inl ⟨.bool true,.bool true,[],rfl,λ_=>rfl,.bool true,N7 l _,λ_=>⟨List.Pairwise.nil,λ_ hm=>(nomatch hm)⟩⟩,h2,h3,h4⟩
end Att
namespace L2
open PySem PySem.Spec PyProof.Rows
theorem Ll:∀{vs:List Value} {ns:List Int},IntsAre vs ns->Vals (ns.map V.int) vs
 | _,_,.nil=>.nil
 | _,_,.cons n t h=>.cons ⟨t,rfl⟩ (Ll h)
noncomputable def jL(H:Hp):Prop:=∀b,H b=none\/∃o xs,H b=some (.frz o (.lst xs))
theorem Og{K:W.Frag}{mg mb:Str->Option Value}
  (KX:K.In s₁.heap) (hns:s₁.heap.Ns mainGlobals mg) (hb:s₁.heap.Ns builtinsNs mb) (hbb:∀x:Str,x≠"__name__"->mb x=bootBuiltins x) (hlim:s₁.heap.NoLimit) (hg:s₁.gens=#[])
  (ha:s₁.heap.get? a=some {cls:=.type "list",data:=.seq vs.toArray}) (hi:IntsAre vs ns) (hl:ns.length<=sizeLine) (hr:Room k callerA)
  (F:∀base:Heap,K.In base->base.Ns mainGlobals mg->FnOk P w K mg base CX k fa fd [x] sp) (hbind:∀(s:Shared) (u:Value),BindsTo s fd ⟨[u],[]⟩ [(x,u)])
  (hsp:∀H:Hp,jL H->SqL K H a (ns.map V.int)->sp [.ref a] H (λv _=>v=.bl true) λ_ _ _=>False)
  (hCX:∀H e s',CX [] H s₁ (λ_ _ _=>False) e s'->False):
  codeAny (model P w) callerA (.call (.ref fa) ⟨[.ref a],[]⟩) (λr s'=>r=.ok (.ret (.bool true))/\OldK s₁.heap s'.heap/\s'.os=s₁.os/\AllBare s'.gens) s₁:=by
 have rv:=Ll hi;have lenV:=hi.length;have core:∀H:Hp,jL H->SqL K H a (ns.map V.int)->HOk P w H s₁.heap->(∀b,H b≠none->b=a)->(H a≠none->K.lookup a=none)->
   codeAny (model P w) callerA (.call (.ref fa) ⟨[.ref a],[]⟩) (λr s'=>r=.ok (.ret (.bool true))/\OldK s₁.heap s'.heap/\s'.os=s₁.os/\AllBare s'.gens) s₁:=by
  intro H hO hS hok hA hK;have base_of:∀{b:Addr} {o:Obj},s₁.heap.get? b=some o->H b=none->(fE s₁.heap H).get? b=some o:=λe n=>Ma e n;have noA:∀{b:Addr} {o:Obj} {es:Array DictEntry} {ep:Nat},s₁.heap.get? b=some o->o.data=.dict es ep->H b=none:=fun{b o es ep} e d=>by
   cases q:H b with
   | none=>rfl
   | some u=>
    have e':b=a:=hA b (by rw[q];simp);subst e';rw[ha]at e;cases e;have d':Data.seq vs.toArray _=Data.dict es ep:=d;cases d'
  have nsK:∀{b:Addr} {m:Str->Option Value},s₁.heap.Ns b m->(fE s₁.heap H).Ns b m:=fun{b m} ⟨o,es,ep,e,d,r⟩=>⟨o,es,ep,base_of e (noA e d),d,r⟩;have hKb:K.In (fE s₁.heap H):=λb o e=>base_of (KX b o e) (by
   cases q:H b with
   | none=>rfl
   | some u=>
    have e':b=a:=hA b (by rw[q];simp);subst e';rw[hK (by rw[q];simp)]at e;cases e)
  have hM:Mod K mg (fE s₁.heap H):=⟨hKb,nsK hns,⟨mb,nsK hb,hbb⟩,let ⟨mc,h1,h2⟩:=hlim;⟨mc,nsK h1,h2⟩⟩;have e0:Env0 P w K mg (fE s₁.heap H) callerA [] s₁ H:=⟨rfl,hM,λb o e=>LI e,zk (O7 _ _),trivial,λb hb=>absurd (show b∈([]:List Addr)from hb) (by simp),hok,.of_eq hg⟩;refine codeAny_mono ((F _ hKb (nsK hns)).run callerA [] s₁ H ⟨[.ref a],[]⟩ [.ref a] [.ref a] _ _ hr e0 (hbind s₁ (.ref a)) (.cons rfl .nil) (hsp H hO hS)) λr s' h=> ?_;cases r with
  | error e=>exact(hCX H e s' h).elim
  | ok fl=>
   cases fl with
   | next=>exact False.elim h
   | brk=>exact False.elim h
   | cont=>exact False.elim h
   | ret u=>
    obtain⟨v,H',os,bare,un,hok',r',q⟩:=h;have q':v=.bl true:=q;subst q';obtain rfl:u=Value.bool true:=r';refine⟨rfl,OldK.of_keep λb o e=> ?_,os,bare⟩;cases q:H b with
    | none=>exact un.keep b o e q (by intro z;exact absurd (show b∈([]:List Addr)from z) (by simp)) (by simp)
    | some u=>
     rcases hO b with z|⟨ob,xs,z⟩
     ·rw[q]at z;cases z
     ·have z2:=un.frzs b ob _ z
      obtain⟨e1,_⟩:=hok b _ z;obtain⟨e2,_⟩:=hok' b _ z2;rw[e]at e1;cases e1;exact e2
 cases hk:K.lookup a with
 | some o=>
  have e:=KX a o hk;rw[ha]at e;cases e;refine core (λ_=>none) (λ_=>.inl rfl) (.inr ⟨_,vs.toArray,_,hk,rfl,rfl,rfl,by rw[qk,lenV];exact hl,by simpa using rv⟩) (λb u z=>by have z':(none:Option HO)=some u:=z;cases z') (λb z=>absurd rfl z) λz=>absurd rfl z
 | none=>
  refine core (λb=>if b=a then some (.frz {cls:=.type "list",data:=.seq vs.toArray} (.lst (ns.map V.int)))else none) (λb=> ?_) (.inl (.inr ⟨{cls:=.type "list",data:=.seq vs.toArray},if_pos rfl⟩)) (λb u z=> ?_) (λb z=> ?_) λ_=>hk
  ·by_cases hb:b=a
   ·exact .inr ⟨_,_,if_pos hb⟩
   ·exact .inl (if_neg hb)
  ·by_cases hb:b=a
   ·have z':=(if_pos hb).symm.trans z
    cases z'
    subst hb;exact⟨ha,by rw[qi];exact hl,vs,_,rv,ha⟩
   ·have z':=(if_neg hb).symm.trans z
    cases z'
  ·by_cases hb:b=a
   ·exact hb
   ·exact absurd (if_neg hb) z
noncomputable abbrev KOf{K:W.Frag}{h:Heap}(_:K.In h):W.Frag:=K
theorem Nz{l:W.OpenLaw}{XP:(Str->Option Value)->Heap->Prop}{YP:World->Heap->Prop}{K:Params->W.Frag}{CX:World->iE}{sp:World->Sp}
  (hn:l.most=some n) (hn2:n<=sizeLine) (hdf:d.params.defaults=[]) (hr:Room k callerA)
  (hY:∀(w:World) (h:Heap),YP w h->(K w.params).In h)
  (F:∀(w:World) (mg:Str->Option Value) (fa:Addr) (h:Heap),(K w.params).In h->h.Ns mainGlobals mg->mg d.name=some (.ref fa)->
   ∃fd:FuncData,(∀(s:Shared) (u:Value),BindsTo s fd ⟨[u],[]⟩ [(x,u)])/\
    ∀base:Heap,(K w.params).In base->base.Ns mainGlobals mg->FnOk l.prog w (K w.params) mg base (CX w) k fa fd [x] (sp w))
  (hsp:∀(w:World) (H:Hp) (a:Addr) (ns:List Int),ns.length<=n->jL H->SqL (K w.params) H a (ns.map V.int)->sp w [.ref a] H (λv _=>v=.bl true) λ_ _ _=>False)
  (hCX:∀(w:World) (H:Hp) (s:Shared) (e:Value) (s':Shared),CX w [] H s (λ_ _ _=>False) e s'->False):
  W.WalkO q loose XP YP l.row.toRowW d [] (λf vs=>PySem.call f vs):=by
 refine Att.attach_call hn hdf λw s₀ s₁ mg mb fa o pm cd doc a vs ns G Y ho hd hcd hmg hobj hints hlen hg=> ?_;have KX:=hY w _ Y;obtain⟨fd,hb,hF⟩:=F w mg fa _ KX G.T.g hmg;exact Og KX G.T.g G.T.b G.T.builtins G.T.nolimit hg hobj hints (zd hlen hn2) hr hF hb (λH hO hS=>hsp w H a ns hlen hO hS) λH e s'=>hCX w H s₁ e s'
noncomputable def cO(s:Stmt)(j:Nat):Stmt:=match s with
 | .ClassDef _ _ _ body _ _ _ _ _ _ _=>body.getD j (.Pass ⟨0,0,0,0⟩)
 | _=>.Pass ⟨0,0,0,0⟩
noncomputable def k_(s:Stmt):Arguments:=match s with
 | .FunctionDef _ a _ _ _ _ _ _ _ _=>a
 | _=>{posonlyargs:=[],args:=[],vararg:=none,kwonlyargs:=[],kw_defaults:=[],kwarg:=none,defaults:=[]}
noncomputable def i9(s:Stmt):List Stmt:=match s with
 | .FunctionDef _ _ b _ _ _ _ _ _ _=>b
 | _=>[]
noncomputable def bj(s:Stmt):Scope:=match s with
 | .FunctionDef _ _ _ _ _ _ sc _ _ _=>sc
 | _=>{kind:=.function,names:=[],isGenerator:=false,isCoroutine:=false}
noncomputable abbrev E0:XK:=λ_ _ _=>False
structure Fun (K:W.Frag) (x qual:Str) (st:Stmt) (f:Addr) (fd:FuncData):Prop where
 ex:∃(oc:Value) (od:Option Addr) (kV doc pm:Value) (an:Option Addr) (cdv ct:Value) (osl:Array (Option Value)),
  fd=W.fnOf x qual (k_ st) (i9 st) (bj st) .none kV doc pm an cdv ct/\K.lookup f=some ⟨oc,od,.func fd,osl⟩/\W.codeIn K cdv qual=true
 kp:W.keepIn K (.ref f)=true
section
variable {P : Program} {w : World} {K : W.Frag} {mg : Str -> Option Value} {base : Heap}
theorem Fun.binds{st:Stmt}(F:Fun K x qual st f fd)
  (h:∀(kV doc pm:Value) (an:Option Addr) (cdv ct:Value) (us:List Value),us.length=ps.length->bindArgs (W.fnOf x qual (k_ st) (i9 st) (bj st) .none kV doc pm an cdv ct) ⟨us,[]⟩=pure (ps.zip us)):jfb K fd ps []:=by
 obtain⟨oc,od,kV,doc,pm,an,cdv,ct,osl,rfl,lk,hcd⟩:=F.ex;exact .all (h kV doc pm an cdv ct)
theorem Ju{st:Stmt}{kV doc pm cdv ct:Value}(l:K.lookup f=some ⟨oc,od,.func (W.fnOf x qual (k_ st) (i9 st) (bj st) .none kV doc pm an cdv ct),osl⟩)
  (c:W.codeIn K cdv qual=true) (k:W.keepIn K (.ref f)=true):Fun K x qual st f (W.fnOf x qual (k_ st) (i9 st) (bj st) .none kV doc pm an cdv ct):=⟨⟨oc,od,kV,doc,pm,an,cdv,ct,osl,rfl,l,c⟩,k⟩
end
theorem By(hr:Room k A):A.units+1<cLine:=zm (Nat.add_le_add_left (by decide:1<=64) _) hr.units
section
variable {X : Cx}
theorem pv(i:Nat){x:Str}{pos:Pos}(hN:X.N[i]?=some x:=by rfl)(hv:Gi X.env.scope x:=by first|exact Or.inl rfl|exact Or.inr (Or.inl rfl)|exact Or.inr (Or.inr rfl))(hd:(x==("__debug__":Str))=false:=by decide)
  (hcd:(x==("__classdict__":Str))=false:=by decide):PE X (.Name x pos) (qO i):=sH hN hv hd hcd
theorem Px:jcn X (.builtin "len") (λxs H Q=>∃a kvs,xs=[V.ref a]/\H a=some (.dK kvs)/\Q (.int kvs.length) H):=by
 intro pins s σ H xs us Q I r h;obtain⟨a,kvs,rfl,ha,q⟩:=h;obtain⟨u,rfl,ru⟩:=iq r;cases ru;exact BM I (.inl ha) λt s' I'=>⟨.int kvs.length,H,I',⟨t,rfl⟩,q⟩
end
noncomputable def Same(H H':Hp):Prop:=∀b o,H b=some o->H' b=some o
theorem Same.refl(H:Hp):Same H H:=λ_ _ h=>h
theorem Same.trans(a:Same H H1)(b:Same H1 H2):Same H H2:=λc o h=>b c o (a c o h)
theorem O5{R:Result->Shared->Prop}(I:Nat->Shared->Prop)
  (turn:∀n s,I n s->wpAny (model prog w) A (pyNext it) (λr s₁=>match r with
   | none=>R (.ok .next) s₁
   | some v=>wpAny (model prog w) A (letOwnedTupleGo target it v) (λ_ s₁'=>wpAny (model prog w) A (assign target env v) (λ_ s₂=>
     wpAny (model prog w) A (forIn ifs true λc r=>if r=true then do let ok<-isTrue c env (eval c env);pure (ForInStep.yield ok)else pure (ForInStep.yield r)) (λok s₃=>
      if ok=true then wpAny (model prog w) A (eval elt env) (λx s₄=>
       wpAny (model prog w) A (call (.builtin "list.append") [acc,x]) (λ_ s₅=>∃m,m<n/\I m s₅) (λ_ _=>False) s₄) (λ_ _=>False) s₃
      else ∃m,m<n/\I m s₃) (λ_ _=>False) s₂) (λ_ _=>False) s₁') (λ_ _=>False) s₁) (λ_ _=>False) s)
  (n:Nat) (h:I n s):
  codeAny (model prog w) A (.compLoop (.ListComp elt [⟨target,iter,ifs,0⟩] scope pos) 0 it acc env) R s:=by
 refine codeAny_loop rfl I (λn s hI=> ?_) n h;show wpAny _ A ((compTurn (.ListComp elt [⟨target,iter,ifs,0⟩] scope pos) 0 it acc env).onRaise (λx=>do noteFrame x env;theTreesLotGoes x)) _ _ s;refine wpAny_noted ?_;rw[compTurn_list];refine wpAny_bind (wpAny_standAt (wpAny_bind (wpAny_mono (turn n s hI) (λr s₁ h₁=> ?_) λ_ _ f=>f.elim)));cases r with
 | none=>exact wpAny_pure h₁
 | some v=>
  refine wpAny_bind (wpAny_mono h₁ (λ_ s₁' h₁'=>wpAny_bind (wpAny_mono h₁' (λ_ s₂ h₂=>wpAny_bind (wpAny_mono h₂ (λok s₃ h₃=> ?_) λ_ _ f=>f.elim)) λ_ _ f=>f.elim)) λ_ _ f=>f.elim);cases ok with
  | false=>exact wpAny_pure ⟨rfl,h₃⟩
  | true=>
   exact wpAny_bind (wpAny_bind (wpAny_mono h₃ (λx s₄ h₄=>wpAny_bind (wpAny_mono h₄ (λ_ s₅ h₅=>wpAny_pure (wpAny_pure ⟨rfl,h₅⟩)) λ_ _ f=>f.elim)) λ_ _ f=>f.elim))
noncomputable def PF(X:Cx)(ifs:List Expr)(t:TT):Prop:=
 ∀(pins:List (Addr×Obj)) (s:Shared) (σ:St) (H:Hp) (Q:Bool->Hp->Prop),Inv X pins σ H s->t σ H Q->
  wpAny (model X.prog X.w) X.A (forIn ifs true λc r=>if r=true then do let ok<-isTrue c X.env (eval c X.env);pure (ForInStep.yield ok)else pure (ForInStep.yield r)) (TP X pins σ Q) X.xe s
noncomputable def aS:TT:=λ_ H Q=>Q true H
theorem iu:PF X [] aS:=λ_ s _ H _ I q=>wpAny_tests_nil ⟨H,I,q⟩
theorem kI(h:PT X c t):PF X [c] t:=λpins s σ H Q I q=>wpAny_tests_one (h pins s σ H Q I q)
noncomputable def fk(X:Cx)(N':List Str)(scope:Scope)(cl:List (Str×Addr))(C:Addr)(s₂:Shared)(H₂:Hp)(fp:List Addr):Cx:=
  {prog:=X.prog,w:=X.w,K:=X.K,mg:=X.mg,base:=X.base,A:=X.A,N:=N',s₀:=s₂,H₀:=H₂,env:=compEnvC scope cl C X.env,outer:=X.stack,stack:=X.stack,ex:=fp,
    fn:=λ_=>false,calm:=X.calm,pn:=[],xe:=λ_ _=>False}
inductive Caps (X:Cx) (scope:Scope) (cl:List (Str×Addr)):List Str->List Nat->Prop
 | nil:Caps X scope cl [] []
 | cons {n:Str} {j:Nat} {ns:List Str} {js:List Nat} {c:Addr}:X.N[j]?=some n->(X.env.kindOf n=some .cell\/X.env.kindOf n=some .free)->((relabel scope X.env).names.lookup n=some .cell\/(relabel scope X.env).names.lookup n=some .free)->
   X.env.cells.lookup n=some c->cl.lookup n=some c->Caps X scope cl ns js->Caps X scope cl (n::ns) (j::js)
theorem Caps.len:∀{ns:List Str} {js:List Nat},Caps X scope cl ns js->ns.length=js.length
 | _,_,.nil=>rfl
 | _,_,.cons _ _ _ _ _ r=>by simp[r.len]
theorem Caps.get{X:Cx}{scope:Scope}{cl:List (Str×Addr)}:∀{ns:List Str} {js:List Nat},Caps X scope cl ns js->∀(i:Nat) (n:Str),ns[i]?=some n->
  ∃j c,js[i]?=some j/\X.N[j]?=some n/\(X.env.kindOf n=some .cell\/X.env.kindOf n=some .free)/\((relabel scope X.env).names.lookup n=some .cell\/(relabel scope X.env).names.lookup n=some .free)/\X.env.cells.lookup n=some c/\cl.lookup n=some c
 | _,_,.nil,i,n,h=>by simp at h
 | _,_,.cons a b c d e r,0,n,h=>by
  simp at h;subst h;exact⟨_,_,rfl,a,b,c,d,e⟩
 | _,_,.cons a b c d e r,i+1,n,h=>by
  obtain⟨j,c',h1,h2⟩:=r.get i n (by simpa using h);exact⟨j,c',by simpa using h1,h2⟩
noncomputable def jj(idx:List Nat)(σ:St):St:=idx.map λj=>(σ[j]?).getD none
noncomputable def GO(nt:Nat)(idx:List Nat)(wi:TI)(g:TG)(tc:TT)(te:TE):TE:=λσ H Q=>wi σ H λJ H1=>∀l,H1 l=none->
 ∃W:Nat->Nat->List V->Hp->Prop,(∃m,W 0 m [] (aQ H1 l (.lst [])))/\∀i m ys H2,W i m ys H2->H2 l=some (.lst ys)/\ys.length<sizeLine/\
  ((J.stop i H2/\Q (.ref l) H2)\/(J.go i H2/\∀x H3,J.yld i H2 x H3->g x (List.replicate nt none++jj idx σ) H3 λσ4 H4=>tc σ4 H4 λc H5=>
   if c=true then te σ4 H5 λy H6=>H6 l=some (.lst ys)/\∃m',m'<m/\W (i+1) m' (ys++[y]) (aQ H6 l (.lst (ys++[y])))else ∃m',m'<m/\W (i+1) m' ys H5))
theorem sx{X:Cx}{cl:List (Str×Addr)}(hsub:∀p∈cl,X.env.cells.lookup p.1=some p.2):∀x c,cl.lookup x=some c->X.env.cells.lookup x=some c:=by
 intro x c h
 induction cl with
 | nil=>simp at h
 | cons p r ih=>
  obtain⟨y,d⟩:=p;rw[ki]at h;cases e:x==y with
  | true=>
   rw[e]at h;simp at h;subst h;have:=hsub (y,d) (by simp);rw[eq_of_beq e];exact this
  | false=>
   rw[e]at h;exact ih (λp hp=>hsub p (by simp[hp])) (by simpa using h)
theorem Un.sameBut{C:Addr}(u:Un fs ex H₂ H₅ h₂ h₅)(hC:h₂.objs.size<=C)(sb:Heap.SameBut C h₅ h'):Un fs ex H₂ H₅ h₂ h':=by
 have lt:∀{b o},h₂.get? b=some o->b≠C:=fun{b o} e q=>by
  have:=qd e;rw[q]at this;exact absurd this (Nat.not_lt.mpr hC)
 exact⟨λb o e n f x=>sb.extBut b _ (lt e) (u.keep b o e n f x),λb o e n f x=>by
   obtain⟨sl,q⟩:=u.slot b o e n f x;exact⟨sl,sb.extBut b _ (lt e) q⟩,u.free,λb o e x=>by
   obtain⟨o',q⟩:=u.there b o e x;exact⟨o',sb.extBut b _ (lt e) q⟩,u.tups,u.frzs,u.tbls⟩
theorem HOk.sameBut(x:HOk P w H h)(hC:H C=none)(sb:Heap.SameBut C h h'):HOk P w H h':=λa o e=>
 (x a o e).stay (λb u hb q=>sb.extBut b u (by
  rintro rfl;rcases hb with rfl|hb
  ·rw[hC]at e;cases e
  ·rw[hC]at hb;cases hb) q) (λ_ q=>q) λ_ _ q=>q
theorem Un.but(sb:Heap.SameBut C h h'):Un fs [C] H H h h':=
 ⟨λb o e _ _ x=>sb.extBut b o (by simpa using x) e,λb o e _ _ x=>⟨o.slots,sb.extBut b o (by simpa using x) e⟩,λ_ _ _ n _=>n,λb o e x=>⟨o,sb.extBut b o (by simpa using x) e⟩,λ_ _ q=>q,λ_ _ _ q=>q,
  λ_ ps q=>⟨#[],by simpa using q⟩⟩
noncomputable def xQ(nt:Nat)(g:TG):Prop:=∀x σ H Q,g x σ H Q->g x σ H λσ' H'=>Q σ' H'/\σ'.length=σ.length/\∀i,nt<=i->σ'[i]?=σ[i]?
theorem eh(h:i<nt):xQ nt (ay i):=λx σ H Q q=>⟨q,by simp,λj hj=>by rw[qe (by omega)]⟩
section
variable {X : Cx} {elt target iter : Expr} {ifs : List Expr} {scope : Scope} {pos : Pos} {cl : List (Str × Addr)} {nt : Nat} {tgs cap : List Str} {idx : List Nat} {wi : TI} {g : TG} {tc : TT} {te : TE}
structure CompOk (X:Cx) (scope:Scope) (cl:List (Str×Addr)) (tgs cap:List Str) (idx:List Nat):Prop where
 clos:closureFor scope X.env=pure cl
 kind:scope.kind=.function
 cell:∀y∈scope.names,y.2≠ .cell
 names:∀y∈scope.names,y.2=.local->scope.names.lookup y.1=some .local
 sub:∀p∈cl,X.env.cells.lookup p.1=some p.2
 has:((relabel scope X.env).names.all λy=> !(y.2== .cell||y.2== .free)||(cl.lookup y.1).isSome)=true
 caps:Caps X scope cl cap idx
theorem pR{names:List (Str×NameKind)}(h:(names.all λy=> !(y.2== .cell||y.2== .free)||(cl.lookup y.1).isSome)=true):
  ∀x,(names.lookup x=some .cell\/names.lookup x=some .free)->∃c,cl.lookup x=some c:=by
 induction names with
 | nil=>intro x hx;simp at hx
 | cons p r ih=>
  obtain⟨y,k⟩:=p;rw[wk,qu]at h;intro x hx;rw[ki]at hx;cases e:x==y with
  | true=>
   rw[e]at hx;have ey:=eq_of_beq e;subst ey;have h1:=h.1;rcases hx with hx|hx<;>(simp at hx;subst hx;exact w5.mp (by simpa using h1))
  | false=>
   rw[e]at hx;exact ih h.2 x (by simpa using hx)
theorem NM{s₂:Shared}{σ:St}{fp:List Addr}{C:Addr}(eC:C=s₂.heap.objs.size+1)(O:CompOk X scope cl tgs cap idx)(I:Inv X pins σ H₂ s₂)(hfp:∀b∈fp,dU X pins H₂ b)(hfo:∀b∈fp,b<s₂.heap.objs.size)
  (hns:h₁.Ns C (λx=>([]:List (Str×Value)).reverse.lookup x))
  (hsb:Heap.SameBut C ((s₂.heap.push {cls:=.type "list",dict:=none,data:=.seq ([]:List Value).toArray}).push {cls:=.type "dict",data:=.dict #[]}) h₁):
  Inv (fk X (tgs++cap) scope cl C s₂ H₂ fp) [] (List.replicate tgs.length none++jj idx σ) (aQ H₂ s₂.heap.objs.size (.lst [])) {s₂ with heap:=h₁,toks:=tk}:=by
 have ltC:∀{b:Addr},b<s₂.heap.objs.size->b≠C:=fun{b} lt=>by rw[eC];exact qo (gj lt)
 have kp:∀b o,s₂.heap.get? b=some o->h₁.get? b=some o:=λb o e=>by
  have lt:=qd e;exact hsb.extBut b o (ltC lt) (qa _ (qa _ e))
 have hD:h₁.get? s₂.heap.objs.size=some {cls:=.type "list",dict:=none,data:=.seq ([]:List Value).toArray}:=
  hsb.extBut _ _ (by rw[eC];exact qo (zy _)) (qa _ (qw _ rfl))
 have fresh:∀a,s₂.heap.objs.size<=a->H₂ a=none:=λa ha=>I.hok.fresh ha;have stk:=I.stkSub;have nf:∀b∈fp,b∉cg X.stack:=λb hb hm=>by
  rcases qr.mp (stk b hm)with e|e
  ·exact(hfp b hb).2.1 e
  ·exact(hfp b hb).2.2.1 e
 have sub:=sx O.sub;have clt:∀x c,cl.lookup x=some c->c<s₂.heap.objs.size:=λx c e=>by
  obtain⟨v,o,e',_⟩:=I.cell x c (sub x c e);exact qd e'
 refine⟨⟨I.ok.mod,?_,I.ok.glob,I.ok.blt,(by show s₂.heap.objs.size<=C;rw[eC];exact gf _),?_,?_,?_,I.ok.hd,I.ok.frames,.inl rfl,?_,?_,?_,?_,nf,I.stack,I.stkFree⟩,rfl,I.bare,?_,?_,?_,?_,?_,?_,?_,?_⟩
 ·exact O.kind
 ·intro x y c h1 h2;exact I.ok.inj x y c (sub _ _ h1) (sub _ _ h2)
 ·exact pR O.has
 ·intro x c h;cases h
 ·intro b hb
  have lt:=hfo b hb;exact⟨ltC lt,λx c h=>(hfp b hb).2.2.2.2.1 x c (sub _ _ h)⟩
 ·exact I.bs
 ·exact zd I.ok.bsz I.sz
 ·intro b o e hb
  rcases(hfp b hb).2.2.2.1 with h|h
  ·exact I.ok.noex b o e h
  ·exact absurd (qd e) (Nat.not_lt.mpr (zd I.ok.bsz h))
 ·exact(Un.laid (a:=s₂.heap.objs.size) kp (qb _) (fresh _ (qb _)))
 ·refine⟨_,hns,λi x v hN hv hvis=> ?_⟩
  by_cases hi:i<tgs.length
  ·rw[za (by simpa using hi)]at hv
   rw[wa]at hv;simp[hi]at hv
  ·have hi':tgs.length<=i:=Nat.not_lt.mp hi
   have hN':(tgs++cap)[i]?=some x:=hN;rw[zo hi']at hN';rw[zo (by simpa using hi')]at hv;simp only[kh]at hv;obtain⟨j,c,h1,h2,h3,h4,h5,h6⟩:=O.caps.get _ _ hN';unfold jj at hv;rw[zb,h1]at hv;simp at hv;have hv':σ[j]?=some (some v):=by
    cases e:σ[j]? with
    | none=>rw[e]at hv;cases hv
    | some z=>rw[e]at hv;simp at hv;rw[hv]
   obtain⟨m,hm,lk⟩:=I.loc;obtain⟨u,ru,lk⟩:=lk j x v h2 hv' (by rcases h3 with h3|h3;exact .inr (.inl h3);exact .inr (.inr h3));refine⟨u,ru,.inr ⟨h4,?_⟩⟩;rcases lk with⟨k1,_⟩|⟨_,c',k2,k3⟩
   ·rcases h3 with h3|h3<;>(rw[h3]at k1;cases k1)
   ·rw[h5]at k2;cases k2
    obtain⟨o,k4,k5⟩:=k3;exact⟨c,h6,o,kp _ _ k4,k5⟩
 ·intro x c e
  obtain⟨v,o,e',q⟩:=I.cell x c (sub x c e);exact⟨v,o,kp _ _ e',q⟩
 ·show(aQ H₂ s₂.heap.objs.size (.lst [])) C=none
  rw[eC,aW (k6 (zy _))];exact fresh _ (gf _)
 ·intro x c e
  have:=clt x c e;rw[aW (qo this)];exact I.freeC x c (sub x c e)
 ·intro p hp;cases hp
 ·exact I.hok.laid kp (qb _) ⟨qx _,[],0,.nil,hD⟩
 ·have:=O.caps.len
  simp[jj,fk,this]
theorem Lj{RR:Value->Addr->Result->Shared->Prop}{E₀:Value->Shared->Prop}{σ:St}{tn:Nat->Heap->Prop}{Fin:Addr->Hp->Prop}
  (O:CompOk X scope cl tgs cap idx) (hc:X.calm=true) (hgo:xQ tgs.length g)
  (hg:∀C s₂ H₂ fp,PG (fk X (tgs++cap) scope cl C s₂ H₂ fp) target g) (ht:∀C s₂ H₂ fp,PF (fk X (tgs++cap) scope cl C s₂ H₂ fp) ifs tc) (he:∀C s₂ H₂ fp,PE (fk X (tgs++cap) scope cl C s₂ H₂ fp) elt te)
  (I:Inv X pins σ H₂ s₂) (T:Turn X.prog X.w X.K target J fp it tn) (st:tn 0 s₂.heap) (hfp:∀b∈fp,dU X pins H₂ b)
  (rd:∀l,H₂ l=none->∃W:Nat->Nat->List V->Hp->Prop,(∃m,W 0 m [] (aQ H₂ l (.lst [])))/\∀i m ys H2,W i m ys H2->H2 l=some (.lst ys)/\ys.length<sizeLine/\
   ((J.stop i H2/\Fin l H2)\/(J.go i H2/\∀x H3,J.yld i H2 x H3->g x (List.replicate tgs.length none++jj idx σ) H3 λσ4 H4=>tc σ4 H4 λc H5=>
    if c=true then te σ4 H5 λy H6=>H6 l=some (.lst ys)/\∃m',m'<m/\W (i+1) m' (ys++[y]) (aQ H6 l (.lst (ys++[y])))else ∃m',m'<m/\W (i+1) m' ys H5)))
  (fin:∀C σ5 H5 s5,s₂.heap.objs.size<=C->s₂.heap.objs.size≠C->Inv (fk X (tgs++cap) scope cl C s₂ H₂ fp) [] σ5 H5 s5->Fin s₂.heap.objs.size H5->RR (.ref s₂.heap.objs.size) C (.ok .next) s5):
  wpAny (model X.prog X.w) X.A (newList []) (λacc s₃=>wpAny (model X.prog X.w) X.A (newFunctionEnv scope X.env.globals cl [] X.env.qual none .none (some X.env)) (λcenv s₄=>
   codeAny (model X.prog X.w) X.A (.compStart (.ListComp elt [⟨target,iter,ifs,0⟩] scope pos) 0 (.ref it) acc {cenv with scope:=relabel scope X.env}) (RR acc cenv.locals) s₄) E₀ s₃) E₀ s₂:=by
 have hfo:∀b∈fp,b<s₂.heap.objs.size:=λb hb=>by
  obtain⟨o,e,_⟩:=T.obj 0 _ st b hb;exact qd e
 refine wpAny_newObj_type (wpAny_newFunctionEnv O.cell (by intro y hy;simp at hy) (λh₁ hns₁ hsb₁=> ?_) O.kind);have eC:(s₂.heap.push {cls:=.type "list",dict:=none,data:=.seq ([]:List Value).toArray}).objs.size=s₂.heap.objs.size+1:=kf ..;dsimp only at hns₁ hsb₁ ⊢;generalize(s₂.heap.push {cls:=.type "list",dict:=none,data:=.seq ([]:List Value).toArray}).objs.size=C at eC hns₁ hsb₁ ⊢;have ltC:∀{b:Addr},b<s₂.heap.objs.size->b≠C:=fun{b} lt=>by rw[eC];exact qo (gj lt)
 have IC:=NM (tk:=s₂.toks+([]:List (Str×Value)).length) eC O I hfp hfo hns₁ hsb₁;have kp:∀b o,s₂.heap.get? b=some o->h₁.get? b=some o:=λb o e=>by
  have lt:=qd e;exact hsb₁.extBut b o (ltC lt) (qa _ (qa _ e))
 have st₁:tn 0 h₁:=T.keep 0 _ _ st λb _ o e=>kp b o e;obtain⟨W,⟨m₀,w₀⟩,step⟩:=rd s₂.heap.objs.size (I.hok.fresh (qb _));have fp0:∀b∈fp,(aQ H₂ s₂.heap.objs.size (.lst [])) b=none:=λb hb=>by
  rw[aW (qo (hfo b hb))];exact(hfp b hb).1
 have stat:∀{pl:List (Addr×Obj)} {H':Hp},(∀b∈fp,H' b=none)->pl=[]->∀b∈fp,dU (fk X (tgs++cap) scope cl C s₂ H₂ fp) pl H' b:=fun{pl H'} hn hp b hb=>by
  subst hp;have lt:=hfo b hb;refine⟨hn b hb,ltC lt,IC.ok.exfs b hb,.inl hb,λx c h=>(IC.ok.exf b hb).2 x c h,λp hp=>by cases hp⟩
 have loop:codeAny (model X.prog X.w) X.A (.compLoop (.ListComp elt [⟨target,iter,ifs,0⟩] scope pos) 0 (.ref it) (.ref s₂.heap.objs.size) (compEnvC scope cl C X.env))
   (RR (.ref s₂.heap.objs.size) C) {s₂ with heap:=h₁,toks:=s₂.toks+([]:List (Str×Value)).length}:=by
  refine O5 (λn s'=>∃i ys H',Inv (fk X (tgs++cap) scope cl C s₂ H₂ fp) [] (List.replicate tgs.length none++jj idx σ) H' s'/\tn i s'.heap/\(∀b∈fp,H' b=none)/\W i n ys H') ?_ m₀
   ⟨0,[],_,IC,st₁,fp0,w₀⟩
  rintro n s3 ⟨i,ys,H3,I3,st3,fr3,w3⟩;obtain⟨hl,hz,w3⟩:=step i n ys H3 w3;rcases w3 with⟨stop,q⟩|⟨go,w3⟩
  ·refine bx (T.done (fk X (tgs++cap) scope cl C s₂ H₂ fp) rfl rfl rfl hc i [] s3 _ H3 _ I3 (stat fr3 rfl) st3 stop) λr s4 ⟨hr,I4⟩=> ?_
   subst hr;exact fin C _ H3 s4 (by rw[eC];exact gf _) (by rw[eC];exact qo (zy _)) I4 q
  ·refine bx (T.item (fk X (tgs++cap) scope cl C s₂ H₂ fp) rfl rfl rfl hc i [] s3 _ H3 _ I3 (stat fr3 rfl) st3 go) λr s4 ⟨u,hr,h4⟩=> ?_
   subst hr;refine bx h4 λ_ s5 ⟨x,H5,I5,r5,y5,st5,fr5⟩=> ?_;have I5':=I5.pinned (stat fr5 rfl) (T.obj _ _ st5);refine bx (hg _ _ _ _ _ s5 _ H5 x u _ I5' r5 (hgo _ _ _ _ (w3 x H5 y5))) λ_ s6 ⟨σ6,H6,I6,q6,len6,same6⟩=> ?_;refine bx (ht _ _ _ _ _ s6 σ6 H6 _ I6 q6) λok s7 ⟨H7,I7,q7⟩=> ?_;have again:∀{H8:Hp} {s8:Shared},Inv (fk X (tgs++cap) scope cl C s₂ H₂ fp) ([]++yt fp s5.heap) σ6 H8 s8->
     Inv (fk X (tgs++cap) scope cl C s₂ H₂ fp) [] (List.replicate tgs.length none++jj idx σ) H8 s8/\tn (i+1) s8.heap/\∀b∈fp,H8 b=none:=fun{H8 s8} I8=>by
    refine⟨?_,T.keep _ _ _ st5 λb hb o e=>(I8.pin (b,o) (zg _ (zg _ (CM hb e)))).1,λb hb=> ?_⟩
    ·refine I8.unpinned.weak len6.symm λj v hv=> ?_
     by_cases hj:tgs.length<=j
     ·rw[same6 j hj];exact hv
     ·rw[za (by simp;omega),wa]at hv
      simp[Nat.not_le.mp hj]at hv
    ·obtain⟨o,e,d⟩:=T.obj _ _ st5 b hb
     exact(I8.pin (b,o) (zg _ (zg _ (CM hb e)))).2.1
   cases ok with
   | false=>
    rw[if_neg qq]at q7 ⊢;obtain⟨m',hm,w8⟩:=q7;obtain⟨a1,a2,a3⟩:=again I7;exact⟨m',hm,i+1,ys,H7,a1,a2,a3,w8⟩
   | true=>
    rw[if_pos rfl]at q7 ⊢;refine bx (he _ _ _ _ _ s7 σ6 H7 _ I7 q7) λy s8 ⟨v,H8,I8,r8,hl8,m',hm,w8⟩=> ?_;refine bx (KQ _ s8 σ6 H8 (.ref s₂.heap.objs.size) [v] (.ref s₂.heap.objs.size) [y] (λ_ H9=>H9=aQ H8 s₂.heap.objs.size (.lst (ys++[v]))) I8 rfl (.cons r8 .nil) ⟨_,ys,v,rfl,rfl,hl8,hz,rfl⟩) λz s9 ⟨v9,H9,I9,_,e9⟩=> ?_;subst e9;obtain⟨a1,a2,a3⟩:=again I9;exact⟨m',hm,i+1,_,_,a1,a2,a3,w8⟩
 exact codeAny_compStart_list loop (T.self _ 0 _ _ _ st₁ loop)
theorem JE{σ σ5:St}{C:Addr}(I:Inv X pins σ H₂ s₂)(hfp:∀b∈fp,dU X pins H₂ b)(hC:s₂.heap.objs.size<=C)
  (I5:Inv (fk X (tgs++cap) scope cl C s₂ H₂ fp) [] σ5 H5 s5) (sb:Heap.SameBut C s5.heap h'):Inv X pins σ H5 {s5 with heap:=h'}:=
 I.call' (ch:=fp) I5.os (Un.sameBut I5.base hC sb) (HOk.sameBut I5.hok I5.free sb) I5.bare λb hb=>⟨(hfp b hb).2.2.2.1,(hfp b hb).2.1,(hfp b hb).2.2.2.2.1,(hfp b hb).2.2.2.2.2⟩
theorem fe(O:CompOk X scope cl tgs cap idx)(hc:X.calm=true)(hi:PI X target iter wi)(hgo:xQ tgs.length g)
  (hg:∀C s₂ H₂ fp,PG (fk X (tgs++cap) scope cl C s₂ H₂ fp) target g) (ht:∀C s₂ H₂ fp,PF (fk X (tgs++cap) scope cl C s₂ H₂ fp) ifs tc) (he:∀C s₂ H₂ fp,PE (fk X (tgs++cap) scope cl C s₂ H₂ fp) elt te)
  (hs:∀x,foldedSetIterable iter X.env x=pure x:=by intro _;rfl):
  PE X (.ListComp elt [⟨target,iter,ifs,0⟩] scope pos) (GO tgs.length idx wi g tc te):=by
 intro pins s σ H Q I h;rw[eval_ListComp];refine wpAny_comprehension_free (use:=none) rfl hs O.clos O.kind O.names (wpAny_mono (hi pins s σ H _ I h) (λxv s₁ h₁=>wpAny_mono h₁ (λitv s₂ h₂=> ?_) λ_ _ e=>e) λ_ _ e=>e);obtain⟨it,fp,tn,J,H₂,rfl,I₂,T,st,hfp,rd⟩:=h₂;refine Lj (RR:=λacc C=>compPost (model X.prog X.w) X.A X.xe none (EP X pins σ Q) acc C) (Fin:=λl H=>Q (.ref l) H) O hc hgo hg ht he I₂ T st hfp rd ?_;intro C σ5 H5 s5 hC _ I5 q;obtain⟨m,hn,_⟩:=I5.loc;exact⟨m,hn,λh' sb=>⟨.ref _,H5,JE I₂ hfp hC I5 sb,rfl,q⟩⟩
theorem Dc{i:Nat}{y:Str}{py spos:Pos}(hN:X.N.Nodup)(hy:X.N[i]?=some y)(hly:t_ X.env.scope y)(O:CompOk X scope cl tgs cap idx)(hc:X.calm=true)(hi:PI X target iter wi)(hgo:xQ tgs.length g)
  (hg:∀C s₂ H₂ fp,PG (fk X (tgs++cap) scope cl C s₂ H₂ fp) target g) (ht:∀C s₂ H₂ fp,PF (fk X (tgs++cap) scope cl C s₂ H₂ fp) ifs tc) (he:∀C s₂ H₂ fp,PE (fk X (tgs++cap) scope cl C s₂ H₂ fp) elt te)
  (hsw:swapsWith (.ListComp elt [⟨target,iter,ifs,0⟩] scope pos) (some (.Name y py)) spos.line X.env=pure true:=by rfl)
  (hs:∀x,foldedSetIterable iter X.env x=pure x:=by intro _;rfl) (hf:X.fn y=true\/X.env.scope.names.lookup y=some .local:=by first|exact .inl rfl|exact .inr rfl|assumption):
  PS X (.Assign [.Name y py] (.ListComp elt [⟨target,iter,ifs,0⟩] scope pos) spos) (λD σ H=>GO tgs.length idx wi g tc te σ H λx H1=>D.nx (σ.set i (some x)) H1):=by
 intro pins s σ H D I h;rw[exec_Assign_Name_used _ _ _ _ hsw];refine wpAny_bind (wpAny_standAt (wpAny_bind ?_));show wpAny _ X.A (do let _<-comprehension (.ListComp elt [⟨target,iter,ifs,0⟩] scope pos) scope X.env _ (newList []) false (eval iter X.env) (some (assign (.Name y py) X.env))) _ _ s;refine wpAny_bind (wpAny_mono (wpAny_comprehension_free (use:=some (assign (.Name y py) X.env)) (Q:=λ_ s'=>SP X pins D .next s') rfl hs O.clos O.kind O.names
  (wpAny_mono (hi pins s σ H _ I h) (λxv s₁ h₁=>wpAny_mono h₁ (λitv s₂ h₂=> ?_) λ_ _ e=>e) λ_ _ e=>e)) (λ_ s' hq=>wpAny_pure (wpAny_pure hq)) λ_ _ e=>e)
 obtain⟨it,fp,tn,J,H₂,rfl,I₂,T,st,hfp,rd⟩:=h₂;refine Lj (RR:=λacc C=>compPost (model X.prog X.w) X.A X.xe (some (assign (.Name y py) X.env)) (λ_ s'=>SP X pins D .next s') acc C) (Fin:=λl H=>D.nx (σ.set i (some (.ref l))) H) O hc hgo hg ht he I₂ T st hfp rd ?_;intro C σ5 H5 s5 hC hDC I5 q;obtain⟨m,hn,_⟩:=I5.loc;have I6:Inv X pins σ H5 s5:=JE I₂ hfp hC I5 (Heap.SameBut.refl _ _);show wpAny _ X.A (assign (.Name y py) X.env (.ref s₂.heap.objs.size)) _ _ _;refine wpAny_assign_Name (JL I6 hN hy hly (v:=.ref s₂.heap.objs.size) rfl (λs7 I7 ⟨a,sb,ha⟩=> ?_) hf);have haC:C≠a:=by
  rcases ha with rfl|ha
  ·exact k6 (qh I₂.lt hC)
  ·obtain⟨v,o,e,_⟩:=I₂.cell _ _ ha
   exact k6 (qh (qd e) hC)
 refine⟨m,hn.sameBut sb haC,λh' sb'=>⟨_,H5,?_,q⟩⟩;have hCn:H5 C=none:=I5.free;refine I7.call' (ch:=[C]) rfl (Un.but sb') (HOk.sameBut I7.hok hCn sb') I7.bare λb hb=> ?_;have eb:b=C:=by simpa using hb
 subst eb;refine⟨.inr (zd I₂.sz hC),?_,λx c e=> ?_,λp hp=> ?_⟩
 ·exact k6 (qh I₂.lt hC)
 ·obtain⟨v,o,e',_⟩:=I₂.cell _ _ e
  exact qo (qh (qd e') hC)
 ·exact qo (qh (qd (I₂.pin p hp).1) hC)
end
noncomputable def GC(P:Program)(w:World)(K:W.Frag)(mg:Str->Option Value)(base:Heap)(CX:iE)(k:Nat)(x:Str)(sp:Sp):Prop:=
 ∃f fd ps,FnOk P w K mg base CX k f fd ps sp/\mg x=some (.ref f)/\W.keepIn K (.ref f)=true/\jfb K fd ps []
noncomputable def oE(P:Program)(w:World)(K:W.Frag)(mg:Str->Option Value)(base:Heap)(CX:iE)(k:Nat)(C:Addr)(m:Str)(sp:Sp):Prop:=
 ∃f fd ps,Meth K C m f/\FnOk P w K mg base CX k f fd ps sp/\jfb K fd ps []
noncomputable def Fj(P:Program)(w:World)(K:W.Frag)(mg:Str->Option Value)(base:Heap)(CX:iE)(k:Nat)(x:Str)(C:Addr)(sp:Sp):Prop:=
 ∃f fd ps,Mk K C f/\FnOk P w K mg base CX k f fd ps sp/\mg x=some (.ref C)/\jfb K fd ps []
section
variable {X : Cx} {CX : iE} {k : Nat} {C : Addr} {sp : Sp} {E : XK} {x m : Str} {p pos apos : Pos} {e o : Expr} {es : List Expr} {ta : TE} {t : TA}
theorem aJ(G:GC X.prog X.w X.K X.mg X.base CX k x sp)(hr:Room k X.A)(hx:ja CX X E)(ha:PA X (e::es) t)(hg:Gl X x:=by rfl)(hdb:(x==("__debug__":Str))=false:=by decide)
  (he:starEach (e::es) X.env=(false,eval e X.env)::starEach es X.env:=by rfl) (hpl:(backTo pos (starEach es X.env)).any (·.1)=false:=by rfl):
  PE X (.Call (.Name x p) (e::es) [] pos) (DX sp [] E t):=by
 obtain⟨f,fd,ps,F,hm,hk,hb⟩:=G;exact NY F hr hg hm hk hb .nil hx ha hdb he hpl
theorem kD(G:Fj X.prog X.w X.K X.mg X.base CX k x C sp)(hr:Room (k+1) X.A)(hx:ja CX X E)(ha:PA X (e::es) t)(hg:Gl X x:=by rfl)(hdb:(x==("__debug__":Str))=false:=by decide)
  (he:starEach (e::es) X.env=(false,eval e X.env)::starEach es X.env:=by rfl) (hpl:(backTo pos (starEach es X.env)).any (·.1)=false:=by rfl):
  PE X (.Call (.Name x p) (e::es) [] pos) (uk C sp [] E t):=by
 obtain⟨f,fd,ps,M,F,hm,hb⟩:=G;exact LH M F hr hg hm hb .nil hx ha hdb he hpl
theorem qT(G:Fj X.prog X.w X.K X.mg X.base CX k x C sp)(hr:Room (k+1) X.A)(hx:ja CX X E)(hg:Gl X x:=by rfl)(hdb:(x==("__debug__":Str))=false:=by decide):
  PE X (.Call (.Name x p) [] [] pos) (uk C sp [] E iJ):=by
 obtain⟨f,fd,ps,M,F,hm,hb⟩:=G;exact M4 M F hr hg hm hb .nil hx hdb
noncomputable def oq(P:Program)(w:World)(K:W.Frag)(mg:Str->Option Value)(base:Heap)(CX:iE)(k:Nat)(m:Str)(E:XK)(ta:TE)(t:TA):TE:=λσ H Q=>ta σ H λx H1=>
 ∃a C dx fs sp,x=.ref a/\H1 a=some (.ins C dx fs)/\Cls K C/\oE P w K mg base CX k C m sp/\fs.lookup m=none/\t σ H1 λvs H2=>sp (x::vs) H2 Q E
theorem cN{pl:Sem Bool}(he:PE X o ta)(hr:Room k X.A)(hx:ja CX X E)(ha:PA X (e::es) t)
  (hst:starEach (e::es) X.env=(false,eval e X.env)::starEach es X.env:=by rfl) (hpl:(backTo pos (starEach es X.env)).any (·.1)=false:=by rfl)
  (ht:eval (.Call (.Attribute o m apos) (e::es) [] pos) X.env=(do
   let ov<-eval o X.env
   standAt apos.atName
   let (f,first)<-holding [ov] (getMethod ov m pl)
   callWith pos f first (backTo pos (starEach (e::es) X.env)) (backToKw pos (keywordEach [] X.env))):=by rfl):
  PE X (.Call (.Attribute o m apos) (e::es) [] pos) (oq X.prog X.w X.K X.mg X.base CX k m E ta t):=by
 intro pins s σ H Q I h;refine W.methodCall_KW (pl:=pl) (bx (he pins s σ H _ I h) λu s1 ⟨x,H1,I1,rx,a,C,dx,fs,sp,ex,ea,c,⟨f,fd,ps,hm,F,hb⟩,l,q⟩=> ?_) ht;subst ex;obtain rfl:u=Value.ref a:=rx;refine Fq I1 ea c hm l ?_;refine W.callWith_K (first:=[.ref a]) (h₀:=X.base) I.ok.mod.kin hm.kp (bx (ha pos pins s1 σ H1 _ I1 q) λus s2 ⟨vs,H2,I2,r,q2⟩=>⟨I2.kIn,?_⟩) hst hpl;exact EL (us:=.ref a::us) (vs:=.ref a::vs) (dvs:=[]) (ds:=[]) F hr hb .nil hx I2 (.cons rfl r) (by simpa using q2)
theorem fK{pl:Sem Bool}(he:PE X o ta)(hr:Room k X.A)(hx:ja CX X E)
  (ht:eval (.Call (.Attribute o m apos) [] [] pos) X.env=(do
   let ov<-eval o X.env
   standAt apos.atName
   let (f,first)<-holding [ov] (getMethod ov m pl)
   callWith pos f first (backTo pos (starEach [] X.env)) (backToKw pos (keywordEach [] X.env))):=by rfl):
  PE X (.Call (.Attribute o m apos) [] [] pos) (oq X.prog X.w X.K X.mg X.base CX k m E ta iJ):=by
 intro pins s σ H Q I h;refine W.methodCall_KW (pl:=pl) (bx (he pins s σ H _ I h) λu s1 ⟨x,H1,I1,rx,a,C,dx,fs,sp,ex,ea,c,⟨f,fd,ps,hm,F,hb⟩,l,q⟩=> ?_) ht;subst ex;obtain rfl:u=Value.ref a:=rx;refine Fq I1 ea c hm l ?_;exact W.callWith_K0 (first:=[.ref a]) I1.kIn hm.kp (EL (us:=[.ref a]) (vs:=[.ref a]) (dvs:=[]) (ds:=[]) F hr hb .nil hx I1 (.cons rfl .nil) q)
end
noncomputable abbrev RU:=V->V->Hp->VK->Prop
noncomputable def mD(K:W.Frag):RU:=λx y H Q=>match x,y with
 | .int i,.int j=>Q (.int (i+j)) H
 | .str a,.str b=>a.length+b.length<=sizeLine/\Q (.str (a++b)) H
 | .ref a,.ref b=>Bq (.ref a) (.ref b) H Q\/oC K (.ref a) (.ref b) H Q
 | _,_=>False
theorem Oi:cw X (binaryOp .Add) (mD X.K):=by
 intro pins s σ H x y v u Q I rx ry h;cases x<;>cases y<;>first|exact h.elim|skip
 ·exact rF pins s σ H _ _ v u Q I rx ry ⟨_,_,rfl,rfl,h⟩
 ·exact Lx pins s σ H _ _ v u Q I rx ry ⟨_,_,rfl,rfl,h.1,h.2⟩
 ·rcases h with h|h
  ·exact t5 pins s σ H _ _ v u Q I rx ry h
  ·exact Ls pins s σ H _ _ v u Q I rx ry h
mutual
noncomputable def Rep(H:Hp):V->PyData->Prop
 | v,.none=>v=.non
 | v,.bool b=>v=.bl b
 | v,.int i=>v=.int i
 | v,.str x=>v=.str x
 | v,.list ds=>∃a vs,v=.ref a/\H a=some (.lst vs)/\Reps H vs ds
 | v,.tuple ds=>∃a vs,v=.ref a/\H a=some (.tup vs)/\Reps H vs ds
 | _,.dict _=>False
noncomputable def Reps(H:Hp):List V->List PyData->Prop
 | [],[]=>True
 | v::vs,d::ds=>Rep H v d/\Reps H vs ds
 | _,_=>False
end
mutual
theorem Rep.same{H H':Hp}(e:Same H H'):∀{v:V} {d:PyData},Rep H v d->Rep H' v d
 | v,.none,h=>h
 | v,.bool b,h=>h
 | v,.int i,h=>h
 | v,.str x,h=>h
 | v,.list ds,h=>by
  simp only[Rep]at h ⊢;obtain⟨a,vs,h1,h2,h3⟩:=h;exact⟨a,vs,h1,e _ _ h2,Reps.same e h3⟩
 | v,.tuple ds,h=>by
  simp only[Rep]at h ⊢;obtain⟨a,vs,h1,h2,h3⟩:=h;exact⟨a,vs,h1,e _ _ h2,Reps.same e h3⟩
 | _,.dict _,h=>by simp only[Rep]at h
theorem Reps.same{H H':Hp}(e:Same H H'):∀{vs:List V} {ds:List PyData},Reps H vs ds->Reps H' vs ds
 | [],[],_=>by simp only[Reps]
 | v::vs,d::ds,h=>by
  simp only[Reps]at h ⊢;exact⟨Rep.same e h.1,Reps.same e h.2⟩
 | [],_::_,h=>by simp only[Reps]at h
 | _::_,[],h=>by simp only[Reps]at h
end
mutual
theorem yc{P:Program}{w:World}{H:Hp}{h:Heap}(hk:HOk P w H h):∀{x:V} {v:Value} {d:PyData},RelV x v->Rep H x d->∃as,Reads h v d as
 | x,v,.none,r,q=>by simp only[Rep]at q;subst q;cases r;exact⟨_,.none⟩
 | x,v,.bool b,r,q=>by simp only[Rep]at q;subst q;cases r;exact⟨_,.bool b⟩
 | x,v,.int i,r,q=>by simp only[Rep]at q;subst q;obtain⟨t,rfl⟩:=r;exact⟨_,.int i t⟩
 | x,v,.str y,r,q=>by simp only[Rep]at q;subst q;obtain⟨t,rfl⟩:=r;exact⟨_,.str y t⟩
 | x,v,.list ds,r,q=>by
  simp only[Rep]at q;obtain⟨a,vs,rfl,e,q⟩:=q;cases r;obtain⟨_,its,n,rv,g⟩:=hk a _ e;obtain⟨as,z⟩:=EI hk rv q;exact⟨_,.list g rfl rfl (by simpa using z)⟩
 | x,v,.tuple ds,r,q=>by
  simp only[Rep]at q;obtain⟨a,vs,rfl,e,q⟩:=q;cases r;obtain⟨_,its,rv,o,g,hc,n,hd⟩:=hk a _ e;obtain⟨as,z⟩:=EI hk rv q;exact⟨_,.tuple g hc hd (by simpa using z)⟩
 | _,_,.dict _,_,q=>by simp only[Rep]at q
theorem EI{P:Program}{w:World}{H:Hp}{h:Heap}(hk:HOk P w H h):∀{xs:List V} {us:List Value} {ds:List PyData},Vals xs us->Reps H xs ds->∃as,ReadsAll h us ds as
 | _,_,[],.nil,_=>⟨_,.nil⟩
 | _,_,d::ds,.cons r rs,q=>by
  simp only[Reps]at q;obtain⟨as,z⟩:=yc hk r q.1;obtain⟨bs,y⟩:=EI hk rs q.2;exact⟨_,.cons z y⟩
 | _,_,_::_,.nil,q=>by simp only[Reps]at q
 | _,_,[],.cons _ _,q=>by simp only[Reps]at q
end
noncomputable def ny(d:PyData):Prop:=SeqAt.shaped d=true
noncomputable def KJ:RU:=λx y H Q=>(ji x y=true/\Q (.bl (decide (x=y))) H)\/∃d e,Rep H x d/\Rep H y e/\ny d/\ny e/\Q (.bl (PyData.eqv d e)) H
noncomputable def K0:RU:=λx y H Q=>(ji x y=true/\Q (.bl (!decide (x=y))) H)\/∃d e,Rep H x d/\Rep H y e/\ny d/\ny e/\Q (.bl (!PyData.eqv d e)) H
section
variable {X : Cx}
theorem ck(hu:X.A.units+64<cLine):cw X (compareOp .Eq) KJ:=by
 intro pins s σ H x y v u Q I rx ry h;rcases h with h|⟨d,e,hd,he,sd,se,q⟩
 ·exact xP pins s σ H x y v u Q I rx ry h
 ·obtain⟨as,ra⟩:=yc I.hok rx hd
  obtain⟨bs,rb⟩:=yc I.hok ry he;exact eq_dataH ra rb sd se hu ⟨.bl _,H,I,rfl,q⟩
theorem lZ(hu:X.A.units+64<cLine):cw X (compareOp .NotEq) K0:=by
 intro pins s σ H x y v u Q I rx ry h;rcases h with h|⟨d,e,hd,he,sd,se,q⟩
 ·exact zW pins s σ H x y v u Q I rx ry h
 ·obtain⟨as,ra⟩:=yc I.hok rx hd
  obtain⟨bs,rb⟩:=yc I.hok ry he;exact ne_dataH ra rb sd se hu ⟨.bl _,H,I,rfl,q⟩
noncomputable def DO(P:Program)(w:World)(K:W.Frag)(a:Addr)(kvs:List (cp×V)):Prop:=
 ∀h:Heap,K.In h->(a==sysModules)=false/\∃vs,KV kvs vs/\h.DictOf (eJ P w) a vs
noncomputable def Ed(P:Program)(w:World)(K:W.Frag)(H:Hp)(a:Addr)(y:V)(r:Option V):Prop:=
 DGet H a y r\/(∃kvs k,DO P w K a kvs/\y=kV k/\r=cM kvs k)\/∃o kvs k,H a=some (.frz o (.dK kvs))/\y=kV k/\r=cM kvs k
noncomputable def wH(P:Program)(w:World)(K:W.Frag):R2:=λx y H Q=>∃a v,x=.ref a/\Ed P w K H a y (some v)/\Q v H
theorem LA(hu:X.A.units+64<cLine):IxR X (wH X.prog X.w X.K):=by
 intro value slice pins s σ H x y v u Q I rx ry h hs;obtain⟨a,z,rfl,g,q⟩:=h;cases rx;rcases g with g|⟨kvs,k,kd,rfl,e⟩|⟨o,kvs,k,kd,rfl,e⟩
 ·exact tail_any (Oz I g) PySem.F.slot_dict_getitem.lookup (Ni (by omega) I g ry λw' s3 I3 rw'=>⟨z,H,I3,rw',q⟩) hs
 ·obtain⟨hd,vs,rel,dd⟩:=kd _ I.kIn
  obtain⟨w',hw,rw'⟩:=RelO.some_of (v:=z) (o:=valueAt vs k) (by rw[e];exact rel.val k);exact tail_any dd.typeIs PySem.F.slot_dict_getitem.lookup (wpAny_getItem_of (jc ry) dd.mapOf hw ⟨z,H,I.tok _,rw',q⟩) hs
 ·obtain⟨_,_,hd,vs,rel,dd⟩:=(show jcq X.prog X.w H s.heap a (.frz o (.dK kvs))from I.hok a _ kd)
  obtain⟨w',hw,rw'⟩:=RelO.some_of (v:=z) (o:=valueAt vs k) (by rw[e];exact rel.val k);exact tail_any dd.typeIs PySem.F.slot_dict_getitem.lookup (wpAny_getItem_of (jc ry) dd.mapOf hw ⟨z,H,I.tok _,rw',q⟩) hs
noncomputable def xv(P:Program)(w:World)(K:W.Frag):R2:=λx y H Q=>Kj K x y H Q\/wH P w K x y H Q
theorem FR(hu:X.A.units+64<cLine):IxR X (xv X.prog X.w X.K):=IxR.or pC (LA hu)
noncomputable def wI(P:Program)(w:World)(K:W.Frag)(neg:Bool):RU:=λx y H Q=>
 Ge K neg x y H Q\/(∃i j,x=.str i/\y=.str j/\Q (.bl (if neg then !(!(Builtin.Str.occurrences j i 0 j.length 1).isEmpty)else !(Builtin.Str.occurrences j i 0 j.length 1).isEmpty)) H)\/
 ∃a o,y=.ref a/\Ed P w K H a x o/\Q (.bl (if neg then !o.isSome else o.isSome)) H
theorem sR(hu:X.A.units+64<cLine):cw X (compareOp .In) (wI X.prog X.w X.K false):=by
 intro pins s σ H x y v u Q I rx ry h;rcases h with h|h|⟨a,o,rfl,g,q⟩
 ·exact O3 pins s σ H x y v u Q I rx ry h
 ·exact ON pins s σ H x y v u Q I rx ry h
 ·cases ry
  rcases g with g|⟨kvs,k,kd,rfl,e⟩|⟨o',kvs,k,kd,rfl,e⟩
  ·exact FO (by omega) I g rx λs' I'=>⟨.bl _,H,I',rfl,q⟩
  ·obtain⟨hd,vs,rel,dd⟩:=kd _ I.kIn
   refine wpAny_in_of (jc rx) hd dd.mapOf ?_;rw[<-(rel.val k).isSome_eq,<-e];exact⟨.bl _,H,I.tok _,rfl,q⟩
  ·obtain⟨_,_,hd,vs,rel,dd⟩:=(show jcq X.prog X.w H s.heap a (.frz o' (.dK kvs))from I.hok a _ kd)
   refine wpAny_in_of (jc rx) hd dd.mapOf ?_;rw[<-(rel.val k).isSome_eq,<-e];exact⟨.bl _,H,I.tok _,rfl,q⟩
theorem OQ(hu:X.A.units+64<cLine):cw X (compareOp .NotIn) (wI X.prog X.w X.K true):=by
 intro pins s σ H x y v u Q I rx ry h;rcases h with h|h|⟨a,o,rfl,g,q⟩
 ·exact LX pins s σ H x y v u Q I rx ry h
 ·exact LV pins s σ H x y v u Q I rx ry h
 ·cases ry
  rcases g with g|⟨kvs,k,kd,rfl,e⟩|⟨o',kvs,k,kd,rfl,e⟩
  ·exact N3 (by omega) I g rx λs' I'=>⟨.bl _,H,I',rfl,q⟩
  ·obtain⟨hd,vs,rel,dd⟩:=kd _ I.kIn
   refine wpAny_notIn_of (jc rx) hd dd.mapOf ?_;rw[<-(rel.val k).isSome_eq,<-e];exact⟨.bl _,H,I.tok _,rfl,q⟩
  ·obtain⟨_,_,hd,vs,rel,dd⟩:=(show jcq X.prog X.w H s.heap a (.frz o' (.dK kvs))from I.hok a _ kd)
   refine wpAny_notIn_of (jc rx) hd dd.mapOf ?_;rw[<-(rel.val k).isSome_eq,<-e];exact⟨.bl _,H,I.tok _,rfl,q⟩
noncomputable def yk:V->Option Int->Option Int->Hp->VK->Prop:=λx lo hi H Q=>∃z,x=.str z/\z.length<=sizeLine/\Q (.str (Txt.slice z lo hi)) H
noncomputable def Km(K:W.Frag):V->Option Int->Option Int->Hp->VK->Prop:=λx lo hi H Q=>AQ K x lo hi H Q\/xo K x lo hi H Q
theorem EE:SlR X (Km X.K):=SlR.or N9 qJ
noncomputable def nL(P:Program)(w:World)(K:W.Frag):List V->Hp->VK->Prop:=λxs H Q=>(∃p ys,xs=[.ref p]/\(SqL K H p ys\/SqT K H p ys)/\Q (.int ys.length) H)\/∃z,xs=[.str z]/\z.length<=sizeLine/\Q (.int z.length) H
theorem OV:jcn X (.builtin "len") (nL X.prog X.w X.K):=jcn.or Pz O4
noncomputable def rn(K:W.Frag):List V->Hp->VK->Prop:=λxs H Q=>∃(p:Addr) (ns:List Int),xs=[.ref p]/\SqL K H p (ns.map V.int)/\Q (.int ns.sum) H
theorem OW(hc:X.calm=true):jcn X (.builtin "sum") (rn X.K):=by
 intro pins s σ H xs us Q I r h;obtain⟨p,ns,rfl,hq,q⟩:=h;obtain⟨u,rfl,rx⟩:=iq r;cases rx;obtain⟨its,r',pl,hz⟩:=I.list hq;have hi:=NN r';obtain⟨ys,e⟩:=(hi.allInts:AllInts its.toArray).items;refine sum_intListG (I.ok.hd hc) (xs:=ys) (by rw[<-e];exact pl.isList) λh' tk t' k=>⟨.int ns.sum,H,I.kept (t':=tk) k,⟨t',?_⟩,q⟩;have e2:(numsOf its.toArray.toList).sum=ns.sum:=by rw[show its.toArray.toList=its from rfl,hi.numsOf]
 rw[<-e2,e,nums_intItems,preSum_eq,wr (by simp)]
noncomputable def pZ(K:W.Frag):List V->Hp->VK->Prop:=λxs H Q=>∃(p:Addr) (bs:List Bool),xs=[.ref p]/\SqL K H p (bs.map V.bl)/\Q (.bl (bs.all id)) H
noncomputable def oV:V->Value
 | .ty n=>.type n
 | .ref a=>.ref a
 | _=>.none
noncomputable def rT(K:W.Frag):List V->Hp->VK->Prop:=λxs H Q=>∃x c t b,xs=[x,c]/\((∃n,c=.ty n)\/∃a,c=.ref a)/\TyOf K H x t/\W.kitOne K t (oV c)=some b/\Q (.bl b) H
theorem PM:jcn X (.builtin "isinstance") (rT X.K):=by
 intro pins s σ H xs us Q I r h;obtain⟨x,c,t,b,rfl,hc,ty,e,q⟩:=h;obtain⟨u,w',rfl,rx,rc⟩:=oz r;have ec:w'=oV c:=by
  rcases hc with⟨n,rfl⟩|⟨a,rfl⟩<;>exact rc
 subst ec;exact Pq I rx ty e λtk=>⟨.bl b,H,I.tok tk,rfl,q⟩
noncomputable def GV(mg:Str->Option Value)(x:Str)(v:V):Prop:=∃u,mg x=some u/\RelV v u
theorem eI{x:Str}{v:V}{pos:Pos}(h:GV X.mg x v)(hg:Gl X x:=by rfl)(hd:(x==("__debug__":Str))=false:=by decide):PE X (.Name x pos) (tC v):=by
 obtain⟨u,hm,r⟩:=h;exact Nx hg hm r hd
theorem Mh(ha:PE X a ta):PE X (.UnaryOp .Not a pos) (λσ H Q=>ta σ H λx H1=>∃k,fo X.K x H1 k/\Q (.bl (!k)) H1):=by
 intro pins s σ H Q I h;refine UnaryOp_ (bx (ha pins s σ H _ I h) λv s1 ⟨x,H1,I1,r1,q1⟩=> ?_);exact not_of (bx (JK pins s1 σ H1 x v (λk H2=>Q (.bl (!k)) H2) I1 r1 q1) λk s2 ⟨H2,I2,q2⟩=>⟨.bl (!k),H2,I2,rfl,q2⟩)
end
theorem iz:bootBuiltins "len"=some (.builtin "len"):=by decide+kernel
theorem CC:bootBuiltins "sum"=some (.builtin "sum"):=by decide+kernel
theorem IW:bootBuiltins "all"=some (.builtin "all"):=by decide+kernel
theorem rY:bootBuiltins "any"=some (.builtin "any"):=by decide+kernel
theorem fL:bootBuiltins "isinstance"=some (.builtin "isinstance"):=by decide+kernel
theorem qU:bootBuiltins "max"=some (.builtin "max"):=by decide+kernel
theorem Fd:bootBuiltins "int"=some (.type "int"):=by decide+kernel
theorem nG:bootBuiltins "str"=some (.type "str"):=by decide+kernel
theorem CI:bootBuiltins "list"=some (.type "list"):=by decide+kernel
theorem Oj:bootBuiltins "tuple"=some (.type "tuple"):=by decide+kernel
theorem EV{X:Cx}{x:Str}{n:String}{pos:Pos}(hm:X.mg x=none)(hv:bootBuiltins x=some (.type n))(hg:Gl X x:=by rfl)(hn:x≠"__name__":=by decide)(hd:(x==("__debug__":Str))=false:=by decide):PE X (.Name x pos) (tC (.ty n)):=Me hg hm hv rfl hn hd
noncomputable def CXE(P:Program)(w:World):iE:=λouter H s E e s'=>
 ∃(ea C:Addr) (a0:Value) (B:Heap) (H':Hp),e=.ref ea/\s'.os=s.os/\AllBare s'.gens/\Un (cg outer) [] H H' s.heap s'.heap/\HOk P w H' B/\Heap.FlyingW B outer ea (.ref C) a0 s'.heap/\
  (∀b o,s.heap.get? b=some o->b∉cg outer->∃o',B.get? b=some o')/\(∀b o,s.heap.get? b=some o->H b=none->b∉cg outer->B.get? b=some o)/\E (.ref C) none H'
theorem kR:ja (CXE P w) X E0:=λ_ _ _ _ _ _ _ ⟨_,_,_,_,_,_,_,_,_,_,_,_,_,h⟩=>h.elim
section
variable {P : Program} {w : World} {K : W.Frag} {mg : Str -> Option Value} {base : Heap} {N : List Str} {qual : Str} {scope : Scope} {f : Addr} {cd : Value} {A : Around} {outer : List Env} {s₀ : Shared} {H₀ : Hp} {E : XK}
theorem aL:ja (CXE P w) (bD (CXE P w) P w K mg base N qual scope f cd A outer s₀ H₀ E) E:=by
 intro pins σ H s e s' I h;obtain⟨ea,C,a0,B,H',rfl,hos,hg,u,hok,fl,hB,hBk,hE⟩:=h;have fsE:cg (bD (CXE P w) P w K mg base N qual scope f cd A outer s₀ H₀ E).stack=s₀.heap.objs.size::cg outer:=rfl;have ltL:∀{b o},s₀.heap.get? b=some o->b≠s₀.heap.objs.size:=fun{b o} q=>qo (qd q);have nst:∀{b o},s₀.heap.get? b=some o->b∉cg outer->b∉cg (bD (CXE P w) P w K mg base N qual scope f cd A outer s₀ H₀ E).stack:=fun{b o} q n hm=>by
  rw[fsE]at hm;rcases qr.mp hm with z|z
  ·exact ltL q z
  ·exact n z
 have bu:=I.base;refine wpAny_leaves_onW (env:=envOfC qual scope s₀.heap.objs.size f cd) (outer:=outer) (L:=s₀.heap.objs.size) I.ok.frames rfl fl λh'' fl'' sm=> ?_;have nf:∀{b},b∈cg (bD (CXE P w) P w K mg base N qual scope f cd A outer s₀ H₀ E).stack->∀o,s'.heap.get? b=some o->∀vs,o.data≠ .fields vs:=fun{b} hb o ho=>by
  obtain⟨_,o',ho',hd⟩:=fl.2.2.1.mem (b:=b) hb;rw[ho]at ho';cases ho';exact hd
 refine⟨ea,C,a0,B,H',rfl,hos.trans I.os,hg,⟨?_,?_,?_,?_,?_,?_,?_⟩,hok,fl'',?_,?_,hE⟩
 ·intro b o q n nm _
  have q1:=bu.keep b o q n nm (by simp[bD]);have n1:=bu.free b o q n (by simp[bD]);exact fl''.1 b o (hBk b o q1 n1 (nst q nm))
 ·intro b o q n hm _
  obtain⟨sl,q1⟩:=bu.slot b o q n hm (by simp[bD]);have n1:=bu.free b o q n (by simp[bD]);have hm':b∈cg (bD (CXE P w) P w K mg base N qual scope f cd A outer s₀ H₀ E).stack:=by rw[fsE];exact q9 _ hm
  obtain⟨sl2,q2⟩:=u.slot b _ q1 n1 hm' (by simp);obtain⟨sl3,q3⟩:=sm b _ q2 (nf hm' _ q2);exact⟨sl3,q3⟩
 ·intro b o q n _
  have n1:=bu.free b o q n (by simp[bD]);obtain⟨o1,q1⟩:=bu.there b o q (by simp[bD]);exact u.free b o1 q1 n1 (by simp)
 ·intro b o q _
  obtain⟨o1,q1⟩:=bu.there b o q (by simp[bD]);by_cases hm:b∈cg outer
  ·have hm':b∈cg (bD (CXE P w) P w K mg base N qual scope f cd A outer s₀ H₀ E).stack:=by rw[fsE];exact q9 _ hm
   obtain⟨o2,q2⟩:=u.there b o1 q1 (by simp);obtain⟨sl3,q3⟩:=sm b _ q2 (nf hm' _ q2);exact⟨_,q3⟩
  ·obtain⟨o2,q2⟩:=hB b o1 q1 (nst q hm)
   exact⟨o2,fl''.1 b o2 q2⟩
 ·intro b xs q;exact u.tups b xs (bu.tups b xs q)
 ·intro b o v q;exact u.frzs b o v (bu.frzs b o v q)
 ·intro b ps q
  obtain⟨m1,q1⟩:=bu.tbls b ps q;obtain⟨m2,q2⟩:=u.tbls b _ q1;exact⟨m1++m2,by rw[q2,Array.append_assoc]⟩
 ·intro b o q nm
  obtain⟨o1,q1⟩:=bu.there b o q (by simp[bD]);exact hB b o1 q1 (nst q nm)
 ·intro b o q n nm
  have q1:=bu.keep b o q n nm (by simp[bD]);have n1:=bu.free b o q n (by simp[bD]);exact hBk b o q1 n1 (nst q nm)
theorem oZ{σ:St}(I:Inv (bD (CXE P w) P w K mg base N qual scope f cd A outer s₀ H₀ E) pins σ H s)
  (hx:Heap.MadeExcOf s.heap h' e (.ref C) vs) (hE:E (.ref C) none H):(bD (CXE P w) P w K mg base N qual scope f cd A outer s₀ H₀ E).xe (.ref e) {s with heap:=h'}:=by
 have fsE:cg (bD (CXE P w) P w K mg base N qual scope f cd A outer s₀ H₀ E).stack=s₀.heap.objs.size::cg outer:=rfl;have bu:=I.base;have ltL:∀{b o},s₀.heap.get? b=some o->b≠s₀.heap.objs.size:=fun{b o} q=>qo (qd q);have nst:∀{b o},s₀.heap.get? b=some o->b∉cg outer->b∉(s₀.heap.objs.size::cg outer):=fun{b o} q n hm=>by
  rcases qr.mp hm with z|z
  ·exact ltL q z
  ·exact n z
 have hin:∀env∈(envOfC qual scope s₀.heap.objs.size f cd::outer),∀a,env.frame=some a->a∈(s₀.heap.objs.size::cg outer):=λenv he b hb=>by
  rcases qr.mp he with rfl|he
  ·have:s₀.heap.objs.size=b:=Option.some.inj hb
   subst this;exact qf ..
  ·exact q9 _ (g8.mpr ⟨env,he,hb⟩)
 have stk:s.heap.FunFrames base (envOfC qual scope s₀.heap.objs.size f cd::outer):=I.stack;have hl:=W.funFrames_hide (as:=s₀.heap.objs.size::cg outer) stk hin;refine wpAny_leaves_madeW (base:=W.hideAll s.heap (s₀.heap.objs.size::cg outer)) (h:=s.heap) (env:=envOfC qual scope s₀.heap.objs.size f cd) (outer:=outer) (L:=s₀.heap.objs.size) I.ok.frames rfl
  (λb o q=>W.of_hideAll _ q) hl hx λh'' t fl _ _ sm=> ?_
 have hide:∀{b o},s.heap.get? b=some o->b∉(s₀.heap.objs.size::cg outer)->(W.hideAll s.heap (s₀.heap.objs.size::cg outer)).get? b=some o:=fun{b o} q n=>W.hideAll_get _ q n;have nf:∀{b},b∈cg outer->∀o,s.heap.get? b=some o->∀vs,o.data≠ .fields vs:=fun{b} hb o ho=>by
  obtain⟨_,o',ho',hd⟩:=stk.mem (b:=b) (by rw[show List.filterMap (·.frame) (envOfC qual scope s₀.heap.objs.size f cd::outer)=s₀.heap.objs.size::cg outer from rfl];exact q9 _ hb);rw[ho]at ho';cases ho';exact hd
 have thr:∀b o,s₀.heap.get? b=some o->b∉cg outer->∃o',(W.hideAll s.heap (s₀.heap.objs.size::cg outer)).get? b=some o':=λb o q nm=>by
  obtain⟨o1,q1⟩:=bu.there b o q (by simp[bD]);exact⟨o1,hide q1 (nst q nm)⟩
 have kpt:∀b o,s₀.heap.get? b=some o->H₀ b=none->b∉cg outer->(W.hideAll s.heap (s₀.heap.objs.size::cg outer)).get? b=some o:=λb o q n nm=>
  hide (bu.keep b o q n nm (by simp[bD])) (nst q nm)
 refine⟨e,C,.ref t,_,H,rfl,I.os,I.bare,⟨?_,?_,?_,?_,bu.tups,bu.frzs,bu.tbls⟩,?_,fl,thr,kpt,hE⟩
 ·intro b o q n nm _
  exact fl.1 b o (kpt b o q n nm)
 ·intro b o q n hm _
  obtain⟨sl,q1⟩:=bu.slot b o q n hm (by simp[bD]);obtain⟨sl3,q3⟩:=sm b _ (hx.keeps b _ q1) (nf hm _ q1);exact⟨sl3,q3⟩
 ·intro b o q n _;exact bu.free b o q n (by simp[bD])
 ·intro b o q _
  by_cases hm:b∈cg outer
  ·obtain⟨o1,q1⟩:=bu.there b o q (by simp[bD])
   obtain⟨sl3,q3⟩:=sm b _ (hx.keeps b _ q1) (nf hm _ q1);exact⟨_,q3⟩
  ·obtain⟨o2,q2⟩:=thr b o q hm
   exact⟨o2,fl.1 b o2 q2⟩
 ·intro a o q
  have frn:=I.stkFree;rw[fsE]at frn;refine(I.hok a o q).stay (λb u hb q'=>hide q' λhm=> ?_) (λ_ z=>z) λ_ _ z=>z;have n:=frn b hm;rcases hb with rfl|hb
  ·rw[q]at n;cases n
  ·rw[hb]at n;cases n
structure Exc (K:W.Frag) (mg:Str->Option Value) (x:Str) (C:Addr):Prop where
 at_:W.nsIn K mainGlobals x=some (some (.ref C))
 ex:∃bmB newId B initId,W.excIn K C bmB newId=true/\ExcBaseFacts B newId initId bmB
 mg_:mg x=some (.ref C)
noncomputable def pY(C:Addr)(E:XK)(v:V)(H:Hp):Prop:=∃v',[v]=[v']/\E (.ref C) none H
noncomputable def JR(C:Addr)(E:XK)(te:TE):TS:=λ_ σ H=>te σ H λv H1=>pY C E v H1
theorem dh{x:Str}{C:Addr}{e₀:Expr}{te:TE}{np cpos pos:Pos}(O:Exc K mg x C)
  (he:PE (bD (CXE P w) P w K mg base N qual scope f cd A outer s₀ H₀ E) e₀ te) (hh:Room 0 (A.deeper (envOfC qual scope s₀.heap.objs.size f cd)))
  (hg:Gl (bD (CXE P w) P w K mg base N qual scope f cd A outer s₀ H₀ E) x:=by rfl) (hdb:(x==("__debug__":Str))=false:=by decide)
  (hst:starEach [e₀] (envOfC qual scope s₀.heap.objs.size f cd)=[(false,eval e₀ (envOfC qual scope s₀.heap.objs.size f cd))]:=by rfl):
  PS (bD (CXE P w) P w K mg base N qual scope f cd A outer s₀ H₀ E) (.Raise (some (.Call (.Name x np) [e₀] [] cpos)) none pos) (JR C E te):=by
 intro pins s σ H D I h;obtain⟨bmB,newId,B,initId,q,FB⟩:=O.ex;have hC0:W.excIn K C bmB newId=true:=q;have cls:∀{h:Heap},K.In h->∃bm N nm q bs hdct sn sub ab col dd k0 k1 k2 k3 k5 mN,h.get? C=some (excClassObj nm q C N bs bm hdct sn sub ab col dd k0 k1 k2 k3 k5 newId)/\h.Ns N mN/\mN "__init__"=none/\OwnTail h bmB bm:=fun{h} X=>by
  unfold W.excIn at q;split at q
  ·rename_i dd cd sl ho
   split at q
   ·rename_i C' bm k0 k1 k2 k3 n k5 hm hs
    simp only[qu,beq_iff_eq,Bool.not_eq_true']at q;obtain⟨⟨⟨⟨⟨rfl,rfl⟩,hdel⟩,ht⟩,hok⟩,hni⟩:=q;obtain⟨nm,bs,mro,ns,qn,hd,sn,sub,ab,col,del⟩:=cd;dsimp only at hm hdel hok hni;subst hm hdel;have hsl:sl=#[k0,k1,k2,k3,some (.builtin n),k5]:=by
     obtain⟨l⟩:=sl;simp only at hs;rw[hs]
    subst hsl;exact⟨bm,ns,nm,qn,bs,hd,sn,sub,ab,col,dd,k0,k1,k2,k3,k5,_,X _ _ ho,.of_isNs (W.isNs_of_in X hok),W.nsMap_none_of_in X hok hni,W.tail_of_in X ht⟩
   ·cases q
  ·cases q
 obtain⟨tl,Nc,nm,qn,bs,hdct,sn,sub,ab,col,dd,k0,k1,k2,k3,k5,mN,hC,hN,hni,T⟩:=cls I.ok.mod.kin;refine wpAny_Raise_call_subT (C:=C) (nm:=nm) (q:=qn) (N:=Nc) (bs:=bs) (bm:=tl) (hdct:=hdct) (sn:=sn) (sub:=sub) (ab:=ab) (col:=col) (dd:=dd) (k0:=k0) (k1:=k1) (k2:=k2) (k3:=k3) (k5:=k5)
  FB (mN:=mN) (T.hasType FB.hasBase) hh.hd (by show(backTo cpos (starEach [e₀] (envOfC qual scope s₀.heap.objs.size f cd))).any (·.1)=false;rw[hst];rfl) hni (q_ I hg O.mg_ ⟨rfl,?_⟩ hdb)
 show wpAny _ _ (evalArgs (.ref C) true (backTo cpos (starEach [e₀] (envOfC qual scope s₀.heap.objs.size f cd))) []) _ _ s;have hA:=(ak he av (by show starEach [e₀] (envOfC qual scope s₀.heap.objs.size f cd)=_;rw[hst];rfl)) cpos pins s σ H (λvs H1=>∃v,vs=[v]/\E (.ref C) none H1) I h;rw[show starEach [e₀] (bD (CXE P w) P w K mg base N qual scope f cd A outer s₀ H₀ E).env=[(false,eval e₀ (envOfC qual scope s₀.heap.objs.size f cd))]from hst]at hA;rw[hst];refine Calls.evalArgs_plain (wpAny_mono hA (λus s₂ ⟨vs,H1,I1,r,⟨v,hl,q1⟩⟩=> ?_) λ_ _ y=>y);have kb:=I1.bk;refine⟨rfl,by show us.length<=sizeLine;rw[<-r.length,hl];exact(by decide:1<=sizeLine),kb _ _ hC,hN.keeps kb,T.keeps kb,λh' e hm=>oZ I1 hm q1⟩
theorem Fun.okE{st:Stmt}(F:Fun K x qual st f fd)(S:FnScope N ps (bj st))(len:∀vs H Q E,sp vs H Q E->vs.length=ps.length)
  (hbody:∀(cdv:Value) (A:Around) (outer:List Env) (s:Shared) (H:Hp) (vs:List V) (Q:VK) (E:XK),Room k (A.deeper (envOfC qual (bj st) s.heap.objs.size f cdv))->sp vs H Q E->
   ∃t,PSs (bD (CXE P w) P w K mg base N qual (bj st) f cdv A outer s H E) (i9 st) t/\t {nx:=λ_ H'=>Q .non H',rt:=Q} (start N vs) H):FnOk P w K mg base (CXE P w) (k+1) f fd ps sp:=by
 obtain⟨oc,od,kV,doc,pm,an,cdv,ct,osl,rfl,lk,hcd⟩:=F.ex;exact u6 lk hcd S len λA outer s H vs Q E hr hsp=>hbody cdv A outer s H vs Q E hr hsp
theorem eR:PassesOwn (model P w) (A.deeper (envOfC qual scope s₀.heap.objs.size f cd)) (envOfC qual scope s₀.heap.objs.size f cd) (bD (CXE P w) P w K mg base N qual scope f cd A outer s₀ H₀ E).xe:=PassesOwn.leaving
theorem cxe_out(h:CXE P w [] H s (λ_ _ _=>False) e s'):False:=by
 obtain⟨_,_,_,_,_,_,_,_,_,_,_,_,_,h⟩:=h;exact h
end
noncomputable def EN(z:Str):It:=⟨λi _=>i<z.length,λi H x H'=>H'=H/\∃c,z.cps[i]?=some c/\x=.str ⟨#[c]⟩,λi _=>z.length<=i⟩
theorem Nr{K:W.Frag}(z:Str)(t:Tok)(it:Addr):Turn P w K tg (EN z) [it] it (λi h=>h.IsStrIter it "str_ascii_iterator" z t i)where
 mem:=by simp
 obj:=λi h st b hb=>by
  have e:b=it:=by simpa using hb
  subst e;obtain⟨o,e,c,d⟩:=st;exact⟨o,e,λv z=>by rw[d]at z;cases z⟩
 keep:=λi h h' st k=>let ⟨o,ho,r⟩:=st;⟨o,k it (by simp) o ho,r⟩
 item:=by
  intro X hP hw hK hc i pins s σ H E I hf st hg;subst hP hw hK;obtain⟨f0,f1,f2,f3,f4,f5⟩:=hf it (by simp);have hi:i<z.cps.size:=hg;refine wpAny_pyNext_ascii_item st (c:=z.cps[i]) (by simp[hi]) λh' st' sb=> ?_;have I1:Inv X pins σ H {s with heap:=h',toks:=s.toks+1}:=I.turned (t':=s.toks+1) (λb o hb e=>(sb.2 b hb).trans e) f0 f1 f3 f4 f5;obtain⟨o,e,c,d⟩:=id st';exact⟨_,rfl,uf (s:={s with heap:=h',toks:=s.toks+1}) e c d (by decide) ⟨.str ⟨#[z.cps[i]]⟩,H,I1,⟨_,rfl⟩,⟨rfl,z.cps[i],by simp[hi],rfl⟩,st',λb hb=>(hf b hb).1⟩⟩
 done:=by
  intro X hP hw hK hc i pins s σ H E I hf st hg;subst hP hw hK;obtain⟨f0,f1,f2,f3,f4,f5⟩:=hf it (by simp);have hi:z.cps.size<=i:=hg;exact wpAny_pyNext_ascii_end (I.ok.hd hc) st (by simp;omega) λh' eb=>⟨rfl,I.turned (t':=s.toks) (λb o hb e=>eb b o hb e) f0 f1 f3 f4 f5⟩
 self:=λ_ _ _ _ _ st h=>wpAny_pyIter_striter_ascii st h
theorem Ph{K:W.Frag}(z:Str)(t:Tok)(it:Addr):Turn P w K tg (EN z) [it] it (λi h=>h.IsStrIter it "str_iterator" z t i)where
 mem:=by simp
 obj:=λi h st b hb=>by
  have e:b=it:=by simpa using hb
  subst e;obtain⟨o,e,c,d⟩:=st;exact⟨o,e,λv z=>by rw[d]at z;cases z⟩
 keep:=λi h h' st k=>let ⟨o,ho,r⟩:=st;⟨o,k it (by simp) o ho,r⟩
 item:=by
  intro X hP hw hK hc i pins s σ H E I hf st hg;subst hP hw hK;obtain⟨f0,f1,f2,f3,f4,f5⟩:=hf it (by simp);have hi:i<z.cps.size:=hg;refine wpAny_pyNext_wide_item st (c:=z.cps[i]) (by simp[hi]) λh' st' sb=> ?_;have I1:Inv X pins σ H {s with heap:=h',toks:=s.toks+1}:=I.turned (t':=s.toks+1) (λb o hb e=>(sb.2 b hb).trans e) f0 f1 f3 f4 f5;obtain⟨o,e,c,d⟩:=id st';exact⟨_,rfl,uf (s:={s with heap:=h',toks:=s.toks+1}) e c d (by decide) ⟨.str ⟨#[z.cps[i]]⟩,H,I1,⟨_,rfl⟩,⟨rfl,z.cps[i],by simp[hi],rfl⟩,st',λb hb=>(hf b hb).1⟩⟩
 done:=by
  intro X hP hw hK hc i pins s σ H E I hf st hg;subst hP hw hK;obtain⟨f0,f1,f2,f3,f4,f5⟩:=hf it (by simp);have hi:z.cps.size<=i:=hg;exact wpAny_pyNext_wide_end (I.ok.hd hc) st (by simp;omega) λh' eb=>⟨rfl,I.turned (t':=s.toks) (λb o hb e=>eb b o hb e) f0 f1 f3 f4 f5⟩
 self:=λ_ _ _ _ _ st h=>wpAny_pyIter_striter_wide st h
noncomputable def iV(K:W.Frag)(tl:TE):TI:=λσ H R=>tl σ H λx H1=>(∃a,x=.ref a/\(((∃xs,SqL K H1 a xs)/\R (EU K a) H1)\/((∃xs,SqT K H1 a xs)/\R (Ff K a) H1)))\/∃z,x=.str z/\R (EN z) H1
section
variable {X : Cx}
theorem Hj(hl:PE X l tl):PI X tg l (iV X.K tl):=by
 intro pins s σ H R I h;refine bx (hl pins s σ H _ I h) λv s1 ⟨x,H1,I1,r1,q1⟩=> ?_;have fp:∀b∈[s1.heap.objs.size],dU X pins H1 b:=λb hb=>by
  have e:b=s1.heap.objs.size:=by simpa using hb
  subst e;exact I1.fpOk (qb _) (I1.hok.fresh (qb _))
 rcases q1 with⟨a,e,q⟩|⟨z,e,q⟩
 ·subst e
  cases r1
  rcases q with⟨⟨xs,hq⟩,q⟩|⟨⟨xs,hq⟩,q⟩
  ·obtain⟨its,rv,p,hz⟩:=I1.list hq
   refine wpAny_pyIter_list p.isList ?_;exact⟨s1.heap.objs.size,[s1.heap.objs.size],_,_,H1,rfl,I1.kept (t':=s1.toks) λb o e=>qa _ e,OF a _,⟨_,qw _ rfl,rfl,rfl⟩,fp,q⟩
  ·obtain⟨its,rv,p,hz⟩:=I1.tuple hq
   refine wpAny_pyIter_tuple (show s1.heap.IsTuple a its.toArray from p) ?_;exact⟨s1.heap.objs.size,[s1.heap.objs.size],_,_,H1,rfl,I1.kept (t':=s1.toks) λb o e=>qa _ e,LW a _,⟨_,qw _ rfl,rfl,rfl⟩,fp,q⟩
 ·subst e
  obtain⟨t,rfl⟩:=r1;cases ha:z.cps.all (·<128)
  ·exact wpAny_pyIter_wide ha ⟨s1.heap.objs.size,[s1.heap.objs.size],_,_,H1,rfl,I1.kept (t':=s1.toks) λb o e=>qa _ e,Ph z t _,⟨_,qw _ rfl,rfl,rfl⟩,fp,q⟩
  ·exact wpAny_pyIter_ascii ha ⟨s1.heap.objs.size,[s1.heap.objs.size],_,_,H1,rfl,I1.kept (t':=s1.toks) λb o e=>qa _ e,Nr z t _,⟨_,qw _ rfl,rfl,rfl⟩,fp,q⟩
theorem G0:∀{bs:List Bool} {its:List Value},Vals (bs.map V.bl) its->its=bs.map Value.bool
 | [],_,.nil=>rfl
 | b::bs,_,.cons r rr=>by rw[List.map_cons,<-G0 rr];cases r;rfl
theorem Om(hc:X.calm=true):jcn X (.builtin "all") (pZ X.K):=by
 intro pins s σ H xs us Q I r h;obtain⟨p,bs,rfl,hq,q⟩:=h;obtain⟨u,rfl,rx⟩:=iq r;cases rx;obtain⟨its,r',pl,hz⟩:=I.list hq;have e:=G0 r';have hh:X.A.in1.handled=none:=I.ok.hd hc;refine call_all_walk (wpAny_pyIter_list pl.isList ?_);have hne:p≠s.heap.objs.size:=by
  obtain⟨o,ho,_⟩:=pl.isList;exact qo (qd ho)
 refine⟨s.heap.objs.size,_,_,_,_,_,λi=>bs.getD i false,rfl,Walks.list hh _ p hne its.toArray,?_,?_,λh' tk hk=> ?_⟩
 ·exact⟨⟨_,qw _ rfl,rfl,rfl⟩,pl.isList.at λo e=>qa _ e⟩
 ·intro i v s' Q' E' hP hQ
  have hv:its[i]?=some v:=by simpa using hP
  rw[e,zb]at hv;obtain⟨b,hb,rfl⟩:=qj.mp hv;have:bs.getD i false=b:=by simp[List.getD,hb]
  have hQ':Q' (bs.getD i false) s':=hQ;rw[this]at hQ';exact wpAny_truthy_bool hQ'
 ·have k:∀b o,s.heap.get? b=some o->h'.get? b=some o:=λb o e=>hk b o (by
   intro hm;have:b=s.heap.objs.size:=by simpa using hm
   exact absurd (qd e) (by rw[this];exact wj _)) (qa _ e)
  refine⟨.bl (bs.all id),H,I.kept (t':=tk) k,?_,q⟩;have hl:=r'.length;simp only[qi]at hl;have e2:(List.range its.toArray.size).all (λi=>bs.getD i false)=bs.all id:=by
   rw[qk,<-hl];rw[wt,List.all_eq_true,List.all_eq_true];constructor
   ·intro hh x hx
    obtain⟨i,hi,rfl⟩:=g5 hx;have:=hh i (zj.mpr hi);simpa [List.getD,hi]using this
   ·intro hh i hi
    have hi':=zj.mp hi;have:=hh bs[i] (wp hi');simpa [List.getD,hi']using this
  rw[e2];rfl
theorem IH:∀{ys:List Str} {its:List Value},Vals (ys.map V.str) its->StrsAre its ys
 | [],_,.nil=>.nil
 | y::ys,_,.cons r rr=>by obtain⟨t,rfl⟩:=r;exact .cons y t (IH rr)
noncomputable def EK(K:W.Frag):V->List V->Hp->VK->Prop:=λx vs H Q=>∃(z:Str) (p:Addr) (ys:List Str),x=.str z/\vs=[.ref p]/\SqL K H p (ys.map V.str)/\(ys.map (·.length)).sum+ys.length*z.length<=16777216/\Q (.str (Txt.join z ys)) H
theorem MX:qM X "str.join" (EK X.K):=by
 intro pins s σ H x xs v us Q I rx rv h;obtain⟨z,p,ys,rfl,rfl,hq,hz,q⟩:=h;obtain⟨t,rfl⟩:=rx;obtain⟨u,rfl,ru⟩:=rv.one;cases ru;obtain⟨its,r',pl,_⟩:=I.list hq;exact join_list pl.isList (by simpa using IH r') hz λt' k=>⟨.str _,H,I.tok k,⟨t',rfl⟩,q⟩
theorem K4:∀(l:List (Str×Tok)),Vals ((l.map (·.1)).map V.str) (strValues l)
  | []=>.nil
  | (x,t)::r=>.cons ⟨t,rfl⟩ (K4 r)
noncomputable def Jp:V->List V->Hp->VK->Prop:=λx vs H Q=>∃(z y:Str),x=.str z/\vs=[.str y]/\y.length≠0/\z.length<=sizeLine/\(Txt.split z y).length<=sizeLine/\∀p H',H p=none->H' p=some (.lst ((Txt.split z y).map V.str))->Same H H'->Q (.ref p) H'
open Builtin Builtin.Str in
theorem JB:qM X "str.split" Jp:=by
 intro pins s σ H x xs v us Q I rx rv h;obtain⟨z,y,rfl,rfl,hy,hz,hl,q⟩:=h;obtain⟨t,rfl⟩:=rx;obtain⟨w',rfl,u,rfl⟩:=rv.one;have hy':(y.length==0)=false:=by simpa using hy
 have fin:∀(l:List (Str×Tok)) (tk:Nat),l.map (·.1)=Txt.split z y->EP X pins σ Q (.ref s.heap.objs.size) {s with heap:=s.heap.push {cls:=.type "list",data:=.seq (strValues l).toArray},toks:=tk}:=λl tk e=>
  ⟨.ref s.heap.objs.size,_,I.lnew (t':=tk) (ys:=(Txt.split z y).map V.str) (by rw[<-e];exact K4 l) (by rw[qi];exact hl),rfl,q _ _ I.fresh df λb o e=>by rw[aW (ed e I.fresh)];exact e⟩
 cases h1:(decide (z.length<y.length)||decide (strKind z<strKind y))
 ·cases hf:(occurrences z y 0 z.length (z.length+1)).isEmpty
  ·have e0:Txt.split z y=partsBetween z (occurrences z y 0 z.length (z.length+1)) y.length:=(if_neg (ne_true_of_eq_false h1)).trans (if_neg (ne_true_of_eq_false hf))
   refine call_meets F.slot_str_split (typeIs_str _ _ _) F.entry_str_split (F.args_str_split_2 _ _) (meets_str_split_sep z y t u h1 hy' hf hz (by rw[<-e0];exact hl)) ?_;show wants (EP X pins σ Q) X.xe _ {s with toks:=_,heap:=s.heap.push {cls:=.type "list",data:=.seq (strsFrom s.toks (partsBetween z (occurrences z y 0 z.length (z.length+1)) y.length)).toArray}};rw[strsFrom_eq];exact fin (numbered s.toks _) _ ((numbered_texts _ _).trans e0.symm)
  ·exact call_meets F.slot_str_split (typeIs_str _ _ _) F.entry_str_split (F.args_str_split_2 _ _) (meets_str_split_not_found z y t u h1 hy' hf)
    (fin [(z,t)] s.toks ((if_neg (ne_true_of_eq_false h1)).trans (if_pos hf)).symm)
 ·exact call_meets F.slot_str_split (typeIs_str _ _ _) F.entry_str_split (F.args_str_split_2 _ _) (meets_str_split_cannot_occur z y t u h1)
   (fin [(z,t)] s.toks (if_pos h1).symm)
noncomputable def vz:List V->Hp->VK->Prop:=λxs H Q=>((∃i,xs=[.int i]/\Q (.int i) H)\/∃k,xs=[.bl k]/\Q (.int (if k then 1 else 0)) H)\/∃z n,xs=[.str z]/\z.length<=640/\intText? z=some n/\Q (.int n) H
theorem F5:jcn X (.type "int") vz:=by
 refine jcn.or Mo ?_;intro pins s σ H xs us Q I r h;obtain⟨z,n,rfl,hl,hn,q⟩:=h;obtain⟨u,rfl,t,rfl⟩:=iq r;exact W.KIN.call_text hn hl ⟨.int n,H,I.tok _,⟨_,rfl⟩,q⟩
noncomputable def sy:List V->Hp->VK->Prop:=λxs H Q=>∃i,xs=[.int i]/\i.natAbs.log2<1920/\Q (.str (toString i)) H
theorem uF:jcn X (.type "str") sy:=O1
/-! ### f"..{x}.." -/
noncomputable abbrev TJ:=Str->St->Hp->(Str->Hp->Prop)->Prop
noncomputable def PJ(X:Cx)(es:List Expr)(t:TJ):Prop:=∀(out:Str) (pins:List (Addr×Obj)) (s:Shared) (σ:St) (H:Hp) (Q:VK),Inv X pins σ H s->t out σ H (λz H'=>z.length<=sizeLine/\Q (.str z) H')->
 wpAny (model X.prog X.w) X.A (joinParts out (evalEach es X.env)) (EP X pins σ Q) X.xe s
noncomputable def nc:TJ:=λout _ H Q=>Q out H
noncomputable def HX(te:TE)(t:TJ):TJ:=λout σ H Q=>te σ H λx H1=>∃y,x=.str y/\(out++y).length<=sizeLine/\t (out++y) σ H1 Q
theorem rG:PJ X [] nc:=λout pins s σ H Q I h=>joinParts_nil ⟨.str out,H,I.tok _,⟨_,rfl⟩,h.2⟩ h.1
theorem Kl(he:PE X e te)(hr:PJ X es t):PJ X (e::es) (HX te t):=by
 intro out pins s σ H Q I h;show wpAny _ _ (joinParts out (eval e X.env::evalEach es X.env)) _ _ s;refine joinParts_cons (bx (he pins s σ H _ I h) λv s1 ⟨x,H1,I1,r1,y,ex,hz,q⟩=> ?_);subst ex;obtain⟨t,rfl⟩:=r1;exact⟨hz,hr (out++y) pins s1 σ H1 Q I1 q⟩
noncomputable def Lb(t:TJ):TE:=λσ H Q=>t Str.empty σ H λz H'=>z.length<=sizeLine/\Q (.str z) H'
theorem vt(h:PJ X (v₁::v₂::rest) t):PE X (.JoinedStr (v₁::v₂::rest) pos) (Lb t):=by
 intro pins s σ H Q I q;exact JoinedStr_many (h Str.empty pins s σ H Q I q)
noncomputable def yR(te:TE):TE:=λσ H Q=>te σ H λx H1=>(∃i,x=.int i/\i.natAbs.log2<1920/\Q (.str (toString i)) H1)\/∃z,x=.str z/\z.length<=sizeLine/\Q (.str z) H1
theorem p8(he:PE X e te):PE X (.FormattedValue e (-1) none pos) (yR te):=by
 intro pins s σ H Q I h;refine FormattedValue_plain (bx (he pins s σ H _ I h) λv s1 ⟨x,H1,I1,r1,q⟩=> ?_);rcases q with⟨i,rfl,hd,q⟩|⟨z,rfl,hz,q⟩
 ·obtain⟨t,rfl⟩:=r1
  exact wpAny_formatField_int hd ⟨.str _,H1,I1.tok _,⟨_,rfl⟩,q⟩
 ·obtain⟨t,rfl⟩:=r1
  exact wpAny_formatField_str ⟨.str z,H1,I1,⟨_,rfl⟩,q⟩ ⟨.str z,H1,I1.tok _,⟨_,rfl⟩,q⟩ hz
end
section
variable {X : Cx}
theorem FF{ns:List Int}(r:Vals (ns.map V.int) its)(h:its[i]?=some v):∃t,v=.int (ns.getD i 0) t/\i<ns.length:=by
 have hl:=r.length;rw[qi]at hl;have hi:i<its.length:=(q8.mp h).1;have hx:(ns.map V.int)[i]?=some (.int ns[i]):=by simp[zb,qt (show i<ns.length by omega)]
 obtain⟨u,hu,⟨t,rfl⟩⟩:=r.get hx;rw[h]at hu;refine⟨t,?_,by omega⟩;have:ns.getD i 0=ns[i]:=by simp[List.getD,qt (show i<ns.length by omega)]
 rw[this];exact Option.some.inj hu
theorem Oo{ns:List Int}(h:i<ns.length):ns.getD i 0∈ns:=by
 have:ns.getD i 0=ns[i]:=by simp[List.getD,qt h]
 rw[this];exact wp _
noncomputable def og(K:W.Frag):List V->Hp->VK->Prop:=λxs H Q=>∃(p:Addr) (ns:List Int),xs=[.ref p]/\SqT K H p (ns.map V.int)/\0<ns.length/\∀M,M∈ns->(∀a∈ns,a<=M)->Q (.int M) H
theorem Pk(hc:X.calm=true):jcn X (.builtin "max") (og X.K):=by
 intro pins s σ H xs us Q I r h;obtain⟨p,ns,rfl,hq,hn,q⟩:=h;obtain⟨u,rfl,rx⟩:=iq r;cases rx;obtain⟨its,r',pl,hz⟩:=I.tuple hq;have hl:=r'.length;rw[qi]at hl;have hh:X.A.in1.handled=none:=I.ok.hd hc;refine call_max_walk (wpAny_pyIter_tuple (show s.heap.IsTuple p its.toArray from pl) ?_);have hne:p≠s.heap.objs.size:=by
  obtain⟨o,ho,_⟩:=pl;exact qo (qd ho)
 have pl':s.heap.IsTuple p its.toArray:=pl;have hfp:∀b∈[s.heap.objs.size,p],b<(s.heap.push {cls:=.type "tuple_iterator",data:=.fields #[.ref p,rawInt 0]}).objs.size:=λb hb=>by
  rw[kf];obtain⟨o,ho,_⟩:=pl;have:=qd ho;rcases qr.mp hb with rfl|hb
  ·exact zy _
  ·have e:b=p:=by simpa using hb
   subst e;exact gj this
 refine⟨s.heap.objs.size,_,_,_,_,_,λi j=>decide (ns.getD i 0>ns.getD j 0),rfl,Walks.tuple hh _ p hne its.toArray,⟨⟨_,qw _ rfl,rfl,rfl⟩,pl'.at λo e=>qa _ e⟩,hfp,by rw[qk];omega,
  CmpOf.ints_gt (λi=>ns.getD i 0) (λi v hv=>by obtain⟨t,e,_⟩:=FF r' (by simpa using hv);exact⟨t,e⟩),λv h' tk hP hk=> ?_⟩
 have k:∀b o,s.heap.get? b=some o->h'.get? b=some o:=λb o e=>hk b o (by
  intro hm;have:b=s.heap.objs.size:=by simpa using hm
  exact absurd (qd e) (by rw[this];exact wj _)) (qa _ e)
 obtain⟨t,e,hlt⟩:=FF r' (by simpa using hP);subst e;obtain⟨h1,h2⟩:=argBest_gt (λi=>ns.getD i 0) (its.toArray.size - 1);refine⟨.int _,H,I.kept (t':=tk) k,⟨t,rfl⟩,q _ ?_ λa ha=> ?_⟩
 ·exact Oo hlt
 ·obtain⟨j,hj,rfl⟩:=g5 ha
  have:=h2 j (by rw[qk];omega);simpa [List.getD,qt hj]using this
noncomputable def sG(K:W.Frag):List V->Hp->VK->Prop:=λxs H Q=>(∃i j,xs=[.int i,.int j]/\Q (.int (if j>i then j else i)) H)\/og K xs H Q
theorem M6(hc:X.calm=true):jcn X (.builtin "max") (sG X.K):=jcn.or (NJ hc) (Pk hc)
end
noncomputable def Fly(X:Cx)(pins:List (Addr×Obj))(σ:St)(H':Hp)(ea C:Addr)(s':Shared):Prop:=
 ∃(a0:Value) (B:Heap) (H:Hp) (s:Shared),Inv X pins σ H s/\s'.os=s.os/\AllBare s'.gens/\Un (cg X.stack) [] H H' s.heap s'.heap/\HOk X.prog X.w H' B/\Heap.FlyingW B X.stack ea (.ref C) a0 s'.heap/\
  (∀b o,s.heap.get? b=some o->b∉cg X.stack->∃o',B.get? b=some o')/\(∀b o,s.heap.get? b=some o->H b=none->b∉cg X.stack->B.get? b=some o)
noncomputable abbrev FK:=St->Addr->Hp->Prop
noncomputable def XP(X:Cx)(pins:List (Addr×Obj))(σ:St)(F:Addr->Hp->Prop)(e:Value)(s':Shared):Prop:=
 ∃ea C H',e=.ref ea/\Fly X pins σ H' ea C s'/\F C H'
theorem jcq.there(x:jcq P w H h a o):∃u,h.get? a=some u:=by
 cases o with
 | lst xs=>obtain⟨_,_,_,_,e⟩:=x;exact⟨_,e⟩
 | tup xs=>obtain⟨_,_,_,o,e,_⟩:=x;exact⟨_,e⟩
 | dK kvs=>obtain⟨_,_,_,_,o,_,_,e,_⟩:=x;exact⟨_,e⟩
 | dT kvs=>obtain⟨_,_,_,_,o,_,_,e,_⟩:=x;exact⟨_,e⟩
 | set S n=>obtain⟨o,_,_,_,e,_⟩:=x;exact⟨_,e⟩
 | ins C dx fs=>obtain⟨_,_,_,e,_⟩:=x;exact⟨_,e⟩
 | own y=>exact x
 | xd fs=>obtain⟨_,⟨_,_,_,e,_⟩,_⟩:=x;exact⟨_,e⟩
 | rng lo hi=>obtain⟨_,_,_,e⟩:=x;exact⟨_,e⟩
 | frz ob u=>obtain⟨e,_⟩:=x;exact⟨_,e⟩
 | tbl ps=>exact⟨_,x⟩
 | met f y=>exact⟨_,x⟩
 | ext φ=>obtain⟨_,e,_⟩:=x;exact e
section
variable {X : Cx} {pins : List (Addr × Obj)} {σ : St} {H H' : Hp} {s s' : Shared} {ea C : Addr}
theorem Fly.inv(F:Fly X pins σ H' ea C s'):Inv X pins σ H' s':=by
 obtain⟨a0,B,H,s,I,ho,hg,u,hok,fl,_,_⟩:=F;exact I.call' ho u (hok.kept fl.1) hg λb z=>absurd z (by simp)
theorem Fly.there(F:Fly X pins σ H' ea C s'):∃o,s'.heap.get? ea=some o/\o.cls=.ref C:=by
 obtain⟨a0,B,H,s,I,ho,hg,u,hok,fl,_,_⟩:=F;exact fl.there
theorem Fly.fresh(F:Fly X pins σ H' ea C s'):H' ea=none:=by
 obtain⟨a0,B,H,s,I,ho,hg,u,hok,fl,_,_⟩:=F;cases e:H' ea with
 | none=>rfl
 | some o=>
  obtain⟨x,z⟩:=(hok ea o e).there;rw[fl.2.1]at z;cases z
theorem Fly.new(F:Fly X pins σ H' ea C s'):∃(H:Hp) (s:Shared),Inv X pins σ H s/\s.heap.get? ea=none:=by
 obtain⟨a0,B,H,s,I,ho,hg,u,hok,fl,hB,hBk⟩:=F;refine⟨H,s,I,?_⟩;cases e:s.heap.get? ea with
 | none=>rfl
 | some o=>
  by_cases hm:ea∈cg X.stack
  ·obtain⟨_,o',ho',hd⟩:=fl.2.2.1.mem (b:=ea) hm
   obtain⟨oe,vs,T,oT,ts,he,hc,hdd,_⟩:=fl.2.2.2;rw[ho']at he;cases he;exact absurd hdd (hd _)
  ·obtain⟨o',z⟩:=hB ea o e hm
   rw[fl.2.1]at z;cases z
theorem Fly.step(I:Inv X pins σ H s)(ho:s'.os=s.os)(hg:AllBare s'.gens)(u:Un (cg X.stack) [] H H' s.heap s'.heap)(hok:HOk X.prog X.w H' B)
  (hB:∀b o,s.heap.get? b=some o->b∉cg X.stack->∃o',B.get? b=some o') (hBk:∀b o,s.heap.get? b=some o->H b=none->b∉cg X.stack->B.get? b=some o)
  (sm:s'.heap.UpToSlots h) (ff:s'.heap.FunFrames B X.stack) (fl:Heap.FlyingW B X.stack ea (.ref C) a0 h):Fly X pins σ H' ea C {s' with heap:=h}:=by
 have nf:∀{b},b∈cg X.stack->∀o,s'.heap.get? b=some o->∀vs,o.data≠ .fields vs:=fun{b} hb o ho=>by
  obtain⟨_,o',ho',hd⟩:=ff.mem (b:=b) hb;rw[ho]at ho';cases ho';exact hd
 refine⟨a0,B,H,s,I,ho,hg,⟨?_,?_,u.free,?_,u.tups,u.frzs,u.tbls⟩,hok,fl,hB,hBk⟩
 ·intro b o q n nm _
  exact fl.1 b o (hBk b o q n nm)
 ·intro b o q n hm _
  obtain⟨sl2,q2⟩:=u.slot b _ q n hm (by simp);obtain⟨sl3,q3⟩:=sm b _ q2 (nf hm _ q2);exact⟨sl3,q3⟩
 ·intro b o q _
  by_cases hm:b∈cg X.stack
  ·obtain⟨o2,q2⟩:=u.there b o q (by simp)
   obtain⟨sl3,q3⟩:=sm b _ q2 (nf hm _ q2);exact⟨_,q3⟩
  ·obtain⟨o2,q2⟩:=hB b o q hm
   exact⟨o2,fl.1 b o2 q2⟩
theorem Fly.lands{E:Value->Shared->Prop}{Q:Unit->Shared->Prop}(F:Fly X pins σ H' ea C s')(hst:X.stack=X.env::X.outer)(hfr:X.env.frame=some X.env.locals)(hA:A.frames=some X.stack)
  (k:∀s2,Fly X pins σ H' ea C s2->Q () s2):wpAny M A (noteFrame (.ref ea) X.env) (λ_ s2=>wpAny M A (setFlight (.ref ea) none) Q E s2) E s':=by
 obtain⟨a0,B,H,s,I,ho,hg,u,hok,fl,hB,hBk⟩:=F;have ff:=fl.2.2.1;refine wpAny_looks_onW (env:=X.env) (outer:=X.outer) (L:=X.env.locals) (by rw[hA,hst]) hfr (by rw[<-hst];exact fl) λh₄ hheld₄ hsm₄=> ?_;refine wpAny_landsW hheld₄ λh₅ hheld hsm₅=> ?_;rw[<-hst]at hheld;exact k _ (Fly.step (s':=s') I ho hg u hok hB hBk (hsm₄.trans hsm₅) ff hheld)
theorem Fly.again{E:Value->Shared->Prop}{Q:Unit->Shared->Prop}(F:Fly X pins σ H' ea C s')(k:∀s2,Fly X pins σ H' ea C s2->Q () s2):wpAny M A (setFlight (.ref ea) none) Q E s':=by
 obtain⟨a0,B,H,s,I,ho,hg,u,hok,fl,hB,hBk⟩:=F;exact lands_againW fl λh₅ hheld hsm=>k _ (Fly.step (s':=s') I ho hg u hok hB hBk hsm fl.2.2.1 hheld)
theorem Fly.track(F:Fly X pins σ H' ea C s')(hex:X.ex=[])(he:s'.heap.get? ea=some oe):Inv X pins σ (aQ H' ea (.frz oe (.own 0))) s':=by
 have I':=F.inv;have fr:=F.fresh;obtain⟨H,s,I,hn⟩:=F.new;have n0:∀{b o},X.s₀.heap.get? b=some o->b≠ea:=fun{b o} e z=>by
  subst z;obtain⟨o',q⟩:=I.base.there b o e (by rw[hex];simp);rw[hn]at q;cases q
 have ne:∀{b o},s.heap.get? b=some o->b≠ea:=fun{b o} e z=>by subst z;rw[hn]at e;cases e
 have nl:X.env.locals≠ea:=by
  obtain⟨m,⟨o,_,_,q,_⟩,_⟩:=I.loc;exact ne q
 refine⟨I'.ok,I'.os,I'.bare,⟨I'.base.keep,I'.base.slot,λb o e n hx=> ?_,I'.base.there,λb xs e=> ?_,λb o u e=> ?_,λb ps e=> ?_⟩,I'.loc,I'.cell,?_,λx c e=> ?_,λp hp=> ?_,λb o e=> ?_,I'.len⟩
 ·rw[aW (n0 e)];exact I'.base.free b o e n hx
 ·have q:=I'.base.tups b xs e
  rw[aW (ed q fr)];exact q
 ·have q:=I'.base.frzs b o u e
  rw[aW (ed q fr)];exact q
 ·obtain⟨m,q⟩:=I'.base.tbls b ps e
  exact⟨m,by rw[aW (ed q fr)];exact q⟩
 ·rw[aW nl];exact I'.free
 ·obtain⟨v,o,q,_⟩:=I.cell x c e
  rw[aW (ne q)];exact I'.freeC x c e
 ·obtain⟨z1,z2,z3⟩:=I'.pin p hp
  have q:=(I.pin p hp).1;exact⟨z1,by rw[aW (ne q)];exact z2,z3⟩
 ·by_cases hb:b=ea
  ·subst hb
   rw[df]at e;cases e;exact⟨he,⟨_,he⟩⟩
  ·rw[aW hb]at e
   exact(I'.hok b o e).stay (λc v hcc q=>q) (λc q=>by rw[aW (ed q fr)];exact q) λc ys q=>by rw[aW (ed q fr)];exact q
noncomputable abbrev Cx.mkd(X:Cx)(ea:Addr):Cx:={X with A:=X.A.mark (some (.ref ea)),calm:=false,xe:=λ_ _=>False}
theorem Inv.mkd(I:Inv X pins σ H s)(ea:Addr):Inv (X.mkd ea) pins σ H s:=
 ⟨⟨I.ok.mod,I.ok.kind,I.ok.glob,I.ok.blt,I.ok.above,I.ok.inj,I.ok.has,I.ok.cab,(λz=>nomatch z),I.ok.frames,I.ok.stk,I.ok.exf,I.ok.bs,I.ok.bsz,I.ok.noex,I.ok.exfs,I.ok.funs,I.ok.frf⟩,I.os,I.bare,I.base,I.loc,I.cell,I.free,I.freeC,I.pin,I.hok,I.len⟩
theorem Inv.unmkd(ok:X.Ok)(I:Inv (X.mkd ea) pins σ H s):Inv X pins σ H s:=⟨ok,I.os,I.bare,I.base,I.loc,I.cell,I.free,I.freeC,I.pin,I.hok,I.len⟩
theorem CH{E:Value->Shared->Prop}{Q:Unit->Shared->Prop}(I:Inv X pins σ H s)(hN:X.N.Nodup)(hi:X.N[i]?=some x)(hk:X.env.scope.names.lookup x=some .local)
  (h:∀s',Inv X pins (σ.set i none) H s'->Q () s'):wpAny M A (do bindName X.env x .none;unbindBehindTheSuite X.env x pos) Q E s:=by
 obtain⟨m,hn,hl⟩:=id I.loc;have hcls:(X.env.scope.kind== .class||(X.env.scope.kind== .module&&X.env.locals !=X.env.globals))=false:=by rw[I.ok.kind];rfl
 have hiσ:i<σ.length:=by rw[I.len];exact(q8.mp hi).1
 have cne:=I.cne;refine wpAny_nameGoes_keeps hk hn hcls λh' v hn' hs=> ?_;obtain⟨oL,_,_,hoL,_⟩:=id hn;refine h _ ⟨I.ok,I.os,I.bare,⟨λb o e n hb hx=> ?_,λb o e n hb hx=> ?_,I.base.free,λb o e hx=> ?_,I.base.tups,I.base.frzs,I.base.tbls⟩,⟨_,hn',λj y v' e1 e2 e3=> ?_⟩,λy c e=> ?_,I.free,I.freeC,λp hp=> ?_,λb ob e=> ?_,by simpa using I.len⟩
 ·exact(hs.2 b (qo (qh (qd e) I.ok.above))).trans (I.base.keep b o e n hb hx)
 ·obtain⟨sl,e1⟩:=I.base.slot b o e n hb hx
  exact⟨sl,(hs.2 b (qo (qh (qd e) I.ok.above))).trans e1⟩
 ·obtain⟨o',e1⟩:=I.base.there b o e hx
  exact⟨o',(hs.2 b (qo (qh (qd e) I.ok.above))).trans e1⟩
 ·by_cases hj:j=i
  ·subst hj
   rw[qg hiσ]at e2;cases e2
  ·rw[qe (Ne.symm hj)]at e2
   obtain⟨u',r',q⟩:=hl j y v' e1 e2 e3;refine⟨u',r',?_⟩;rcases q with⟨k,e⟩|⟨k,c,e,z⟩
   ·refine .inl ⟨k,?_⟩
    have:y≠x:=λe=>hj (FT hN e1 (e▸hi));simp[this,e]
   ·exact .inr ⟨k,c,e,z.sameBut hs (cne y c e)⟩
 ·obtain⟨w',z⟩:=I.cell y c e
  exact⟨w',z.sameBut hs (cne y c e)⟩
 ·obtain⟨e,n,ne,nf,d⟩:=I.pin p hp
  exact⟨(hs.2 p.1 ne).trans e,n,ne,nf,d⟩
 ·refine(I.hok b ob e).stay (λc w' hc q=>(hs.2 c ?_).trans q) (λ_ q=>q) λ_ _ q=>q
  rintro rfl;rcases hc with hc|hc
  ·rw[<-hc,I.free]at e;cases e
  ·rw[I.free]at hc;cases hc
end
structure Clause (K:PySem.W.Frag) (W:Addr):Prop where
 nt:PySem.W.instIn K (.ref W) (.type "tuple")=some false
 cl:PySem.W.hasDictIn K W=true
 ex:PySem.W.subIn K (.ref W) (.type "BaseException")=some true
theorem LS{E:Value->Shared->Prop}{K:PySem.W.Frag}{Q:Bool->Shared->Prop}(k:K.In s.heap)(c:Clause K W)(he:s.heap.get? ea=some oe)(hc:oe.cls=.ref C)
  (hs:PySem.W.subIn K (.ref C) (.ref W)=some b) (h:Q b s):wpAny M A (excMatches (.ref ea) (.ref W)) Q E s:=by
 obtain⟨hh,g,d,tk,os⟩:=s;have k':K.In hh:=k;have L1:PySem.W.Looks M hh (isInstance (.ref W) (.type "tuple")) false:=PySem.W.looks_instIn k' c.nt;have L2:PySem.W.Looks M hh (isType (.ref W)) true:=by
  have z0:(PySem.W.clsIn K W).isSome=true:=by obtain⟨cd,hc,_⟩:=PySem.W.any_some c.cl;rw[hc];rfl
  unfold PySem.W.clsIn at z0;split at z0
  ·rename_i c' d' cd' sl' ho
   intro A' Q' E' s' kk q;unfold isType loadHead;exact wpAny_bind (wpAny_loadPart (kk _ _ (k' _ _ ho)) (wpAny_pure q))
  ·cases z0
 have L3:PySem.W.Looks M hh (isSubtype (.ref W) (.type "BaseException")) true:=PySem.W.looks_subIn k' c.ex;have L4:PySem.W.Looks M hh (isSubtype (.ref C) (.ref W)) b:=PySem.W.looks_subIn k' hs;have L5:PySem.W.Looks M hh (typeOf (.ref ea)) (.ref C):=hc▸(PySem.W.Looks.ld (h:=hh) he).andThen .now;unfold excMatches isExcClass
 repeat (first|(with_reducible refine L1.at ?_)|(with_reducible refine L2.at ?_)|(with_reducible refine L3.at ?_)|(with_reducible refine L4.at ?_)|(with_reducible refine L5.at ?_)|wp_step)
 cases b<;>(wp_walk;exact h)
section
variable {X : Cx}
noncomputable def PH(X:Cx)(hs:List ExceptHandler)(t:Addr->TS):Prop:=
 ∀(pins:List (Addr×Obj)) (s:Shared) (σ:St) (H:Hp) (ea C:Addr) (D:Ends),Fly X pins σ H ea C s->t C D σ H->wpAny (model X.prog X.w) X.A (handleBy (.ref ea) X.env hs) (SP X pins D) X.xe s
noncomputable def BA:Addr->TS:=λ_ _ _ _=>False
theorem ID:PH X [] BA:=λ_ _ _ _ _ _ _ _ h=>h.elim
noncomputable def Ends.gone(D:Ends)(i:Nat):Ends:=⟨λσ H=>D.nx (σ.set i none) H,D.rt,λσ H=>D.bk (σ.set i none) H,λσ H=>D.ct (σ.set i none) H⟩
noncomputable def DK(K:PySem.W.Frag)(W:Addr)(i:Nat)(th:TS)(rest:Addr->TS):Addr->TS:=λC D σ H=>
 ∃b,PySem.W.subIn K (.ref C) (.ref W)=some b/\if b=true then ∀ea oe,H ea=none->oe.cls=.ref C->th (D.gone i) (σ.set i (some (.ref ea))) (aQ H ea (.frz oe (.own 0)))else rest C D σ H
theorem oi{i:Nat}{y n:Str}{W:Addr}{np pos:Pos}{b₀:Stmt}{suite:List Stmt}{rest:List ExceptHandler}{th:TS}{tr:Addr->TS}(hex:X.ex=[])(hN:X.N.Nodup)(hi:X.N[i]?=some n)(hk:X.env.scope.names.lookup n=some .local)
  (hg:Gl X y) (hm:X.mg y=some (.ref W)) (hW:Clause X.K W) (hb:∀ea,PSs (X.mkd ea) (b₀::suite) th) (hr:PH X rest tr) (hd:(y==("__debug__":Str))=false:=by decide):
  PH X (.ExceptHandler (some (.Name y np)) (some n) (b₀::suite) pos::rest) (DK X.K W i th tr):=by
 intro pins s σ H ea C D F h;obtain⟨b,hs,h⟩:=h;obtain⟨oe,he,hc⟩:=F.there;have I:=F.inv;refine wpAny_handleBy_cons (codeAny_handlers_test (q_ (X:=X.mkd ea) (I.mkd ea) hg hm (LS I.kIn hW he hc hs ?_) hd)) (by intro q;cases q);cases b with
 | false=>exact hr pins s σ H ea C D F h
 | true=>
  refine codeAny_handlers_suite_as (F.again λs2 F2=> ?_);obtain⟨oe2,he2,hc2⟩:=F2.there;have I2:=F2.track hex he2;refine DU I2 hN hi (.inl hk) (v:=.ref ea) (u:=.ref ea) rfl (λs3 I3=> ?_) (.inr hk);refine wpAny_mono (hb ea pins s3 _ _ (D.gone i) (I3.mkd ea) (h ea oe2 F2.fresh hc2)) (λf s4 q=> ?_) λ_ _ z=>False.elim z;have ok:=I.ok;cases f with
  | next=>obtain⟨σ',H',I',q⟩:=q;exact CH (I'.unmkd ok) hN hi hk λs5 I5=>⟨_,_,I5,q⟩
  | brk=>obtain⟨σ',H',I',q⟩:=q;exact CH (I'.unmkd ok) hN hi hk λs5 I5=>⟨_,_,I5,q⟩
  | cont=>obtain⟨σ',H',I',q⟩:=q;exact CH (I'.unmkd ok) hN hi hk λs5 I5=>⟨_,_,I5,q⟩
  | ret u=>obtain⟨v,σ',H',I',r,q⟩:=q;exact CH (I'.unmkd ok) hN hi hk λs5 I5=>⟨v,_,_,I5,r,q⟩
noncomputable def Kp(X:Cx)(st:Stmt)(t:FK->TS):Prop:=
 ∀(pins:List (Addr×Obj)) (s:Shared) (σ:St) (H:Hp) (D:Ends) (F:FK),Inv X pins σ H s->t F D σ H->wpAny (model X.prog X.w) X.A (exec st X.env) (SP X pins D) (λe s'=>∃σ',XP X pins σ' (F σ') e s') s
noncomputable def lD(X:Cx)(st:List Stmt)(t:FK->TS):Prop:=
 ∀(pins:List (Addr×Obj)) (s:Shared) (σ:St) (H:Hp) (D:Ends) (F:FK),Inv X pins σ H s->t F D σ H->wpAny (model X.prog X.w) X.A (execs st X.env) (SP X pins D) (λe s'=>∃σ',XP X pins σ' (F σ') e s') s
noncomputable def uv(X:Cx)(e:Expr)(t:(Addr->Hp->Prop)->TE):Prop:=
 ∀(pins:List (Addr×Obj)) (s:Shared) (σ:St) (H:Hp) (Q:VK) (F:Addr->Hp->Prop),Inv X pins σ H s->t F σ H Q->wpAny (model X.prog X.w) X.A (eval e X.env) (EP X pins σ Q) (XP X pins σ F) s
noncomputable def FE(F:Addr->Hp->Prop):XK:=λc _ H=>∃C,c=.ref C/\F C H
theorem IM{σ:St}{Fx:Addr->Hp->Prop}
  (F:FnOk X.prog X.w X.K X.mg X.base (CXE X.prog X.w) k f fd ps sp) (hr:Room k X.A) (hb:jfb X.K fd ps ds) (hd:Vals dvs ds)
  (I:Inv X pins σ H s) (r:Vals vs us) (h:sp (vs++dvs) H Q (FE Fx)):wpAny (model X.prog X.w) X.A (call (.ref f) us) (EP X pins σ Q) (XP X pins σ Fx) s:=by
 have r2:Vals (vs++dvs) (us++ds):=r.append hd;have hl:(us++ds).length=ps.length:=by rw[<-r2.length];exact F.len _ _ _ _ h
 refine wpAny_call (codeAny_mono (F.run X.A X.stack s H ⟨us,[]⟩ (us++ds) (vs++dvs) Q (FE Fx) hr I.env0 (hb s us I.kIn hl) r2 h) λr s' hq=> ?_);cases r with
 | error e=>
  obtain⟨ea,C,a0,B,H',rfl,hos,hg,u,hok,fl,hB,hBk,C',hC,hE⟩:=hq;cases hC;exact⟨ea,C,H',rfl,⟨a0,B,H,s,I,hos,hg,u,hok,fl,hB,hBk⟩,hE⟩
 | ok fl=>
  cases fl with
  | ret u=>exact I.after hq
  | next=>exact False.elim hq
  | brk=>exact False.elim hq
  | cont=>exact False.elim hq
theorem Gs{α:Type}{t:Sem α}{Q Q':α->Shared->Prop}{E:Value->Shared->Prop}(h:wpAny M A t Q (λ_ _=>False) s)(hQ:∀a s,Q a s->Q' a s):wpAny M A t Q' E s:=wpAny_mono h hQ λ_ _ z=>False.elim z
noncomputable def Gj(sp:Sp)(dvs:List V)(t:TA):(Addr->Hp->Prop)->TE:=λF=>DX sp dvs (FE F) t
theorem Qb{k:Nat}{f:Addr}{fd:FuncData}{ps:List Str}{sp:Sp}{dvs:List V}{ds:List Value}{x:Str}{p pos:Pos}{e:Expr}{es:List Expr}{t:TA}
  (F:FnOk X.prog X.w X.K X.mg X.base (CXE X.prog X.w) k f fd ps sp) (hr:Room k X.A) (hg:Gl X x) (hm:X.mg x=some (.ref f)) (hk:W.keepIn X.K (.ref f)=true) (hb:jfb X.K fd ps ds) (hd:Vals dvs ds)
  (ha:PA X.nox (e::es) t) (hdb:(x==("__debug__":Str))=false:=by decide) (he:starEach (e::es) X.env=(false,eval e X.env)::starEach es X.env:=by rfl) (hpl:(backTo pos (starEach es X.env)).any (·.1)=false:=by rfl):
  uv X (.Call (.Name x p) (e::es) [] pos) (Gj sp dvs t):=by
 intro pins s σ H Q Fx I h;refine wpAny_Call_Name_kw (q_ I hg hm ?_ hdb);refine W.callWith_K (h₀:=X.base) I.ok.mod.kin hk (Gs (ha pos pins s σ H _ (I.wish _) h) λus s1 ⟨vs,H1,I1,r,q⟩=>⟨I1.kIn,?_⟩) he hpl;exact IM F hr hb hd I1.unwish r q
theorem Bi{k:Nat}{x:Str}{sp:Sp}{p pos:Pos}{e:Expr}{es:List Expr}{t:TA}(G:GC X.prog X.w X.K X.mg X.base (CXE X.prog X.w) k x sp)(hr:Room k X.A)(ha:PA X.nox (e::es) t)(hg:Gl X x:=by rfl)(hdb:(x==("__debug__":Str))=false:=by decide)
  (he:starEach (e::es) X.env=(false,eval e X.env)::starEach es X.env:=by rfl) (hpl:(backTo pos (starEach es X.env)).any (·.1)=false:=by rfl):uv X (.Call (.Name x p) (e::es) [] pos) (Gj sp [] t):=by
 obtain⟨f,fd,ps,F,hm,hk,hb⟩:=G;exact Qb F hr hg hm hk hb .nil ha hdb he hpl
noncomputable def om(i:Nat)(t:(Addr->Hp->Prop)->TE):FK->TS:=λF D σ H=>t (F σ) σ H λv H1=>D.nx (σ.set i (some v)) H1
theorem Im{i:Nat}{x:Str}{e:Expr}{t:(Addr->Hp->Prop)->TE}{pos pos':Pos}(hN:X.N.Nodup)(hi:X.N[i]?=some x)(hx:t_ X.env.scope x)(he:uv X e t)(hs:swapsWith e (some (.Name x pos')) pos.line X.env=pure false:=by rfl)
  (hf:X.fn x=true\/X.env.scope.names.lookup x=some .local:=by first|exact .inl rfl|exact .inr rfl|assumption):Kp X (.Assign [.Name x pos'] e pos) (om i t):=by
 intro pins s σ H D F I h;refine wpAny_Assign_Name (wpAny_mono (he pins s σ H _ _ I h) (λv s1 ⟨y,H1,I1,r1,q1⟩=> ?_) λ_ _ z=>⟨σ,z⟩) hs;exact DU I1 hN hi hx r1 (λs2 I2=>⟨_,H1,I2,q1⟩) hf
noncomputable def nh(t u:FK->TS):FK->TS:=λF D σ H=>t F {D with nx:=u F D} σ H
theorem KU:lD X [] (λ_=>DP):=λ_ _ σ H _ _ I h=>wpAny_execs_nil ⟨σ,H,I,h⟩
theorem Kv{st:Stmt}{t u:FK->TS}(h1:Kp X st t)(h2:lD X rest u):lD X (st::rest) (nh t u):=by
 intro pins s σ H D F I h;refine wpAny_execs_cons (bx (h1 pins s σ H {D with nx:=u F D} F I h) λf s1 q=> ?_);cases f with
 | next=>obtain⟨σ',H',I',q⟩:=q;exact h2 pins s1 σ' H' D F I' q
 | brk=>exact q
 | cont=>exact q
 | ret u=>exact q
noncomputable def AX(tb:FK->TS)(th:Addr->TS):TS:=λD σ H=>tb (λσ1 C H1=>th C D σ1 H1) D σ H
theorem HK{tb:FK->TS}{th:Addr->TS}(hst:X.stack=X.env::X.outer)(hfr:X.env.frame=some X.env.locals)(hb:lD X body tb)(hh:PH X (h₀::hs) th):
  PS X (.Try body (h₀::hs) [] [] pos) (AX tb th):=by
 intro pins s σ H D I h;refine wpAny_Try_except (wpAny_mono (hb pins s σ H D _ I h) (λf s1 q=> ?_) λe s1 q=> ?_)
 ·cases f with
  | next=>exact wpAny_execs_nil q
  | brk=>exact q
  | cont=>exact q
  | ret u=>exact q
 ·obtain⟨σ',ea,C,H',rfl,F,q⟩:=q
  exact F.lands hst hfr I.ok.frames λs2 F2=>hh pins s2 σ' H' ea C D F2 q
end
end L2
namespace L2
open PySem PySem.Spec PyProof.Rows PySem.Builtin PySem.Builtin.ObjectAttr PySem.Builtin.Getset_descriptor
structure IsiC (K:W.Frag) (C:Addr):Prop where
 ga:W.findIn K (.ref C) "__getattribute__"=some (some (.builtin "BaseException.__getattribute__"))
 gt:W.findIn K (.ref C) "__getattr__"=some none
 cl:W.findIn K (.ref C) "__class__"=some (some (.builtin "object.__class__"))
 be:W.subIn K (.ref C) (.type "BaseException")=some true
 ob:W.mroIn K C (.type "object")=some true
 is:W.hasDictIn K C=true
section
variable {prog : Program} {w : World} {A : Around} {E : Value -> Shared -> Prop} {K : W.Frag} {h : Heap} {g : Array GenState} {d : Drawn} {t : Nat} {os : OsState} {a C : Addr} {o : Obj}
theorem FC(hx:h.get? a=some o)(hc:o.cls=.ref C):W.Looks M h (typeOf (.ref a)) (.ref C):=hc▸(W.Looks.ld (h:=h) hx).andThen .now
theorem OU{R:Result->Shared->Prop}(k:K.In h)(c:IsiC K C)(hx:h.get? a=some o)(hc:o.cls=.ref C)(hq:R (.ok (.ret (.ref C))) ⟨h,g,d,t,os⟩):
  codeAny (model prog w) A (.call (.builtin "getset_descriptor.__get__") ⟨[.builtin "object.__class__",.ref a,tp],[]⟩) R ⟨h,g,d,t,os⟩:=by
 have L0:=FC (M:=model prog w) hx hc;have L1:=W.looks_mroIn (M:=model prog w) k c.ob;refine codeAny_call_builtin W.KF.slot_gs.plain W.KF.entry_gs (W.KF.slot_gs.check _ _ _ _ _ _ _ _ W.KF.type_class (W.KF.args_gs _ _ _) ?_);unfold Builtin.«getset_descriptor.__get__» descrGet;rw[W.dga_obj];refine wpAny_bind (wpAny_pure ?_);unfold descrGetter descrCheckInstance descrNameAndClass isInstance;simp only[W.KF.owner_class]
 repeat lk
 refine⟨Code.quiet_builtin _ (by decide+kernel),codeAny_builtin W.KF.entry_class ?_⟩;unfold Builtin.«object.__class__» shownTypeOf
 repeat lk
 all_goals first|exact hq|assumption
theorem Mv{Q:Fin->Shared->Prop}(k:K.In h)(c:IsiC K C)(hx:h.get? a=some o)(hc:o.cls=.ref C)(hq:Q (.done (.ret (.ref C))) ⟨h,g,d,t,os⟩):
  wpAny (model prog w) A (Builtin.«object.__getattribute__» ⟨[.ref a,.str "__class__" tk],[]⟩) Q E ⟨h,g,d,t,os⟩:=by
 have L0:=FC (M:=model prog w) hx hc;have L1:=W.looks_findIn (M:=model prog w) k c.cl;have hT5:(⟨h,g,d,t,os⟩:Shared).TypeIs (.builtin "object.__class__") "getset_descriptor":=F.typeOf_object_class;have f5:=F.typeOf_object_class;have f6:=F.slot_gs_get.lookup;have f7:=F.slot_gs_set.lookup
 repeat (any_goals (first|assumption|(with_reducible refine wpAny_loadPart_at hx ?_;rw[hc])|(with_reducible refine L1.at ?_)|(with_reducible refine L0.at ?_)|wp_step))
 refine OU k c hx hc ?_
 repeat (any_goals (first|assumption|wp_step))
theorem OA{Q:Unit->Shared->Prop}(k:K.In h)(c:IsiC K C)(hx:h.get? a=some o)(hc:o.cls=.ref C)(hq:Q () ⟨h,g,d,t,os⟩):
  wpAny M A (checkBuiltinCall "BaseException.__getattribute__" ⟨[.ref a,nameV],[]⟩) Q E ⟨h,g,d,t,os⟩:=by
 have hk:builtinKind "BaseException.__getattribute__"=some .slot:=by decide+kernel
 have hsplit:splitId "BaseException.__getattribute__"=some ("BaseException","__getattribute__"):=by decide+kernel
 have ha:=F.args_bexc_ga (.ref a) nameV;have L2:=W.looks_subIn (M:=M) k c.be;simp only[checkBuiltinCall,hk,hsplit];refine wpAny_bind ?_
 ·unfold isInstance
  repeat (first|(with_reducible refine wpAny_loadPart_at hx ?_;rw[hc])|(with_reducible refine L2.at ?_)|wp_step)
  exact hq
theorem Pl{R:Result->Shared->Prop}(k:K.In h)(c:IsiC K C)(hx:h.get? a=some o)(hc:o.cls=.ref C)(hq:R (.ok (.ret (.ref C))) ⟨h,g,d,t,os⟩):
  codeAny (model prog w) A (.call (.builtin "BaseException.__getattribute__") ⟨[.ref a,.str "__class__" tk],[]⟩) R ⟨h,g,d,t,os⟩:=
 codeAny_call_builtin F.excAttr_ValueError.ga.plain F.entry_bexc_ga (OA k c hx hc (Mv k c hx hc hq))
theorem rN{Q:Value->Shared->Prop}(k:K.In h)(c:IsiC K C)(hx:h.get? a=some o)(hc:o.cls=.ref C)(hq:Q (.ref C) ⟨h,g,d,t,os⟩):
  wpAny (model prog w) A (getAttrBy (.ref a) (.str "__class__" tk) false) Q E ⟨h,g,d,t,os⟩:=by
 have L1:=W.looks_findIn (M:=model prog w) k c.ga;have L2:=W.looks_findIn (M:=model prog w) k c.gt;have f3:=F.excAttr_ValueError.ga.bind (.ref a);have hx2:(Value.builtin "BaseException.__getattribute__"==Value.builtin "object.__getattribute__")=false:=by decide+kernel
 have hx1:(onTheHeap (Value.ref C)&&Value.builtin "BaseException.__getattribute__"==Value.builtin "object.__getattribute__")=false:=by rw[hx2];rfl
 repeat (any_goals (first|assumption|(with_reducible refine wpAny_loadPart_at hx ?_;rw[hc])|(with_reducible refine L1.at ?_)|(with_reducible refine L2.at ?_)|wp_step))
 refine Pl k c hx hc ?_
 repeat (any_goals (first|assumption|wp_step))
theorem OO{Q:Option Value->Shared->Prop}(k:K.In h)(c:IsiC K C)(hx:h.get? a=some o)(hc:o.cls=.ref C)(hq:Q (some (.ref C)) ⟨h,g,d,t+1,os⟩):
  wpAny (model prog w) A (getAttr? (.ref a) "__class__") Q E ⟨h,g,d,t,os⟩:=by
 repeat (any_goals (first|assumption|with_reducible apply rN k c hx hc|wp_step))
theorem LC(c:IsiC K C)(hc:o.cls=.ref C):W.KitX K (.ref a) (.ref C) (λh=>h.get? a=some o)where
 ty:=λ_ _ _ hx=>FC hx hc
 it:=λ_ _ k _=>by
  have z0:(W.clsIn K C).isSome=true:=by obtain⟨cd,hc,_⟩:=W.any_some c.is;rw[hc];rfl
  unfold W.clsIn at z0;split at z0
  ·rename_i c' d' cd' sl' ho
   intro A' Q' E' s' kk q;unfold isType loadHead;exact wpAny_bind (wpAny_loadPart (kk _ _ (k _ _ ho)) (wpAny_pure q))
  ·cases z0
 ne:=λh tp dd its n sl k htp=>by
  refine Bool.eq_false_iff.mpr λq=> ?_;have e:C=tp:=Value.ref.inj (beq_iff_eq.mp q);subst e;have z0:(W.clsIn K C).isSome=true:=by obtain⟨cd,hc,_⟩:=W.any_some c.is;rw[hc];rfl
  unfold W.clsIn at z0;split at z0
  ·rename_i c' d' cd' sl' ho
   have z:=(k _ _ ho).symm.trans htp;cases z
  ·cases z0
 ca:=fun{_ _ _ _ _ s} k hx q=>by
  obtain⟨h,g,d,t,os⟩:=s;exact OO k c hx hc q
end
section
variable {X : Cx}
theorem HU{σ:St}{E:Value->Shared->Prop}{Q:Value->Shared->Prop}(I:Inv X pins σ H s)(hH:H a=some (.frz oe u))(hc:oe.cls=.ref C)(c:IsiC X.K C)
  (e:W.kitOne X.K (.ref C) cv=some b) (h:∀tk,Q (.bool b) {s with toks:=tk}):wpAny (model X.prog X.w) A (call (.builtin "isinstance") [.ref a,cv]) Q E s:=by
 obtain⟨he,_⟩:=(show jcq X.prog X.w H s.heap a (.frz oe u)from I.hok a _ hH);exact W.kia_one (LC c hc) I.kIn he e (λz=>nomatch z) h
end
end L2
namespace L2
open PySem PySem.Spec PyProof.Rows
section
variable {X : Cx}
noncomputable def nU:RU:=λx y H Q=>match x,y with
 | .int i,.int j=>CMul i j/\Q (.int (i*j)) H
 | .ref a,.int k=>BK (.ref a) (.int k) H Q
 | .str z,.int n=>n.natAbs<=16777216/\z.length*n.toNat<=16777216/\Q (.str (Txt.mul z n)) H
 | _,_=>False
theorem vI:cw X (binaryOp .Mult) nU:=by
 intro pins s σ H x y v u Q I rx ry h;cases x<;>cases y<;>first|exact h.elim|skip
 ·exact qP pins s σ H _ _ v u Q I rx ry ⟨_,_,rfl,rfl,h.1,h.2⟩
 ·obtain⟨h1,h2,q⟩:=h
  obtain⟨t,rfl⟩:=rx;obtain⟨t',rfl⟩:=ry;rename_i z n;refine SB.mul ?_ λt' k=>⟨.str _,H,I.tok k,⟨t',rfl⟩,q⟩;have hp:¬n<1->z.length*n.toNat<=16777216:=λ_=>h2;refine⟨?_,λh1' _=> ?_,λh1' _=> ?_⟩
  ·have a1:¬n< -(2^63:Int):=by omega
   have a2:¬n>=(2^63:Int):=by omega
   rw[decide_eq_false a1,decide_eq_false a2];rfl
  ·have hpos:0<n:=by omega
   have e:((z.length*n.toNat:Nat):Int)=(z.length:Int)*n:=by
    rw[Int.natCast_mul,g6 (by omega)]
   have h3:(z.length:Int)*n<=2^63 - 1:=by rw[<-e];omega
   have h4:(z.length:Int)<=(2^63 - 1) / n:=(Int.le_ediv_iff_mul_le hpos).mpr h3;omega
  ·exact short24 h2
 ·exact sV pins s σ H _ _ v u Q I rx ry h
theorem sQ:SlR X yk:=by
 intro pins s σ H x v vl vu lo hi sl Q I rx hs pl pu h;obtain⟨z,rfl,hz,q⟩:=h;obtain⟨t,rfl⟩:=rx;refine⟨"str",_,F.slot_str_getitem.lookup,typeIs_str _ _ _,?_⟩;obtain⟨l,rfl,rfl⟩:∃l:Option (Int×Tok),vl=partValue l/\lo=l.map (·.1):=by
  cases pl with
  | none=>exact⟨none,rfl,rfl⟩
  | int i t=>exact⟨some (i,t),rfl,rfl⟩
 obtain⟨u,rfl,rfl⟩:∃l:Option (Int×Tok),vu=partValue l/\hi=l.map (·.1):=by
  cases pu with
  | none=>exact⟨none,rfl,rfl⟩
  | int i t=>exact⟨some (i,t),rfl,rfl⟩
 exact wpAny_getItem_str_slice (l:=l) (u:=u) (st:=none) hs rfl (post_val_or_str ⟨zd (Txt.slice_le z _ _) hz,λt' k=>⟨.str _,H,I.tok k,⟨t',rfl⟩,q⟩⟩)
noncomputable def s_(K:W.Frag):V->Option Int->Option Int->Hp->VK->Prop:=λx lo hi H Q=>Km K x lo hi H Q\/yk x lo hi H Q
theorem G7:SlR X (s_ X.K):=SlR.or EE sQ
end
noncomputable def Gf(K:W.Frag)(a:Addr):It:=
 ⟨λi H=>∃xs x,SqL K H a xs/\xs[i]?=some x,λi H v H'=>∃p x,H p=none/\(∀xs,SqL K H a xs->xs[i]?=some x)/\v=.ref p/\H'=aQ H p (.tup [.int i,x]),λi H=>∃xs,SqL K H a xs/\xs.length<=i⟩
theorem O8{K:W.Frag}{x1}(a en it:Addr)(hne:en≠it):Turn P w K (.Tuple elts x1 tpos) (Gf K a) [en,it] en (λi h=>∃old,IsEnum h en it ((i:Nat):Int) old/\h.IsListIter it a i)where
 mem:=by simp
 obj:=λi h st b hb=>by
  obtain⟨old,h1,h2⟩:=st;rcases qr.mp hb with rfl|hb
  ·exact⟨_,h1,λv z=>by
    have z':Data.fields _=Data.cell v:=z;cases z'⟩
  ·have e:b=it:=by simpa using hb
   subst e;obtain⟨o,e,c,d⟩:=h2;exact⟨o,e,λv z=>by rw[d]at z;cases z⟩
 keep:=λi h h' st k=>by
  obtain⟨old,h1,h2⟩:=st;exact⟨old,k en (by simp) _ h1,h2.at λo e=>k it (by simp) o e⟩
 item:=by
  intro X hP hw hK hc i pins s σ H E I hf st hg;subst hP hw hK;obtain⟨xs,x,hq,hx⟩:=hg;obtain⟨its,rv,p,hz⟩:=I.list hq;obtain⟨u,hu,ru⟩:=rv.get hx;obtain⟨old,he,hit⟩:=st;have g0:=hf en (by simp);have f0:=hf it (by simp);refine wpAny_pyNext_enum_item he hit p.isList (x:=u) (by simpa using hu) hne λh₁ heo hit₁ ht₁ hz₁ hk₁=> ?_;refine⟨.ref s.heap.objs.size,rfl,wpAny_letOwnedTupleGo_enum heo λh₂ he₂ hs₂=> ?_⟩
  replace hs₂:Heap.SameBut en h₁ h₂:=hs₂
  have fr:H s.heap.objs.size=none:=I.hok.fresh (qb _);have kp:∀b o,b≠en->b≠it->s.heap.get? b=some o->h₂.get? b=some o:=λb o n1 n2 e=>hs₂.extBut b o n1 (hk₁ b o n1 n2 e);have enlt:en<s.heap.objs.size:=qd he;have tup:h₂.get? s.heap.objs.size=some {cls:=.type "tuple",data:=.seq #[.int i s.toks,u]}:=hs₂.extBut _ _ (k6 enlt) ht₁;have tr:∀{b u},H b=some u->b≠en/\b≠it:=fun{b u} e=>⟨λz=>(by rw[z,g0.1]at e;cases e),λz=>(by rw[z,f0.1]at e;cases e)⟩;have hok:HOk X.prog X.w (aQ H s.heap.objs.size (.tup [.int i,x])) h₂:=by
   intro b o e;by_cases hb:b=s.heap.objs.size
   ·subst hb
    rw[df]at e;cases e;exact⟨(show 2<=sizeLine by decide),[.int i s.toks,u],.cons ⟨_,rfl⟩ (.cons ru .nil),⟨_,tup,rfl,_,rfl⟩⟩
   ·rw[aW hb]at e
    refine(I.hok b o e).stay (λc v hcc q=> ?_) (λc q=>by rw[aW (ed q fr)];exact q) λc ys q=>by rw[aW (ed q fr)];exact q
    have t:c≠en/\c≠it:=by
     rcases hcc with rfl|hcc
     ·exact tr e
     ·exact tr hcc
    exact kp c v t.1 t.2 q
  have un:Un (cg X.stack) [en,it] H (aQ H s.heap.objs.size (.tup [.int i,x])) s.heap h₂:=by
   have nx:∀{b:Addr},b∉[en,it]->b≠en/\b≠it:=fun{b} hb=>⟨λz=>hb (by simp[z]),λz=>hb (by simp[z])⟩;refine⟨λb o e _ _ hb=>kp b o (nx hb).1 (nx hb).2 e,λb o e _ _ hb=>⟨o.slots,kp b o (nx hb).1 (nx hb).2 e⟩,λb o e n _=> ?_,λb o e hb=>⟨o,kp b o (nx hb).1 (nx hb).2 e⟩,λb ys e=> ?_,λb o v e=> ?_,λb ps e=>⟨#[],?_⟩⟩
   ·rw[aW (qo (qd e))];exact n
   ·rw[aW (ed e fr)];exact e
   ·rw[aW (ed e fr)];exact e
   ·rw[aW (ed e fr)];simpa using e
  have I2:Inv X pins σ (aQ H s.heap.objs.size (.tup [.int i,x])) {s with heap:=h₂,toks:=s.toks+1}:=
   I.call' (s':={s with heap:=h₂,toks:=s.toks+1}) (ch:=[en,it]) rfl un hok I.bare λb hb=>⟨(hf b hb).2.2.2.1,(hf b hb).2.1,(hf b hb).2.2.2.2.1,(hf b hb).2.2.2.2.2⟩
  refine⟨.ref s.heap.objs.size,_,I2,rfl,⟨s.heap.objs.size,x,fr,λys hy=>by rw[I.list_inj hy hq];exact hx,rfl,rfl⟩,⟨u,?_,?_⟩,λb hb=> ?_⟩
  ·have:((i+1:Nat):Int)=(i:Int)+1:=by push_cast;rfl
   rw[this];exact he₂
  ·exact hit₁.extBut hs₂.extBut (Ne.symm hne)
  ·have:b<s.heap.objs.size:=by
    rcases qr.mp hb with rfl|hb
    ·exact enlt
    ·have e:b=it:=by simpa using hb
     subst e;obtain⟨o,e,_⟩:=hit;exact qd e
   rw[aW (qo this)];exact(hf b hb).1
 done:=by
  intro X hP hw hK hc i pins s σ H E I hf st hg;subst hP hw hK;obtain⟨xs,hq,hx⟩:=hg;obtain⟨its,rv,p,hz⟩:=I.list hq;obtain⟨f0,f1,f2,f3,f4,f5⟩:=hf it (by simp);have hl:=rv.length;obtain⟨old,he,hit⟩:=st;exact wpAny_pyNext_enum_end (I.ok.hd hc) he hit p.isList (by simp;omega) λh' eb=>⟨rfl,I.turned (t':=s.toks) (λb o hb e=>eb b o hb e) f0 f1 f3 f4 f5⟩
 self:=λ_ _ _ _ _ st h=>by
  obtain⟨old,he,_⟩:=st;exact wpAny_pyIter_enum he h
theorem OG:bootBuiltins "enumerate"=some (.type "enumerate"):=by decide+kernel
noncomputable def Ei(K:W.Frag)(ta:TA):TI:=λσ H R=>ta σ H λvs H1=>∃a xs,vs=[.ref a]/\SqL K H1 a xs/\R (Gf K a) H1
theorem Nj{X:Cx}{elts:List Expr}{x1}{tpos:Pos}{e:Expr}{ta:TA}{p pos:Pos}(hg:Gl X "enumerate")(hm:X.mg "enumerate"=none)(ha:PA X [e] ta)
  (hs:starEach [e] X.env=[(false,eval e X.env)]:=by rfl):PI X (.Tuple elts x1 tpos) (.Call (.Name "enumerate" p) [e] [] pos) (Ei X.K ta):=by
 intro pins s σ H R I h;refine Call_ (uN I hg hm OG (PyProof.Rows.callWith_type1 (bx (ha pos pins s σ H _ I h) λus s1 ⟨vs,H1,I1,r1,q1⟩=> ?_) hs rfl));obtain⟨a,xs,rfl,hq,q⟩:=q1;cases r1 with
 | cons r rr=>
  cases rr
  cases r
  obtain⟨its,rv,pl,hz⟩:=I1.list hq;refine call_enumerate_list pl.isList λh' he hit hsz kp=>wpAny_pyIter_enum (s:={s1 with heap:=h'}) he ?_;have I2:Inv X pins σ H1 {s1 with heap:=h'}:=I1.kept (t':=s1.toks) kp;refine⟨s1.heap.objs.size+1,[s1.heap.objs.size+1,s1.heap.objs.size],_,_,H1,rfl,I2,O8 a _ _ (Nat.succ_ne_self _),⟨_,he,hit⟩,λb hb=> ?_,q⟩;have hb':s1.heap.objs.size<=b:=by
   rcases qr.mp hb with rfl|hb
   ·omega
   ·have e:b=s1.heap.objs.size:=by simpa using hb
    exact zk e.symm
  exact I1.fpOk hb' (I1.hok.fresh hb')
theorem LN{K:W.Frag}(k:X.K=K)(h:PI X tg e (Ei X.K ta)):PI X tg e (Ei K ta):=by subst k;exact h
section
variable {prog : Program} {w : World} {A : Around} {E : Value -> Shared -> Prop}
theorem K5{it l:Addr}{items:Array Value}(hne:l≠it):∀(n i:Nat) (s:Shared) (Q:List Value->Shared->Prop),s.heap.IsListIter it l i->s.heap.IsList l items->i+n<=items.size->
  (∀h',h'.IsListIter it l (i+n)->Heap.SameBut it s.heap h'->Q ((items.toList.drop i).take n) {s with heap:=h'})->wpAny (model prog w) A (draw (.ref it) n) Q E s
 | 0,i,s,Q,hit,_,_,hQ=>by
  show wpAny _ _ (pure []) Q E s;exact wpAny_pure (by simpa using hQ s.heap hit (Heap.SameBut.refl ..))
 | n+1,i,s,Q,hit,hl,hle,hQ=>by
  have hlt:i<items.size:=by omega
  show wpAny _ _ (pyNext (.ref it) >>= _) Q E s;refine wpAny_bind (wpAny_pyNext_list_item hit hl (x:=items[i]) (by simp[hlt]) λh₁ hit₁ hs₁=> ?_);refine wpAny_bind (wpAny_holding (K5 hne n (i+1) _ _ hit₁ (hl.extBut hs₁.extBut hne) (by omega) λh₂ hit₂ hs₂=>wpAny_pure ?_));have hd:items.toList.drop i=items[i]::items.toList.drop (i+1):=by simp[k9,hlt]
  have:=hQ h₂ (by rw[show i+(n+1)=i+1+n by omega];exact hit₂) (hs₁.trans hs₂);rw[hd,List.take_succ_cons]at this;exact this
theorem M5{Q:List Value->Shared->Prop}(hh:A.handled=none)(hl:s.heap.IsList l items)
  (hQ:∀h',Heap.ExtBut s.heap.objs.size s.heap h'->Q items.toList {s with heap:=h'}):wpAny (model prog w) A (unpackItems (.ref l) items.size none) Q E s:=by
 have hlt:l≠s.heap.objs.size:=by obtain⟨o,ho,_⟩:=hl;exact qo (qd ho)
 unfold unpackItems;refine wpAny_bind ?_
 ·unfold notIterableAtAll
  refine wpAny_bind (wpAny_specialOf hl.typeIs slot_list_iter.lookup ?_);refine wpAny_pure ?_;simp only[wd,if_false];refine wpAny_bind (wpAny_holding (wpAny_pyIter_list hl ?_));refine wpAny_bind (wpAny_holding (K5 hlt items.size 0 _ _ ⟨_,qw _ rfl,rfl,rfl⟩ (hl.push _) (by omega) λh₁ hit₁ hs₁=> ?_));have hall:List.take items.size (List.drop 0 items.toList)=items.toList:=by
   rw[List.drop_zero];exact wr (by simp)
  rw[hall];rw[if_neg (by simp)];have hl₁:h₁.IsList l items:=(hl.push _).extBut hs₁.extBut hlt;refine wpAny_bind (wpAny_holding (wpAny_pyNext_list_end hh hit₁ hl₁ (by simp) λh₂ he₂=> ?_));simp only[Option.isSome_none,wd,if_false];refine wpAny_pure (hQ h₂ λb o hb e=>he₂ b o hb (hs₁.extBut b o hb (qa _ e)))
end
noncomputable def jI(K:W.Frag)(n:Nat)(t:jZ):TG:=λv σ H Q=>∃a xs,v=.ref a/\(SqT K H a xs\/SqL K H a xs)/\xs.length=n/\t xs σ H Q
theorem E6{X:Cx}{pos:Pos}{es:List Expr}{k:Nat}{t:jZ}{n:Nat}(hc:X.calm=true)(h:vV X es t)
  (hn:(assignEach es X.env).length=n:=by rfl) (hst:(assignEach es X.env).findIdx? (·.1)=none:=by rfl):PG X (.Tuple es k pos) (jI X.K n t):=by
 intro pins s σ H v u Q I r hw;obtain⟨a,xs,e1,hq,hl,hw⟩:=hw;subst e1;rcases hq with hq|hq
 ·exact qD (n:=n) hc h hn hst pins s σ H (.ref a) u Q I r ⟨a,xs,rfl,hq,hl,hw⟩
 ·cases r
  obtain⟨its,rv,p,hz⟩:=I.list hq;rw[PyProof.Rows.assign_Tuple];refine wpAny_bind (wpAny_standAt ?_);unfold unpack;have hsz:(assignEach es X.env).length=its.toArray.size:=by simp[hn,<-hl,rv.length]
  rw[hsz,hst];refine wpAny_bind (wpAny_holding (M5 (I.ok.hd hc) p.isList λh' hx=> ?_));have I1:Inv X pins σ H {s with heap:=h'}:=I.kept (t':=s.toks) λb o e=>hx b o (qo (qd e)) e;exact h pins _ σ H xs _ Q I1 (by simpa using rv) hw
theorem EH{K:W.Frag}(k:X.K=K)(h:PG X tg (jI X.K n t)):PG X tg (jI K n t):=by subst k;exact h
section
variable {X : Cx}
theorem rQ:cw X (compareOp .Is) (λx y H Q=>(y=.non/\Q (.bl (decide (x=.non))) H)\/∃a b,x=.bl a/\y=.bl b/\Q (.bl (a==b)) H):=by
 intro pins s σ H x y v u Q I rx ry h;rcases h with h|⟨a,b,rfl,rfl,q⟩
 ·exact rD pins s σ H x y v u Q I rx ry h
 ·cases rx;cases ry
  refine PySem.wpAny_is_plain (by rfl) (cV I q ?_);cases a<;>cases b<;>rfl
theorem K9:cw X (compareOp .IsNot) (λx y H Q=>(y=.non/\Q (.bl (!decide (x=.non))) H)\/∃a b,x=.bl a/\y=.bl b/\Q (.bl (!(a==b))) H):=by
 intro pins s σ H x y v u Q I rx ry h;rcases h with h|⟨a,b,rfl,rfl,q⟩
 ·exact Of pins s σ H x y v u Q I rx ry h
 ·cases rx;cases ry
  refine PySem.wpAny_isNot_plain (by rfl) (cV I q ?_);cases a<;>cases b<;>rfl
end
noncomputable def l_(nt:Nat)(g:jZ):Prop:=∀xs σ H Q (σ0:St),(σ.length=σ0.length/\∀i,nt<=i->σ[i]?=σ0[i]?)->g xs σ H Q->g xs σ H λσ' H'=>Q σ' H'/\σ'.length=σ0.length/\∀i,nt<=i->σ'[i]?=σ0[i]?
theorem Js:l_ nt pB:=λxs σ H Q σ0 k ⟨e,q⟩=>⟨e,q,k⟩
theorem DV(h:i<nt)(r:l_ nt u):l_ nt (Hm (ay i) u):=λxs σ H Q σ0 k ⟨v,r',e,q⟩=>
 ⟨v,r',e,r r' _ H Q σ0 ⟨by simp[k.1],λj hj=>by rw[qe (by omega)];exact k.2 j hj⟩ q⟩
theorem Ku{K:W.Frag}(r:l_ nt u):xQ nt (jI K n u):=λx σ H Q ⟨a,xs,e,hq,hl,q⟩=>⟨a,xs,e,hq,hl,r xs σ H Q σ ⟨rfl,λ_ _=>rfl⟩ q⟩
theorem bW{K:W.Frag}(k:X.K=K)(h:PE X e (mG X.K ta f)):PE X e (mG K ta f):=by subst k;exact h
theorem eW{K:W.Frag}(k:X.K=K)(h:PS X e (kZ X.K ta tv f)):PS X e (kZ K ta tv f):=by subst k;exact h
theorem tK{K:W.Frag}{mg:Str->Option Value}(h1:X.prog=P)(h2:X.w=w)(h3:X.K=K)(h4:X.mg=mg)(h5:X.base=base)
  (h:PE X e (oq X.prog X.w X.K X.mg X.base CX k m E ta t)):PE X e (oq P w K mg base CX k m E ta t):=by subst h1 h2 h3 h4 h5;exact h
section
variable {X : Cx}
noncomputable def oB:V->List V->Hp->VK->Prop:=λx xs H Q=>∃i:Int,x=.int i/\xs=[]/\Q (.int (Builtin.Int.intBits i:Nat)) H
theorem L7:qM X "int.bit_length" oB:=by
 intro pins s σ H x xs v us Q I rx rv h;obtain⟨i,rfl,rfl,q⟩:=h;obtain⟨t,rfl⟩:=rx;cases rv;refine call_gives PySem.F.slot_int_bit_length (typeIs_int _ _ _) PySem.F.entry_int_bit_length (PySem.F.args_int_bit_length_1 _) (AutoIntG2.int_bit_length_int_0 i t) ?_;exact⟨.int _,H,I.tok _,⟨_,rfl⟩,q⟩
end
section
variable {X : Cx} {k : Nat} {m : Str} {p pos apos : Pos} {e o : Expr} {es : List Expr} {ta : TE} {t : TA}
noncomputable def Dh(P:Program)(w:World)(K:W.Frag)(mg:Str->Option Value)(base:Heap)(k:Nat)(m:Str)(ta:TE)(t:TA):(Addr->Hp->Prop)->TE:=λF=>oq P w K mg base (CXE P w) k m (FE F) ta t
theorem qW{pl:Sem Bool}(he:PE X.nox o ta)(hr:Room k X.A)(ha:PA X.nox (e::es) t)
  (hst:starEach (e::es) X.env=(false,eval e X.env)::starEach es X.env:=by rfl) (hpl:(backTo pos (starEach es X.env)).any (·.1)=false:=by rfl)
  (ht:eval (.Call (.Attribute o m apos) (e::es) [] pos) X.env=(do
   let ov<-eval o X.env
   standAt apos.atName
   let (f,first)<-holding [ov] (getMethod ov m pl)
   callWith pos f first (backTo pos (starEach (e::es) X.env)) (backToKw pos (keywordEach [] X.env))):=by rfl):
  uv X (.Call (.Attribute o m apos) (e::es) [] pos) (Dh X.prog X.w X.K X.mg X.base k m ta t):=by
 intro pins s σ H Q Fx I h;refine W.methodCall_KW (pl:=pl) (Gs (he pins s σ H _ (I.wish _) h) λu s1 ⟨x,H1,I1,rx,a,C,dx,fs,sp,ex,ea,c,⟨f,fd,ps,hm,F,hb⟩,l,q⟩=> ?_) ht;subst ex;obtain rfl:u=Value.ref a:=rx;refine Fq I1.unwish ea c hm l ?_;refine W.callWith_K (first:=[.ref a]) (h₀:=X.base) I.ok.mod.kin hm.kp (Gs (ha pos pins s1 σ H1 _ I1 q) λus s2 ⟨vs,H2,I2,r,q2⟩=>⟨I2.kIn,?_⟩) hst hpl;exact IM (us:=.ref a::us) (vs:=.ref a::vs) (dvs:=[]) (ds:=[]) F hr hb .nil I2.unwish (.cons rfl r) (by simpa using q2)
theorem Nt{K:W.Frag}{mg:Str->Option Value}(h1:X.prog=P)(h2:X.w=w)(h3:X.K=K)(h4:X.mg=mg)(h5:X.base=base)
  (h:uv X e (Dh X.prog X.w X.K X.mg X.base k m ta t)):uv X e (Dh P w K mg base k m ta t):=by subst h1 h2 h3 h4 h5;exact h
end
noncomputable def qK(a:Addr)(o:Obj)(kvs:List (cp×V)):It:=
 ⟨λi H=>H a=some (.frz o (.dK kvs))/\i<kvs.length,λi H x H'=>H'=H/\(kvs[i]?).map (·.2)=some x,λi H=>H a=some (.frz o (.dK kvs))/\kvs.length<=i⟩
theorem KV.get{kvs:List (cp×V)}(r:KV kvs vs){i:Nat}{k:cp}{u:Value}(h:vs[i]?=some (k,u)):∃x,kvs[i]?=some (k,x)/\RelV x u:=by
 induction r generalizing i with
 | nil=>simp at h
 | @cons p q ps qs hq t ih=>
  cases i with
  | zero=>
   simp only[zh,Option.some.injEq]at h;subst h;obtain⟨h1,h2⟩:=hq;exact⟨p.2,congrArg some (Prod.ext h1 rfl),h2⟩
  | succ i=>exact ih h
theorem JD{h:Heap}(e:h.get? a=some o)(hep:∀es x,o.data=.dict es x->x=ep)(dd:h.DictOf (eJ prog w) a vs):h.DictAt (eJ prog w) a vs ep:=by
 obtain⟨ep',hat⟩:=dd.dictAt;obtain⟨o',es,h1,h2,h3,h4⟩:=id hat;rw[e]at h1;cases h1;rw[hep es ep' h3]at hat;exact hat
theorem Lz{K:W.Frag}(a it:Addr)(o:Obj)(kvs:List (cp×V))(ep:Nat)(hep:∀es x,o.data=.dict es x->x=ep):Turn P w K tg (qK a o kvs) [it] it (λi h=>h.IsValIter it a i kvs.length ep)where
 mem:=by simp
 obj:=λi h st b hb=>by
  have e:b=it:=by simpa using hb
  subst e;obtain⟨o,e,c,d⟩:=st;exact⟨o,e,λv z=>by rw[d]at z;cases z⟩
 keep:=λi h h' st k=>st.at λo e=>k it (by simp) o e
 item:=by
  intro X hP hw hK hc i pins s σ H E I hf st hg;subst hP hw hK;obtain⟨hq,hi⟩:=hg;obtain⟨f0,f1,f2,f3,f4,f5⟩:=hf it (by simp);obtain⟨eo,z,hd,vs,rel,dd⟩:=(show jcq X.prog X.w H s.heap a (.frz o (.dK kvs))from I.hok a _ hq);have hl:=rel.length;have hat:=JD eo hep dd;have hlt:i<vs.length:=by omega
  obtain⟨⟨k,u⟩,hx⟩:∃p,vs[i]?=some p:=⟨vs[i],by simp[hlt]⟩;obtain⟨x,hkx,rx⟩:=rel.get hx;rw[hl]at st;refine wpAny_pyNext_values_item st hat hx λh' st' sb=> ?_;have I1:Inv X pins σ H {s with heap:=h'}:=I.turned (t':=s.toks) (λb o hb e=>(sb.2 b hb).trans e) f0 f1 f3 f4 f5;obtain⟨o',e,c,d⟩:=id st';rw[<-hl]at st';exact⟨u,rfl,uf (s:={s with heap:=h'}) e c d (by decide) ⟨x,H,I1,rx,⟨rfl,by rw[hkx];rfl⟩,st',λb hb=>(hf b hb).1⟩⟩
 done:=by
  intro X hP hw hK hc i pins s σ H E I hf st hg;subst hP hw hK;obtain⟨hq,hi⟩:=hg;obtain⟨f0,f1,f2,f3,f4,f5⟩:=hf it (by simp);obtain⟨eo,z,hd,vs,rel,dd⟩:=(show jcq X.prog X.w H s.heap a (.frz o (.dK kvs))from I.hok a _ hq);have hl:=rel.length;have hat:=JD eo hep dd;rw[hl]at st;exact wpAny_pyNext_values_end (I.ok.hd hc) st hat (wv (by omega)) λh' eb=>⟨rfl,I.turned (t':=s.toks) (λb o hb e=>eb b o hb e) f0 f1 f3 f4 f5⟩
 self:=λ_ _ _ _ _ st h=>wpAny_pyIter_valiter st h
noncomputable def NF(X:Cx)(a:Addr):Prop:=∀o u,X.H₀ a≠some (.frz o u)
theorem Inv.recast{σ:St}(I:Inv X pins σ H s)(e:H a=some u)(n:NF X a)(h1:∀xs,u≠ .tup xs)(h2:∀ps,u≠ .tbl ps)(h3:∀y,u≠ .own y)(new:jcq X.prog X.w (aQ H a v) s.heap a v):Inv X pins σ (aQ H a v) s:=by
 have ne:∀b,H b=none->b≠a:=λb hb z=>by rw[z,e]at hb;cases hb
 refine⟨I.ok,I.os,I.bare,⟨I.base.keep,I.base.slot,λb ob q m x=> ?_,I.base.there,λb xs q=> ?_,λb ob w q=> ?_,λb ps q=> ?_⟩,I.loc,I.cell,?_,λx c q=> ?_,λp hp=> ?_,λb ob q=> ?_,I.len⟩
 ·have:=I.base.free b ob q m x
  rw[aW (ne b this)];exact this
 ·have:=I.base.tups b xs q
  rw[aW (λz=>by rw[z,e]at this;exact h1 xs (Option.some.inj this))];exact this
 ·have nb:b≠a:=λz=>by subst z;exact n ob w q
  rw[aW nb];exact I.base.frzs b ob w q
 ·obtain⟨more,this⟩:=I.base.tbls b ps q
  exact⟨more,by rw[aW (λz=>by rw[z,e]at this;exact h2 _ (Option.some.inj this))];exact this⟩
 ·rw[aW (ne _ I.free)];exact I.free
 ·rw[aW (ne _ (I.freeC x c q))];exact I.freeC x c q
 ·obtain⟨p1,p2,p3⟩:=I.pin p hp
  exact⟨p1,by rw[aW (ne _ p2)];exact p2,p3⟩
 ·by_cases hb:b=a
  ·subst hb;rw[df]at q;cases q;exact new
  ·rw[aW hb]at q
   exact(I.hok b ob q).stay (λ_ _ _ r=>r) (λc r=>by rw[aW (λz=>by rw[z,e]at r;exact h3 b (Option.some.inj r))];exact r) λc xs r=>by
    rw[aW (λz=>by rw[z,e]at r;exact h1 xs (Option.some.inj r))];exact r
theorem Inv.nf{σ:St}(I:Inv X pins σ H s)(e:H a=some u)(h:∀o w,u≠ .frz o w):NF X a:=λo w q=>by
 have:=I.base.frzs a o w q;rw[e]at this;exact h o w (Option.some.inj this)
theorem Inv.thaw{σ:St}(I:Inv X pins σ H s)(n:NF X a)(e:H a=some (.frz o (.dK kvs))):Inv X pins σ (aQ H a (.dK kvs)) s:=by
 obtain⟨_,z,hd,vs,rel,dd⟩:=(show jcq X.prog X.w H s.heap a (.frz o (.dK kvs))from I.hok a _ e);exact I.recast e n (λ_ z=>nomatch z) (λ_ z=>nomatch z) (λ_ z=>nomatch z) ⟨z,hd,vs,rel,dd⟩
noncomputable def nZ(N:Addr->Prop)(te:TE):TI:=λσ H R=>te σ H λx H1=>∃a kvs,x=.ref a/\H1 a=some (.dK kvs)/\∀o,o.cls=.type "dict"->N a->R (qK a o kvs) (aQ H1 a (.frz o (.dK kvs)))
theorem Pf{X:Cx}{tg e:Expr}{te:TE}{apos cpos:Pos}(he:PE X e te)(hbase:attributeBase e "values" X.env (eval e X.env)=eval e X.env:=by rfl)(hline:(apos.endLine==cpos.line)=true:=by rfl):
  PI X tg (.Call (.Attribute e "values" apos) [] [] cpos) (nZ (NF X) te):=by
 intro pins s σ H R I h;refine wpAny_Call_method0_late hbase hline (bx (he pins s σ H _ I h) λv s1 ⟨x,H1,I1,r1,q1⟩=> ?_);obtain⟨a,kvs,rfl,ea,q⟩:=q1;cases r1;obtain⟨z,hd,vs,rel,dd⟩:=Fo I1.hok ea;obtain⟨h1,h2⟩:=ET I1 (show RelV (.ref a) (.ref a)from rfl) (T:="dict") (.inr (.inr (.inl ⟨rfl,.inl ⟨_,ea⟩⟩)));refine⟨"dict","dict.values",PySem.F.plainAttrs_dict,PySem.F.slot_dict_values,PySem.F.type_dict_values,h1,h2,Calls.callWith_builtin rfl (PySem.evalArgs_none ?_)⟩;refine call_meetsIn PySem.F.slot_dict_values dd.typeIs PySem.F.entry_dict_values (PySem.F.args_dict_values_1 _) (meets_dict_values (eJ X.prog X.w) a hd) ⟨⟨vs,dd⟩,?_⟩;obtain⟨ep,hat⟩:=dd.dictAt;obtain⟨o,es,eo,ec,edat,_⟩:=id hat;have kp:∀b ob,s1.heap.get? b=some ob->((s1.heap.push {cls:=.type "dict_values",data:=.fields #[.ref a]}).push {cls:=.type "dict_valueiterator",data:=.fields #[.ref a,.int 0 0,.int vs.length 0,.int ep 0]}).get? b=some ob:=λb ob e=>qa _ (qa _ e);have I2:Inv X pins σ H1 {s1 with heap:=(s1.heap.push {cls:=.type "dict_values",data:=.fields #[.ref a]}).push {cls:=.type "dict_valueiterator",data:=.fields #[.ref a,.int 0 0,.int vs.length 0,.int ep 0]}}:=I1.kept (t':=s1.toks) kp;have nf:NF X a:=I1.nf ea λ_ _ z=>nomatch z;have hok2:=I2.hok a _ ea;have I3:=I2.recast (v:=.frz o (.dK kvs)) ea nf (λ_ z=>nomatch z) (λ_ z=>nomatch z) (λ_ z=>nomatch z) ⟨kp a o eo,hok2.1,hok2.2.1,hok2.2.2⟩;show wpAny (model X.prog X.w) X.A (pyIter (.ref s1.heap.objs.size)) (ER X pins σ tg R) X.xe {s1 with heap:=s1.heap.push {cls:=.type "dict_values",data:=.fields #[.ref a]}};refine wpAny_pyIter_values (knd:=eJ X.prog X.w) (kvs:=vs) (ep:=ep) ⟨_,qw _ rfl,rfl,rfl⟩ (hat.push _) ?_;have hl:=rel.length;have gz:s1.heap.objs.size<=(s1.heap.push {cls:=.type "dict_values",data:=.fields #[.ref a]}).objs.size:=by rw[kf];omega
 have na:a≠(s1.heap.push {cls:=.type "dict_values",data:=.fields #[.ref a]}).objs.size:=qo (qh (qd eo) gz);refine⟨_,[(s1.heap.push {cls:=.type "dict_values",data:=.fields #[.ref a]}).objs.size],_,_,_,rfl,I3,Lz a _ o kvs ep (λes' x e=> ?_),?_,λb hb=> ?_,q o ec.1 nf⟩
 ·rw[edat]at e;cases e;rfl
 ·rw[hl];exact⟨_,qw _ rfl,rfl,rfl⟩
 ·have e:b=(s1.heap.push {cls:=.type "dict_values",data:=.fields #[.ref a]}).objs.size:=by simpa using hb
  subst e;refine I1.fpOk gz ?_;rw[aW (Ne.symm na)];exact I1.hok.fresh gz
noncomputable def oG(N:Addr->Prop)(D:Ends):Ends:=
 ⟨λσ H=>∃a o kvs,N a/\H a=some (.frz o (.dK kvs))/\D.nx σ (aQ H a (.dK kvs)),λv H=>∃a o kvs,N a/\H a=some (.frz o (.dK kvs))/\D.rt v (aQ H a (.dK kvs)),λ_ _=>False,λ_ _=>False⟩
noncomputable def oK(te:TE)(g:TG)(tb:TS):TS:=λD σ H=>∀N:Addr->Prop,pW (nZ N te) g tb (oG N D) σ H
theorem Od{X:Cx}{tg e:Expr}{te:TE}{apos cpos:Pos}{body:List Stmt}{g:TG}{tb:TS}{pos:Pos}(hp:PassesOwn (model X.prog X.w) X.A X.env X.xe)(hc:X.calm=true)(he:PE X e te)(hg:PG X tg g)(hb:PSs X body tb)
  (hs:∀x,foldedSetIterable (.Call (.Attribute e "values" apos) [] [] cpos) X.env x=pure x:=by intro _;rfl) (hbase:attributeBase e "values" X.env (eval e X.env)=eval e X.env:=by rfl) (hline:(apos.endLine==cpos.line)=true:=by rfl):
  PS X (.For tg (.Call (.Attribute e "values" apos) [] [] cpos) body [] pos) (oK te g tb):=by
 intro pins s σ H D I h;refine bx (mI hp hc (Pf he hbase hline) hg hb hs pins s σ H (oG (NF X) D) I (h (NF X))) λf s1 q=> ?_;cases f with
 | next=>obtain⟨σ1,H1,I1,a,o,kvs,n,e,q⟩:=q;exact⟨σ1,_,I1.thaw n e,q⟩
 | ret u=>obtain⟨v,σ1,H1,I1,r,a,o,kvs,n,e,q⟩:=q;exact⟨v,σ1,_,I1.thaw n e,r,q⟩
 | brk=>obtain⟨_,_,_,q⟩:=q;exact q.elim
 | cont=>obtain⟨_,_,_,q⟩:=q;exact q.elim
noncomputable def Fn(K:W.Frag)(a b:Addr):It:=
 ⟨λi H=>∃xs x ys y,SqL K H a xs/\xs[i]?=some x/\SqL K H b ys/\ys[i]?=some y,λi H v H'=>∃p x y,H p=none/\(∀xs,SqL K H a xs->xs[i]?=some x)/\(∀ys,SqL K H b ys->ys[i]?=some y)/\v=.ref p/\H'=aQ H p (.tup [x,y]),λi H=>∃xs ys,SqL K H a xs/\SqL K H b ys/\(xs.length<=i\/ys.length<=i)⟩
theorem Np{K:W.Frag}{x1}(a b z TI TO i1 i2:Addr)(D:ZipApart z TI TO i1 i2 a b):Turn P w K (.Tuple elts x1 tpos) (Fn K a b) [z,TI,TO,i1,i2] z (λi h=>IsZip h z TI TO .none/\IsPair h TI (.ref i1) (.ref i2)/\(∃u v,IsPair h TO u v)/\h.IsListIter i1 a i/\h.IsListIter i2 b i)where
 mem:=by simp
 obj:=λi h st c hc=>by
  obtain⟨h1,h2,⟨u,v,h3⟩,h4,h5⟩:=st;simp only[qr,k8,or_false]at hc;rcases hc with rfl|rfl|rfl|rfl|rfl
  ·exact⟨_,h1,λv z=>by
    have z':Data.fields _=Data.cell v:=z;cases z'⟩
  ·exact⟨_,h2,λv z=>by
    have z':Data.seq _=Data.cell v:=z;cases z'⟩
  ·exact⟨_,h3,λv z=>by
    have z':Data.seq _=Data.cell v:=z;cases z'⟩
  ·obtain⟨o,e,c,d⟩:=h4
   exact⟨o,e,λv z=>by rw[d]at z;cases z⟩
  ·obtain⟨o,e,c,d⟩:=h5
   exact⟨o,e,λv z=>by rw[d]at z;cases z⟩
 keep:=λi h h' st k=>by
  obtain⟨h1,h2,⟨u,v,h3⟩,h4,h5⟩:=st;exact⟨k z (by simp) _ h1,k TI (by simp) _ h2,⟨u,v,k TO (by simp) _ h3⟩,h4.at λo e=>k i1 (by simp) o e,h5.at λo e=>k i2 (by simp) o e⟩
 item:=by
  intro X hP hw hK hc i pins s σ H E I hf st hg;subst hP hw hK;obtain⟨xs,x,ys,y,hq,hx,hq2,hy⟩:=hg;obtain⟨its,rv,p,hz⟩:=I.list hq;obtain⟨u,hu,ru⟩:=rv.get hx;obtain⟨its2,rv2,p2,hz2⟩:=I.list hq2;obtain⟨u2,hu2,ru2⟩:=rv2.get hy;obtain⟨h1,h2,⟨v1,v2,h3⟩,h4,h5⟩:=st;refine wpAny_pyNext_zip_item D h1 h2 h3 h4 h5 p.isList p2.isList (x:=u) (y:=u2) (by simpa using hu) (by simpa using hu2) λh₁ heo hTO hi1 hi2 ht₁ hz₁ hk₁=> ?_;refine⟨.ref s.heap.objs.size,rfl,wpAny_letOwnedTupleGo_zip heo λh₂ he₂ hs₂=> ?_⟩
  replace hs₂:Heap.SameBut z h₁ h₂:=hs₂
  have fr:H s.heap.objs.size=none:=I.hok.fresh (qb _);have kp:∀c o,c∉[z,TI,TO,i1,i2]->s.heap.get? c=some o->h₂.get? c=some o:=λc o n e=>hs₂.extBut c o (λq=>n (by simp[q])) (hk₁ c o (λq=>n (by simp[q])) (λq=>n (by simp[q])) (λq=>n (by simp[q])) (λq=>n (by simp[q])) e);have zlt:z<s.heap.objs.size:=qd h1;have tup:h₂.get? s.heap.objs.size=some {cls:=.type "tuple",data:=.seq #[u,u2]}:=hs₂.extBut _ _ (k6 zlt) ht₁;have tr:∀{c u},H c=some u->c∉[z,TI,TO,i1,i2]:=fun{c u} e m=>by rw[(hf c m).1]at e;cases e
  have hok:HOk X.prog X.w (aQ H s.heap.objs.size (.tup [x,y])) h₂:=by
   intro c o e;by_cases hb:c=s.heap.objs.size
   ·subst hb
    rw[df]at e;cases e;exact⟨(show 2<=sizeLine by decide),[u,u2],.cons ru (.cons ru2 .nil),⟨_,tup,rfl,_,rfl⟩⟩
   ·rw[aW hb]at e
    refine(I.hok c o e).stay (λc' v hcc q=> ?_) (λc' q=>by rw[aW (ed q fr)];exact q) λc' ys q=>by rw[aW (ed q fr)];exact q
    refine kp c' v ?_ q;rcases hcc with rfl|hcc
    ·exact tr e
    ·exact tr hcc
  have un:Un (cg X.stack) [z,TI,TO,i1,i2] H (aQ H s.heap.objs.size (.tup [x,y])) s.heap h₂:=by
   refine⟨λc o e _ _ hb=>kp c o hb e,λc o e _ _ hb=>⟨o.slots,kp c o hb e⟩,λc o e n _=> ?_,λc o e hb=>⟨o,kp c o hb e⟩,λc ys e=> ?_,λc o v e=> ?_,λc ps e=>⟨#[],?_⟩⟩
   ·rw[aW (qo (qd e))];exact n
   ·rw[aW (ed e fr)];exact e
   ·rw[aW (ed e fr)];exact e
   ·rw[aW (ed e fr)];simpa using e
  have I2:Inv X pins σ (aQ H s.heap.objs.size (.tup [x,y])) {s with heap:=h₂}:=
   I.call' (s':={s with heap:=h₂}) (ch:=[z,TI,TO,i1,i2]) rfl un hok I.bare λc hb=>⟨(hf c hb).2.2.2.1,(hf c hb).2.1,(hf c hb).2.2.2.2.1,(hf c hb).2.2.2.2.2⟩
  refine⟨.ref s.heap.objs.size,_,I2,rfl,⟨s.heap.objs.size,x,y,fr,λzs hy=>by rw[I.list_inj hy hq];exact hx,λzs hz=>by rw[I.list_inj hz hq2];exact hy,rfl,rfl⟩,⟨he₂,hs₂.extBut _ _ D.TIz (hk₁ _ _ D.TIz D.TITO D.TIi1 D.TIi2 h2),⟨_,_,hs₂.extBut _ _ D.TOz hTO⟩,hi1.extBut hs₂.extBut D.i1z,hi2.extBut hs₂.extBut D.i2z⟩,λc hc=> ?_⟩;have:c<s.heap.objs.size:=by
   simp only[qr,k8,or_false]at hc;rcases hc with rfl|rfl|rfl|rfl|rfl
   ·exact zlt
   ·exact qd h2
   ·exact qd h3
   ·obtain⟨o,e,_⟩:=h4;exact qd e
   ·obtain⟨o,e,_⟩:=h5;exact qd e
  rw[aW (qo this)];exact(hf c hc).1
 done:=by
  intro X hP hw hK hc i pins s σ H E I hf st hg;subst hP hw hK;obtain⟨xs,ys,hq,hq2,hx⟩:=hg;obtain⟨its,rv,p,hz⟩:=I.list hq;obtain⟨its2,rv2,p2,hz2⟩:=I.list hq2;have hl:=rv.length;have hl2:=rv2.length;obtain⟨h1,h2,⟨v1,v2,h3⟩,h4,h5⟩:=st;refine wpAny_pyNext_zip_end (I.ok.hd hc) D h1 h2 h3 h4 h5 p.isList p2.isList (by simp;omega) λh' hk=>⟨rfl,?_⟩;have kp:∀c o,c∉[z,TI,TO,i1,i2]->s.heap.get? c=some o->h'.get? c=some o:=λc o n e=>hk c o (λq=>n (by simp[q])) (λq=>n (by simp[q])) (λq=>n (by simp[q])) (λq=>n (by simp[q])) e;have tr:∀{c u},H c=some u->c∉[z,TI,TO,i1,i2]:=fun{c u} e m=>by rw[(hf c m).1]at e;cases e
  have hok:HOk X.prog X.w H h':=by
   intro c o e;refine(I.hok c o e).stay (λc' v hcc q=> ?_) (λc' q=>q) λc' ys q=>q;refine kp c' v ?_ q;rcases hcc with rfl|hcc
   ·exact tr e
   ·exact tr hcc
  have un:Un (cg X.stack) [z,TI,TO,i1,i2] H H s.heap h':=
   ⟨λc o e _ _ hb=>kp c o hb e,λc o e _ _ hb=>⟨o.slots,kp c o hb e⟩,λc o e n _=>n,λc o e hb=>⟨o,kp c o hb e⟩,λc ys e=>e,λc o v e=>e,λc ps e=>⟨#[],by simpa using e⟩⟩
  exact I.call' (s':={s with heap:=h'}) (ch:=[z,TI,TO,i1,i2]) rfl un hok I.bare λc hb=>⟨(hf c hb).2.2.2.1,(hf c hb).2.1,(hf c hb).2.2.2.2.1,(hf c hb).2.2.2.2.2⟩
 self:=λ_ _ _ _ _ st h=>wpAny_pyIter_zip st.1 h
theorem tj:bootBuiltins "zip"=some (.type "zip"):=by decide+kernel
noncomputable def mE(K:W.Frag)(ta:TA):TI:=λσ H R=>ta σ H λvs H1=>∃a b xs ys,vs=[.ref a,.ref b]/\SqL K H1 a xs/\SqL K H1 b ys/\R (Fn K a b) H1
theorem tI{X:Cx}{elts:List Expr}{x1}{tpos:Pos}{e1 e2:Expr}{ta:TA}{p pos:Pos}(hg:Gl X "zip")(hm:X.mg "zip"=none)(ha:PA X [e1,e2] ta)
  (hs:starEach [e1,e2] X.env=(false,eval e1 X.env)::starEach [e2] X.env:=by rfl) (hp:(backTo pos (starEach [e2] X.env)).any (·.1)=false:=by rfl):PI X (.Tuple elts x1 tpos) (.Call (.Name "zip" p) [e1,e2] [] pos) (mE X.K ta):=by
 intro pins s σ H R I h;refine Call_ (uN I hg hm tj (PyProof.Rows.callWith_type1 (bx (ha pos pins s σ H _ I h) λus s1 ⟨vs,H1,I1,r1,q1⟩=> ?_) hs hp));obtain⟨a,b,xs,ys,rfl,hq,hq2,q⟩:=q1;cases r1 with
 | cons r rr=>
  cases r
  cases rr with
  | cons r2 rr2=>
   cases r2
   cases rr2
   obtain⟨its,rv,pl,hz⟩:=I1.list hq;obtain⟨its2,rv2,pl2,hz2⟩:=I1.list hq2;have la:a<s1.heap.objs.size:=by obtain⟨o,e,_⟩:=pl.isList;exact qd e
   have lb:b<s1.heap.objs.size:=by obtain⟨o,e,_⟩:=pl2.isList;exact qd e
   refine call_zip_2 pl.isList pl2.isList λh' hzz hTI hTO hi1 hi2 hsz kp=>wpAny_pyIter_zip (s:={s1 with heap:=h'}) hzz ?_;have I2:Inv X pins σ H1 {s1 with heap:=h'}:=I1.kept (t':=s1.toks) kp;have D:ZipApart (s1.heap.objs.size+4) (s1.heap.objs.size+2) (s1.heap.objs.size+3) s1.heap.objs.size (s1.heap.objs.size+1) a b:=by
    have la:@LT.lt Nat _ a s1.heap.objs.size:=la;have lb:@LT.lt Nat _ b s1.heap.objs.size:=lb;constructor<;>intro q<;>(have q:@Eq Nat _ _:=q)<;>omega
   refine⟨s1.heap.objs.size+4,[s1.heap.objs.size+4,s1.heap.objs.size+2,s1.heap.objs.size+3,s1.heap.objs.size,s1.heap.objs.size+1],_,_,H1,rfl,I2,Np a b _ _ _ _ _ D,⟨hzz,hTI,⟨_,_,hTO⟩,hi1,hi2⟩,λc hc=> ?_,q⟩;have hb':s1.heap.objs.size<=c:=by
    simp only[qr,k8,or_false]at hc;rcases hc with rfl|rfl|rfl|rfl|rfl
    ·exact kj _ _
    ·exact kj _ _
    ·exact kj _ _
    ·exact qb _
    ·exact kj _ _
   exact I1.fpOk hb' (I1.hok.fresh hb')
theorem NT{K:W.Frag}(k:X.K=K)(h:PI X tg e (mE X.K ta)):PI X tg e (mE K ta):=by subst k;exact h
noncomputable def rJ(K:W.Frag):List V->Hp->VK->Prop:=λxs H Q=>∃(p:Addr) (bs:List Bool),xs=[.ref p]/\SqL K H p (bs.map V.bl)/\Q (.bl (bs.any id)) H
section
variable {X : Cx}
theorem MP(hc:X.calm=true):jcn X (.builtin "any") (rJ X.K):=by
 intro pins s σ H xs us Q I r h;obtain⟨p,bs,rfl,hq,q⟩:=h;obtain⟨u,rfl,rx⟩:=iq r;cases rx;obtain⟨its,r',pl,hz⟩:=I.list hq;have e:=G0 r';have hh:X.A.in1.handled=none:=I.ok.hd hc;refine call_any_walk (wpAny_pyIter_list pl.isList ?_);have hne:p≠s.heap.objs.size:=by
  obtain⟨o,ho,_⟩:=pl.isList;exact qo (qd ho)
 refine⟨s.heap.objs.size,_,_,_,_,_,λi=>bs.getD i false,rfl,Walks.list hh _ p hne its.toArray,?_,?_,λh' tk hk=> ?_⟩
 ·exact⟨⟨_,qw _ rfl,rfl,rfl⟩,pl.isList.at λo e=>qa _ e⟩
 ·intro i v s' Q' E' hP hQ
  have hv:its[i]?=some v:=by simpa using hP
  rw[e,zb]at hv;obtain⟨b,hb,rfl⟩:=qj.mp hv;have:bs.getD i false=b:=by simp[List.getD,hb]
  have hQ':Q' (bs.getD i false) s':=hQ;rw[this]at hQ';exact wpAny_truthy_bool hQ'
 ·have k:∀b o,s.heap.get? b=some o->h'.get? b=some o:=λb o e=>hk b o (by
   intro hm;have:b=s.heap.objs.size:=by simpa using hm
   exact absurd (qd e) (by rw[this];exact wj _)) (qa _ e)
  refine⟨.bl (bs.any id),H,I.kept (t':=tk) k,?_,q⟩;have hl:=r'.length;simp only[qi]at hl;have e2:(List.range its.toArray.size).any (λi=>bs.getD i false)=bs.any id:=by
   rw[qk,<-hl];rw[wt,km,km];constructor
   ·rintro⟨i,hi,hb⟩
    have hi':=zj.mp hi;exact⟨bs[i],wp hi',by simpa [List.getD,hi']using hb⟩
   ·rintro⟨x,hx,hb⟩
    obtain⟨i,hi,rfl⟩:=g5 hx;exact⟨i,zj.mpr hi,by simpa [List.getD,hi]using hb⟩
  rw[e2];rfl
end
theorem Mu{K:W.Frag}(k:X.K=K)(hc:X.calm=true):jcn X (.builtin "any") (rJ K):=by subst k;exact MP hc
noncomputable def oO:List V->Hp->VK->Prop:=λxs H Q=>(∃z,xs=[.str z]/\Q (.str z) H)\/sy xs H Q
theorem Ip:jcn X (.type "str") oO:=by
 intro pins s σ H xs us Q I r h;rcases h with⟨z,rfl,q⟩|h
 ·obtain⟨u,rfl,t,rfl⟩:=iq r
  exact PySem.P.str_of_str ⟨.str _,H,I,⟨_,rfl⟩,q⟩
 ·exact uF pins s σ H xs us Q I r h
end L2
namespace Z
open PySem
inductive D where
 | non|bl (b:Bool)|int (i:Int)|str (x:Str)|tup (xs:List D)|lst (xs:List D)|arg (ns:List Int)|ref (k:Nat)
 | ty (n:String)|cls (n:String)|exc (n:String)|obj (c:String) (fs:List (Str×D))|dic (kvs:List (Sum Int Str×D))
inductive Cell where
 | lst (xs:List D)|dct (kvs:List (Sum Int Str×D))|ins (c:String) (fs:List (Str×D))|fdc (kvs:List (Sum Int Str×D))
noncomputable def Cell.live:Cell->Bool
 | .fdc _=>false|_=>true
noncomputable abbrev MH:=List (Option Cell)
noncomputable abbrev Ro:=List (Option D)
inductive Res (α:Type)where
 | ok (a:α) (h:MH)|exc (c:String) (h:MH)|stuck
inductive RS where
 | nx (ρ:Ro) (h:MH)|rt (d:D) (h:MH)|bk (ρ:Ro) (h:MH)|ct (ρ:Ro) (h:MH)|exc (c:String) (h:MH)|stuck
noncomputable def Res.bind{α β:Type}(r:Res α)(f:α->MH->Res β):Res β:=match r with
 | .ok a h=>f a h|.exc c h=>.exc c h|.stuck=>.stuck
@[simp] theorem eT{α β:Type}{a:α}{f:α->MH->Res β}:(Res.ok a h).bind f=f a h:=rfl
@[simp] theorem AA{α β:Type}{f:α->MH->Res β}:(Res.exc c h).bind f= .exc c h:=rfl
@[simp] theorem qG{α β:Type}{f:α->MH->Res β}:(Res.stuck).bind f= .stuck:=rfl
noncomputable def Res.toS{α:Type}(r:Res α)(f:α->MH->RS):RS:=match r with
 | .ok a h=>f a h|.exc c h=>.exc c h|.stuck=>.stuck
@[simp] theorem dF{α:Type}{a:α}{f:α->MH->RS}:(Res.ok a h).toS f=f a h:=rfl
@[simp] theorem CS{α:Type}{f:α->MH->RS}:(Res.exc c h).toS f= .exc c h:=rfl
@[simp] theorem uH{α:Type}{f:α->MH->RS}:(Res.stuck).toS f= .stuck:=rfl
noncomputable abbrev ME:=Ro->MH->Res D
noncomputable abbrev MT:=Ro->MH->Res Bool
noncomputable abbrev ML:=Ro->MH->Res (List D)
noncomputable abbrev MO:=Ro->MH->Res (Option Int)
noncomputable abbrev MI:=Ro->MH->Res (Option Nat×List D)
noncomputable abbrev MS:=Ro->MH->RS
noncomputable abbrev MG:=D->Ro->MH->RS
noncomputable abbrev MF:=List D->MH->Res D
noncomputable abbrev B2:=D->D->MH->Res D
@[simp] noncomputable def chk{α:Type}(c:Prop)[Decidable c](r:Res α):Res α:=if c then r else .stuck
@[simp] noncomputable def aa(i:Nat):ME:=λρ h=>match ρ[i]? with
 | some (some d)=>.ok d h|_=>.stuck
@[simp] noncomputable def mC(d:D):ME:=λ_ h=> .ok d h
@[simp] noncomputable def ae(f:B2)(a b:ME):ME:=λρ h=>(a ρ h).bind λx h1=>(b ρ h1).bind λy h2=>f x y h2
@[simp] noncomputable def h7(f:D->MH->Res D)(a:ME):ME:=λρ h=>(a ρ h).bind f
@[simp] noncomputable def af:ML:=λ_ h=> .ok [] h
@[simp] noncomputable def ag(a:ME)(l:ML):ML:=λρ h=>(a ρ h).bind λx h1=>(l ρ h1).bind λxs h2=> .ok (x::xs) h2
@[simp] noncomputable def a_(l:ML):ME:=λρ h=>(l ρ h).bind λxs h1=>chk (xs.length<=16777216) (.ok (.tup xs) h1)
@[simp] noncomputable def cJ(l:ML):ML:=λρ h=>(l ρ h).bind λxs h1=>chk (xs.length<=16777216) (.ok xs h1)
@[simp] noncomputable def bw(l:ML):ME:=λρ h=>(l ρ h).bind λxs h1=> .ok (.lst xs) h1
@[simp] noncomputable def lW(l:ML):ME:=λρ h=>(l ρ h).bind λxs h1=> .ok (.ref h1.length) (h1++[some (.lst xs)])
@[simp] noncomputable def aV(z:MF)(l:ML):ME:=λρ h=>(l ρ h).bind z
@[simp] noncomputable def bB(f:List D->MH->Res D)(l:ML):ME:=λρ h=>(l ρ h).bind f
@[simp] noncomputable def tB(m:ME):MT:=λρ h=>(m ρ h).bind λd h1=>match d with
 | .bl b=>.ok b h1|_=>.stuck
@[simp] noncomputable def eS(a b:MT):MT:=λρ h=>(a ρ h).bind λc h1=>if c=true then b ρ h1 else .ok false h1
@[simp] noncomputable def ug(a b:MT):MT:=λρ h=>(a ρ h).bind λc h1=>if c=true then .ok true h1 else b ρ h1
@[simp] noncomputable def cq(a:MT):MT:=λρ h=>(a ρ h).bind λc h1=> .ok (!c) h1
@[simp] noncomputable def Kt(t:MT)(a b:ME):ME:=λρ h=>(t ρ h).bind λc h1=>if c=true then a ρ h1 else b ρ h1
@[simp] noncomputable def hG(a b:ME):ME:=λρ h=>(a ρ h).bind λd h1=>match d with
 | .bl c=>if c=true then b ρ h1 else .ok (.bl false) h1
 | _=>.stuck
@[simp] noncomputable def J8(a b:ME):ME:=λρ h=>(a ρ h).bind λd h1=>match d with
 | .bl c=>if c=true then .ok (.bl true) h1 else b ρ h1
 | _=>.stuck
@[simp] noncomputable def lU(f g:B2)(a b c:ME):ME:=λρ h=>(a ρ h).bind λx h1=>(b ρ h1).bind λy h2=>(f x y h2).bind λz h3=>match z with
 | .bl k=>if k=true then(c ρ h3).bind λw h4=>g y w h4 else .ok (.bl false) h3
 | _=>.stuck
@[simp] noncomputable def gO(h:MH):D->Option (List D)
 | .lst xs=>some xs
 | .ref k=>match h[k]? with
  | some (some (.lst xs))=>some xs
  | _=>none
 | _=>none
@[simp] noncomputable def eE(h:MH):D->Option (List D)
 | .lst xs=>some xs
 | .tup xs=>some xs
 | .arg ns=>some (ns.map .int)
 | .ref k=>match h[k]? with
  | some (some (.lst xs))=>some xs
  | _=>none
 | _=>none
@[simp] noncomputable def DG(h:MH):D->Option (List (Sum Int Str×D))
 | .dic kvs=>some kvs
 | .ref k=>match h[k]? with
  | some (some (.dct kvs))=>some kvs
  | _=>none
 | _=>none
@[simp] noncomputable def DT(h:MH):D->Option (List (Sum Int Str×D))
 | .dic kvs=>some kvs
 | .ref k=>match h[k]? with
  | some (some (.dct kvs))=>some kvs
  | some (some (.fdc kvs))=>some kvs
  | _=>none
 | _=>none
@[simp] noncomputable def iA(h:MH):D->Option Bool
 | .non=>some false
 | .bl b=>some b
 | .int i=>some (i !=0)
 | .str y=>if y.length<=16777216 then some ((y.length:Int)!=0)else none
 | d=>match eE h d with
  | some xs=>some (!xs.isEmpty)
  | none=>match d with
   | .ref _=>(DG h d).map λkvs=> !kvs.isEmpty
   | _=>none
noncomputable def oR{α:Type}(o:Option α)(h:MH):Res α:=match o with
 | some a=>.ok a h|none=>.stuck
@[simp] theorem Be{α:Type}{a:α}:oR (some a) h= .ok a h:=rfl
@[simp] theorem C8{α:Type}:oR (none:Option α) h= .stuck:=rfl
@[simp] noncomputable def bC(m:ME):MT:=λρ h=>(m ρ h).bind λd h1=>oR (iA h1 d) h1
@[simp] noncomputable def oU(m:ME):ME:=λρ h=>(m ρ h).bind λd h1=>(oR (iA h1 d) h1).bind λb h2=> .ok (.bl (!b)) h2
noncomputable def kJ(i j:Int):Prop:=i.natAbs<18446744073709551616\/j.natAbs<18446744073709551616
instance (i j:Int):Decidable (kJ i j):=by unfold kJ;infer_instance
noncomputable def lV(i j:Int):Prop:=0<=j/\j<=1000000/\i.natAbs<18446744073709551616
instance (i j:Int):Decidable (lV i j):=by unfold lV;infer_instance
@[simp] noncomputable def aU:B2:=λx y h=>match x,y with
 | .int i,.int j=>.ok (.int (i+j)) h
 | .str a,.str b=>chk (a.length+b.length<=16777216) (.ok (.str (a++b)) h)
 | .tup a,.tup b=>chk (a≠[]/\a.length+b.length<=16777216) (.ok (.tup (a++b)) h)
 | _,_=>(oR (gO h x) h).bind λa h=>(oR (gO h y) h).bind λb h=>chk (a.length+b.length<=16777216) (.ok (.lst (a++b)) h)
@[simp] noncomputable def gB(f:Int->Int->Int):B2:=λx y h=>match x,y with
 | .int i,.int j=>.ok (.int (f i j)) h|_,_=>.stuck
@[simp] noncomputable def oN(c:Int->Int->Prop)[∀i j,Decidable (c i j)](f:Int->Int->Int):B2:=λx y h=>match x,y with
 | .int i,.int j=>chk (c i j) (.ok (.int (f i j)) h)|_,_=>.stuck
@[simp] noncomputable def fZ:B2:=gB (· - ·)
@[simp] noncomputable def dH:B2:=λx y h=>match x,y with
 | .int i,.int j=>chk (kJ i j) (.ok (.int (i*j)) h)
 | .str z,.int n=>chk (n.natAbs<=16777216/\z.length*n.toNat<=16777216) (.ok (.str (Txt.mul z n)) h)
 | _,.int k=>(oR (gO h x) h).bind λa h=>chk (k.natAbs<9223372036854775808/\a.length*k.toNat<=16777216) (.ok (.lst (List.replicate k.toNat a).flatten) h)
 | _,_=>.stuck
@[simp] noncomputable def bP:B2:=oN (λ_ j=>0<j /\ j<1073741824) (· / ·)
@[simp] noncomputable def aT:B2:=oN (λ_ j=>0<j) (· % ·)
@[simp] noncomputable def jV:B2:=oN lV (λi j=>i^j.toNat)
@[simp] noncomputable def bp:B2:=oN lV (λi j=>i*2^j.toNat)
@[simp] noncomputable def dr:B2:=oN (λ_ j=>0<=j) (λi j=>i / 2^j.toNat)
@[simp] noncomputable def bN:B2:=gB Builtin.bitAnd
@[simp] noncomputable def fw:B2:=gB Builtin.bitOr
@[simp] noncomputable def yN:B2:=gB Builtin.bitXor
@[simp] noncomputable def jD:D->MH->Res D:=λx h=>match x with
 | .int i=>.ok (.int (-i)) h|_=>.stuck
@[simp] noncomputable def dI:D->MH->Res D:=λx h=>match x with
 | .int i=>.ok (.int (Builtin.bitNot i)) h|_=>.stuck
@[simp] noncomputable def iI(f:Int->Int->Bool):B2:=λx y h=>match x,y with
 | .int i,.int j=>.ok (.bl (f i j)) h|_,_=>.stuck
@[simp] noncomputable def kX:B2:=iI λi j=>decide (i<j)
@[simp] noncomputable def uV:B2:=iI λi j=>decide (i<=j)
@[simp] noncomputable def Cq:B2:=iI λi j=>decide (j<i)
@[simp] noncomputable def je:B2:=iI λi j=>decide (j<=i)
@[simp] noncomputable def lu:D->Bool
 | .non=>true|_=>false
@[simp] noncomputable def ua:B2:=λx y h=>match x,y with
 | .bl a,.bl b=>.ok (.bl (a==b)) h
 | x,.non=>.ok (.bl (lu x)) h
 | _,_=>.stuck
@[simp] noncomputable def C9:B2:=λx y h=>match x,y with
 | .bl a,.bl b=>.ok (.bl (!(a==b))) h
 | x,.non=>.ok (.bl (!lu x)) h
 | _,_=>.stuck
noncomputable def rO(x:Str):Bool:=x.cps.all (·<0x110000)
mutual
noncomputable def D.py:D->Option PyData
 | .non=>some .none
 | .bl b=>some (.bool b)
 | .int i=>some (.int i)
 | .str x=>if rO x then some (.str x)else none
 | .tup xs=>(D.pys xs).map .tuple
 | .lst xs=>(D.pys xs).map .list
 | _=>none
noncomputable def D.pys:List D->Option (List PyData)
 | []=>some []
 | d::ds=>match D.py d,D.pys ds with
  | some p,some ps=>some (p::ps)
  | _,_=>none
end
mutual
noncomputable def D.deep:D->Nat
 | .tup xs|.lst xs=>D.deeps xs+1
 | _=>0
noncomputable def D.deeps:List D->Nat
 | []=>0
 | d::ds=>max (D.deep d) (D.deeps ds)
end
mutual
noncomputable def D.eq:D->D->Bool
 | .non,.non=>true
 | .bl a,.bl b=>a==b
 | .bl a,.int j=>(if a then 1 else 0)==j
 | .int i,.bl b=>i==(if b then 1 else 0)
 | .int i,.int j=>i==j
 | .str x,.str y=>x==y
 | .tup xs,.tup ys=>D.eqs xs ys
 | .lst xs,.lst ys=>D.eqs xs ys
 | _,_=>false
noncomputable def D.eqs:List D->List D->Bool
 | [],[]=>true
 | x::xs,y::ys=>D.eq x y&&D.eqs xs ys
 | _,_=>false
end
noncomputable def D.dat(d:D):Bool:=d.py.isSome&&decide (d.deep<=64)
noncomputable def res:Nat->MH->D->D
 | 0,_,d=>d
 | n+1,h,.ref k=>match h[k]? with
  | some (some (.lst xs))=>.lst (xs.map (res n h))
  | _=>.ref k
 | n+1,h,.tup xs=>.tup (xs.map (res n h))
 | n+1,h,.lst xs=>.lst (xs.map (res n h))
 | _+1,_,d=>d
noncomputable def uE(h:MH)(d:D):D:=res 8 h d
@[simp] noncomputable def mf:D->Bool
 | .non|.bl _|.int _|.str _=>true
 | _=>false
@[simp] noncomputable def a9:B2:=λx y h=>match x,y with
 | .int i,.int j=>.ok (.bl (decide (i=j))) h
 | .str i,.str j=>.ok (.bl (decide (i=j))) h
 | .bl i,.bl j=>.ok (.bl (i==j)) h
 | _,_=>if x.dat=true/\y.dat=true then .ok (.bl (x.eq y)) h else chk ((uE h x).dat=true/\(uE h y).dat=true) (.ok (.bl ((uE h x).eq (uE h y))) h)
@[simp] noncomputable def ib:B2:=λx y h=>(a9 x y h).bind λz h=>match z with
 | .bl b=>.ok (.bl (!b)) h|_=>.stuck
noncomputable def br(n:Int):Str:=Str.ofString (toString n)
noncomputable def g_(n:Nat)(i:Int):Option Nat:=if 0<=i then(if i<n then some i.toNat else none)else if -(n:Int)<=i then some (i+n).toNat else none
noncomputable def cZ{α:Type}(xs:List α)(i:Int):Option α:=(g_ xs.length i).bind λj=>xs[j]?
@[simp] noncomputable def uC:D->Option (Sum Int Str)
 | .int i=>some (.inl i)
 | .str x=>some (.inr x)
 | _=>none
noncomputable def cT(kvs:List (Sum Int Str×D))(k:Sum Int Str):Option D:=(kvs.find? λkv=>decide (kv.1=k)).map (·.2)
noncomputable def cA(kvs:List (Sum Int Str×D))(k:Sum Int Str)(v:D):List (Sum Int Str×D):=
 if kvs.any (λkv=>decide (kv.1=k))then kvs.map λkv=>if kv.1=k then(kv.1,v)else kv else kvs++[(k,v)]
@[simp] noncomputable def aI:B2:=λx y h=>match x,y with
 | .str z,.int i=>chk (z.length<=16777216) ((oR (cZ z.cps.toList i) h).bind λc h=>.ok (.str ⟨#[c]⟩) h)
 | x,y=>match eE h x with
  | some xs=>match y with
   | .int i=>oR (cZ xs i) h
   | _=>.stuck
  | none=>match DT h x,uC y with
   | some kvs,some k=>oR (cT kvs k) h
   | _,_=>.stuck
noncomputable def jM:D->D->Bool
 | .non,.non=>true
 | .bl a,.bl b=>a==b
 | .bl a,.int b=>(if a then 1 else 0)==b
 | .int a,.bl b=>a==(if b then 1 else 0)
 | .int a,.int b=>a==b
 | .str a,.str b=>a==b
 | _,_=>false
@[simp] noncomputable def gD(neg:Bool):B2:=λx y h=>match x,y with
 | .str i,.str j=>.ok (.bl (if neg then !(!(Builtin.Str.occurrences j i 0 j.length 1).isEmpty)else !(Builtin.Str.occurrences j i 0 j.length 1).isEmpty)) h
 | x,y=>match eE h y with
  | some ys=>chk (mf x=true/\ys.all mf=true) (.ok (.bl (if neg then !(ys.any λy=>jM y x)else ys.any λy=>jM y x)) h)
  | none=>match DT h y,uC x with
   | some kvs,some k=>.ok (.bl (if neg then !(cT kvs k).isSome else(cT kvs k).isSome)) h
   | _,_=>.stuck
noncomputable def bS(n d:Nat):Option Int->Nat
 | none=>d
 | some v=>if v<0 then(v+(n:Int)).toNat else min v.toNat n
noncomputable def cut{α:Type}(xs:List α)(lo hi:Option Int):List α:=(xs.drop (bS xs.length 0 lo)).take (bS xs.length xs.length hi - bS xs.length 0 lo)
@[simp] noncomputable def ee:MO:=λ_ h=> .ok none h
@[simp] noncomputable def c6(m:ME):MO:=λρ h=>(m ρ h).bind λd h1=>match d with
 | .int i=>.ok (some i) h1|_=>.stuck
@[simp] noncomputable def fg(m:ME)(lo hi:MO):ME:=λρ h=>(m ρ h).bind λd h1=>(lo ρ h1).bind λl h2=>(hi ρ h2).bind λu h3=>match d with
 | .tup xs=>chk (¬(bS xs.length 0 l=0/\bS xs.length xs.length u=xs.length)) (.ok (.tup (cut xs l u)) h3)
 | .str z=>chk (z.length<=16777216) (.ok (.str (Txt.slice z l u)) h3)
 | d=>(oR (eE h3 d) h3).bind λxs h4=>.ok (.lst (cut xs l u)) h4
@[simp] noncomputable def sJ:List D->Option (List Int)
 | []=>some []
 | .int i::r=>(sJ r).map (i::·)
 | _::_=>none
@[simp] noncomputable def uX:List D->Option (List Str)
 | []=>some []
 | .str i::r=>(uX r).map (i::·)
 | _::_=>none
@[simp] noncomputable def mZ:List D->Option (List Bool)
 | []=>some []
 | .bl i::r=>(mZ r).map (i::·)
 | _::_=>none
@[simp] noncomputable def t8(h:MH)(d:D):Option (List Int):=match d with
 | .arg ns=>some ns
 | d=>(gO h d).bind sJ
noncomputable def BV(ns:List Int)(lo hi:Option Int)(st:Int):List Int:=
 (sliceRange (sliceBounds lo hi (some st) ns.length).1 (sliceBounds lo hi (some st) ns.length).2.1 (sliceBounds lo hi (some st) ns.length).2.2).filterMap (ns[·]?)
@[simp] noncomputable def jC(m:ME)(lo hi st:MO):ME:=λρ h=>(m ρ h).bind λd h1=>(lo ρ h1).bind λl h2=>(hi ρ h2).bind λu h3=>(st ρ h3).bind λk h4=>match k with
 | some k=>chk (0<k) ((oR (t8 h4 d) h4).bind λns h5=>.ok (.lst ((BV ns l u k).map .int)) h5)
 | none=>.stuck
@[simp] noncomputable def b_:List D->MH->Res D:=λl h=>match l with
 | [.str z]=>chk (z.length<=16777216) (.ok (.int z.length) h)
 | [d]=>match eE h d with
  | some xs=>.ok (.int xs.length) h
  | none=>match d with
   | .ref _=>(oR (DG h d) h).bind λkvs h=>.ok (.int kvs.length) h
   | _=>.stuck
 | _=>.stuck
@[simp] noncomputable def fQ:List D->MH->Res D:=λl h=>match l with
 | [d]=>(oR (t8 h d) h).bind λns h=>.ok (.int ns.sum) h
 | _=>.stuck
noncomputable def da:List Int->Int
 | []=>0
 | [a]=>a
 | a::r=>if da r>a then da r else a
@[simp] noncomputable def tD:List D->MH->Res D:=λl h=>match l with
 | [.int i,.int j]=>.ok (.int (if j>i then j else i)) h
 | [.tup xs]=>(oR (sJ xs) h).bind λns h=>chk (0<ns.length) (.ok (.int (da ns)) h)
 | _=>.stuck
@[simp] noncomputable def lh:List D->MH->Res D:=λl h=>match l with
 | [d]=>(oR ((gO h d).bind mZ) h).bind λbs h=>.ok (.bl (bs.all id)) h
 | _=>.stuck
@[simp] noncomputable def d9:List D->MH->Res D:=λl h=>match l with
 | [.int i]=>.ok (.int i) h
 | [.bl k]=>.ok (.int (if k then 1 else 0)) h
 | [.str z]=>chk (z.length<=640) ((oR (intText? z) h).bind λn h=>.ok (.int n) h)
 | _=>.stuck
@[simp] noncomputable def dv:List D->MH->Res D:=λl h=>match l with
 | [.int i]=>chk (i.natAbs.log2<1920) (.ok (.str (br i)) h)
 | _=>.stuck
@[simp] noncomputable def wA(m:ML):ML:=λρ h=>(m ρ h).bind λl h1=>match l with
 | [d]=>oR (eE h1 d) h1
 | _=>.stuck
@[simp] noncomputable def E9:List D->MH->Res D:=λl h=>match l with
 | [.tup xs]=>.ok (.tup xs) h
 | [d]=>(oR (eE h d) h).bind λxs h=>.ok (.tup xs) h
 | _=>.stuck
@[simp] noncomputable def rq(h:MH):D->Option String
 | .non=>some "NoneType"|.bl _=>some "bool"|.int _=>some "int"|.str _=>some "str"|.tup _=>some "tuple"|.lst _=>some "list"
 | .ref k=>match h[k]? with
  | some (some (.lst _))=>some "list"
  | some (some (.dct _))=>some "dict"
  | _=>none
 | _=>none
@[simp] noncomputable def Hx(a b:String):Bool:=a==b||(a=="bool"&&b=="int")
@[simp] noncomputable def GZ(b:String):Bool:=b=="int"||b=="bool"||b=="str"||b=="tuple"||b=="list"
@[simp] noncomputable def gA:List D->MH->Res D:=λl h=>match l with
 | [d,.ty n]=>chk (GZ n=true) ((oR (rq h d) h).bind λt h=>.ok (.bl (Hx t n)) h)
 | _=>.stuck
@[simp] noncomputable def rZ(f:Str->List D->MH->Res D)(m:ME)(l:ML):ME:=λρ h=>(m ρ h).bind λd h1=>match d with
 | .str z=>(l ρ h1).bind λxs h2=>f z xs h2
 | _=>.stuck
@[simp] noncomputable def kT:Str->List D->MH->Res D:=λz l h=>match l with
 | [d]=>(oR ((gO h d).bind uX) h).bind λys h=>chk ((ys.map (·.length)).sum+ys.length*z.length<=16777216) (.ok (.str (Txt.join z ys)) h)
 | _=>.stuck
@[simp] noncomputable def ue(m:ME)(l:ML):ML:=λρ h=>(m ρ h).bind λd h1=>match d with
 | .str z=>(l ρ h1).bind λxs h2=>match xs with
  | [.str y]=>chk (y.length≠0/\z.length<=16777216/\(Txt.split z y).length<=16777216) (.ok ((Txt.split z y).map .str) h2)
  | _=>.stuck
 | _=>.stuck
/-- f"..{x}..":the parts,in order -/
noncomputable abbrev MJ:=Str->Ro->MH->Res Str
@[simp] noncomputable def kF:MJ:=λout _ h=> .ok out h
@[simp] noncomputable def lJ(m:ME)(j:MJ):MJ:=λout ρ h=>(m ρ h).bind λd h1=>match d with
 | .str y=>chk ((out++y).length<=16777216) (j (out++y) ρ h1)
 | _=>.stuck
@[simp] noncomputable def Ck(j:MJ):ME:=λρ h=>(j Str.empty ρ h).bind λz h1=>chk (z.length<=16777216) (.ok (.str z) h1)
@[simp] noncomputable def jO(m:ME):ME:=λρ h=>(m ρ h).bind λd h1=>match d with
 | .int i=>chk (i.natAbs.log2<1920) (.ok (.str (br i)) h1)
 | .str z=>chk (z.length<=16777216) (.ok (.str z) h1)
 | _=>.stuck
@[simp] noncomputable def bz:MS:=λρ h=> .nx ρ h
@[simp] noncomputable def aj(a b:MS):MS:=λρ h=>match a ρ h with
 | .nx ρ1 h1=>b ρ1 h1
 | r=>r
@[simp] noncomputable def bh(t:MT)(a b:MS):MS:=λρ h=>(t ρ h).toS λc h1=>if c=true then a ρ h1 else b ρ h1
@[simp] noncomputable def au(m:ME):MS:=λρ h=>(m ρ h).toS .rt
@[simp] noncomputable def jf(m:ME):MS:=λρ h=>(m ρ h).toS λ_ h1=> .nx ρ h1
@[simp] noncomputable def aw(m:ME)(g:MG):MS:=λρ h=>(m ρ h).toS λd h1=>g d ρ h1
@[simp] noncomputable def c7(c:String)(m:ME):MS:=λρ h=>(m ρ h).toS λ_ h1=> .exc c h1
@[simp] noncomputable def ay(i:Nat):MG:=λd ρ h=> .nx (ρ.set i (some d)) h
@[simp] noncomputable def DQ:List Nat->List D->Ro->MH->RS
 | [],[],ρ,h=>.nx ρ h
 | i::is,d::ds,ρ,h=>DQ is ds (ρ.set i (some d)) h
 | _,_,_,_=>.stuck
@[simp] noncomputable def dO(is:List Nat):MG:=λd ρ h=>match d with
 | .tup xs=>DQ is xs ρ h
 | .lst xs=>DQ is xs ρ h
 | _=>.stuck
@[simp] noncomputable def oQ(mo mi me:ME):MS:=λρ h=>(me ρ h).toS λd h0=>(mo ρ h0).toS λo h1=>(mi ρ h1).toS λi h2=>match o with
 | .ref k=>match h2[k]? with
  | some (some (.dct kvs))=>match uC i with
   | some j=>if kvs.length<16777216 then .nx ρ (h2.set k (some (.dct (cA kvs j d))))else .stuck
   | none=>.stuck
  | _=>.stuck
 | _=>.stuck
@[simp] noncomputable def KA(mo me:ME):MS:=λρ h=>(mo ρ h).toS λo h1=>match o with
 | .ref k=>match h1[k]? with
  | some (some (.lst _))=>(me ρ h1).toS λd h2=>match h2[k]? with
   | some (some (.lst xs))=>if xs.length<16777216 then .nx ρ (h2.set k (some (.lst (xs++[d]))))else .stuck
   | _=>.stuck
  | _=>.stuck
 | _=>.stuck
@[simp] noncomputable def EA(i:Nat)(b:MS):MS:=λρ h=>match ρ[i]? with
 | some (some (.ref k))=>match h[k]? with
  | some (some (.lst xs))=>b (ρ.set i (some (.lst xs))) (h.set k none)
  | _=>.stuck
 | _=>.stuck
@[simp] noncomputable def mS:ME:=λ_ h=> .ok (.ref h.length) (h++[some (.dct [])])
noncomputable def dY(g:MG)(b:MS):List D->Ro->MH->RS
 | [],ρ,h=>.nx ρ h
 | d::ds,ρ,h=>match g d ρ h with
  | .nx ρ1 h1=>match b ρ1 h1 with
   | .nx ρ2 h2=>dY g b ds ρ2 h2
   | .ct ρ2 h2=>dY g b ds ρ2 h2
   | .bk ρ2 h2=>.nx ρ2 h2
   | r=>r
  | _=>.stuck
noncomputable def sf(q:Option Nat)(all:List D)(h:MH):Prop:=match q with
 | none=>True
 | some k=>h[k]?=some (some (.lst all))
open Classical in
noncomputable def i_(q:Option Nat)(all:List D)(g:MG)(b:MS):List D->Ro->MH->RS
 | [],ρ,h=>if sf q all h then .nx ρ h else .stuck
 | d::ds,ρ,h=>if sf q all h then(match g d ρ h with
  | .nx ρ1 h1=>match b ρ1 h1 with
   | .nx ρ2 h2=>i_ q all g b ds ρ2 h2
   | .ct ρ2 h2=>i_ q all g b ds ρ2 h2
   | .bk ρ2 h2=>.nx ρ2 h2
   | r=>r
  | _=>.stuck)else .stuck
@[simp] theorem t6(all:List D)(g:MG)(b:MS):∀(ds:List D) (ρ:Ro) (h:MH),i_ none all g b ds ρ h=dY g b ds ρ h
 | [],ρ,h=>by unfold i_ dY;exact if_pos trivial
 | d::ds,ρ,h=>by
  unfold i_ dY;rw[if_pos (show sf none all h from trivial)];split
  ·split
   ·exact t6 all g b ds _ _
   ·exact t6 all g b ds _ _
   ·rfl
   ·rfl
  ·rfl
noncomputable def dt(l:MI)(g:MG)(b:MS):MS:=λρ h=>(l ρ h).toS λs h1=>i_ s.1 s.2 g b s.2 ρ h1
@[simp] theorem CW(l:MI)(g:MG)(b:MS)(ρ:Ro)(h:MH):dt l g b ρ h=(l ρ h).toS λs h1=>i_ s.1 s.2 g b s.2 ρ h1:=rfl
@[simp] noncomputable def cE(m:ME):MI:=λρ h=>(m ρ h).bind λd h1=>match d with
 | .lst xs=>.ok (none,xs) h1
 | .tup xs=>.ok (none,xs) h1
 | .arg ns=>.ok (none,ns.map .int) h1
 | .str z=>.ok (none,z.cps.toList.map λc=>.str ⟨#[c]⟩) h1
 | .ref k=>match h1[k]? with
  | some (some (.lst xs))=>.ok (some k,xs) h1
  | _=>.stuck
 | _=>.stuck
noncomputable def rng(lo:Int)(n:Nat):List D:=(List.range n).map λ(k:Nat)=>.int (lo+k)
@[simp] noncomputable def eP(m:ML):MI:=λρ h=>(m ρ h).bind λl h1=>match l with
 | [.int j]=>chk (j.natAbs<4611686018427387904) (.ok (none,rng 0 j.toNat) h1)
 | _=>.stuck
noncomputable def eD(c:MT)(b:MS):Nat->Ro->MH->RS
 | 0,_,_=>.stuck
 | n+1,ρ,h=>match c ρ h with
  | .ok true h1=>match b ρ h1 with
   | .nx ρ2 h2=>eD c b n ρ2 h2
   | .ct ρ2 h2=>eD c b n ρ2 h2
   | .bk ρ2 h2=>.nx ρ2 h2
   | r=>r
  | .ok false h1=>.nx ρ h1
  | .exc e h1=>.exc e h1
  | .stuck=>.stuck
open Classical in
noncomputable def fI(c:MT)(b:MS):MS:=λρ h=>if e:∃n,eD c b n ρ h≠ .stuck then eD c b e.choose ρ h else .stuck
theorem D4(c:MT)(b:MS):∀(n k:Nat) (ρ:Ro) (h:MH),eD c b n ρ h≠ .stuck->eD c b (n+k) ρ h=eD c b n ρ h
 | 0,k,ρ,h,q=>absurd rfl q
 | n+1,k,ρ,h,q=>by
  rw[show n+1+k=(n+k)+1 by omega];unfold eD at q ⊢;cases e:c ρ h with
  | ok b0 h1=>
   cases b0 with
   | false=>rfl
   | true=>
    simp only[e]at q ⊢;cases e2:b ρ h1 with
    | nx ρ2 h2=>simp only[e2]at q ⊢;exact D4 c b n k ρ2 h2 q
    | ct ρ2 h2=>simp only[e2]at q ⊢;exact D4 c b n k ρ2 h2 q
    | bk ρ2 h2=>rfl
    | rt d h2=>rfl
    | exc x h2=>rfl
    | stuck=>rfl
  | exc x h1=>rfl
  | stuck=>rfl
theorem Gp(q:eD c b n ρ h≠ .stuck):fI c b ρ h=eD c b n ρ h:=by
 have e:∃n,eD c b n ρ h≠ .stuck:=⟨n,q⟩;unfold fI;rw[dif_pos e];have h1:=D4 c b e.choose n ρ h e.choose_spec;have h2:=D4 c b n e.choose ρ h q;rw[<-h1,<-h2,Nat.add_comm]
theorem FG(q:fI c b ρ h≠ .stuck):∃n,eD c b n ρ h=fI c b ρ h:=by
 unfold fI at q;by_cases e:∃n,eD c b n ρ h≠ .stuck
 ·exact⟨e.choose,by unfold fI;rw[dif_pos e]⟩
 ·rw[dif_neg e]at q;exact absurd rfl q
theorem Jb(ec:c ρ h=.ok true h1)(eb:b ρ h1=.nx ρ2 h2):fI c b ρ h=fI c b ρ2 h2:=by
 by_cases q:fI c b ρ2 h2=.stuck
 ·rw[q]
  by_cases q1:fI c b ρ h=.stuck
  ·exact q1
  ·obtain⟨n,e⟩:=FG q1
   cases n with
   | zero=>rw[<-e];rfl
   | succ n=>
    rw[<-e]at q1 ⊢;unfold eD at q1 ⊢;simp only[ec,eb]at q1 ⊢;rw[<-Gp q1];exact q
 ·obtain⟨n,e⟩:=FG q
  have e1:eD c b (n+1) ρ h=eD c b n ρ2 h2:=by
   conv=>lhs;unfold eD
   simp only[ec,eb]
  rw[Gp (n:=n+1) (by rw[e1,e];exact q),e1,e]
theorem P7(ec:c ρ h=.ok false h1):fI c b ρ h=.nx ρ h1:=by
 have e1:eD c b 1 ρ h=.nx ρ h1:=by unfold eD;simp only[ec]
 rw[Gp (n:=1) (by rw[e1];exact λz=>nomatch z),e1]
@[simp] noncomputable def caps(idx:List Nat)(ρ:Ro):Ro:=idx.map λj=>(ρ[j]?).getD none
noncomputable def compLoop(g:MG)(t:MT)(m:ME)(ρ0:Ro):List D->MH->Res (List D)
 | [],h=>.ok [] h
 | d::ds,h=>match g d ρ0 h with
  | .nx ρ1 h1=>match t ρ1 h1 with
   | .ok true h2=>match m ρ1 h2 with
    | .ok y h3=>match compLoop g t m ρ0 ds h3 with
     | .ok ys h4=>.ok (y::ys) h4
     | _=>.stuck
    | _=>.stuck
   | .ok false h2=>compLoop g t m ρ0 ds h2
   | _=>.stuck
  | _=>.stuck
@[simp] noncomputable def aS:MT:=λ_ h=> .ok true h
open Classical in
noncomputable def gM(q:Option Nat)(all:List D)(g:MG)(t:MT)(m:ME)(ρ0:Ro):List D->MH->Res (List D)
 | [],h=>if sf q all h then .ok [] h else .stuck
 | d::ds,h=>if sf q all h then(match g d ρ0 h with
  | .nx ρ1 h1=>match t ρ1 h1 with
   | .ok true h2=>match m ρ1 h2 with
    | .ok y h3=>match gM q all g t m ρ0 ds h3 with
     | .ok ys h4=>.ok (y::ys) h4
     | _=>.stuck
    | _=>.stuck
   | .ok false h2=>gM q all g t m ρ0 ds h2
   | _=>.stuck
  | _=>.stuck)else .stuck
@[simp] theorem lO(all:List D)(g:MG)(t:MT)(m:ME)(ρ0:Ro):∀(ds:List D) (h:MH),gM none all g t m ρ0 ds h=compLoop g t m ρ0 ds h
 | [],h=>by unfold gM compLoop;exact if_pos trivial
 | d::ds,h=>by
  unfold gM compLoop;rw[if_pos (show sf none all h from trivial)];split
  ·split
   ·split
    ·rw[lO all g t m ρ0 ds]
    ·rfl
   ·exact lO all g t m ρ0 ds _
   ·rfl
  ·rfl
noncomputable def cC(nt:Nat)(idx:List Nat)(l:MI)(g:MG)(t:MT)(m:ME):ML:=λρ h=>(l ρ h).bind λs h1=>chk (s.2.length<16777216) (gM s.1 s.2 g t m (List.replicate nt none++caps idx ρ) s.2 h1)
@[simp] theorem i6(nt:Nat)(idx:List Nat)(l:MI)(g:MG)(t:MT)(m:ME)(ρ:Ro)(h:MH):cC nt idx l g t m ρ h=(l ρ h).bind λs h1=>chk (s.2.length<16777216) (gM s.1 s.2 g t m (List.replicate nt none++caps idx ρ) s.2 h1):=rfl
@[simp] noncomputable def t7(h:MH):D->Option (String×List (Str×D))
 | .obj c fs=>some (c,fs)
 | .ref k=>match h[k]? with
  | some (some (.ins c fs))=>some (c,fs)
  | _=>none
 | _=>none
noncomputable def bA(f:Str)(d:D):List (Str×D)->List (Str×D)
  | []=>[(f,d)]
  | (g,x)::r=>if g=f then(g,d)::r else(g,x)::bA f d r
@[simp] noncomputable def ax(tab:List String)(f:Str)(m:ME):ME:=λρ h=>(m ρ h).bind λd h1=>(oR (t7 h1 d) h1).bind λo h2=>chk (o.1∈tab) (oR (o.2.lookup f) h2)
@[simp] noncomputable def dS(tab:List String)(f:Str)(mo me:ME):MS:=λρ h=>(me ρ h).toS λd h1=>(mo ρ h1).toS λo h2=>match o with
 | .ref k=>match h2[k]? with
  | some (some (.ins c fs))=>if c∈tab/\fs.length<1000 then .nx ρ (h2.set k (some (.ins c (bA f d fs))))else .stuck
  | _=>.stuck
 | _=>.stuck
@[simp] noncomputable def aF(tab:List (String×MF))(f:Str)(m:ME)(l:ML):ME:=λρ h=>(m ρ h).bind λd h1=>(oR (t7 h1 d) h1).bind λo h2=>(oR (tab.lookup o.1) h2).bind λz h2=>chk (o.2.lookup f=none) ((l ρ h1).bind λds h3=>z (d::ds) h3)
@[simp] noncomputable def eN(c:String)(z:MF)(l:ML):ME:=λρ h=>(l ρ h).bind λds h1=>(z (.ref h1.length::ds) (h1++[some (.ins c [])])).bind λd h2=>match d with
 | .non=>match h2[h1.length]? with
  | some (some (.ins c' fs))=>.ok (.obj c' fs) (h2.set h1.length none)
  | _=>.stuck
 | _=>.stuck
@[simp] noncomputable def sN(c:String)(z:MF)(l:ML):ME:=λρ h=>(l ρ h).bind λds h1=>(z (.ref h1.length::ds) (h1++[some (.ins c [])])).bind λd h2=>match d with
 | .non=>.ok (.ref h1.length) h2
 | _=>.stuck
noncomputable def jY(ds:List D):List D:=ds.mapIdx λi d=>.tup [.int i,d]
@[simp] noncomputable def m9(m:ML):MI:=λρ h=>(m ρ h).bind λl h1=>match l with
 | [.lst xs]=>.ok (none,jY xs) h1
 | [.arg ns]=>.ok (none,jY (ns.map .int)) h1
 | _=>.stuck
noncomputable def Res.noX{α:Type}(r:Res α):Res α:=match r with
 | .ok a h=>.ok a h|.exc _ _=>.stuck|.stuck=>.stuck
@[simp] theorem G5{α:Type}{a:α}:(Res.ok a h).noX= .ok a h:=rfl
@[simp] theorem Es{α:Type}:(Res.exc c h:Res α).noX= .stuck:=rfl
@[simp] theorem uP{α:Type}:(Res.stuck:Res α).noX= .stuck:=rfl
@[simp] noncomputable def fq(l:ML):ML:=λρ h=>(l ρ h).noX
noncomputable def RS.noX:RS->RS
 | .exc _ _=>.stuck|r=>r
@[simp] theorem Dy:(RS.nx ρ h).noX= .nx ρ h:=rfl
@[simp] theorem DJ:(RS.rt d h).noX= .rt d h:=rfl
@[simp] theorem Ej:(RS.bk ρ h).noX= .bk ρ h:=rfl
@[simp] theorem Ee:(RS.ct ρ h).noX= .ct ρ h:=rfl
@[simp] theorem BU:(RS.exc c h).noX= .stuck:=rfl
@[simp] theorem pA:RS.stuck.noX= .stuck:=rfl
noncomputable def RS.gone(i:Nat):RS->RS
 | .nx ρ h=>.nx (ρ.set i none) h|.bk ρ h=>.bk (ρ.set i none) h|.ct ρ h=>.ct (ρ.set i none) h|r=>r
@[simp] theorem Dn:(RS.nx ρ h).gone i= .nx (ρ.set i none) h:=rfl
@[simp] theorem Dx:(RS.rt d h).gone i= .rt d h:=rfl
@[simp] theorem Dg:(RS.bk ρ h).gone i= .bk (ρ.set i none) h:=rfl
@[simp] theorem Dq:(RS.ct ρ h).gone i= .ct (ρ.set i none) h:=rfl
@[simp] theorem pQ:RS.stuck.gone i= .stuck:=rfl
@[simp] noncomputable def lz(b:MS)(f:String->MS):MS:=λρ h=>match b ρ h with
 | .exc c h1=>f c ρ h1|r=>r
@[simp] noncomputable def rh:String->MS:=λ_ _ _=> .stuck
@[simp] noncomputable def Dm(tab:List (String×Bool))(i:Nat)(m:MS)(r:String->MS):String->MS:=λc ρ h=>match tab.lookup c with
 | some true=>((m (ρ.set i (some (.exc c))) h).noX).gone i
 | some false=>r c ρ h
 | none=>.stuck
@[simp] noncomputable def cU(tab:List ((String×Bool×String)×Bool)):List D->MH->Res D:=λl h=>match l with
 | [.exc c,.cls n]=>(oR (tab.lookup (c,true,n)) h).bind λb h=>.ok (.bl b) h
 | [.exc c,.ty n]=>(oR (tab.lookup (c,false,n)) h).bind λb h=>.ok (.bl b) h
 | _=>.stuck
mutual
noncomputable def D.bnd(n:Nat):D->Bool
 | .ref k=>k<n
 | .tup xs|.lst xs=>D.bnds n xs
 | .obj _ fs=>D.bndf n fs
 | _=>true
noncomputable def D.bnds(n:Nat):List D->Bool
 | []=>true
 | d::ds=>D.bnd n d&&D.bnds n ds
noncomputable def D.bndf(n:Nat):List (Str×D)->Bool
  | []=>true
  | (_,d)::ds=>D.bnd n d&&D.bndf n ds
end
noncomputable def Cell.bnd(n:Nat):Option Cell->Bool
 | none=>true
 | some (.lst xs)=>D.bnds n xs
 | some (.dct kvs)=>D.bnds n (kvs.map (·.2))
 | some (.fdc kvs)=>D.bnds n (kvs.map (·.2))
 | some (.ins _ fs)=>D.bnds n (fs.map (·.2))
@[simp] noncomputable def fin(n:Nat)(d:D)(h:MH):Res D:=
 if h.length<=n then .ok d h else if(d.bnd n&&(h.take n).all (Cell.bnd n))=true then .ok d (h.take n)else .ok d h
@[simp] noncomputable def az(np nn:Nat)(b:MS):MF:=λds h=>if ds.length=np then match b (ds.map some++List.replicate (nn - ds.length) none) h with
 | .nx _ h1=>fin h.length .non h1
 | .rt d h1=>fin h.length d h1
 | .exc c h1=>if h1.length<=h.length then .exc c h1 else if(h1.take h.length).all (Cell.bnd h.length)=true then .exc c (h1.take h.length)else .exc c h1
 | _=>.stuck
 else .stuck
@[simp] noncomputable def gW(a b:ME):ML:=λρ h=>(a ρ h).bind λx h1=>(b ρ h1).bind λy h2=>(oR (gO h2 x) h2).bind λxs h3=>(oR (gO h3 y) h3).bind λys h4=>chk (xs.length+ys.length<=16777216) (.ok (xs++ys) h4)
@[simp] noncomputable def zF:List (Sum Int Str×D)->Option (List Int)
  | []=>some []
  | (.inl i,_)::r=>(zF r).map (i::·)
  | (.inr _,_)::_=>none
@[simp] noncomputable def m5(m:ME):ME:=λρ h=>(m ρ h).bind λd h1=>match d with
 | .int i=>.ok (.int (Builtin.Int.intBits i:Nat)) h1
 | _=>.stuck
@[simp] noncomputable def E8(k:Nat)(kvs:List (Sum Int Str×D)):RS->RS
 | .nx ρ h=>match h[k]? with
  | some none=>.nx ρ (h.set k (some (.dct kvs)))
  | _=>.stuck
 | .rt d h=>match h[k]? with
  | some none=>.rt d (h.set k (some (.dct kvs)))
  | _=>.stuck
 | .exc c h=>.exc c h
 | _=>.stuck
@[simp] noncomputable def oj(mo:ME)(g:MG)(b:MS):MS:=λρ h=>(mo ρ h).toS λo h1=>match o with
 | .ref k=>match h1[k]? with
  | some (some (.dct kvs))=>E8 k kvs (dY g b (kvs.map (·.2)) ρ (h1.set k none))
  | _=>.stuck
 | _=>.stuck
noncomputable def pX(kvs:List (Sum Int Str×D))(k:Sum Int Str):List (Sum Int Str×D):=kvs.filter λkv=>decide (kv.1≠k)
@[simp] noncomputable def Jz(mo mk:ME):ME:=λρ h=>(mo ρ h).bind λo h1=>match o with
 | .ref k=>match h1[k]? with
  | some (some (.dct _))=>(mk ρ h1).bind λy h2=>match uC y with
   | some j=>match h2[k]? with
    | some (some (.dct kvs))=>match cT kvs j with
     | some v=>.ok v (h2.set k (some (.dct (pX kvs j))))
     | none=>.stuck
    | _=>.stuck
   | none=>.stuck
  | _=>.stuck
 | _=>.stuck
noncomputable def xT(ns:List (Bool×String))(l:List (String×List Bool)):List ((String×Bool×String)×Bool):=l.flatMap λp=>(ns.zip p.2).map λq=>((p.1,q.1.1,q.1.2),q.2)
noncomputable def bZ:List D->List D->List D
 | x::xs,y::ys=>.tup [x,y]::bZ xs ys
 | _,_=>[]
@[simp] noncomputable def lF(m:ML):MI:=λρ h=>(m ρ h).bind λl h1=>match l with
 | [.lst xs,.lst ys]=>.ok (none,bZ xs ys) h1
 | _=>.stuck
@[simp] noncomputable def pL:List D->MH->Res D:=λl h=>match l with
 | [d]=>(oR ((gO h d).bind mZ) h).bind λbs h=>.ok (.bl (bs.any id)) h
 | _=>.stuck
@[simp] noncomputable def uJ:List D->MH->Res D:=λl h=>match l with
 | [.str z]=>.ok (.str z) h
 | [.int i]=>chk (i.natAbs.log2<1920) (.ok (.str (br i)) h)
 | _=>.stuck
end Z
set_option maxHeartbeats 4000000
namespace L2
open PySem PySem.Spec
structure Ct where
 P:Program
 w:World
 K:W.Frag
 cm:String->Addr
noncomputable def fv:Z.D->Option V
 | .non=>some .non
 | .bl b=>some (.bl b)
 | .int i=>some (.int i)
 | .str x=>some (.str x)
 | _=>none
section
variable (C : Ct)
mutual
noncomputable def RV(bs:List Addr)(G:Hp):V->Z.D->Prop
 | v,.non=>v=.non
 | v,.bl b=>v=.bl b
 | v,.int i=>v=.int i
 | v,.str x=>v=.str x
 | v,.tup ds=>∃a vs,v=.ref a/\G a=some (.tup vs)/\RVs bs G vs ds
 | v,.lst ds=>∃a vs,v=.ref a/\G a=some (.lst vs)/\RVs bs G vs ds
 | v,.arg ns=>∃a,v=.ref a/\SqL C.K G a (ns.map V.int)
 | v,.ref k=>∃a,v=.ref a/\bs[k]?=some a
 | v,.ty n=>v=.ty n
 | v,.cls n=>v=.ref (C.cm n)
 | v,.exc c=>∃a oe u,v=.ref a/\G a=some (.frz oe u)/\oe.cls=.ref (C.cm c)
 | v,.obj c fs=>∃a dx fvs,v=.ref a/\G a=some (.ins (C.cm c) dx fvs)/\RVf bs G fvs fs
 | v,.dic kvs=>∃a kws,v=.ref a/\DO C.P C.w C.K a kws/\kvs.map (λp=>(p.1,fv p.2))=kws.map (λp=>(p.1,some p.2))
noncomputable def RVs(bs:List Addr)(G:Hp):List V->List Z.D->Prop
 | [],[]=>True
 | v::vs,d::ds=>RV bs G v d/\RVs bs G vs ds
 | _,_=>False
noncomputable def RVf(bs:List Addr)(G:Hp):List (Str×V)->List (Str×Z.D)->Prop
  | [],[]=>True
  | (x,v)::vs,(y,d)::ds=>x=y/\RV bs G v d/\RVf bs G vs ds
  | _,_=>False
noncomputable def RVk(bs:List Addr)(G:Hp):List (cp×V)->List (Sum Int Str×Z.D)->Prop
  | [],[]=>True
  | (x,v)::vs,(y,d)::ds=>x=y/\RV bs G v d/\RVk bs G vs ds
  | _,_=>False
end
end
theorem Same.sql(e:Same H H')(h:SqL K H a xs):SqL K H' a xs:=by
 rcases h with(h|⟨o,h⟩)|h
 ·exact .inl (.inl (e _ _ h))
 ·exact .inl (.inr ⟨o,e _ _ h⟩)
 ·exact .inr h
section
variable {C : Ct}
mutual
theorem RV.mono{bs bs':List Addr}{G G':Hp}(hb:∀(k:Nat) (a:Addr),bs[k]?=some a->bs'[k]?=some a)(hs:Same G G'):∀{d:Z.D} {v:V},RV C bs G v d->RV C bs' G' v d
 | .non,v,h=>by simp only[RV]at h ⊢;exact h
 | .bl b,v,h=>by simp only[RV]at h ⊢;exact h
 | .int i,v,h=>by simp only[RV]at h ⊢;exact h
 | .str x,v,h=>by simp only[RV]at h ⊢;exact h
 | .tup ds,v,h=>by
  simp only[RV]at h ⊢;obtain⟨a,vs,h1,h2,h3⟩:=h;exact⟨a,vs,h1,hs _ _ h2,RVs.mono hb hs h3⟩
 | .lst ds,v,h=>by
  simp only[RV]at h ⊢;obtain⟨a,vs,h1,h2,h3⟩:=h;exact⟨a,vs,h1,hs _ _ h2,RVs.mono hb hs h3⟩
 | .arg ns,v,h=>by
  simp only[RV]at h ⊢;obtain⟨a,h1,h2⟩:=h;exact⟨a,h1,hs.sql h2⟩
 | .ref k,v,h=>by
  simp only[RV]at h ⊢;obtain⟨a,h1,h2⟩:=h;exact⟨a,h1,hb _ _ h2⟩
 | .ty n,v,h=>by simp only[RV]at h ⊢;exact h
 | .cls n,v,h=>by simp only[RV]at h ⊢;exact h
 | .exc n,v,h=>by
  simp only[RV]at h ⊢;obtain⟨a,oe,u,h1,h2,h3⟩:=h;exact⟨a,oe,u,h1,hs _ _ h2,h3⟩
 | .obj c fs,v,h=>by
  simp only[RV]at h ⊢;obtain⟨a,dx,fvs,h1,h2,h3⟩:=h;exact⟨a,dx,fvs,h1,hs _ _ h2,RVf.mono hb hs h3⟩
 | .dic kvs,v,h=>by simp only[RV]at h ⊢;exact h
theorem RVs.mono{bs bs':List Addr}{G G':Hp}(hb:∀(k:Nat) (a:Addr),bs[k]?=some a->bs'[k]?=some a)(hs:Same G G'):∀{ds:List Z.D} {vs:List V},RVs C bs G vs ds->RVs C bs' G' vs ds
 | [],[],_=>by simp only[RVs]
 | d::ds,v::vs,h=>by
  simp only[RVs]at h ⊢;exact⟨RV.mono hb hs h.1,RVs.mono hb hs h.2⟩
 | [],_::_,h=>by simp only[RVs]at h
 | _::_,[],h=>by simp only[RVs]at h
theorem RVf.mono{bs bs':List Addr}{G G':Hp}(hb:∀(k:Nat) (a:Addr),bs[k]?=some a->bs'[k]?=some a)(hs:Same G G'):∀{ds:List (Str×Z.D)} {vs:List (Str×V)},RVf C bs G vs ds->RVf C bs' G' vs ds
  | [],[],_=>by simp only[RVf]
  | (y,d)::ds,(x,v)::vs,h=>by
    simp only[RVf]at h ⊢;exact⟨h.1,RV.mono hb hs h.2.1,RVf.mono hb hs h.2.2⟩
  | [],_::_,h=>by simp only[RVf]at h
  | _::_,[],h=>by simp only[RVf]at h
theorem RVk.mono{bs bs':List Addr}{G G':Hp}(hb:∀(k:Nat) (a:Addr),bs[k]?=some a->bs'[k]?=some a)(hs:Same G G'):∀{ds:List (Sum Int Str×Z.D)} {vs:List (cp×V)},RVk C bs G vs ds->RVk C bs' G' vs ds
  | [],[],_=>by simp only[RVk]
  | (y,d)::ds,(x,v)::vs,h=>by
    simp only[RVk]at h ⊢;exact⟨h.1,RV.mono hb hs h.2.1,RVk.mono hb hs h.2.2⟩
  | [],_::_,h=>by simp only[RVk]at h
  | _::_,[],h=>by simp only[RVk]at h
end
noncomputable def lv(bs:List Addr)(h:Z.MH)(a:Addr):Prop:=∃(k:Nat) (c:Z.Cell),bs[k]?=some a/\h[k]?=some (some c)/\c.live=true
open Classical in
noncomputable def gh(ex bs:List Addr)(h:Z.MH)(H:Hp):Hp:=λa=>if a∈ex\/lv bs h a then none else H a
theorem du:gh ex bs h H a=some o↔a∉ex/\¬lv bs h a/\H a=some o:=by
 unfold gh;by_cases q:a∈ex\/lv bs h a
 ·rw[if_pos q]
  constructor
  ·intro z;cases z
  ·rintro⟨h1,h2,_⟩
   rcases q with q|q
   ·exact absurd q h1
   ·exact absurd q h2
 ·rw[if_neg q]
  exact⟨λz=>⟨λm=>q (.inl m),λm=>q (.inr m),z⟩,λz=>z.2.2⟩
theorem cn:Same (gh ex bs h H) H:=λa o e=>(du.mp e).2.2
noncomputable def jf3(C:Ct)(bs:List Addr)(G H:Hp)(a:Addr):Z.Cell->Prop
 | .lst ds=>∃vs,H a=some (.lst vs)/\RVs C bs G vs ds
 | .dct kvs=>∃kws,H a=some (.dK kws)/\RVk C bs G kws kvs
 | .ins c fs=>∃dx fvs,H a=some (.ins (C.cm c) dx fvs)/\RVf C bs G fvs fs
 | .fdc kvs=>∃o kws,G a=some (.frz o (.dK kws))/\o.cls=.type "dict"/\RVk C bs G kws kvs
theorem jf3.mono(hb:∀(k:Nat) (a:Addr),bs[k]?=some a->bs'[k]?=some a)(hs:Same G G')(e:H' a=H a)(h:jf3 C bs G H a c):jf3 C bs' G' H' a c:=by
 cases c with
 | lst ds=>obtain⟨vs,h1,h2⟩:=h;exact⟨vs,by rw[e];exact h1,h2.mono hb hs⟩
 | dct kvs=>obtain⟨vs,h1,h2⟩:=h;exact⟨vs,by rw[e];exact h1,h2.mono hb hs⟩
 | ins c fs=>obtain⟨dx,vs,h1,h2⟩:=h;exact⟨dx,vs,by rw[e];exact h1,h2.mono hb hs⟩
 | fdc kvs=>obtain⟨o,vs,h1,hc,h2⟩:=h;exact⟨o,vs,hs _ _ h1,hc,h2.mono hb hs⟩
structure HR (C:Ct) (ex bs:List Addr) (h:Z.MH) (H:Hp):Prop where
 len:bs.length=h.length
 inj:∀(i j:Nat) (a:Addr),bs[i]?=some a->bs[j]?=some a->i=j
 sep:∀a∈ex,a∉bs
 dom:∀a∈bs,H a≠none
 domx:∀a∈ex,H a≠none
 cell:∀(k:Nat) (a:Addr) (c:Z.Cell),bs[k]?=some a->h[k]?=some (some c)->jf3 C bs (gh ex bs h H) H a c
structure Ev (C:Ct) (ex bs:List Addr) (h:Z.MH) (H:Hp) (bs':List Addr) (h':Z.MH) (H':Hp):Prop where
 pre:∀(k:Nat) (a:Addr),bs[k]?=some a->bs'[k]?=some a
 hr:HR C ex bs' h' H'
 same:Same (gh ex bs h H) (gh ex bs' h' H')
 exs:∀a∈ex,H' a=H a
variable {ex bs bs1 bs2 : List Addr} {h h1 h2 : Z.MH} {H H1 H2 : Hp}
theorem Ev.refl(r:HR C ex bs h H):Ev C ex bs h H bs h H:=⟨λ_ _ e=>e,r,Same.refl _,λ_ _=>rfl⟩
theorem Ev.trans(a:Ev C ex bs h H bs1 h1 H1)(b:Ev C ex bs1 h1 H1 bs2 h2 H2):Ev C ex bs h H bs2 h2 H2:=
 ⟨λk x e=>b.pre k x (a.pre k x e),b.hr,a.same.trans b.same,λx hx=>(b.exs x hx).trans (a.exs x hx)⟩
theorem RV.ev(e:Ev C ex bs h H bs1 h1 H1)(r:RV C bs (gh ex bs h H) v d):RV C bs1 (gh ex bs1 h1 H1) v d:=r.mono e.pre e.same
theorem RVs.ev(e:Ev C ex bs h H bs1 h1 H1)(r:RVs C bs (gh ex bs h H) v d):RVs C bs1 (gh ex bs1 h1 H1) v d:=r.mono e.pre e.same
noncomputable def RE(C:Ct)(bs:List Addr)(G:Hp)(ρ:Z.Ro)(σ:St):Prop:=ρ.length=σ.length/\∀(i:Nat) (d:Z.D),ρ[i]?=some (some d)->∃v,σ[i]?=some (some v)/\RV C bs G v d
theorem RE.ev(e:Ev C ex bs h H bs1 h1 H1)(r:RE C bs (gh ex bs h H) ρ σ):RE C bs1 (gh ex bs1 h1 H1) ρ σ:=
 ⟨r.1,λi d q=>by obtain⟨v,h1,h2⟩:=r.2 i d q;exact⟨v,h1,h2.ev e⟩⟩
theorem RE.set(r:RE C bs G ρ σ)(q:RV C bs G v d):RE C bs G (ρ.set i (some d)) (σ.set i (some v)):=by
 refine⟨by simp[r.1],λj e hj=> ?_⟩;by_cases hij:i=j
 ·subst hij
  rw[List.getElem?_set_self']at hj;have hl:i<ρ.length:=by
   by_cases hl:i<ρ.length
   ·exact hl
   ·rw[wv (by omega)]at hj;simp at hj
  rw[qt hl]at hj;simp at hj;subst hj;refine⟨v,?_,q⟩;rw[qg (by rw[<-r.1];exact hl)]
 ·rw[qe hij]at hj
  obtain⟨u,h1,h2⟩:=r.2 j e hj;exact⟨u,by rw[qe hij];exact h1,h2⟩
noncomputable def Post(C:Ct)(ex:List Addr)(E:XK)(bs:List Addr)(h:Z.MH)(H:Hp){α β:Type}(R:List Addr->Hp->β->α->Prop)(r:Z.Res α)(Q:β->Hp->Prop):Prop:=match r with
 | .ok a h'=>∀b bs' H',Ev C ex bs h H bs' h' H'->R bs' (gh ex bs' h' H') b a->Q b H'
 | .exc c h'=>∀bs' H',Ev C ex bs h H bs' h' H'->E (.ref (C.cm c)) none H'
 | .stuck=>False
variable {E : XK} {α β γ δ : Type} {R : List Addr -> Hp -> β -> α -> Prop} {R1 : List Addr -> Hp -> β -> α -> Prop} {R3 : List Addr -> Hp -> δ -> γ -> Prop}
theorem Post.from{Q:β->Hp->Prop}(e:Ev C ex bs h H bs1 h1 H1)(p:Post C ex E bs h H R r Q):Post C ex E bs1 h1 H1 R r Q:=by
 cases r with
 | ok a h'=>exact λb bs' H' e' q=>p b bs' H' (e.trans e') q
 | exc c h'=>exact λbs' H' e'=>p bs' H' (e.trans e')
 | stuck=>exact p
theorem Post.bind{f:α->Z.MH->Z.Res γ}{Q:δ->Hp->Prop}{Q1:β->Hp->Prop}(p:Post C ex E bs h H R3 (r.bind f) Q)
  (k:∀a b h1 bs1 H1,Ev C ex bs h H bs1 h1 H1->R1 bs1 (gh ex bs1 h1 H1) b a->Post C ex E bs1 h1 H1 R3 (f a h1) Q->Q1 b H1):Post C ex E bs h H R1 r Q1:=by
 cases r with
 | ok a h'=>exact λb bs' H' e' q=>k a b h' bs' H' e' q (Post.from e' p)
 | exc c h'=>exact p
 | stuck=>exact p
theorem Post.now{Q:β->Hp->Prop}(hr:HR C ex bs h H)(p:Post C ex E bs h H R (.ok a h) Q)(q:R bs (gh ex bs h H) b a):Q b H:=p b bs H (Ev.refl hr) q
theorem Post.chk{c:Prop}[Decidable c]{r:Z.Res α}{Q:β->Hp->Prop}(p:Post C ex E bs h H R (Z.chk c r) Q):c/\Post C ex E bs h H R r Q:=by
 unfold Z.chk at p;by_cases q:c
 ·rw[if_pos q]at p;exact⟨q,p⟩
 ·rw[if_neg q]at p;exact p.elim
theorem Post.oR{f:α->Z.MH->Z.Res γ}{Q:δ->Hp->Prop}(p:Post C ex E bs h H R3 ((Z.oR o h1).bind f) Q):∃a,o=some a/\Post C ex E bs h H R3 (f a h1) Q:=by
 cases o with
 | none=>exact p.elim
 | some a=>exact⟨a,rfl,p⟩
theorem Post.oR1{Q:β->Hp->Prop}(p:Post C ex E bs h H R (Z.oR o h1) Q):∃a,o=some a/\Post C ex E bs h H R (.ok a h1) Q:=by
 cases o with
 | none=>exact p.elim
 | some a=>exact⟨a,rfl,p⟩
noncomputable def uM(C:Ct)(E:XK){α β:Type}(R:List Addr->Hp->β->α->Prop)(t:St->Hp->(β->Hp->Prop)->Prop)(m:Z.Ro->Z.MH->Z.Res α):Prop:=
 ∀(ex bs:List Addr) (h:Z.MH) (ρ:Z.Ro) (σ:St) (H:Hp) (Q:β->Hp->Prop),HR C ex bs h H->RE C bs (gh ex bs h H) ρ σ->Post C ex E bs h H R (m ρ h) Q->t σ H Q
noncomputable abbrev SE(C:Ct)(E:XK)(t:TE)(m:Z.ME):Prop:=uM C E (RV C) t m
noncomputable abbrev SA(C:Ct)(E:XK)(t:TA)(m:Z.ML):Prop:=uM C E (RVs C) t m
noncomputable def E2{α:Type}:List Addr->Hp->α->α->Prop:=λ_ _ b a=>b=a
noncomputable abbrev ST(C:Ct)(E:XK)(t:TT)(m:Z.MT):Prop:=uM C E E2 t m
noncomputable abbrev SO(C:Ct)(E:XK)(t:TO)(m:Z.MO):Prop:=uM C E E2 t m
noncomputable def S2(C:Ct)(r:R2)(f:Z.B2):Prop:=∀(ex bs:List Addr) (h:Z.MH) (H:Hp) (E:XK) (x y:V) (dx dy:Z.D) (Q:VK),HR C ex bs h H->RV C bs (gh ex bs h H) x dx->RV C bs (gh ex bs h H) y dy->Post C ex E bs h H (RV C) (f dx dy h) Q->r x y H Q
noncomputable def S1(C:Ct)(r:V->Hp->VK->Prop)(f:Z.D->Z.MH->Z.Res Z.D):Prop:=∀(ex bs:List Addr) (h:Z.MH) (H:Hp) (E:XK) (x:V) (dx:Z.D) (Q:VK),HR C ex bs h H->RV C bs (gh ex bs h H) x dx->Post C ex E bs h H (RV C) (f dx h) Q->r x H Q
noncomputable def SL(C:Ct)(r:List V->Hp->VK->Prop)(f:List Z.D->Z.MH->Z.Res Z.D):Prop:=∀(ex bs:List Addr) (h:Z.MH) (H:Hp) (E:XK) (xs:List V) (ds:List Z.D) (Q:VK),HR C ex bs h H->RVs C bs (gh ex bs h H) xs ds->Post C ex E bs h H (RV C) (f ds h) Q->r xs H Q
theorem ah:SE C E (qO i) (Z.aa i):=by
 intro ex bs h ρ σ H Q hr re p;unfold Z.aa at p;cases q:ρ[i]? with
 | none=>rw[q]at p;exact p.elim
 | some o=>
  cases o with
  | none=>rw[q]at p;exact p.elim
  | some d=>
   rw[q]at p;obtain⟨v,h1,h2⟩:=re.2 i d q;exact⟨v,h1,p.now hr h2⟩
theorem eu(q:∀bs G,RV C bs G v d):SE C E (tC v) (Z.mC d):=λex bs h ρ σ H Q hr re p=>Post.now hr p (q _ _)
theorem aA:SE C E (tC (.int i)) (Z.mC (.int i)):=eu λ_ _=>by simp only[RV]
theorem aN:SE C E (tC (.str i)) (Z.mC (.str i)):=eu λ_ _=>by simp only[RV]
theorem fA:SE C E (tC (.bl i)) (Z.mC (.bl i)):=eu λ_ _=>by simp only[RV]
theorem kW:SE C E (tC .non) (Z.mC .non):=eu λ_ _=>by simp only[RV]
theorem qC:SE C E (tC (.ty n)) (Z.mC (.ty n)):=eu λ_ _=>by simp only[RV]
theorem ai(o:S2 C r f)(ha:SE C E ta ma)(hb:SE C E tb mb):SE C E (ou r ta tb) (Z.ae f ma mb):=by
 intro ex bs h ρ σ H Q hr re p;refine ha ex bs h ρ σ H _ hr re (p.bind λdx x h1 bs1 H1 e1 rx p1=> ?_);refine hb ex bs1 h1 ρ σ H1 _ e1.hr (re.ev e1) (p1.bind λdy y h2 bs2 H2 e2 ry p2=> ?_);exact o ex bs2 h2 H2 E x y dx dy Q e2.hr (rx.ev e2) ry p2
theorem gV{r:V->Hp->VK->Prop}{f:Z.D->Z.MH->Z.Res Z.D}(o:S1 C r f)(ha:SE C E ta ma):SE C E (Ia r ta) (Z.h7 f ma):=by
 intro ex bs h ρ σ H Q hr re p;refine ha ex bs h ρ σ H _ hr re (p.bind λdx x h1 bs1 H1 e1 rx p1=> ?_);exact o ex bs1 h1 H1 E x dx Q e1.hr rx p1
theorem ar:SA C E iJ Z.af:=λex bs h ρ σ H Q hr re p=>Post.now hr p (by simp only[RVs])
theorem ao(ha:SE C E ta ma)(hl:SA C E tl ml):SA C E (EZ ta tl) (Z.ag ma ml):=by
 intro ex bs h ρ σ H Q hr re p;refine ha ex bs h ρ σ H _ hr re (p.bind λdx x h1 bs1 H1 e1 rx p1=> ?_);refine hl ex bs1 h1 ρ σ H1 _ e1.hr (re.ev e1) (p1.bind λdy y h2 bs2 H2 e2 ry p2=> ?_);exact Post.now e2.hr p2 (by simp only[RVs];exact⟨rx.ev e2,ry⟩)
theorem aR{r:List V->Hp->VK->Prop}{f:List Z.D->Z.MH->Z.Res Z.D}(o:SL C r f)(hl:SA C E tl ml):SE C E (Di r tl) (Z.bB f ml):=by
 intro ex bs h ρ σ H Q hr re p;refine hl ex bs h ρ σ H _ hr re (p.bind λdx x h1 bs1 H1 e1 rx p1=> ?_);exact o ex bs1 h1 H1 E x dx Q e1.hr rx p1
theorem RVs.len:∀{ds:List Z.D} {vs:List V},RVs C bs G vs ds->vs.length=ds.length
 | [],[],_=>rfl
 | d::ds,v::vs,h=>by simp only[RVs]at h;simp[RVs.len h.2]
 | [],_::_,h=>by simp only[RVs]at h
 | _::_,[],h=>by simp only[RVs]at h
theorem Ev.alloc(hr:HR C ex bs h H)(hp:H p=none):Ev C ex bs h H bs h (aQ H p o)/\gh ex bs h (aQ H p o) p=some o:=by
 have nx:p∉ex:=λm=>hr.domx p m hp;have nb:p∉bs:=λm=>hr.dom p m hp;have nl:¬lv bs h p:=λ⟨k,c,e,_⟩=>nb (ql e);have ne:∀{a},H a≠none->a≠p:=fun{a} q e=>q (by rw[e];exact hp);have sm:Same (gh ex bs h H) (gh ex bs h (aQ H p o)):=λa u e=>by
  obtain⟨h1,h2,h3⟩:=du.mp e;exact du.mpr ⟨h1,h2,by rw[aW (ne (by rw[h3];exact λz=>nomatch z))];exact h3⟩
 refine⟨⟨λ_ _ e=>e,⟨hr.len,hr.inj,hr.sep,λa m=> ?_,λa m=> ?_,λk a c e1 e2=> ?_⟩,sm,λa m=> ?_⟩,du.mpr ⟨nx,nl,df⟩⟩
 ·rw[aW (ne (hr.dom a m))];exact hr.dom a m
 ·rw[aW (ne (hr.domx a m))];exact hr.domx a m
 ·exact(hr.cell k a c e1 e2).mono (λ_ _ e=>e) sm (by rw[aW (ne (hr.dom a (ql e1)))])
 ·rw[aW (ne (hr.domx a m))]
theorem dW(hl:SA C E tl ml):SE C E (Aq tl) (Z.a_ ml):=by
 intro ex bs h ρ σ H Q hr re p;refine hl ex bs h ρ σ H _ hr re (p.bind λds xs h1 bs1 H1 e1 rx p1=> ?_);obtain⟨hz,p1⟩:=p1.chk;refine⟨by rw[rx.len];exact hz,λa ha=> ?_⟩;obtain⟨e2,g⟩:=Ev.alloc (o:=.tup xs) e1.hr ha;exact p1 (.ref a) bs1 _ e2 (by simp only[RV];exact⟨a,xs,rfl,g,rx.ev e2⟩)
noncomputable def jdf(C:Ct)(ex:List Addr)(E:XK)(bs:List Addr)(h:Z.MH)(H:Hp)(r:Z.Res (List Z.D))(Q:VK):Prop:=match r with
 | .ok ds h'=>∀p vs bs' H1,Ev C ex bs h H bs' h' H1->H1 p=none->RVs C bs' (gh ex bs' h' H1) vs ds->Q (.ref p) (aQ H1 p (.lst vs))
 | .exc c h'=>∀bs' H',Ev C ex bs h H bs' h' H'->E (.ref (C.cm c)) none H'
 | .stuck=>False
noncomputable def SN(C:Ct)(E:XK)(t:TE)(m:Z.ML):Prop:=
 ∀(ex bs:List Addr) (h:Z.MH) (ρ:Z.Ro) (σ:St) (H:Hp) (Q:VK),HR C ex bs h H->RE C bs (gh ex bs h H) ρ σ->jdf C ex E bs h H (m ρ h) Q->t σ H Q
theorem jdf.from(e:Ev C ex bs h H bs1 h1 H1)(p:jdf C ex E bs h H r Q):jdf C ex E bs1 h1 H1 r Q:=by
 cases r with
 | ok a h'=>exact λb vs bs' H' e' hn q=>p b vs bs' H' (e.trans e') hn q
 | exc c h'=>exact λbs' H' e'=>p bs' H' (e.trans e')
 | stuck=>exact p
theorem jdf.bind{f:α->Z.MH->Z.Res (List Z.D)}{Q1:β->Hp->Prop}(p:jdf C ex E bs h H (r.bind f) Q)
  (k:∀a b h1 bs1 H1,Ev C ex bs h H bs1 h1 H1->R1 bs1 (gh ex bs1 h1 H1) b a->jdf C ex E bs1 h1 H1 (f a h1) Q->Q1 b H1):Post C ex E bs h H R1 r Q1:=by
 cases r with
 | ok a h'=>exact λb bs' H' e' q=>k a b h' bs' H' e' q (jdf.from e' p)
 | exc c h'=>exact p
 | stuck=>exact p
theorem jdf.chk{c:Prop}[Decidable c]{r:Z.Res (List Z.D)}{Q:VK}(p:jdf C ex E bs h H (Z.chk c r) Q):c/\jdf C ex E bs h H r Q:=by
 unfold Z.chk at p;by_cases q:c
 ·rw[if_pos q]at p;exact⟨q,p⟩
 ·rw[if_neg q]at p;exact p.elim
theorem jdf.now(hr:HR C ex bs h H)(q:jdf C ex E bs h H (.ok ds h) Q)(hp:H p=none)(r:RVs C bs (gh ex bs h H) vs ds):Q (.ref p) (aQ H p (.lst vs)):=q p vs bs H (Ev.refl hr) hp r
theorem cf(hn:SN C E t m):SE C E t (Z.bw m):=by
 intro ex bs h ρ σ H Q hr re p;refine hn ex bs h ρ σ H Q hr re ?_;unfold Z.bw at p;cases e:m ρ h with
 | ok ds h1=>
  rw[e]at p;intro a vs bs1 H1 e1 ha rv;obtain⟨e2,g⟩:=Ev.alloc (o:=.lst vs) e1.hr ha;exact p (.ref a) bs1 _ (e1.trans e2) (by simp only[RV];exact⟨a,vs,rfl,g,rv.ev e2⟩)
 | exc c h1=>rw[e]at p;exact p
 | stuck=>rw[e]at p;exact p
theorem Mm{α:Type}{l:List α}{a x:α}{k:Nat}(e:l[k]?=some a):(l++[x])[k]?=some a:=by
 rw[za (q8.mp e).1];exact e
theorem nJ{α:Type}{l:List α}{a x:α}(e:(l++[x])[k]?=some a):l[k]?=some a\/(k=l.length/\a=x):=by
 by_cases hk:k<l.length
 ·rw[za hk]at e;exact .inl e
 ·rw[zo (by omega)]at e
  by_cases hk2:k=l.length
  ·subst hk2;simp at e;exact .inr ⟨rfl,e.symm⟩
  ·rw[wv (by simp;omega)]at e;cases e
theorem Ev.cell(hr:HR C ex bs h H)(hp:H p=none)(hc:jf3 C bs (gh ex bs h H) (aQ H p o) p c):Ev C ex bs h H (bs++[p]) (h++[some c]) (aQ H p o):=by
 have nx:p∉ex:=λm=>hr.domx p m hp;have nb:p∉bs:=λm=>hr.dom p m hp;have ne:∀{a},H a≠none->a≠p:=fun{a} q e=>q (by rw[e];exact hp);have hb:∀(k:Nat) (a:Addr),bs[k]?=some a->(bs++[p])[k]?=some a:=λk a e=>Mm e;have lvs:∀a,lv (bs++[p]) (h++[some c]) a->lv bs h a\/a=p:=λa ⟨k,c',e1,e2,l2⟩=>by
  rcases nJ e1 with e1|⟨_,e1⟩
  ·rcases nJ e2 with e2|⟨e2,_⟩
   ·exact .inl ⟨k,c',e1,e2,l2⟩
   ·have:=(q8.mp e1).1
    have:=hr.len;omega
  ·exact .inr e1
 have sm:Same (gh ex bs h H) (gh ex (bs++[p]) (h++[some c]) (aQ H p o)):=λa u e=>by
  obtain⟨h1,h2,h3⟩:=du.mp e;have na:a≠p:=ne (by rw[h3];exact λz=>nomatch z);refine du.mpr ⟨h1,λl=> ?_,by rw[aW na];exact h3⟩;rcases lvs a l with l|l
  ·exact h2 l
  ·exact na l
 refine⟨hb,⟨by simp[hr.len],λi j a e1 e2=> ?_,λa m=> ?_,λa m=> ?_,λa m=> ?_,λk a c' e1 e2=> ?_⟩,sm,λa m=> ?_⟩
 ·rcases nJ e1 with e1|⟨k1,e1⟩
  ·rcases nJ e2 with e2|⟨k2,e2⟩
   ·exact hr.inj i j a e1 e2
   ·rw[e2]at e1;exact absurd (ql e1) nb
  ·rcases nJ e2 with e2|⟨k2,e2⟩
   ·rw[e1]at e2;exact absurd (ql e2) nb
   ·omega
 ·intro z
  rcases zi.mp z with z|z
  ·exact hr.sep a m z
  ·exact nx (by rw[<-(show a=p by simpa using z)];exact m)
 ·rcases zi.mp m with m|m
  ·rw[aW (ne (hr.dom a m))];exact hr.dom a m
  ·rw[show a=p by simpa using m,df];exact λz=>nomatch z
 ·rw[aW (ne (hr.domx a m))];exact hr.domx a m
 ·rcases nJ e1 with e1|⟨k1,e1⟩
  ·rcases nJ e2 with e2|⟨k2,e2⟩
   ·exact(hr.cell k a c' e1 e2).mono hb sm (by rw[aW (ne (hr.dom a (ql e1)))])
   ·have:=(q8.mp e1).1
    have:=hr.len;omega
  ·rcases nJ e2 with e2|⟨k2,e2⟩
   ·have:=(q8.mp e2).1
    have:=hr.len;omega
   ·rw[e1]
    injection e2 with e2;subst e2;exact hc.mono hb sm rfl
 ·rw[aW (ne (hr.domx a m))]
theorem Ey(hn:SN C E t m):SE C E t (Z.lW m):=by
 intro ex bs h ρ σ H Q hr re p;refine hn ex bs h ρ σ H Q hr re ?_;unfold Z.lW at p;cases e:m ρ h with
 | ok ds h1=>
  rw[e]at p;intro a vs bs1 H1 e1 ha rv;have e2:=Ev.cell (o:=.lst vs) (c:=.lst ds) e1.hr ha ⟨vs,df,rv⟩;refine p (.ref a) (bs1++[a]) _ (e1.trans e2) ?_;simp only[RV];exact⟨a,rfl,by rw[<-e1.hr.len];simp⟩
 | exc c h1=>rw[e]at p;exact p
 | stuck=>rw[e]at p;exact p
theorem dN(hl:SA C E tl ml):SN C E (zJ tl) (Z.cJ ml):=by
 intro ex bs h ρ σ H Q hr re p;refine hl ex bs h ρ σ H _ hr re (jdf.bind p λds xs h1 bs1 H1 e1 rx p1=> ?_);obtain⟨hz,p1⟩:=p1.chk;exact⟨by rw[rx.len];exact hz,λa ha=>p1.now e1.hr ha rx⟩
theorem Iy(hk:bs[k]?=some a)(h0:h[k]?=some (some c0))(l1:c.live=true)(l0:c0.live=true):lv bs (h.set k (some c)) x↔lv bs h x:=by
 constructor
 ·rintro⟨j,c',e1,e2,l2⟩
  by_cases hj:k=j
  ·subst hj;exact⟨k,c0,e1,h0,l0⟩
  ·rw[qe hj]at e2;exact⟨j,c',e1,e2,l2⟩
 ·rintro⟨j,c',e1,e2,l2⟩
  by_cases hj:k=j
  ·subst hj;exact⟨k,c,e1,by rw[qg (q8.mp h0).1],l1⟩
  ·exact⟨j,c',e1,by rw[qe hj];exact e2,l2⟩
theorem Ev.put{k:Nat}{a:Addr}{o:HO}{c c0:Z.Cell}(hr:HR C ex bs h H)(hk:bs[k]?=some a)(h0:h[k]?=some (some c0))(hc:jf3 C bs (gh ex bs h H) (aQ H a o) a c)(l1:c.live=true:=by rfl)(l0:c0.live=true:=by rfl):
  Ev C ex bs h H bs (h.set k (some c)) (aQ H a o):=by
 have la:lv bs h a:=⟨k,c0,hk,h0,l0⟩;have ab:a∈bs:=ql hk;have ge:gh ex bs (h.set k (some c)) (aQ H a o)=gh ex bs h H:=by
  funext x;unfold gh;by_cases q:x∈ex\/lv bs h x
  ·rw[if_pos q,if_pos (q.imp id (Iy hk h0 l1 l0).mpr)]
  ·rw[if_neg q,if_neg (λz=>q (z.imp id (Iy hk h0 l1 l0).mp)),aW (λz=>q (.inr (by rw[z];exact la)))]
 have na:∀{x},x∈ex->x≠a:=fun{x} m z=>hr.sep x m (by rw[z];exact ab);refine⟨λ_ _ e=>e,⟨by simp[hr.len],hr.inj,hr.sep,λx m=> ?_,λx m=> ?_,λj x c' e1 e2=> ?_⟩,by rw[ge];exact Same.refl _,λx m=>by rw[aW (na m)]⟩
 ·by_cases q:x=a
  ·rw[q,df];exact λz=>nomatch z
  ·rw[aW q];exact hr.dom x m
 ·rw[aW (na m)];exact hr.domx x m
 ·rw[ge]
  by_cases hj:k=j
  ·subst hj
   rw[hk]at e1;cases e1;rw[qg (q8.mp h0).1]at e2;cases e2;exact hc
  ·rw[qe hj]at e2
   refine(hr.cell j x c' e1 e2).mono (λ_ _ e=>e) (Same.refl _) ?_;rw[aW (λz=>hj (hr.inj k j a hk (by rw[<-z];exact e1)))]
theorem Ev.freeze(hr:HR C ex bs h H)(hk:bs[k]?=some a)(h0:h[k]?=some (some (.lst ds))):
  Ev C ex bs h H bs (h.set k none) H/\RV C bs (gh ex bs (h.set k none) H) (.ref a) (.lst ds):=by
 have ab:a∈bs:=ql hk;have lvs:∀x,lv bs (h.set k none) x->lv bs h x/\x≠a:=λx ⟨j,c',e1,e2,l2⟩=>by
  by_cases hj:k=j
  ·subst hj;rw[qg (q8.mp h0).1]at e2;cases e2
  ·rw[qe hj]at e2
   exact⟨⟨j,c',e1,e2,l2⟩,λz=>hj (hr.inj k j a hk (by rw[<-z];exact e1))⟩
 have sm:Same (gh ex bs h H) (gh ex bs (h.set k none) H):=λx u e=>by
  obtain⟨h1,h2,h3⟩:=du.mp e;exact du.mpr ⟨h1,λl=>h2 (lvs x l).1,h3⟩
 obtain⟨vs,h1,h2⟩:=hr.cell k a _ hk h0;refine⟨⟨λ_ _ e=>e,⟨by simp[hr.len],hr.inj,hr.sep,hr.dom,hr.domx,λj x c' e1 e2=> ?_⟩,sm,λ_ _=>rfl⟩,?_⟩
 ·by_cases hj:k=j
  ·subst hj;rw[qg (q8.mp h0).1]at e2;cases e2
  ·rw[qe hj]at e2
   exact(hr.cell j x c' e1 e2).mono (λ_ _ e=>e) sm rfl
 ·simp only[RV]
  exact⟨a,vs,rfl,du.mpr ⟨λm=>hr.sep a m ab,λl=>(lvs a l).2 rfl,h1⟩,h2.mono (λ_ _ e=>e) sm⟩
noncomputable def bq(C:Ct)(z:Z.MF):Sp:=λvs H Q E=>∃ex bs h ds,HR C ex bs h H/\RVs C bs (gh ex bs h H) vs ds/\Post C ex E bs h H (RV C) (z ds h) Q
theorem bI(hl:SA C E tl ml):SE C E (DX (bq C z) [] E tl) (Z.aV z ml):=by
 intro ex bs h ρ σ H Q hr re p;refine hl ex bs h ρ σ H _ hr re (p.bind λds xs h1 bs1 H1 e1 rx p1=> ?_);exact⟨ex,bs1,h1,ds,e1.hr,by rw[zx];exact rx,p1⟩
theorem Fh(h0:SE C E t m):ST C E (tB t) (Z.tB m):=by
 intro ex bs h ρ σ H Q hr re p;refine h0 ex bs h ρ σ H _ hr re (p.bind λd x h1 bs1 H1 e1 rx p1=> ?_);cases d with
 | bl b=>simp only[RV]at rx;exact⟨b,rx,Post.now e1.hr p1 rfl⟩
 | _=>exact p1.elim
theorem bT(h0:SE C E t m):ST C E (FI t) (Z.tB m):=Fh h0
theorem Dt(ht:ST C E t m)(hu:ST C E u n):ST C E (eS t u) (Z.eS m n):=by
 intro ex bs h ρ σ H Q hr re p;refine ht ex bs h ρ σ H _ hr re (p.bind λc b h1 bs1 H1 e1 rx p1=> ?_);cases rx;cases c with
 | true=>exact hu ex bs1 h1 ρ σ H1 Q e1.hr (re.ev e1) p1
 | false=>exact Post.now e1.hr p1 rfl
theorem oF(ht:ST C E t m)(hu:ST C E u n):ST C E (ug t u) (Z.ug m n):=by
 intro ex bs h ρ σ H Q hr re p;refine ht ex bs h ρ σ H _ hr re (p.bind λc b h1 bs1 H1 e1 rx p1=> ?_);cases rx;cases c with
 | false=>exact hu ex bs1 h1 ρ σ H1 Q e1.hr (re.ev e1) p1
 | true=>exact Post.now e1.hr p1 rfl
theorem gR(ht:ST C E t m):ST C E (cq t) (Z.cq m):=by
 intro ex bs h ρ σ H Q hr re p;refine ht ex bs h ρ σ H _ hr re (p.bind λc b h1 bs1 H1 e1 rx p1=> ?_);cases rx;exact Post.now e1.hr p1 rfl
theorem Fp(hc:ST C E c mc)(ht:SE C E t m)(hu:SE C E u n):SE C E (Jv c t u) (Z.Kt mc m n):=by
 intro ex bs h ρ σ H Q hr re p;refine hc ex bs h ρ σ H _ hr re (p.bind λc b h1 bs1 H1 e1 rx p1=> ?_);cases rx;cases c with
 | true=>exact ht ex bs1 h1 ρ σ H1 Q e1.hr (re.ev e1) p1
 | false=>exact hu ex bs1 h1 ρ σ H1 Q e1.hr (re.ev e1) p1
theorem G3(ht:SE C E t m)(hu:SE C E u n):SE C E (oA t u) (Z.hG m n):=by
 intro ex bs h ρ σ H Q hr re p;refine ht ex bs h ρ σ H _ hr re (p.bind λd x h1 bs1 H1 e1 rx p1=> ?_);cases d with
 | bl b=>
  simp only[RV]at rx;refine⟨b,rx,?_⟩;cases b with
  | true=>exact hu ex bs1 h1 ρ σ H1 Q e1.hr (re.ev e1) p1
  | false=>exact Post.now e1.hr p1 (by simp only[RV])
 | _=>exact p1.elim
theorem wD(ht:SE C E t m)(hu:SE C E u n):SE C E (xt t u) (Z.J8 m n):=by
 intro ex bs h ρ σ H Q hr re p;refine ht ex bs h ρ σ H _ hr re (p.bind λd x h1 bs1 H1 e1 rx p1=> ?_);cases d with
 | bl b=>
  simp only[RV]at rx;refine⟨b,rx,?_⟩;cases b with
  | false=>exact hu ex bs1 h1 ρ σ H1 Q e1.hr (re.ev e1) p1
  | true=>exact Post.now e1.hr p1 (by simp only[RV])
 | _=>exact p1.elim
theorem CZ(o:S2 C r f)(o':S2 C r' g)(ha:SE C E ta ma)(hb:SE C E tb mb)(hc:SE C E tc mc):SE C E (Iw r r' ta tb tc) (Z.lU f g ma mb mc):=by
 intro ex bs h ρ σ H Q hr re p;refine ha ex bs h ρ σ H _ hr re (p.bind λdx x h1 bs1 H1 e1 rx p1=> ?_);refine hb ex bs1 h1 ρ σ H1 _ e1.hr (re.ev e1) (p1.bind λdy y h2 bs2 H2 e2 ry p2=> ?_);refine o ex bs2 h2 H2 E x y dx dy _ e2.hr (rx.ev e2) ry (p2.bind λdz z h3 bs3 H3 e3 rz p3=> ?_);cases dz with
 | bl k=>
  simp only[RV]at rz;refine⟨k,rz,?_⟩;cases k with
  | false=>exact Post.now e3.hr p3 (by simp only[RV])
  | true=>
   refine hc ex bs3 h3 ρ σ H3 _ e3.hr ((re.ev e1).ev (e2.trans e3)) (p3.bind λdw w' h4 bs4 H4 e4 rw' p4=> ?_);exact o' ex bs4 h4 H4 E y w' dy dw Q e4.hr ((ry.ev e3).ev e4) rw' p4
 | _=>exact p3.elim
end
end L2
namespace L2
open PySem PySem.Spec
section
variable {C : Ct} {ex bs bs1 bs2 : List Addr} {h h1 h2 : Z.MH} {H H1 H2 : Hp} {E : XK} {α β : Type} {R1 : List Addr -> Hp -> β -> α -> Prop}
noncomputable def jeo(C:Ct)(ex:List Addr)(E:XK)(bs:List Addr)(h:Z.MH)(H:Hp)(r:Z.RS)(D:Ends):Prop:=match r with
 | .nx ρ' h'=>∀σ' bs' H',Ev C ex bs h H bs' h' H'->RE C bs' (gh ex bs' h' H') ρ' σ'->D.nx σ' H'
 | .rt d h'=>∀v bs' H',Ev C ex bs h H bs' h' H'->RV C bs' (gh ex bs' h' H') v d->D.rt v H'
 | .bk ρ' h'=>∀σ' bs' H',Ev C ex bs h H bs' h' H'->RE C bs' (gh ex bs' h' H') ρ' σ'->D.bk σ' H'
 | .ct ρ' h'=>∀σ' bs' H',Ev C ex bs h H bs' h' H'->RE C bs' (gh ex bs' h' H') ρ' σ'->D.ct σ' H'
 | .exc c h'=>∀bs' H',Ev C ex bs h H bs' h' H'->E (.ref (C.cm c)) none H'
 | .stuck=>False
noncomputable def SS(C:Ct)(E:XK)(t:TS)(m:Z.MS):Prop:=
 ∀(ex bs:List Addr) (h:Z.MH) (ρ:Z.Ro) (σ:St) (H:Hp) (D:Ends),HR C ex bs h H->RE C bs (gh ex bs h H) ρ σ->jeo C ex E bs h H (m ρ h) D->t D σ H
theorem jeo.from(e:Ev C ex bs h H bs1 h1 H1)(p:jeo C ex E bs h H r D):jeo C ex E bs1 h1 H1 r D:=by
 cases r with
 | nx ρ h'=>exact λb bs' H' e' q=>p b bs' H' (e.trans e') q
 | rt d h'=>exact λb bs' H' e' q=>p b bs' H' (e.trans e') q
 | bk ρ h'=>exact λb bs' H' e' q=>p b bs' H' (e.trans e') q
 | ct ρ h'=>exact λb bs' H' e' q=>p b bs' H' (e.trans e') q
 | exc c h'=>exact λbs' H' e'=>p bs' H' (e.trans e')
 | stuck=>exact p
theorem jeo.bind{f:α->Z.MH->Z.RS}{Q1:β->Hp->Prop}(p:jeo C ex E bs h H (r.toS f) D)
  (k:∀a b h1 bs1 H1,Ev C ex bs h H bs1 h1 H1->R1 bs1 (gh ex bs1 h1 H1) b a->jeo C ex E bs1 h1 H1 (f a h1) D->Q1 b H1):Post C ex E bs h H R1 r Q1:=by
 cases r with
 | ok a h'=>exact λb bs' H' e' q=>k a b h' bs' H' e' q (jeo.from e' p)
 | exc c h'=>exact p
 | stuck=>exact p
theorem bO:SS C E DP Z.bz:=λex bs h ρ σ H D hr re p=>p σ bs H (Ev.refl hr) re
theorem aE(ht:SS C E t m)(hu:SS C E u n):SS C E (xZ t u) (Z.aj m n):=by
 intro ex bs h ρ σ H D hr re p;refine ht ex bs h ρ σ H _ hr re ?_;unfold Z.aj at p;cases e:m ρ h with
 | nx ρ1 h1=>rw[e]at p;exact λσ1 bs1 H1 e1 re1=>hu ex bs1 h1 ρ1 σ1 H1 D e1.hr re1 (p.from e1)
 | rt d h1=>rw[e]at p;exact p
 | bk ρ1 h1=>rw[e]at p;exact p
 | ct ρ1 h1=>rw[e]at p;exact p
 | exc c h1=>rw[e]at p;exact p
 | stuck=>rw[e]at p;exact p
theorem bG(hc:ST C E c mc)(ht:SS C E t m)(hu:SS C E u n):SS C E (Cy c t u) (Z.bh mc m n):=by
 intro ex bs h ρ σ H D hr re p;refine hc ex bs h ρ σ H _ hr re (p.bind λc b h1 bs1 H1 e1 rx p1=> ?_);cases rx;cases c with
 | true=>exact ht ex bs1 h1 ρ σ H1 D e1.hr (re.ev e1) p1
 | false=>exact hu ex bs1 h1 ρ σ H1 D e1.hr (re.ev e1) p1
theorem aY(ht:SE C E t m):SS C E (BR t) (Z.au m):=by
 intro ex bs h ρ σ H D hr re p;exact ht ex bs h ρ σ H _ hr re (p.bind λd x h1 bs1 H1 e1 rx p1=>p1 x bs1 H1 (Ev.refl e1.hr) rx)
theorem jy(ht:SE C E t m):SS C E (Fl t) (Z.jf m):=by
 intro ex bs h ρ σ H D hr re p;exact ht ex bs h ρ σ H _ hr re (p.bind λd x h1 bs1 H1 e1 rx p1=>p1 σ bs1 H1 (Ev.refl e1.hr) (re.ev e1))
noncomputable def SG(C:Ct)(E:XK)(g:TG)(m:Z.MG):Prop:=
 ∀(ex bs:List Addr) (h:Z.MH) (ρ:Z.Ro) (σ:St) (H:Hp) (v:V) (d:Z.D) (D:Ends),HR C ex bs h H->RE C bs (gh ex bs h H) ρ σ->RV C bs (gh ex bs h H) v d->jeo C ex E bs h H (m d ρ h) D->g v σ H D.nx
theorem bU(ht:SE C E t m)(hg:SG C E g mg):SS C E (yV t g) (Z.aw m mg):=by
 intro ex bs h ρ σ H D hr re p;exact ht ex bs h ρ σ H _ hr re (p.bind λd x h1 bs1 H1 e1 rx p1=>hg ex bs1 h1 ρ σ H1 x d D e1.hr (re.ev e1) rx p1)
theorem bf:SG C E (ay i) (Z.ay i):=λex bs h ρ σ H v d D hr re rv p=>p _ bs H (Ev.refl hr) (re.set rv)
theorem xM(ht:SE C E t m):SS C E (λD σ H=>t σ H λx H1=>D.nx (σ.set i (some x)) H1) (Z.aw m (Z.ay i)):=bU (g:=ay i) ht bf
noncomputable def DE(C:Ct)(E:XK)(g:jZ)(is:List Nat):Prop:=
 ∀(ex bs:List Addr) (h:Z.MH) (ρ:Z.Ro) (σ:St) (H:Hp) (vs:List V) (ds:List Z.D) (D:Ends),HR C ex bs h H->RE C bs (gh ex bs h H) ρ σ->RVs C bs (gh ex bs h H) vs ds->jeo C ex E bs h H (Z.DQ is ds ρ h) D->g vs σ H D.nx/\vs.length=is.length
theorem Ga:DE C E pB []:=by
 intro ex bs h ρ σ H vs ds D hr re rv p;cases ds with
 | nil=>
  cases vs with
  | nil=>exact⟨⟨rfl,p σ bs H (Ev.refl hr) re⟩,rfl⟩
  | cons _ _=>simp only[RVs]at rv
 | cons d ds=>exact p.elim
theorem uL(hg:DE C E g is):DE C E (Hm (ay i) g) (i::is):=by
 intro ex bs h ρ σ H vs ds D hr re rv p;cases ds with
 | nil=>exact p.elim
 | cons d ds=>
  cases vs with
  | nil=>simp only[RVs]at rv
  | cons v vs=>
   simp only[RVs]at rv;have:=hg ex bs h (ρ.set i (some d)) (σ.set i (some v)) H vs ds D hr (re.set rv.1) rv.2 p;exact⟨⟨v,vs,rfl,this.1⟩,by simp[this.2]⟩
theorem EJ(hn:n=is.length)(hg:DE C E g is):SG C E (jI C.K n g) (Z.dO is):=by
 intro ex bs h ρ σ H v d D hr re rv p;cases d with
 | tup ds=>
  simp only[RV]at rv;obtain⟨a,vs,rfl,ga,rs⟩:=rv;have:=hg ex bs h ρ σ H vs ds D hr re rs p;exact⟨a,vs,rfl,.inl (SqT.of (cn _ _ ga)),by rw[hn];exact this.2,this.1⟩
 | lst ds=>
  simp only[RV]at rv;obtain⟨a,vs,rfl,ga,rs⟩:=rv;have:=hg ex bs h ρ σ H vs ds D hr re rs p;exact⟨a,vs,rfl,.inr (SqL.of (cn _ _ ga)),by rw[hn];exact this.2,this.1⟩
 | _=>exact p.elim
theorem RVs.append{G:Hp}:∀{ds es:List Z.D} {vs ws:List V},RVs C bs G vs ds->RVs C bs G ws es->RVs C bs G (vs++ws) (ds++es)
 | [],es,[],ws,_,k=>k
 | d::ds,es,v::vs,ws,h,k=>by
  simp only[RVs,gn]at h ⊢;exact⟨h.1,RVs.append h.2 k⟩
 | [],_,_::_,_,h,_=>by simp only[RVs]at h
 | _::_,_,[],_,h,_=>by simp only[RVs]at h
theorem RVs.one(q:RV C bs G v d):RVs C bs G [v] [d]:=by simp only[RVs];exact⟨q,trivial⟩
theorem RVs.get{G:Hp}:∀{ds:List Z.D} {vs:List V} {i:Nat} {d:Z.D},RVs C bs G vs ds->ds[i]?=some d->∃v,vs[i]?=some v/\RV C bs G v d
 | [],_,i,d,_,e=>by simp at e
 | d::ds,v::vs,0,d',h,e=>by
  simp only[RVs]at h;simp at e;subst e;exact⟨v,rfl,h.1⟩
 | d::ds,v::vs,i+1,d',h,e=>by
  simp only[RVs]at h;obtain⟨u,h1,h2⟩:=RVs.get (i:=i) (d:=d') h.2 (by simpa using e);exact⟨u,by simpa using h1,h2⟩
 | _::_,[],_,_,h,_=>by simp only[RVs]at h
theorem RVs.drop:∀{ds:List Z.D} {vs:List V} (n:Nat),RVs C bs G vs ds->RVs C bs G (vs.drop n) (ds.drop n)
 | _,_,0,h=>h
 | [],[],n+1,h=>h
 | d::ds,v::vs,n+1,h=>by
  simp only[RVs]at h;simpa using RVs.drop n h.2
 | [],_::_,_+1,h=>by simp only[RVs]at h
 | _::_,[],_+1,h=>by simp only[RVs]at h
theorem RVs.take:∀{ds:List Z.D} {vs:List V} (n:Nat),RVs C bs G vs ds->RVs C bs G (vs.take n) (ds.take n)
 | _,_,0,_=>by simp[RVs]
 | [],[],n+1,h=>by simp[RVs]
 | d::ds,v::vs,n+1,h=>by
  simp only[RVs]at h;simp only[List.take_succ_cons,RVs];exact⟨h.1,RVs.take n h.2⟩
 | [],_::_,_+1,h=>by simp only[RVs]at h
 | _::_,[],_+1,h=>by simp only[RVs]at h
theorem Mz(ho:SE C E to mo)(he:SE C E te me):SS C E (Fl (uz C.K "list" JU to (EZ te iJ))) (Z.KA mo me):=by
 intro ex bs h ρ σ H D hr re p;refine ho ex bs h ρ σ H _ hr re (p.bind λo x h1 bs1 H1 e1 rx p1=> ?_);cases o with
 | ref k=>
  simp only[RV]at rx;obtain⟨a,rfl,hk⟩:=rx;dsimp only at p1;split at p1
  ·rename_i xs0 hc0
   obtain⟨vs0,ha0,_⟩:=e1.hr.cell k a _ hk hc0;refine⟨.inl ⟨rfl,vs0,SqL.of ha0⟩,?_⟩;refine he ex bs1 h1 ρ σ H1 _ e1.hr (re.ev e1) (p1.bind λd y h2 bs2 H2 e2 ry p2=> ?_);split at p2
   ·rename_i xs hc
    split at p2
    ·rename_i hz
     obtain⟨vs,ha,rs⟩:=e2.hr.cell k a _ (e2.pre k a hk) hc;refine⟨a,vs,y,rfl,rfl,ha,by rw[rs.len];exact hz,?_⟩;have e3:=Ev.put (o:=.lst (vs++[y])) (c:=.lst (xs++[d])) e2.hr (e2.pre k a hk) hc ⟨_,df,rs.append (.one ry)⟩;exact p2 σ bs2 _ e3 (((re.ev e1).ev e2).ev e3)
    ·exact p2.elim
   ·exact p2.elim
  ·exact p1.elim
 | _=>exact p1.elim
theorem Ml(ht:SS C E t m):SS C E t (Z.EA i m):=by
 intro ex bs h ρ σ H D hr re p;unfold Z.EA at p;split at p
 ·rename_i k hk
  split at p
  ·rename_i xs hc
   obtain⟨v,hv,rv⟩:=re.2 i _ hk;simp only[RV]at rv;obtain⟨a,rfl,ha⟩:=rv;obtain⟨e1,r1⟩:=Ev.freeze hr ha hc;refine ht ex bs (h.set k none) (ρ.set i (some (.lst xs))) σ H D e1.hr ?_ (p.from e1);have r2:=(re.ev e1).set (i:=i) r1;have:σ.set i (some (.ref a))=σ:=List.ext_getElem? λj=>by
    by_cases hj:i=j
    ·subst hj;rw[qg (q8.mp hv).1,hv]
    ·rw[qe hj]
   rw[this]at r2;exact r2
  ·exact p.elim
 ·exact p.elim
end
section
variable {C : Ct} {ex bs bs1 bs2 : List Addr} {h h1 h2 : Z.MH} {H H1 H2 : Hp} {E : XK}
noncomputable def ItOk(C:Ct)(bs:List Addr)(G:Hp)(J:It)(s:Option Nat×List Z.D):Prop:=
 ∀(ex2 bs2:List Addr) (h2:Z.MH) (H2:Hp),HR C ex2 bs2 h2 H2->(∀(k:Nat) (a:Addr),bs[k]?=some a->bs2[k]?=some a)->Same G (gh ex2 bs2 h2 H2)->Z.sf s.1 s.2 h2->∀i:Nat,
  (∀d,s.2[i]?=some d->J.go i H2/\∀x H3,J.yld i H2 x H3->Ev C ex2 bs2 h2 H2 bs2 h2 H3/\RV C bs2 (gh ex2 bs2 h2 H3) x d)/\(s.2.length<=i->J.stop i H2)
noncomputable abbrev SI(C:Ct)(E:XK)(t:TI)(m:Z.MI):Prop:=uM C E (ItOk C) t m
theorem J4(hg:SG C E g mg)(hb:SS C E tb mb)(hr:HR C ex bs1 h1 H1)(re:RE C bs1 (gh ex bs1 h1 H1) ρ σ)(it:ItOk C bs1 (gh ex bs1 h1 H1) J (gd,items))(p1:jeo C ex E bs1 h1 H1 (Z.i_ gd items mg mb items ρ h1) D):
  ∃W:Nat->Nat->St->Hp->Prop,(∃m,W 0 m σ H1)/\∀i m σ H,W i m σ H->(J.stop i H/\D.nx σ H)\/(J.go i H/\∃N:St->Hp->Prop,(∀σ' H',N σ' H'->∃m',m'<m/\W (i+1) m' σ' H')/\∀x H',J.yld i H x H'->g x σ H' λσ2 H2=>tb {D with nx:=N,ct:=N,bk:=D.nx} σ2 H2):=by
 have lo:∀(i:Nat) (hl:i<items.length),items.drop i=items[i]::items.drop (i+1):=λi hl=>k9 hl;refine⟨λi m σ' H'=>m=items.length - i/\i<=items.length/\∃ρ' bs' h',Ev C ex bs1 h1 H1 bs' h' H'/\RE C bs' (gh ex bs' h' H') ρ' σ'/\jeo C ex E bs' h' H' (Z.i_ gd items mg mb (items.drop i) ρ' h') D,
  ⟨items.length,by simp,qx _,ρ,bs1,h1,Ev.refl hr,re,p1⟩,?_⟩
 rintro i m σ' H' ⟨rfl,hle,ρ',bs',h',ev,re',p'⟩;by_cases hlt:i<items.length
 ·rw[lo i hlt]at p'
  unfold Z.i_ at p';split at p'
  case isFalse=>exact p'.elim
  rename_i okg;obtain⟨go,yl⟩:=(it ex bs' h' H' ev.hr ev.pre ev.same okg i).1 items[i] (qt hlt);refine .inr ⟨go,λσ2 H2=>∃m',m'<items.length - i/\(m'=items.length - (i+1)/\i+1<=items.length/\∃ρ' bs' h',Ev C ex bs1 h1 H1 bs' h' H2/\RE C bs' (gh ex bs' h' H2) ρ' σ2/\jeo C ex E bs' h' H2 (Z.i_ gd items mg mb (items.drop (i+1)) ρ' h') D),λ_ _ q=>q,λx H3 y=> ?_⟩;obtain⟨ev3,rx⟩:=yl x H3 y;have p3:=p'.from ev3;refine hg ex bs' h' ρ' σ' H3 x items[i] ⟨_,λ_ _=>False,λ_ _=>False,λ_ _=>False⟩ ev3.hr (re'.ev ev3) rx ?_;cases e:mg items[i] ρ' h' with
  | nx ρ1 h1'=>
   rw[e]at p3;intro σ2 bs2 H2 ev2 re2;refine hb ex bs2 h1' ρ1 σ2 H2 _ ev2.hr re2 ?_;have p4:=p3.from ev2;have ev4:=(ev.trans ev3).trans ev2;cases e5:mb ρ1 h1' with
   | nx ρ2 h2'=>
    dsimp only at p4;rw[e5]at p4;exact λσ5 bs5 H5 ev5 re5=>⟨_,by omega,rfl,hlt,ρ2,bs5,h2',ev4.trans ev5,re5,p4.from ev5⟩
   | ct ρ2 h2'=>
    dsimp only at p4;rw[e5]at p4;exact λσ5 bs5 H5 ev5 re5=>⟨_,by omega,rfl,hlt,ρ2,bs5,h2',ev4.trans ev5,re5,p4.from ev5⟩
   | bk ρ2 h2'=>dsimp only at p4;rw[e5]at p4;exact p4
   | rt d h2'=>dsimp only at p4;rw[e5]at p4;exact p4
   | exc c h2'=>dsimp only at p4;rw[e5]at p4;exact p4
   | stuck=>dsimp only at p4;rw[e5]at p4;exact p4
  | rt _ _=>rw[e]at p3;exact p3.elim
  | bk _ _=>rw[e]at p3;exact p3.elim
  | ct _ _=>rw[e]at p3;exact p3.elim
  | exc _ _=>rw[e]at p3;exact p3.elim
  | stuck=>rw[e]at p3;exact p3.elim
 ·have ei:i=items.length:=by omega
  subst ei;rw[List.drop_length]at p';unfold Z.i_ at p';split at p'
  case isFalse=>exact p'.elim
  rename_i okg;exact .inl ⟨(it ex bs' h' H' ev.hr ev.pre ev.same okg items.length).2 (qb _),p' σ' bs' H' (Ev.refl ev.hr) re'⟩
theorem nC(hi:SI C E wi l)(hg:SG C E g mg)(hb:SS C E tb mb):SS C E (pW wi g tb) (Z.dt l mg mb):=by
 intro ex bs h ρ σ H D hr re p;refine hi ex bs h ρ σ H _ hr re (p.bind λsrc J h1 bs1 H1 e1 it p1=> ?_);obtain⟨gd,items⟩:=src;dsimp only at p1;exact J4 hg hb e1.hr (re.ev e1) it p1
theorem Oh(hc:ST C E c mc)(hb:SS C E tb mb):SS C E (Jm c tb) (Z.fI mc mb):=by
 intro ex bs h ρ σ H D hr re p;have ns:Z.fI mc mb ρ h≠ .stuck:=λz=>by rw[z]at p;exact p
 obtain⟨n,en⟩:=Z.FG ns;rw[<-en]at p;refine⟨λm σ' H'=>∃ρ' bs' h',HR C ex bs' h' H'/\RE C bs' (gh ex bs' h' H') ρ' σ'/\jeo C ex E bs' h' H' (Z.eD mc mb m ρ' h') D,⟨n,ρ,bs,h,hr,re,p⟩,?_⟩;rintro m σ' H' ⟨ρ',bs',h',hr',re',p'⟩;cases m with
 | zero=>exact p'.elim
 | succ m=>
  unfold Z.eD at p';refine hc ex bs' h' ρ' σ' H' _ hr' re' ?_;cases e:mc ρ' h' with
  | exc x h1=>rw[e]at p';exact p'
  | stuck=>rw[e]at p';exact p'
  | ok b h1=>
   rw[e]at p';rintro b' bs1 H1 e1 rfl;have p1:=p'.from e1;cases b' with
   | false=>exact p1 σ' bs1 H1 (Ev.refl e1.hr) (re'.ev e1)
   | true=>
    dsimp only at p1;refine⟨λσ2 H2=>∃m',m'<m+1/\∃ρ' bs' h',HR C ex bs' h' H2/\RE C bs' (gh ex bs' h' H2) ρ' σ2/\jeo C ex E bs' h' H2 (Z.eD mc mb m' ρ' h') D,λ_ _ q=>q,?_⟩;refine hb ex bs1 h1 ρ' σ' H1 _ e1.hr (re'.ev e1) ?_;cases e5:mb ρ' h1 with
    | nx ρ2 h2=>rw[e5]at p1;exact λσ5 bs5 H5 ev5 re5=>⟨m,by omega,ρ2,bs5,h2,ev5.hr,re5,p1.from ev5⟩
    | ct ρ2 h2=>rw[e5]at p1;exact λσ5 bs5 H5 ev5 re5=>⟨m,by omega,ρ2,bs5,h2,ev5.hr,re5,p1.from ev5⟩
    | bk ρ2 h2=>rw[e5]at p1;exact p1
    | rt d h2=>rw[e5]at p1;exact p1
    | exc c h2=>rw[e5]at p1;exact p1
    | stuck=>rw[e5]at p1;exact p1
noncomputable def hid(l:Addr)(H:Hp):Hp:=λb=>if b=l then none else H b
theorem oP(n:b≠l):hid l H b=H b:=if_neg n
theorem Df:gh ex bs h (hid l H)=gh (l::ex) bs h H:=by
 funext x;unfold gh;by_cases q:x∈ex\/lv bs h x
 ·rw[if_pos q,if_pos (q.imp (q9 _) id)]
 ·by_cases e:x=l
  ·subst e
   rw[if_neg q,if_pos (.inl (qf ..))];exact if_pos rfl
  ·rw[if_neg q,oP e,if_neg]
   rintro(z|z)
   ·rcases qr.mp z with z|z
    ·exact e z
    ·exact q (.inl z)
   ·exact q (.inr z)
theorem HR.hid(hl:l∉ex)(r:HR C (l::ex) bs h H):HR C ex bs h (hid l H):=by
 have lb:l∉bs:=r.sep l (qf ..);have nb:∀{a},a∈bs->a≠l:=fun{a} m z=>lb (by rw[<-z];exact m);refine⟨r.len,r.inj,λa m=>r.sep a (q9 _ m),λa m=> ?_,λa m=> ?_,λk a c e1 e2=> ?_⟩
 ·rw[oP (nb m)];exact r.dom a m
 ·rw[oP (λz=>hl (by rw[<-z];exact m))];exact r.domx a (q9 _ m)
 ·rw[Df]
  exact(r.cell k a c e1 e2).mono (λ_ _ e=>e) (Same.refl _) (by rw[oP (nb (ql e1))])
theorem Iq(hl:H l=none):gh (l::ex) bs h (aQ H l o)=gh ex bs h H:=by
 rw[<-Df];have:hid l (aQ H l o)=H:=by
  funext x;unfold hid;by_cases e:x=l
  ·rw[if_pos e,e,hl]
  ·rw[if_neg e,aW e]
 rw[this]
theorem HR.show(hl:H l=none)(r:HR C ex bs h H):HR C (l::ex) bs h (aQ H l o):=by
 have lb:l∉bs:=λm=>r.dom l m hl;have lx:l∉ex:=λm=>r.domx l m hl;have nb:∀{a},a∈bs->a≠l:=fun{a} m z=>lb (by rw[<-z];exact m);refine⟨r.len,r.inj,λa m=> ?_,λa m=> ?_,λa m=> ?_,λk a c e1 e2=> ?_⟩
 ·rcases qr.mp m with m|m
  ·rw[m];exact lb
  ·exact r.sep a m
 ·rw[aW (nb m)];exact r.dom a m
 ·rcases qr.mp m with m|m
  ·rw[m,df];exact λz=>nomatch z
  ·rw[aW (λz=>lx (by rw[<-z];exact m))];exact r.domx a m
 ·rw[Iq hl]
  exact(r.cell k a c e1 e2).mono (λ_ _ e=>e) (Same.refl _) (by rw[aW (nb (ql e1))])
theorem Gk:gh (l::ex) bs h (aQ H l o)=gh (l::ex) bs h H:=by
 funext x;unfold gh;by_cases q:x∈l::ex\/lv bs h x
 ·rw[if_pos q,if_pos q]
 ·rw[if_neg q,if_neg q,aW (λz=>q (.inl (by rw[z];exact qf ..)))]
theorem HR.exput(r:HR C (l::ex) bs h H):HR C (l::ex) bs h (aQ H l o):=by
 have lb:l∉bs:=r.sep l (qf ..);have nb:∀{a},a∈bs->a≠l:=fun{a} m z=>lb (by rw[<-z];exact m);refine⟨r.len,r.inj,r.sep,λa m=> ?_,λa m=> ?_,λk a c e1 e2=> ?_⟩
 ·rw[aW (nb m)];exact r.dom a m
 ·by_cases e:a=l
  ·rw[e,df];exact λz=>nomatch z
  ·rw[aW e];exact r.domx a m
 ·rw[Gk]
  exact(r.cell k a c e1 e2).mono (λ_ _ e=>e) (Same.refl _) (by rw[aW (nb (ql e1))])
theorem RE.mono(hb:∀(k:Nat) (a:Addr),bs[k]?=some a->bs'[k]?=some a)(hs:Same G G')(r:RE C bs G ρ σ):RE C bs' G' ρ σ:=
 ⟨r.1,λi d q=>by obtain⟨v,h1,h2⟩:=r.2 i d q;exact⟨v,h1,h2.mono hb hs⟩⟩
theorem RE.caps(nt:Nat)(idx:List Nat)(r:RE C bs G ρ σ):RE C bs G (List.replicate nt none++Z.caps idx ρ) (List.replicate nt none++jj idx σ):=by
 refine⟨by simp[Z.caps,jj],λi d hi=> ?_⟩;by_cases hn:i<nt
 ·rw[za (by simpa using hn),wa]at hi
  simp[hn]at hi
 ·rw[zo (by simp;omega)]at hi ⊢
  simp only[kh]at hi ⊢;unfold Z.caps at hi;unfold jj;rw[zb]at hi ⊢;cases e:idx[i - nt]? with
  | none=>rw[e]at hi;cases hi
  | some j=>
   rw[e]at hi;simp only[ke,Option.some.injEq]at hi ⊢;cases e2:ρ[j]? with
   | none=>rw[e2]at hi;cases hi
   | some z=>
    rw[e2]at hi;simp only[Option.getD_some]at hi;subst hi;obtain⟨v,h1,h2⟩:=r.2 j d e2;exact⟨v,by rw[h1];rfl,h2⟩
theorem KR(q:Option Nat)(all:List Z.D)(g:Z.MG)(t:Z.MT)(m:Z.ME)(ρ0:Z.Ro):∀(ds:List Z.D) (h:Z.MH) (c:String) (h':Z.MH),Z.gM q all g t m ρ0 ds h≠ .exc c h'
 | [],h,c,h'=>by unfold Z.gM;split<;>exact λz=>nomatch z
 | d::ds,h,c,h'=>by
  unfold Z.gM;split
  case isFalse=>exact λz=>nomatch z
  split
  ·split
   ·split
    ·split
     ·exact λz=>nomatch z
     ·exact λz=>nomatch z
    ·exact λz=>nomatch z
   ·exact KR q all g t m ρ0 ds _ c h'
   ·exact λz=>nomatch z
  ·exact λz=>nomatch z
theorem Lv{mt:Z.MT}(hg:SG C E0 g mg)(ht:ST C E0 tc mt)(he:SE C E0 te me)(hr:HR C ex bs1 h1 H1)(re:RE C bs1 (gh ex bs1 h1 H1) ρ σ)(it:ItOk C bs1 (gh ex bs1 h1 H1) J (gd,items))(hz:items.length<16777216)
  (p1:jdf C ex E bs1 h1 H1 (Z.gM gd items mg mt me (List.replicate nt none++Z.caps idx ρ) items h1) Q):∀l,H1 l=none->
 ∃W:Nat->Nat->List V->Hp->Prop,(∃m,W 0 m [] (aQ H1 l (.lst [])))/\∀i m ys H2,W i m ys H2->H2 l=some (.lst ys)/\ys.length<sizeLine/\
  ((J.stop i H2/\Q (.ref l) H2)\/(J.go i H2/\∀x H3,J.yld i H2 x H3->g x (List.replicate nt none++jj idx σ) H3 λσ4 H4=>tc σ4 H4 λc H5=>
   if c=true then te σ4 H5 λy H6=>H6 l=some (.lst ys)/\∃m',m'<m/\W (i+1) m' (ys++[y]) (aQ H6 l (.lst (ys++[y])))else ∃m',m'<m/\W (i+1) m' ys H5)):=by
 intro a ha;have hax:a∉ex:=λm=>hr.domx a m ha;cases ec:Z.gM gd items mg mt me (List.replicate nt none++Z.caps idx ρ) items h1 with
 | exc _ _=>
  exact absurd ec (KR _ _ _ _ _ _ items h1 _ _)
 | stuck=>rw[ec]at p1;exact p1.elim
 | ok all hf=>
  rw[ec]at p1;have lo:∀(i:Nat) (hl:i<items.length),items.drop i=items[i]::items.drop (i+1):=λi hl=>k9 hl;refine⟨λi m ys H2=>m=items.length - i/\i<=items.length/\∃bs' h' dys rest,HR C (a::ex) bs' h' H2/\(∀(k:Nat) (b:Addr),bs1[k]?=some b->bs'[k]?=some b)/\Same (gh ex bs1 h1 H1) (gh (a::ex) bs' h' H2)/\(∀b∈ex,H2 b=H1 b)/\
    H2 a=some (.lst ys)/\RVs C bs' (gh (a::ex) bs' h' H2) ys dys/\ys.length<=i/\Z.gM gd items mg mt me (List.replicate nt none++Z.caps idx ρ) (items.drop i) h'=.ok rest hf/\dys++rest=all,
   ⟨items.length,by simp,qx _,bs1,h1,[],all,hr.show ha,λ_ _ e=>e,by rw[Iq ha];exact Same.refl _,λb m=>by rw[aW (λz=>hax (by rw[<-z];exact m))],df,by simp only[RVs],qx _,ec,rfl⟩,?_⟩
  rintro i m ys H2 ⟨rfl,hle,bs',h',dys,rest,hr',pre,sm,exs,hl,rv,hy,er,eall⟩;refine⟨hl,by have:sizeLine=16777216:=rfl;omega,?_⟩;by_cases hlt:i<items.length
  ·rw[lo i hlt]at er
   unfold Z.gM at er;split at er
   case isFalse=>cases er
   rename_i okg;obtain⟨go,yl⟩:=(it (a::ex) bs' h' H2 hr' pre sm okg i).1 items[i] (qt hlt);refine .inr ⟨go,λx H3 y=> ?_⟩;obtain⟨ev3,rx⟩:=yl x H3 y;have re0:=(((re.mono pre sm).ev ev3).caps nt idx);refine hg (a::ex) bs' h' _ _ H3 x items[i] ⟨_,λ_ _=>False,λ_ _=>False,λ_ _=>False⟩ ev3.hr re0 rx ?_;cases e:mg items[i] (List.replicate nt none++Z.caps idx ρ) h' with
   | nx ρ1 h1'=>
    rw[e]at er;dsimp only at er;intro σ4 bs4 H4 ev4 re4;refine ht (a::ex) bs4 h1' ρ1 σ4 H4 _ ev4.hr re4 ?_;cases e5:mt ρ1 h1' with
    | exc _ _=>rw[e5]at er;cases er
    | stuck=>rw[e5]at er;cases er
    | ok c h5=>
     rw[e5]at er;rintro c' bs5 H5 ev5 rfl;cases c' with
     | false=>
      dsimp only at er;have ev:=(ev3.trans ev4).trans ev5;exact⟨_,by omega,rfl,hlt,bs5,h5,dys,rest,ev5.hr,λk b q=>ev.pre k b (pre k b q),sm.trans ev.same,λb m=>(ev.exs b (q9 _ m)).trans (exs b m),
       (ev.exs a (qf ..)).trans hl,rv.ev ev,by omega,er,eall⟩
     | true=>
      dsimp only at er;refine he (a::ex) bs5 h5 ρ1 σ4 H5 _ ev5.hr (re4.ev ev5) ?_;cases e6:me ρ1 h5 with
      | exc _ _=>rw[e6]at er;cases er
      | stuck=>rw[e6]at er;cases er
      | ok d h6=>
       rw[e6]at er;dsimp only at er;intro v bs6 H6 ev6 rv6;have ev:=((ev3.trans ev4).trans ev5).trans ev6;have hl6:=(ev.exs a (qf ..)).trans hl;refine⟨hl6,?_⟩;cases e7:Z.gM gd items mg mt me (List.replicate nt none++Z.caps idx ρ) (items.drop (i+1)) h6 with
       | exc _ _=>rw[e7]at er;cases er
       | stuck=>rw[e7]at er;cases er
       | ok rest' hf'=>
        rw[e7]at er;dsimp only at er;cases er;refine⟨_,by omega,rfl,hlt,bs6,h6,dys++[d],rest',ev6.hr.exput,λk b q=>ev.pre k b (pre k b q),by rw[Gk];exact sm.trans ev.same,λb m=> ?_,df,?_,by simp;omega,e7,by simpa using eall⟩
        ·rw[aW (λz=>hax (by rw[<-z];exact m))]
         exact(ev.exs b (q9 _ m)).trans (exs b m)
        ·rw[Gk];exact(rv.ev ev).append (.one rv6)
   | rt _ _=>rw[e]at er;cases er
   | bk _ _=>rw[e]at er;cases er
   | ct _ _=>rw[e]at er;cases er
   | exc _ _=>rw[e]at er;cases er
   | stuck=>rw[e]at er;cases er
  ·have ei:i=items.length:=by omega
   subst ei;rw[List.drop_length]at er;unfold Z.gM at er;split at er
   case isFalse=>cases er
   rename_i okg;cases er;rw[zx]at eall;subst eall;refine .inl ⟨(it (a::ex) bs' _ H2 hr' pre sm okg items.length).2 (qb _),?_⟩;have q:=p1 a ys bs' (hid a H2) ⟨pre,hr'.hid hax,by rw[Df];exact sm,λb m=>by rw[oP (λz=>hax (by rw[<-z];exact m))];exact exs b m⟩ (if_pos rfl) (by rw[Df];exact rv);have eq:aQ (hid a H2) a (.lst ys)=H2:=by
    funext x;by_cases e:x=a
    ·rw[e,df,hl]
    ·rw[aW e,oP e]
   rw[eq]at q;exact q
theorem dR{mt:Z.MT}(hi:SI C E wi l)(hg:SG C E0 g mg)(ht:ST C E0 tc mt)(he:SE C E0 te me):
  SN C E (GO nt idx wi g tc te) (Z.cC nt idx l mg mt me):=by
 intro ex bs h ρ σ H Q hr re p;refine hi ex bs h ρ σ H _ hr re (jdf.bind p λsrc J h1 bs1 H1 e1 it p1=> ?_);obtain⟨gd,items⟩:=src;obtain⟨hz,p1⟩:=p1.chk;dsimp only at hz p1;exact Lv hg ht he e1.hr (re.ev e1) it hz p1
end
end L2
namespace L2
open PySem PySem.Spec PyProof.Rows
section
variable {C : Ct} {ex bs bs1 bs2 : List Addr} {h h1 h2 : Z.MH} {H H1 H2 : Hp} {E : XK}
theorem uI{α:Type}{l:List α}{a:α}(e:(l.take n)[k]?=some a):l[k]?=some a/\k<n:=by
 rw[List.getElem?_take]at e;by_cases hk:k<n
 ·rw[if_pos hk]at e;exact⟨e,hk⟩
 ·rw[if_neg hk]at e;cases e
theorem KP{α:Type}{l:List α}{a:α}(e:l[k]?=some a)(hk:k<n):(l.take n)[k]?=some a:=by
 rw[List.getElem?_take,if_pos hk];exact e
mutual
theorem RV.bnd{G:Hp}{n:Nat}:∀{d:Z.D} {v:V},RV C bs G v d->Z.D.bnd n d=true->RV C (bs.take n) G v d
 | .non,v,h,_=>by simp only[RV]at h ⊢;exact h
 | .bl b,v,h,_=>by simp only[RV]at h ⊢;exact h
 | .int i,v,h,_=>by simp only[RV]at h ⊢;exact h
 | .str x,v,h,_=>by simp only[RV]at h ⊢;exact h
 | .tup ds,v,h,q=>by
  simp only[RV]at h ⊢;simp only[Z.D.bnd]at q;obtain⟨a,vs,h1,h2,h3⟩:=h;exact⟨a,vs,h1,h2,RVs.bnd h3 q⟩
 | .lst ds,v,h,q=>by
  simp only[RV]at h ⊢;simp only[Z.D.bnd]at q;obtain⟨a,vs,h1,h2,h3⟩:=h;exact⟨a,vs,h1,h2,RVs.bnd h3 q⟩
 | .arg ns,v,h,_=>by simp only[RV]at h ⊢;exact h
 | .ref k,v,h,q=>by
  simp only[RV]at h ⊢;simp only[Z.D.bnd,decide_eq_true_eq]at q;obtain⟨a,h1,h2⟩:=h;exact⟨a,h1,KP h2 q⟩
 | .ty n,v,h,_=>by simp only[RV]at h ⊢;exact h
 | .cls n,v,h,_=>by simp only[RV]at h ⊢;exact h
 | .exc n,v,h,_=>by simp only[RV]at h ⊢;exact h
 | .obj c fs,v,h,q=>by
  simp only[RV]at h ⊢;simp only[Z.D.bnd]at q;obtain⟨a,dx,fvs,h1,h2,h3⟩:=h;exact⟨a,dx,fvs,h1,h2,RVf.bnd h3 q⟩
 | .dic kvs,v,h,_=>by simp only[RV]at h ⊢;exact h
theorem RVs.bnd{G:Hp}{n:Nat}:∀{ds:List Z.D} {vs:List V},RVs C bs G vs ds->Z.D.bnds n ds=true->RVs C (bs.take n) G vs ds
 | [],[],_,_=>by simp only[RVs]
 | d::ds,v::vs,h,q=>by
  simp only[RVs]at h ⊢;simp only[Z.D.bnds,qu]at q;exact⟨RV.bnd h.1 q.1,RVs.bnd h.2 q.2⟩
 | [],_::_,h,_=>by simp only[RVs]at h
 | _::_,[],h,_=>by simp only[RVs]at h
theorem RVf.bnd{G:Hp}{n:Nat}:∀{ds:List (Str×Z.D)} {vs:List (Str×V)},RVf C bs G vs ds->Z.D.bndf n ds=true->RVf C (bs.take n) G vs ds
  | [],[],_,_=>by simp only[RVf]
  | (y,d)::ds,(x,v)::vs,h,q=>by
    simp only[RVf]at h ⊢;simp only[Z.D.bndf,qu]at q;exact⟨h.1,RV.bnd h.2.1 q.1,RVf.bnd h.2.2 q.2⟩
  | [],_::_,h,_=>by simp only[RVf]at h
  | _::_,[],h,_=>by simp only[RVf]at h
end
theorem Kq:∀(fs:List (Str×Z.D)),Z.D.bndf n fs=Z.D.bnds n (fs.map (·.2))
  | []=>by simp only[Z.D.bndf,zw,Z.D.bnds]
  | (y,d)::fs=>by simp only[Z.D.bndf,List.map_cons,Z.D.bnds,Kq fs]
theorem RVk.bnd{G:Hp}{n:Nat}:∀{ds:List (Sum Int Str×Z.D)} {vs:List (cp×V)},RVk C bs G vs ds->Z.D.bnds n (ds.map (·.2))=true->RVk C (bs.take n) G vs ds
  | [],[],_,_=>by simp only[RVk]
  | (y,d)::ds,(x,v)::vs,h,q=>by
    simp only[RVk]at h ⊢;simp only[List.map_cons,Z.D.bnds,qu]at q;exact⟨h.1,RV.bnd h.2.1 q.1,RVk.bnd h.2.2 q.2⟩
  | [],_::_,h,_=>by simp only[RVk]at h
  | _::_,[],h,_=>by simp only[RVk]at h
theorem jf3.bnd(hc:jf3 C bs G H a c)(q:Z.Cell.bnd n (some c)=true):jf3 C (bs.take n) G H a c:=by
 cases c with
 | lst ds=>obtain⟨vs,h1,h2⟩:=hc;exact⟨vs,h1,h2.bnd q⟩
 | dct kvs=>obtain⟨vs,h1,h2⟩:=hc;exact⟨vs,h1,h2.bnd q⟩
 | ins c fs=>obtain⟨dx,vs,h1,h2⟩:=hc;exact⟨dx,vs,h1,h2.bnd (by rw[Kq];exact q)⟩
 | fdc kvs=>obtain⟨o,vs,h1,h2,h3⟩:=hc;exact⟨o,vs,h1,h2,h3.bnd q⟩
theorem F6(n:Nat):Same (gh ex bs h H) (gh ex (bs.take n) (h.take n) H):=λa o e=>by
 obtain⟨h1,h2,h3⟩:=du.mp e;exact du.mpr ⟨h1,λ⟨k,c,e1,e2,l2⟩=>h2 ⟨k,c,(uI e1).1,(uI e2).1,l2⟩,h3⟩
theorem HR.take(r:HR C ex bs h H)(q:(h.take n).all (Z.Cell.bnd n)=true):HR C ex (bs.take n) (h.take n) H:=by
 refine⟨by simp[r.len],λi j a e1 e2=>r.inj i j a (uI e1).1 (uI e2).1,λa m z=>r.sep a m (kr z),λa m=>r.dom a (kr m),r.domx,λk a c e1 e2=> ?_⟩;have hc:=r.cell k a c (uI e1).1 (uI e2).1;have qc:Z.Cell.bnd n (some c)=true:=List.all_eq_true.mp q _ (ql e2);exact(hc.bnd qc).mono (λ_ _ e=>e) (F6 n) rfl
theorem Ev.take(hr:HR C ex bs h H)(e:Ev C ex bs h H bs' h' H')(q:(h'.take h.length).all (Z.Cell.bnd h.length)=true):Ev C ex bs h H (bs'.take h.length) (h'.take h.length) H':=
 ⟨λk a z=>KP (e.pre k a z) (by rw[<-hr.len];exact(q8.mp z).1),e.hr.take q,e.same.trans (F6 _),e.exs⟩
theorem JN{Q:VK}(hr:HR C ex bs h H)(p:Post C ex E bs h H (RV C) (Z.fin h.length d h') Q)(e:Ev C ex bs h H bs' h' H')(rv:RV C bs' (gh ex bs' h' H') v d):Q v H':=by
 unfold Z.fin at p;split at p
 ·exact p v bs' H' e rv
 ·split at p
  ·rename_i q
   rw[qu]at q;exact p v _ H' (e.take hr q.2) ((rv.bnd q.1).mono (λ_ _ e=>e) (F6 _))
  ·exact p v bs' H' e rv
theorem RE.start(r:RVs C bs G vs ds)(hn:ds.length<=N.length):RE C bs G (ds.map some++List.replicate (N.length - ds.length) none) (L2.start N vs):=by
 have hl:=r.len;unfold L2.start;refine⟨by simp[hl],λi d hi=> ?_⟩;by_cases hlt:i<ds.length
 ·rw[za (by simpa using hlt),zb]at hi
  rw[za (by simp;omega),zb];cases e:ds[i]? with
  | none=>rw[e]at hi;cases hi
  | some z=>
   rw[e]at hi;simp at hi;subst hi;obtain⟨v,h1,h2⟩:=r.get e;exact⟨v,by rw[h1];rfl,h2⟩
 ·rw[zo (by simp;omega),wa]at hi
  split at hi<;>cases hi
theorem PN{K:W.Frag}{mg:Str->Option Value}{st:Stmt}(F:Fun K x qual st f fd)(S:FnScope N ps (bj st))
  (hz:z=Z.az np nn b) (hp:ps.length=np) (hn:N.length=nn) (hle:np<=nn)
  (hb:∀(cdv:Value) (A:Around) (outer:List Env) (s:Shared) (H:Hp) (E:XK),Room k (A.deeper (envOfC qual (bj st) s.heap.objs.size f cdv))->
   ∃t,PSs (bD (CXE P w) P w K mg base N qual (bj st) f cdv A outer s H E) (i9 st) t/\SS C E t b):FnOk P w K mg base (CXE P w) (k+1) f fd ps (bq C z):=by
 subst hz;refine F.okE S (λvs H Q E q=> ?_) λcdv A outer s H vs Q E hr q=> ?_
 ·obtain⟨ex,bs,h,ds,hr,rv,p⟩:=q
  unfold Z.az at p;split at p
  ·rename_i hd;rw[rv.len,hd,hp]
  ·exact p.elim
 ·obtain⟨ex,bs,h,ds,hr',rv,p⟩:=q
  obtain⟨t,hps,hss⟩:=hb cdv A outer s H E hr;refine⟨t,hps,?_⟩;unfold Z.az at p;split at p
  ·rename_i hd
   refine hss ex bs h (ds.map some++List.replicate (nn - ds.length) none) (L2.start N vs) H _ hr' (by rw[<-hn];exact RE.start rv (by omega)) ?_;cases e:b (ds.map some++List.replicate (nn - ds.length) none) h with
   | nx ρ' h'=>rw[e]at p;exact λσ' bs' H' ev re=>JN hr' p ev (by simp only[RV])
   | rt d h'=>rw[e]at p;exact λv bs' H' ev rv=>JN hr' p ev rv
   | exc c h'=>
    rw[e]at p;intro bs' H' ev;dsimp only at p;split at p
    ·exact p bs' H' ev
    ·split at p
     ·rename_i q;exact p _ H' (ev.take hr' q)
     ·exact p bs' H' ev
   | bk _ _=>rw[e]at p;exact p.elim
   | ct _ _=>rw[e]at p;exact p.elim
   | stuck=>rw[e]at p;exact p.elim
  ·exact p.elim
theorem uT(hr:HR C ex bs h H)(r:RV C bs (gh ex bs h H) v d)(e:Z.eE h d=some xs):∃a vs,v=.ref a/\(SqL C.K H a vs\/SqT C.K H a vs)/\RVs C bs (gh ex bs h H) vs xs:=by
 cases d with
 | lst ds=>
  simp only[RV]at r;obtain⟨a,vs,rfl,ga,rs⟩:=r;cases e;exact⟨a,vs,rfl,.inl (SqL.of (cn _ _ ga)),rs⟩
 | tup ds=>
  simp only[RV]at r;obtain⟨a,vs,rfl,ga,rs⟩:=r;cases e;exact⟨a,vs,rfl,.inr (SqT.of (cn _ _ ga)),rs⟩
 | arg ns=>
  simp only[RV]at r;obtain⟨a,rfl,ga⟩:=r;cases e;refine⟨a,_,rfl,.inl (cn.sql ga),?_⟩;clear ga hr
  induction ns with
  | nil=>simp only[zw,RVs]
  | cons n ns ih=>simp only[List.map_cons,RVs,RV];exact⟨trivial,ih⟩
 | ref k=>
  simp only[RV]at r;obtain⟨a,rfl,hk⟩:=r;simp only[Z.eE]at e;split at e
  ·rename_i ys hc
   cases e
   obtain⟨vs,ha,rs⟩:=hr.cell k a _ hk hc;exact⟨a,vs,rfl,.inl (SqL.of ha),rs⟩
  ·cases e
 | _=>cases e
theorem ItOk.list(hq:SqL C.K G a vs)(r:RVs C bs G vs ds):ItOk C bs G (EU C.K a) (none,ds):=by
 intro ex2 bs2 h2 H2 hr pre sm _ i;have hq2:SqL C.K H2 a vs:=(sm.trans cn).sql hq;refine⟨λd e=> ?_,λhle=>⟨vs,hq2,by rw[r.len];exact hle⟩⟩;obtain⟨v,hv,rv⟩:=r.get e;refine⟨⟨vs,v,hq2,hv⟩,λx H3 y=> ?_⟩;obtain⟨rfl,y⟩:=y;have:=y vs hq2;rw[hv]at this;cases this;exact⟨Ev.refl hr,rv.mono pre sm⟩
theorem Same.sqt{K:W.Frag}(e:Same H H')(h:SqT K H a xs):SqT K H' a xs:=by
 rcases h with(h|⟨o,h⟩)|h
 ·exact .inl (.inl (e _ _ h))
 ·exact .inl (.inr ⟨o,e _ _ h⟩)
 ·exact .inr h
theorem ItOk.tup(hq:SqT C.K G a vs)(r:RVs C bs G vs ds):ItOk C bs G (Ff C.K a) (none,ds):=by
 intro ex2 bs2 h2 H2 hr pre sm _ i;have hq2:SqT C.K H2 a vs:=(sm.trans cn).sqt hq;refine⟨λd e=> ?_,λhle=>⟨vs,hq2,by rw[r.len];exact hle⟩⟩;obtain⟨v,hv,rv⟩:=r.get e;refine⟨⟨vs,v,hq2,hv⟩,λx H3 y=> ?_⟩;obtain⟨rfl,y⟩:=y;have:=y vs hq2;rw[hv]at this;cases this;exact⟨Ev.refl hr,rv.mono pre sm⟩
theorem ItOk.rng{lo:Int}:ItOk C bs G (Dl lo n) (none,Z.rng lo n):=by
 intro ex2 bs2 h2 H2 hr pre sm _ i;unfold Z.rng;refine⟨λd e=> ?_,λhle=>by show n<=i;simpa using hle⟩;rw[zb]at e;cases e2:(List.range n)[i]? with
 | none=>rw[e2]at e;cases e
 | some j=>
  rw[e2]at e;simp at e;subst e;obtain⟨hi,hj⟩:=q8.mp e2;simp at hi hj;subst hj;refine⟨hi,λx H3 y=> ?_⟩;obtain⟨rfl,rfl⟩:=y;exact⟨Ev.refl hr,by simp only[RV]⟩
theorem cz(ht:SE C E t m):SI C E (iV C.K t) (Z.cE m):=by
 intro ex bs h ρ σ H Q hr re p;refine ht ex bs h ρ σ H _ hr re (p.bind λd x h1 bs1 H1 e1 rx p1=> ?_);cases d with
 | lst ds=>
  simp only[RV]at rx;obtain⟨a,vs,rfl,ga,rs⟩:=rx;exact .inl ⟨a,rfl,.inl ⟨⟨vs,SqL.of (cn _ _ ga)⟩,Post.now e1.hr p1 (.list (SqL.of ga) rs)⟩⟩
 | tup ds=>
  simp only[RV]at rx;obtain⟨a,vs,rfl,ga,rs⟩:=rx;exact .inl ⟨a,rfl,.inr ⟨⟨vs,SqT.of (cn _ _ ga)⟩,Post.now e1.hr p1 (.tup (SqT.of ga) rs)⟩⟩
 | arg ns=>
  have:=uT e1.hr rx (xs:=ns.map .int) rfl;simp only[RV]at rx;obtain⟨a,rfl,ga⟩:=rx;refine .inl ⟨a,rfl,.inl ⟨⟨_,cn.sql ga⟩,Post.now e1.hr p1 (.list ga ?_)⟩⟩;clear this ga p1 p
  induction ns with
  | nil=>simp only[zw,RVs]
  | cons n ns ih=>simp only[List.map_cons,RVs,RV];exact⟨trivial,ih⟩
 | str z=>
  simp only[RV]at rx;subst rx;refine .inr ⟨z,rfl,Post.now e1.hr p1 ?_⟩;intro ex2 bs2 h2 H2 hr pre sm _ i;refine⟨λd e=> ?_,λhle=>by show z.length<=i;simpa [Str.length]using hle⟩;rw[zb]at e;cases e2:z.cps.toList[i]? with
  | none=>rw[e2]at e;cases e
  | some c=>
   rw[e2]at e;simp at e;subst e;have hi:=(q8.mp e2).1;refine⟨by show i<z.length;simpa [Str.length]using hi,λx H3 y=> ?_⟩;obtain⟨rfl,c',hc,rfl⟩:=y;have:z.cps[i]?=some c:=by simpa using e2
   rw[this]at hc;cases hc;exact⟨Ev.refl hr,by simp only[RV]⟩
 | ref k=>
  simp only[RV]at rx;obtain⟨a,rfl,hk⟩:=rx;dsimp only at p1;split at p1
  ·rename_i xs hc
   obtain⟨vs,ha,rs⟩:=e1.hr.cell k a _ hk hc;refine .inl ⟨a,rfl,.inl ⟨⟨vs,SqL.of ha⟩,Post.now e1.hr p1 ?_⟩⟩;intro ex2 bs2 h2 H2 hr pre sm okg i;obtain⟨ws,ha2,rs2⟩:=hr.cell k a _ (pre k a hk) okg;refine⟨λd e=> ?_,λhle=>⟨ws,SqL.of ha2,by rw[rs2.len];exact hle⟩⟩;obtain⟨v,hv,rv⟩:=rs2.get e;refine⟨⟨ws,v,SqL.of ha2,hv⟩,λx H3 y=> ?_⟩;obtain⟨rfl,y⟩:=y;have:=y ws (SqL.of ha2);rw[hv]at this;cases this;exact⟨Ev.refl hr,rv⟩
  ·exact p1.elim
 | _=>exact p1.elim
theorem ot(ht:SA C E t m):SI C E (nW t) (Z.eP m):=by
 intro ex bs h ρ σ H Q hr re p;refine ht ex bs h ρ σ H _ hr re (p.bind λds xs h1 bs1 H1 e1 rx p1=> ?_);split at p1
 ·rename_i j
  obtain⟨hj,p1⟩:=p1.chk;cases xs with
  | nil=>simp only[RVs]at rx
  | cons v vs=>
   cases vs with
   | cons _ _=>simp only[RVs]at rx;exact rx.2.elim
   | nil=>
    simp only[RVs,RV]at rx;rw[rx.1];exact⟨j,rfl,by omega,by omega,Post.now e1.hr p1 .rng⟩
 ·exact p1.elim
end
section
variable {C : Ct} {ex bs bs1 bs2 : List Addr} {h h1 h2 : Z.MH} {H H1 H2 : Hp} {E : XK}
theorem Em{f:Int->Int->Int}:S2 C (eU λi j=>.int (f i j)) (Z.gB f):=by
 intro ex bs h H E x y dx dy Q hr rx ry p;unfold Z.gB at p;split at p
 ·simp only[RV]at rx ry
  exact⟨_,_,rx,ry,p.now hr (by simp only[RV])⟩
 ·exact p.elim
theorem xr{c c':Int->Int->Prop}[∀i j,Decidable (c i j)]{f:Int->Int->Int}(hc:∀i j,c i j->c' i j):S2 C (rI c' λi j=>.int (f i j)) (Z.oN c f):=by
 intro ex bs h H E x y dx dy Q hr rx ry p;unfold Z.oN at p;split at p
 ·obtain⟨q,p⟩:=p.chk
  simp only[RV]at rx ry;exact⟨_,_,rx,ry,hc _ _ q,p.now hr (by simp only[RV])⟩
 ·exact p.elim
theorem Dd{f:Int->Int->Bool}:S2 C (eU λi j=>.bl (f i j)) (Z.iI f):=by
 intro ex bs h H E x y dx dy Q hr rx ry p;unfold Z.iI at p;split at p
 ·simp only[RV]at rx ry
  exact⟨_,_,rx,ry,p.now hr (by simp only[RV])⟩
 ·exact p.elim
theorem Aw:S2 C (eU λi j=>.int (i - j)) Z.fZ:=Em
theorem fV:S2 C (eU λi j=>.int (Builtin.bitAnd i j)) Z.bN:=Em
theorem mL:S2 C (eU λi j=>.int (Builtin.bitOr i j)) Z.fw:=Em
theorem pD:S2 C (eU λi j=>.int (Builtin.bitXor i j)) Z.yN:=Em
theorem h9:S2 C (rI AK λi j=>.int (i / j)) Z.bP:=xr λ_ _ q=>q
theorem dG:S2 C (rI (λ_ j=>0<j) λi j=>.int (i % j)) Z.aT:=xr λ_ _ q=>q
theorem I_(q:Z.lV i j):iK i j:=by unfold Z.lV at q;unfold iK;exact⟨q.1,q.2.1,by have:=q.2.2;omega⟩
theorem Oa(q:Z.kJ i j):CMul i j:=by unfold Z.kJ at q;unfold CMul;omega
theorem sO:S2 C (rI iK λi j=>.int (i^j.toNat)) Z.jV:=xr λ_ _ q=>I_ q
theorem gy:S2 C (rI iK λi j=>.int (i*2^j.toNat)) Z.bp:=xr λ_ _ q=>I_ q
theorem uW:S2 C (rI (λ_ j=>0<=j) λi j=>.int (i / 2^j.toNat)) Z.dr:=xr λ_ _ q=>q
theorem CB:S2 C (eU λi j=>.bl (decide (i<j))) Z.kX:=Dd
theorem Bg:S2 C (eU λi j=>.bl (decide (i<=j))) Z.uV:=Dd
theorem nH:S2 C (eU λi j=>.bl (decide (j<i))) Z.Cq:=Dd
theorem DN:S2 C (eU λi j=>.bl (decide (j<=i))) Z.je:=Dd
theorem Ib:S1 C (rU λi=>.int (-i)) Z.jD:=by
 intro ex bs h H E x dx Q hr rx p;unfold Z.jD at p;split at p
 ·simp only[RV]at rx;exact⟨_,rx,p.now hr (by simp only[RV])⟩
 ·exact p.elim
theorem zZ:S1 C (rU λi=>.int (Builtin.bitNot i)) Z.dI:=by
 intro ex bs h H E x dx Q hr rx p;unfold Z.dI at p;split at p
 ·simp only[RV]at rx;exact⟨_,rx,p.now hr (by simp only[RV])⟩
 ·exact p.elim
theorem HE(r:RV C bs G v d):decide (v=.non)=Z.lu d:=by
 cases d<;>simp only[RV]at r
 case non=>subst r;rfl
 case bl=>subst r;rfl
 case int=>subst r;rfl
 case str=>subst r;rfl
 case tup=>obtain⟨_,_,rfl,_⟩:=r;rfl
 case lst=>obtain⟨_,_,rfl,_⟩:=r;rfl
 case arg=>obtain⟨_,rfl,_⟩:=r;rfl
 case ref=>obtain⟨_,rfl,_⟩:=r;rfl
 case ty=>subst r;rfl
 case cls=>subst r;rfl
 case exc=>obtain⟨_,_,_,rfl,_⟩:=r;rfl
 case obj=>obtain⟨_,_,_,rfl,_⟩:=r;rfl
 case dic=>obtain⟨_,_,rfl,_⟩:=r;rfl
theorem yz:S2 C (λx y H Q=>(y=.non/\Q (.bl (decide (x=.non))) H)\/∃a b,x=.bl a/\y=.bl b/\Q (.bl ((a==b))) H) Z.ua:=by
 intro ex bs h H E x y dx dy Q hr rx ry p;unfold Z.ua at p;split at p
 ·simp only[RV]at rx ry
  exact .inr ⟨_,_,rx,ry,p.now hr (by simp only[RV])⟩
 ·simp only[RV]at ry
  exact .inl ⟨ry,by rw[HE rx];exact p.now hr (by simp only[RV])⟩
 ·exact p.elim
theorem Jc:S2 C (λx y H Q=>(y=.non/\Q (.bl (!decide (x=.non))) H)\/∃a b,x=.bl a/\y=.bl b/\Q (.bl (!(a==b))) H) Z.C9:=by
 intro ex bs h H E x y dx dy Q hr rx ry p;unfold Z.C9 at p;split at p
 ·simp only[RV]at rx ry
  exact .inr ⟨_,_,rx,ry,p.now hr (by simp only[RV])⟩
 ·simp only[RV]at ry
  exact .inl ⟨ry,by rw[HE rx];exact p.now hr (by simp only[RV])⟩
 ·exact p.elim
theorem lN(hr:HR C ex bs h H)(r:RV C bs (gh ex bs h H) v d)(e:Z.gO h d=some xs):∃a vs,v=.ref a/\H a=some (.lst vs)/\RVs C bs (gh ex bs h H) vs xs:=by
 cases d with
 | lst ds=>
  simp only[RV]at r;obtain⟨a,vs,rfl,ga,rs⟩:=r;cases e;exact⟨a,vs,rfl,cn _ _ ga,rs⟩
 | ref k=>
  simp only[RV]at r;obtain⟨a,rfl,hk⟩:=r;simp only[Z.gO]at e;split at e
  ·rename_i ys hc
   cases e
   obtain⟨vs,ha,rs⟩:=hr.cell k a _ hk hc;exact⟨a,vs,rfl,ha,rs⟩
  ·cases e
 | _=>cases e
theorem Post.tree{Q:VK}(hr:HR C ex bs h H)(q:Post C ex E bs h H (RV C) (.ok (.lst ds) h) Q)(hp:H p=none)(r:RVs C bs (gh ex bs h H) vs ds):Q (.ref p) (aQ H p (.lst vs)):=by
 obtain⟨e2,g⟩:=Ev.alloc (o:=.lst vs) hr hp;exact q (.ref p) bs _ e2 (by simp only[RV];exact⟨p,vs,rfl,g,r.ev e2⟩)
theorem Post.ttup{Q:VK}(hr:HR C ex bs h H)(q:Post C ex E bs h H (RV C) (.ok (.tup ds) h) Q)(hp:H p=none)(r:RVs C bs (gh ex bs h H) vs ds):Q (.ref p) (aQ H p (.tup vs)):=by
 obtain⟨e2,g⟩:=Ev.alloc (o:=.tup vs) hr hp;exact q (.ref p) bs _ e2 (by simp only[RV];exact⟨p,vs,rfl,g,r.ev e2⟩)
theorem dj:S2 C (mD C.K) Z.aU:=by
 intro ex bs h H E x y dx dy Q hr rx ry p;unfold Z.aU at p;split at p
 ·simp only[RV]at rx ry
  subst rx ry;exact p.now hr (by simp only[RV])
 ·obtain⟨q,p⟩:=p.chk
  simp only[RV]at rx ry;subst rx ry;exact⟨q,p.now hr (by simp only[RV])⟩
 ·obtain⟨q,p⟩:=p.chk
  simp only[RV]at rx ry;obtain⟨a,vs,rfl,ga,rs⟩:=rx;obtain⟨b,ws,rfl,gb,qs⟩:=ry;have hl:=rs.len;have hl':=qs.len;refine .inr ⟨a,b,vs,ws,rfl,rfl,SqT.of (cn _ _ ga),SqT.of (cn _ _ gb),λz=>q.1 (kt (by rw[<-hl,z];rfl)),by rw[hl,hl'];exact q.2,λz=> ?_,λ_ l hl=>Post.ttup hr p hl (rs.append qs)⟩;subst z;refine p.now hr ?_;simp only[RV];have:=rs.append qs;rw[zx]at this;exact⟨a,vs,rfl,ga,this⟩
 ·obtain⟨xs,e1,p⟩:=p.oR
  obtain⟨ys,e2,p⟩:=p.oR;obtain⟨q,p⟩:=p.chk;obtain⟨a,vs,rfl,ha,rs⟩:=lN hr rx e1;obtain⟨b,ws,rfl,hb,qs⟩:=lN hr ry e2;exact .inl ⟨a,b,vs,ws,rfl,rfl,ha,hb,by rw[rs.len,qs.len];exact q,λl hl=>Post.tree hr p hl (rs.append qs)⟩
theorem RVs.rep(r:RVs C bs G vs ds):∀n:Nat,RVs C bs G (List.replicate n vs).flatten (List.replicate n ds).flatten
 | 0=>by simp[RVs]
 | n+1=>by
  rw[zt,zt,wg,wg];exact r.append (RVs.rep r n)
theorem xq:S2 C nU Z.dH:=by
 intro ex bs h H E x y dx dy Q hr rx ry p;unfold Z.dH at p;split at p
 ·obtain⟨q,p⟩:=p.chk
  simp only[RV]at rx ry;subst rx ry;exact⟨Oa q,p.now hr (by simp only[RV])⟩
 ·obtain⟨q,p⟩:=p.chk
  simp only[RV]at rx ry;subst rx ry;exact⟨q.1,q.2,p.now hr (by simp only[RV])⟩
 ·obtain⟨xs,e1,p⟩:=p.oR
  obtain⟨q,p⟩:=p.chk;obtain⟨a,vs,rfl,ha,rs⟩:=lN hr rx e1;simp only[RV]at ry;subst ry;exact⟨a,_,vs,rfl,rfl,ha,by have:=q.1;omega,by have:=q.1;omega,by rw[rs.len];exact q.2,λl hl=>Post.tree hr p hl (rs.rep _)⟩
 ·exact p.elim
theorem RVk.len:∀{ds:List (Sum Int Str×Z.D)} {vs:List (cp×V)},RVk C bs G vs ds->vs.length=ds.length
  | [],[],_=>rfl
  | (_,_)::ds,(_,_)::vs,h=>by simp only[RVk]at h;simp[RVk.len h.2.2]
  | [],_::_,h=>by simp only[RVk]at h
  | _::_,[],h=>by simp only[RVk]at h
theorem IF(hr:HR C ex bs h H)(r:RV C bs (gh ex bs h H) v d)(e:Z.iA h d=some k):fo C.K v H k:=by
 have sq:∀{xs:List Z.D},Z.eE h d=some xs->k= !xs.isEmpty->fo C.K v H k:=fun{xs} e1 e2=>by
  obtain⟨a,vs,rfl,hq,rs⟩:=uT hr r e1;have:k= !vs.isEmpty:=by
   rw[e2];have:=rs.len;cases vs<;>cases xs<;>first|rfl|(simp at this)
  rcases hq with hq|hq
  ·exact .inl ⟨vs,hq,this⟩
  ·exact .inr (.inl ⟨vs,hq,this⟩)
 cases d with
 | non=>simp only[RV]at r;subst r;cases e;rfl
 | bl b=>simp only[RV]at r;subst r;cases e;rfl
 | int i=>simp only[RV]at r;subst r;cases e;rfl
 | str y=>
  simp only[RV]at r;subst r;simp only[Z.iA]at e;split at e
  ·rename_i hz;cases e;exact⟨hz,rfl⟩
  ·cases e
 | lst xs=>simp only[Z.iA,Z.eE,Option.some.injEq]at e;exact sq rfl e.symm
 | tup xs=>simp only[Z.iA,Z.eE,Option.some.injEq]at e;exact sq rfl e.symm
 | arg ns=>simp only[Z.iA,Z.eE,Option.some.injEq]at e;exact sq rfl e.symm
 | ref j=>
  simp only[Z.iA]at e;split at e
  ·rename_i xs hx
   simp only[Option.some.injEq]at e;exact sq hx e.symm
  ·simp only[Z.DG]at e
   split at e
   ·rename_i kvs hc
    simp only[ke,Option.some.injEq]at e;simp only[RV]at r;obtain⟨a,rfl,hk⟩:=r;obtain⟨kws,ha,rk⟩:=hr.cell j a _ hk hc;refine .inr (.inr ⟨kws,ha,?_⟩);rw[<-e];have:=rk.len;cases kws<;>cases kvs<;>first|rfl|(simp at this)
   ·cases e
 | ty n=>simp[Z.iA,Z.eE]at e
 | cls n=>simp[Z.iA,Z.eE]at e
 | exc n=>simp[Z.iA,Z.eE]at e
 | obj c fs=>simp[Z.iA,Z.eE]at e
 | dic kvs=>simp[Z.iA,Z.eE]at e
theorem dA(ht:SE C E t m):ST C E (λσ H Q=>t σ H λx H'=>∃k,fo C.K x H' k/\Q k H') (Z.bC m):=by
 intro ex bs h ρ σ H Q hr re p;refine ht ex bs h ρ σ H _ hr re (p.bind λd x h1 bs1 H1 e1 rx p1=> ?_);obtain⟨k,ek,p1⟩:=p1.oR1;exact⟨k,IF e1.hr rx ek,Post.now e1.hr p1 rfl⟩
theorem qY(ht:SE C E t m):SE C E (λσ H Q=>t σ H λx H1=>∃k,fo C.K x H1 k/\Q (.bl (!k)) H1) (Z.oU m):=by
 intro ex bs h ρ σ H Q hr re p;refine ht ex bs h ρ σ H _ hr re (p.bind λd x h1 bs1 H1 e1 rx p1=> ?_);obtain⟨k,ek,p1⟩:=p1.oR;exact⟨k,IF e1.hr rx ek,p1.now e1.hr (by simp only[RV])⟩
mutual
theorem RV.rep{G:Hp}:∀{d:Z.D} {v:V} {q:PyData},RV C bs G v d->d.py=some q->Rep G v q
 | .non,v,q,h,e=>by simp only[RV]at h;simp only[Z.D.py,Option.some.injEq]at e;subst e;simp only[Rep];exact h
 | .bl b,v,q,h,e=>by simp only[RV]at h;simp only[Z.D.py,Option.some.injEq]at e;subst e;simp only[Rep];exact h
 | .int i,v,q,h,e=>by simp only[RV]at h;simp only[Z.D.py,Option.some.injEq]at e;subst e;simp only[Rep];exact h
 | .str x,v,q,h,e=>by
  simp only[RV]at h;simp only[Z.D.py]at e;split at e
  ·simp only[Option.some.injEq]at e;subst e;simp only[Rep];exact h
  ·cases e
 | .tup ds,v,q,h,e=>by
  simp only[RV]at h;simp only[Z.D.py]at e;obtain⟨a,vs,h1,h2,h3⟩:=h;cases e2:Z.D.pys ds with
  | none=>rw[e2]at e;cases e
  | some ps=>
   rw[e2]at e;simp only[ke,Option.some.injEq]at e;subst e;simp only[Rep];exact⟨a,vs,h1,h2,RVs.reps h3 e2⟩
 | .lst ds,v,q,h,e=>by
  simp only[RV]at h;simp only[Z.D.py]at e;obtain⟨a,vs,h1,h2,h3⟩:=h;cases e2:Z.D.pys ds with
  | none=>rw[e2]at e;cases e
  | some ps=>
   rw[e2]at e;simp only[ke,Option.some.injEq]at e;subst e;simp only[Rep];exact⟨a,vs,h1,h2,RVs.reps h3 e2⟩
 | .arg _,_,_,_,e=>by simp only[Z.D.py]at e;cases e
 | .ref _,_,_,_,e=>by simp only[Z.D.py]at e;cases e
 | .ty _,_,_,_,e=>by simp only[Z.D.py]at e;cases e
 | .cls _,_,_,_,e=>by simp only[Z.D.py]at e;cases e
 | .exc _,_,_,_,e=>by simp only[Z.D.py]at e;cases e
 | .obj _ _,_,_,_,e=>by simp only[Z.D.py]at e;cases e
 | .dic _,_,_,_,e=>by simp only[Z.D.py]at e;cases e
theorem RVs.reps{G:Hp}:∀{ds:List Z.D} {vs:List V} {qs:List PyData},RVs C bs G vs ds->Z.D.pys ds=some qs->Reps G vs qs
 | [],[],qs,_,e=>by simp only[Z.D.pys,Option.some.injEq]at e;subst e;simp only[Reps]
 | d::ds,v::vs,qs,h,e=>by
  simp only[RVs]at h;simp only[Z.D.pys]at e;split at e
  ·rename_i p ps e1 e2
   simp only[Option.some.injEq]at e;subst e;simp only[Reps];exact⟨RV.rep h.1 e1,RVs.reps h.2 e2⟩
  ·cases e
 | [],_::_,_,h,_=>by simp only[RVs]at h
 | _::_,[],_,h,_=>by simp only[RVs]at h
end
mutual
theorem F8:∀{d e:Z.D} {p q:PyData},d.py=some p->e.py=some q->PyData.eqv p q=d.eq e
  | .non,e,p,q,hd,he=>by
    simp only[Z.D.py,Option.some.injEq]at hd;subst hd;cases e<;>simp only[Z.D.py,Option.some.injEq]at he<;>(try cases he)<;>first
      | (subst he;simp[PyData.eqv,Z.D.eq];done)
      | (split at he<;>first|(cases he;simp[PyData.eqv,Z.D.eq];done)|cases he)
      | (simp only[qj]at he;obtain⟨_,_,rfl⟩:=he;simp[PyData.eqv,Z.D.eq];done)
      | (simp[PyData.eqv,Z.D.eq];done)
  | .bl b,e,p,q,hd,he=>by
    simp only[Z.D.py,Option.some.injEq]at hd;subst hd;cases e<;>simp only[Z.D.py,Option.some.injEq]at he<;>(try cases he)<;>first
      | (subst he;simp[PyData.eqv,Z.D.eq];done)
      | (split at he<;>first|(cases he;simp[PyData.eqv,Z.D.eq];done)|cases he)
      | (simp only[qj]at he;obtain⟨_,_,rfl⟩:=he;simp[PyData.eqv,Z.D.eq];done)
      | (simp[PyData.eqv,Z.D.eq];done)
  | .int b,e,p,q,hd,he=>by
    simp only[Z.D.py,Option.some.injEq]at hd;subst hd;cases e<;>simp only[Z.D.py,Option.some.injEq]at he<;>(try cases he)<;>first
      | (subst he;simp[PyData.eqv,Z.D.eq];done)
      | (split at he<;>first|(cases he;simp[PyData.eqv,Z.D.eq];done)|cases he)
      | (simp only[qj]at he;obtain⟨_,_,rfl⟩:=he;simp[PyData.eqv,Z.D.eq];done)
      | (simp[PyData.eqv,Z.D.eq];done)
  | .str b,e,p,q,hd,he=>by
    simp only[Z.D.py]at hd;split at hd
    · cases hd
      cases e<;>simp only[Z.D.py,Option.some.injEq]at he<;>(try cases he)<;>first
        | (subst he;simp[PyData.eqv,Z.D.eq];done)
        | (split at he<;>first|(cases he;simp[PyData.eqv,Z.D.eq];done)|cases he)
        | (simp only[qj]at he;obtain⟨_,_,rfl⟩:=he;simp[PyData.eqv,Z.D.eq];done)
        | (simp[PyData.eqv,Z.D.eq];done)
    · cases hd
  | .tup xs,e,p,q,hd,he=>by
    simp only[Z.D.py,qj]at hd;obtain⟨ps,h1,rfl⟩:=hd;cases e with
    | tup ys=>
      simp only[Z.D.py,qj]at he;obtain⟨qs,h2,rfl⟩:=he;simp only[PyData.eqv,Z.D.eq];exact EM h1 h2
    | _=>
      simp only[Z.D.py,Option.some.injEq]at he<;>(try cases he)<;>first
        | (subst he;simp[PyData.eqv,Z.D.eq];done)
        | (split at he<;>first|(cases he;simp[PyData.eqv,Z.D.eq];done)|cases he)
        | (simp only[qj]at he;obtain⟨_,_,rfl⟩:=he;simp[PyData.eqv,Z.D.eq];done)
        | (simp[PyData.eqv,Z.D.eq];done)
  | .lst xs,e,p,q,hd,he=>by
    simp only[Z.D.py,qj]at hd;obtain⟨ps,h1,rfl⟩:=hd;cases e with
    | lst ys=>
      simp only[Z.D.py,qj]at he;obtain⟨qs,h2,rfl⟩:=he;simp only[PyData.eqv,Z.D.eq];exact EM h1 h2
    | _=>
      simp only[Z.D.py,Option.some.injEq]at he<;>(try cases he)<;>first
        | (subst he;simp[PyData.eqv,Z.D.eq];done)
        | (split at he<;>first|(cases he;simp[PyData.eqv,Z.D.eq];done)|cases he)
        | (simp only[qj]at he;obtain⟨_,_,rfl⟩:=he;simp[PyData.eqv,Z.D.eq];done)
        | (simp[PyData.eqv,Z.D.eq];done)
  | .arg _,_,_,_,e,_=>by simp only[Z.D.py]at e;cases e
  | .ref _,_,_,_,e,_=>by simp only[Z.D.py]at e;cases e
  | .ty _,_,_,_,e,_=>by simp only[Z.D.py]at e;cases e
  | .cls _,_,_,_,e,_=>by simp only[Z.D.py]at e;cases e
  | .exc _,_,_,_,e,_=>by simp only[Z.D.py]at e;cases e
  | .obj _ _,_,_,_,e,_=>by simp only[Z.D.py]at e;cases e
  | .dic _,_,_,_,e,_=>by simp only[Z.D.py]at e;cases e
theorem EM:∀{ds es:List Z.D} {ps qs:List PyData},Z.D.pys ds=some ps->Z.D.pys es=some qs->PyData.eqvAll ps qs=Z.D.eqs ds es
 | [],[],ps,qs,h1,h2=>by
  simp only[Z.D.pys,Option.some.injEq]at h1 h2;subst h1 h2;simp only[PyData.eqvAll,Z.D.eqs]
 | d::ds,e::es,ps,qs,h1,h2=>by
  simp only[Z.D.pys]at h1 h2;split at h1
  ·split at h2
   ·rename_i p1 ps1 a1 a2 _ _ q1 qs1 b1 b2
    simp only[Option.some.injEq]at h1 h2;subst h1 h2;simp only[PyData.eqvAll,Z.D.eqs];rw[F8 a1 b1,EM a2 b2]
   ·cases h2
  ·cases h1
 | [],e::es,ps,qs,h1,h2=>by
  simp only[Z.D.pys]at h1 h2;split at h2
  ·simp only[Option.some.injEq]at h1 h2;subst h1 h2;simp only[PyData.eqvAll,Z.D.eqs]
  ·cases h2
 | d::ds,[],ps,qs,h1,h2=>by
  simp only[Z.D.pys]at h1 h2;split at h1
  ·simp only[Option.some.injEq]at h1 h2;subst h1 h2;simp only[PyData.eqvAll,Z.D.eqs]
  ·cases h1
end
end
section
variable {C : Ct} {ex bs bs1 bs2 : List Addr} {h h1 h2 : Z.MH} {H H1 H2 : Hp} {E : XK}
mutual
theorem Iz:∀{d:Z.D} {q:PyData},d.py=some q->q.canLay0=true/\q.depth=d.deep
 | .non,q,e=>by simp only[Z.D.py,Option.some.injEq]at e;subst e;exact⟨by simp only[PyData.canLay0],by simp only[PyData.depth,Z.D.deep]⟩
 | .bl b,q,e=>by simp only[Z.D.py,Option.some.injEq]at e;subst e;exact⟨by simp only[PyData.canLay0],by simp only[PyData.depth,Z.D.deep]⟩
 | .int b,q,e=>by simp only[Z.D.py,Option.some.injEq]at e;subst e;exact⟨by simp only[PyData.canLay0],by simp only[PyData.depth,Z.D.deep]⟩
 | .str b,q,e=>by
  simp only[Z.D.py]at e;split at e
  ·rename_i hs;cases e;exact⟨by simp only[PyData.canLay0];exact hs,by simp only[PyData.depth,Z.D.deep]⟩
  ·cases e
 | .tup ds,q,e=>by
  simp only[Z.D.py,qj]at e;obtain⟨ps,h1,rfl⟩:=e;have:=Gc h1;exact⟨by simp only[PyData.canLay0];exact this.1,by simp only[PyData.depth,Z.D.deep];rw[this.2]⟩
 | .lst ds,q,e=>by
  simp only[Z.D.py,qj]at e;obtain⟨ps,h1,rfl⟩:=e;have:=Gc h1;exact⟨by simp only[PyData.canLay0];exact this.1,by simp only[PyData.depth,Z.D.deep];rw[this.2]⟩
 | .arg _,_,e=>by simp only[Z.D.py]at e;cases e
 | .ref _,_,e=>by simp only[Z.D.py]at e;cases e
 | .ty _,_,e=>by simp only[Z.D.py]at e;cases e
 | .cls _,_,e=>by simp only[Z.D.py]at e;cases e
 | .exc _,_,e=>by simp only[Z.D.py]at e;cases e
 | .obj _ _,_,e=>by simp only[Z.D.py]at e;cases e
 | .dic _,_,e=>by simp only[Z.D.py]at e;cases e
theorem Gc:∀{ds:List Z.D} {qs:List PyData},Z.D.pys ds=some qs->PyData.canLayAll0 qs=true/\PyData.depthAll qs=Z.D.deeps ds
 | [],qs,e=>by simp only[Z.D.pys,Option.some.injEq]at e;subst e;exact⟨by simp only[PyData.canLayAll0],by simp only[PyData.depthAll,Z.D.deeps]⟩
 | d::ds,qs,e=>by
  simp only[Z.D.pys]at e;split at e
  ·rename_i p ps e1 e2
   simp only[Option.some.injEq]at e;subst e;have a:=Iz e1;have b:=Gc e2;exact⟨by simp only[PyData.canLayAll0,a.1,b.1,Bool.and_self],by simp only[PyData.depthAll,Z.D.deeps,a.2,b.2]⟩
  ·cases e
end
theorem Gy{d:Z.D}(e:d.dat=true):∃q,d.py=some q/\ny q:=by
 unfold Z.D.dat at e;rw[qu,decide_eq_true_eq,w5]at e;obtain⟨⟨q,hq⟩,hd⟩:=e;refine⟨q,hq,?_⟩;have:=Iz hq;show SeqAt.shaped q=true;unfold SeqAt.shaped;rw[qu,decide_eq_true_eq];exact⟨this.1,by rw[this.2];exact hd⟩
mutual
theorem K7(hr:HR C ex bs h H):∀(n:Nat) {d:Z.D} {v:V} {q:PyData},RV C bs (gh ex bs h H) v d->(Z.res n h d).py=some q->Rep H v q
 | 0,d,v,q,r,e=>by unfold Z.res at e;exact(r.rep e).same cn
 | n+1,.ref k,v,q,r,e=>by
  unfold Z.res at e;split at e
  ·rename_i xs hc
   simp only[RV]at r;obtain⟨a,rfl,hk⟩:=r;obtain⟨vs,ha,rs⟩:=hr.cell k a _ hk hc;simp only[Z.D.py,qj]at e;obtain⟨ps,h1,rfl⟩:=e;simp only[Rep];exact⟨a,vs,rfl,ha,EB hr n rs h1⟩
  ·simp only[Z.D.py]at e;cases e
 | n+1,.tup xs,v,q,r,e=>by
  unfold Z.res at e;simp only[RV]at r;obtain⟨a,vs,rfl,ga,rs⟩:=r;simp only[Z.D.py,qj]at e;obtain⟨ps,h1,rfl⟩:=e;simp only[Rep];exact⟨a,vs,rfl,cn _ _ ga,EB hr n rs h1⟩
 | n+1,.lst xs,v,q,r,e=>by
  unfold Z.res at e;simp only[RV]at r;obtain⟨a,vs,rfl,ga,rs⟩:=r;simp only[Z.D.py,qj]at e;obtain⟨ps,h1,rfl⟩:=e;simp only[Rep];exact⟨a,vs,rfl,cn _ _ ga,EB hr n rs h1⟩
 | n+1,.non,v,q,r,e=>by unfold Z.res at e;exact(r.rep e).same cn
 | n+1,.bl _,v,q,r,e=>by unfold Z.res at e;exact(r.rep e).same cn
 | n+1,.int _,v,q,r,e=>by unfold Z.res at e;exact(r.rep e).same cn
 | n+1,.str _,v,q,r,e=>by unfold Z.res at e;exact(r.rep e).same cn
 | n+1,.arg _,v,q,r,e=>by unfold Z.res at e;exact(r.rep e).same cn
 | n+1,.ty _,v,q,r,e=>by unfold Z.res at e;exact(r.rep e).same cn
 | n+1,.cls _,v,q,r,e=>by unfold Z.res at e;exact(r.rep e).same cn
 | n+1,.exc _,v,q,r,e=>by unfold Z.res at e;exact(r.rep e).same cn
 | n+1,.obj _ _,v,q,r,e=>by unfold Z.res at e;exact(r.rep e).same cn
 | n+1,.dic _,v,q,r,e=>by unfold Z.res at e;exact(r.rep e).same cn
theorem EB(hr:HR C ex bs h H):∀(n:Nat) {ds:List Z.D} {vs:List V} {qs:List PyData},RVs C bs (gh ex bs h H) vs ds->Z.D.pys (ds.map (Z.res n h))=some qs->Reps H vs qs
 | n,[],[],qs,_,e=>by simp only[zw,Z.D.pys,Option.some.injEq]at e;subst e;simp only[Reps]
 | n,d::ds,v::vs,qs,r,e=>by
  simp only[RVs]at r;simp only[List.map_cons,Z.D.pys]at e;split at e
  ·rename_i p ps e1 e2
   simp only[Option.some.injEq]at e;subst e;simp only[Reps];exact⟨K7 hr n r.1 e1,EB hr n r.2 e2⟩
  ·cases e
 | n,[],_::_,_,r,_=>by simp only[RVs]at r
 | n,_::_,[],_,r,_=>by simp only[RVs]at r
end
theorem Lk(hr:HR C ex bs h H)(r:RV C bs (gh ex bs h H) v d)(e:(Z.uE h d).dat=true):∃q,(Z.uE h d).py=some q/\Rep H v q/\ny q:=by
 obtain⟨q,h1,h2⟩:=Gy e;exact⟨q,h1,K7 hr 8 r h1,h2⟩
theorem J_(hr:HR C ex bs h H)(rx:RV C bs (gh ex bs h H) x dx)(ry:RV C bs (gh ex bs h H) y dy):Z.a9 dx dy h=.stuck\/∃b,Z.a9 dx dy h=.ok (.bl b) h/\
  ((ji x y=true/\decide (x=y)=b)\/∃d e,Rep H x d/\Rep H y e/\ny d/\ny e/\PyData.eqv d e=b):=by
 unfold Z.a9;split
 ·simp only[RV]at rx ry;subst rx ry
  exact .inr ⟨_,rfl,.inl ⟨rfl,by simp⟩⟩
 ·simp only[RV]at rx ry;subst rx ry
  exact .inr ⟨_,rfl,.inl ⟨rfl,by simp⟩⟩
 ·simp only[RV]at rx ry;subst rx ry
  exact .inr ⟨_,rfl,.inl ⟨rfl,GP⟩⟩
 ·split
  ·rename_i q
   obtain⟨d,h1,h3⟩:=Gy q.1;obtain⟨e,k1,k3⟩:=Gy q.2;exact .inr ⟨_,rfl,.inr ⟨d,e,(rx.rep h1).same cn,(ry.rep k1).same cn,h3,k3,F8 h1 k1⟩⟩
  ·unfold Z.chk
   split
   ·rename_i q
    obtain⟨d,h1,h2,h3⟩:=Lk hr rx q.1;obtain⟨e,k1,k2,k3⟩:=Lk hr ry q.2;exact .inr ⟨_,rfl,.inr ⟨d,e,h2,k2,h3,k3,F8 h1 k1⟩⟩
   ·exact .inl rfl
theorem cj:S2 C KJ Z.a9:=by
 intro ex bs h H E x y dx dy Q hr rx ry p;rcases J_ hr rx ry with e|⟨b,e,q⟩
 ·rw[e]at p;exact p.elim
 ·rw[e]at p
  have:=p.now (b:=.bl b) hr (by simp only[RV]);rcases q with⟨q1,q2⟩|⟨d,e,h1,h2,h3,h4,h5⟩
  ·exact .inl ⟨q1,by rw[q2];exact this⟩
  ·exact .inr ⟨d,e,h1,h2,h3,h4,by rw[h5];exact this⟩
theorem l8:S2 C K0 Z.ib:=by
 intro ex bs h H E x y dx dy Q hr rx ry p;unfold Z.ib at p;rcases J_ hr rx ry with e|⟨b,e,q⟩
 ·rw[e]at p;exact p.elim
 ·rw[e]at p
  have:=Post.now (b:=.bl (!b)) hr p (by simp only[RV]);rcases q with⟨q1,q2⟩|⟨d,e,h1,h2,h3,h4,h5⟩
  ·exact .inl ⟨q1,by rw[q2];exact this⟩
  ·exact .inr ⟨d,e,h1,h2,h3,h4,by rw[h5];exact this⟩
theorem HQ(r:RV C bs G v d)(f:Z.mf d=true):fv d=some v/\kU v=true:=by
 cases d<;>simp only[RV]at r<;>first|(subst r;exact⟨rfl,rfl⟩)|(cases f)
theorem Hw(f:fv d=some v):RV C bs G v d:=by
 cases d<;>simp only[fv,Option.some.injEq]at f<;>first|(subst f;simp only[RV];done)|(cases f)
theorem Ak(a:fv d=some v)(b:fv e=some u):kQ v u=Z.jM d e:=by
 cases d<;>simp only[fv,Option.some.injEq]at a<;>(try cases a)<;>cases e<;>simp only[fv,Option.some.injEq]at b<;>(try cases b)<;>(try subst a)<;>(try subst b)<;>rfl
theorem HA{G:Hp}{e:Z.D}{u:V}(b:fv e=some u):∀{ds:List Z.D} {vs:List V},RVs C bs G vs ds->ds.all Z.mf=true->vs.all kU=true/\(vs.any λy=>kQ y u)=ds.any λy=>Z.jM y e
 | [],[],_,_=>⟨rfl,rfl⟩
 | d::ds,v::vs,h,f=>by
  simp only[RVs]at h;rw[wk,qu]at f;obtain⟨h1,h2⟩:=HQ h.1 f.1;obtain⟨h3,h4⟩:=HA b h.2 f.2;rw[wk,w6,w6,h2,h3,h4,Ak h1 b];exact⟨rfl,rfl⟩
 | [],_::_,h,_=>by simp only[RVs]at h
 | _::_,[],h,_=>by simp only[RVs]at h
theorem DD(r:RV C bs G v d)(e:Z.uC d=some k):v=kV k:=by
 cases d<;>simp only[Z.uC,Option.some.injEq]at e<;>(try cases e)<;>simp only[RV]at r<;>exact r
theorem RVk.val:∀{ds:List (Sum Int Str×Z.D)} {vs:List (cp×V)},RVk C bs G vs ds->
    (Z.cT ds k=none/\cM vs k=none)\/∃d v,Z.cT ds k=some d/\cM vs k=some v/\RV C bs G v d
  | [],[],_=>.inl ⟨rfl,rfl⟩
  | (y,d)::ds,(x,v)::vs,h=>by
    simp only[RVk]at h;obtain⟨rfl,h1,h2⟩:=h;unfold Z.cT cM;rw[zq,zq];by_cases e:x=k
    · simp only[e,decide_true]
      exact .inr ⟨d,v,rfl,rfl,h1⟩
    · simp only[e,decide_false]
      exact RVk.val h2
  | [],_::_,h=>by simp only[RVk]at h
  | _::_,[],h=>by simp only[RVk]at h
theorem RVk.of:∀{ds:List (Sum Int Str×Z.D)} {vs:List (cp×V)},ds.map (λp=>(p.1,fv p.2))=vs.map (λp=>(p.1,some p.2))->RVk C bs G vs ds
  | [],[],_=>by simp only[RVk]
  | (y,d)::ds,(x,v)::vs,e=>by
    simp only[List.map_cons,List.cons.injEq,Prod.mk.injEq]at e;simp only[RVk];exact⟨e.1.1.symm,Hw e.1.2,RVk.of e.2⟩
  | [],_::_,e=>by simp at e
  | _::_,[],e=>by simp at e
theorem J0(hr:HR C ex bs h H)(r:RV C bs (gh ex bs h H) v d)(e:Z.DT h d=some kvs)(k:Sum Int Str):∃a,v=.ref a/\
  ((Z.cT kvs k=none/\Ed C.P C.w C.K H a (kV k) none)\/∃d' v',Z.cT kvs k=some d'/\Ed C.P C.w C.K H a (kV k) (some v')/\RV C bs (gh ex bs h H) v' d'):=by
 cases d with
 | dic kvs'=>
  simp only[RV]at r;obtain⟨a,kws,rfl,hk,em⟩:=r;cases e;refine⟨a,rfl,?_⟩;rcases RVk.val (k:=k) (RVk.of (C:=C) (bs:=bs) (G:=gh ex bs h H) em)with⟨h1,h2⟩|⟨d',v',h1,h2,h3⟩
  ·exact .inl ⟨h1,.inr (.inl ⟨kws,k,hk,rfl,h2.symm⟩)⟩
  ·exact .inr ⟨d',v',h1,.inr (.inl ⟨kws,k,hk,rfl,h2.symm⟩),h3⟩
 | ref j=>
  simp only[RV]at r;obtain⟨a,rfl,hj⟩:=r;simp only[Z.DT]at e;split at e
  ·rename_i kvs' hc
   cases e
   obtain⟨kws,ha,rk⟩:=hr.cell j a _ hj hc;refine⟨a,rfl,?_⟩;rcases rk.val (k:=k)with⟨h1,h2⟩|⟨d',v',h1,h2,h3⟩
   ·exact .inl ⟨h1,.inl (by rw[<-h2];exact DGet.k ha)⟩
   ·exact .inr ⟨d',v',h1,.inl (by rw[<-h2];exact DGet.k ha),h3⟩
  ·rename_i kvs' hc
   cases e
   obtain⟨o,kws,hg,_,rk⟩:=hr.cell j a _ hj hc;have ha:=cn _ _ hg;refine⟨a,rfl,?_⟩;rcases rk.val (k:=k)with⟨h1,h2⟩|⟨d',v',h1,h2,h3⟩
   ·exact .inl ⟨h1,.inr (.inr ⟨o,kws,k,ha,rfl,h2.symm⟩)⟩
   ·exact .inr ⟨d',v',h1,.inr (.inr ⟨o,kws,k,ha,rfl,h2.symm⟩),h3⟩
  ·cases e
 | _=>cases e
theorem ur:S2 C (wI C.P C.w C.K neg) (Z.gD neg):=by
 intro ex bs h H E x y dx dy Q hr rx ry p;unfold Z.gD at p;split at p
 ·simp only[RV]at rx ry;subst rx ry
  exact .inr (.inl ⟨_,_,rfl,rfl,p.now hr (by simp only[RV])⟩)
 ·split at p
  ·rename_i ys hy
   obtain⟨q,p⟩:=p.chk;obtain⟨a,vs,rfl,hq,rs⟩:=uT hr ry hy;obtain⟨fx,fx'⟩:=HQ rx q.1;obtain⟨h1,h2⟩:=HA fx rs q.2;refine .inl ⟨a,vs,rfl,hq,fx',h1,?_⟩;unfold Hn;rw[h2];exact p.now hr (by simp only[RV])
  ·split at p
   ·rename_i kvs k e1 e2
    obtain⟨a,rfl,hd⟩:=J0 hr ry e1 k;have ek:=DD rx e2;subst ek;rcases hd with⟨h1,h2⟩|⟨d',v',h1,h2,h3⟩
    ·refine .inr (.inr ⟨a,none,rfl,h2,?_⟩)
     rw[h1]at p;exact p.now hr (by simp only[RV];rfl)
    ·refine .inr (.inr ⟨a,some v',rfl,h2,?_⟩)
     rw[h1]at p;exact p.now hr (by simp only[RV];rfl)
   ·exact p.elim
theorem Gz(r:RVs C bs G vs ds)(e:Z.cZ ds i=some d):∃v,cZ vs i=some v/\RV C bs G v d:=by
 unfold Z.cZ at e;unfold cZ;rw[r.len];have:g_ ds.length i=Z.g_ ds.length i:=rfl;rw[this];cases e2:Z.g_ ds.length i with
 | none=>rw[e2]at e;cases e
 | some j=>
  rw[e2]at e;exact r.get e
theorem xn:S2 C (xv C.P C.w C.K) Z.aI:=by
 intro ex bs h H E x y dx dy Q hr rx ry p;unfold Z.aI at p;split at p
 ·obtain⟨q,p⟩:=p.chk
  obtain⟨c,e1,p⟩:=p.oR;simp only[RV]at rx ry;subst rx ry;exact .inl (.inr (.inr ⟨_,_,c,rfl,rfl,q,e1,p.now hr (by simp only[RV])⟩))
 ·split at p
  ·rename_i xs hx
   split at p
   ·obtain⟨d,e1,p⟩:=p.oR1
    obtain⟨a,vs,rfl,hq,rs⟩:=uT hr rx hx;obtain⟨v,hv,rv⟩:=Gz rs e1;simp only[RV]at ry;subst ry;rcases hq with hq|hq
    ·exact .inl (.inl ⟨a,vs,_,v,rfl,rfl,hq,hv,p.now hr rv⟩)
    ·exact .inl (.inr (.inl ⟨a,vs,_,v,rfl,rfl,hq,hv,p.now hr rv⟩))
   ·exact p.elim
  ·split at p
   ·rename_i kvs k e1 e2
    obtain⟨d,ev,p⟩:=p.oR1;obtain⟨a,rfl,hd⟩:=J0 hr rx e1 k;have ek:=DD ry e2;subst ek;rcases hd with⟨h1,h2⟩|⟨d',v',h1,h2,h3⟩
    ·rw[h1]at ev;cases ev
    ·rw[h1]at ev;cases ev
     exact .inr ⟨a,v',rfl,h2,p.now hr h3⟩
   ·exact p.elim
theorem aM(ha:SE C E ta ma)(hb:SE C E tb mb):SE C E (ou (xv C.P C.w C.K) ta tb) (Z.ae Z.aI ma mb):=ai xn ha hb
theorem j8:SO C E HS Z.ee:=λex bs h ρ σ H Q hr re p=>Post.now hr p rfl
theorem ig(ht:SE C E t m):SO C E (nE t) (Z.c6 m):=by
 intro ex bs h ρ σ H Q hr re p;refine ht ex bs h ρ σ H _ hr re (p.bind λd x h1 bs1 H1 e1 rx p1=> ?_);cases d with
 | int i=>simp only[RV]at rx;exact⟨i,rx,Post.now e1.hr p1 rfl⟩
 | _=>exact p1.elim
theorem RVs.cut(r:RVs C bs G vs ds)(l u:Option Int):RVs C bs G (fY vs l u) (Z.cut ds l u):=by
 unfold fY Z.cut;rw[r.len];exact(r.drop _).take _
theorem Le(hr:HR C ex bs h H)(r:RV C bs (gh ex bs h H) v d)(nt:∀ds,d=.tup ds->False)(e:Z.eE h d=some xs):∃a vs,v=.ref a/\SqL C.K H a vs/\RVs C bs (gh ex bs h H) vs xs:=by
 cases d with
 | lst ds=>
  simp only[RV]at r;obtain⟨a,vs,rfl,ga,rs⟩:=r;cases e;exact⟨a,vs,rfl,SqL.of (cn _ _ ga),rs⟩
 | tup ds=>exact(nt ds rfl).elim
 | arg ns=>
  simp only[RV]at r;obtain⟨a,rfl,ga⟩:=r;cases e;refine⟨a,_,rfl,cn.sql ga,?_⟩;clear ga hr nt
  induction ns with
  | nil=>simp only[zw,RVs]
  | cons n ns ih=>simp only[List.map_cons,RVs,RV];exact⟨trivial,ih⟩
 | ref k=>
  simp only[RV]at r;obtain⟨a,rfl,hk⟩:=r;simp only[Z.eE]at e;split at e
  ·rename_i ys hc
   cases e
   obtain⟨vs,ha,rs⟩:=hr.cell k a _ hk hc;exact⟨a,vs,rfl,SqL.of ha,rs⟩
  ·cases e
 | _=>cases e
theorem fc(ht:SE C E t m)(hl:SO C E tl ml)(hh:SO C E th mh):SE C E (IT (s_ C.K) t tl th) (Z.fg m ml mh):=by
 intro ex bs h ρ σ H Q hr re p;refine ht ex bs h ρ σ H _ hr re (p.bind λd x h1 bs1 H1 e1 rx p1=> ?_);refine hl ex bs1 h1 ρ σ H1 _ e1.hr (re.ev e1) (p1.bind λl l' h2 bs2 H2 e2 rl p2=> ?_);refine hh ex bs2 h2 ρ σ H2 _ e2.hr ((re.ev e1).ev e2) (p2.bind λu u' h3 bs3 H3 e3 ru p3=> ?_);cases rl;cases ru;have rx3:=(rx.ev e2).ev e3;split at p3
 ·rename_i ds
  obtain⟨q,p3⟩:=p3.chk;simp only[RV]at rx3;obtain⟨a,vs,rfl,ga,rs⟩:=rx3;refine .inl (.inr ⟨a,vs,rfl,SqT.of (cn _ _ ga),by rw[rs.len];exact q,λp hp=>Post.ttup e3.hr p3 hp (rs.cut l u)⟩)
 ·rename_i z
  obtain⟨q,p3⟩:=p3.chk;simp only[RV]at rx3;exact .inr ⟨z,rx3,q,p3.now e3.hr (by simp only[RV])⟩
 ·rename_i hnt hns
  obtain⟨xs,e4,p3⟩:=p3.oR;obtain⟨a,vs,ea,hq,rs⟩:=Le e3.hr rx3 hnt e4;subst ea;exact .inl (.inl ⟨a,vs,rfl,hq,λp hp=>Post.tree e3.hr p3 hp (rs.cut l u)⟩)
theorem Gm{G:Hp}:∀{ds:List Z.D} {vs:List V} {ns:List Int},RVs C bs G vs ds->Z.sJ ds=some ns->vs=ns.map V.int
  | [],[],ns,_,e=>by cases e;rfl
  | d::ds,v::vs,ns,h,e=>by
    simp only[RVs]at h;cases d<;>simp only[Z.sJ,qj]at e<;>first
      | (obtain⟨ms,h1,rfl⟩:=e
         simp only[RV]at h;rw[List.map_cons,<-Gm h.2 h1,h.1])
      | cases e
  | [],_::_,_,h,_=>by simp only[RVs]at h
  | _::_,[],_,h,_=>by simp only[RVs]at h
theorem IQ{G:Hp}:∀{ds:List Z.D} {vs:List V} {ns:List Str},RVs C bs G vs ds->Z.uX ds=some ns->vs=ns.map V.str
  | [],[],ns,_,e=>by cases e;rfl
  | d::ds,v::vs,ns,h,e=>by
    simp only[RVs]at h;cases d<;>simp only[Z.uX,qj]at e<;>first
      | (obtain⟨ms,h1,rfl⟩:=e
         simp only[RV]at h;rw[List.map_cons,<-IQ h.2 h1,h.1])
      | cases e
  | [],_::_,_,h,_=>by simp only[RVs]at h
  | _::_,[],_,h,_=>by simp only[RVs]at h
theorem EX{G:Hp}:∀{ds:List Z.D} {vs:List V} {ns:List Bool},RVs C bs G vs ds->Z.mZ ds=some ns->vs=ns.map V.bl
  | [],[],ns,_,e=>by cases e;rfl
  | d::ds,v::vs,ns,h,e=>by
    simp only[RVs]at h;cases d<;>simp only[Z.mZ,qj]at e<;>first
      | (obtain⟨ms,h1,rfl⟩:=e
         simp only[RV]at h;rw[List.map_cons,<-EX h.2 h1,h.1])
      | cases e
  | [],_::_,_,h,_=>by simp only[RVs]at h
  | _::_,[],_,h,_=>by simp only[RVs]at h
theorem JS:∀(ns:List Int),RVs C bs G (ns.map V.int) (ns.map Z.D.int)
 | []=>by simp only[zw,RVs]
 | n::ns=>by simp only[List.map_cons,RVs,RV];exact⟨trivial,JS ns⟩
theorem KG:∀(ns:List Str),RVs C bs G (ns.map V.str) (ns.map Z.D.str)
 | []=>by simp only[zw,RVs]
 | n::ns=>by simp only[List.map_cons,RVs,RV];exact⟨trivial,KG ns⟩
theorem Ks(hr:HR C ex bs h H)(r:RV C bs (gh ex bs h H) v d)(e:Z.t8 h d=some ns):∃a,v=.ref a/\SqL C.K H a (ns.map V.int):=by
 have gen:(Z.gO h d).bind Z.sJ=some ns->∃a,v=.ref a/\SqL C.K H a (ns.map V.int):=λe=>by
  cases e2:Z.gO h d with
  | none=>rw[e2]at e;cases e
  | some ds=>
   rw[e2]at e;obtain⟨a,vs,rfl,ha,rs⟩:=lN hr r e2;exact⟨a,rfl,by rw[<-Gm rs e];exact SqL.of ha⟩
 cases d with
 | arg ms=>
  cases e
  simp only[RV]at r;obtain⟨a,rfl,ga⟩:=r;exact⟨a,rfl,cn.sql ga⟩
 | _=>exact gen e
theorem Ev.ext(hr:HR C ex bs h H)(sm:Same H H'):Ev C ex bs h H bs h H':=by
 have eq:∀{a},H a≠none->H' a=H a:=fun{a} q=>by
  cases e:H a with
  | none=>exact absurd e q
  | some o=>exact sm a o e
 have sg:Same (gh ex bs h H) (gh ex bs h H'):=λa o e=>by
  obtain⟨h1,h2,h3⟩:=du.mp e;exact du.mpr ⟨h1,h2,sm a o h3⟩
 exact⟨λ_ _ e=>e,⟨hr.len,hr.inj,hr.sep,λa m=>by rw[eq (hr.dom a m)];exact hr.dom a m,λa m=>by rw[eq (hr.domx a m)];exact hr.domx a m,
  λk a c e1 e2=>(hr.cell k a c e1 e2).mono (λ_ _ e=>e) sg (eq (hr.dom a (ql e1)))⟩,sg,λa m=>eq (hr.domx a m)⟩
theorem Mj(hp:H p=none)(sm:Same H H'):Same H (hid p H'):=λa o e=>by
 rw[oP (λz=>by rw[z,hp]at e;cases e)];exact sm a o e
theorem OX(e:H' p=some o):aQ (hid p H') p o=H':=by
 funext x;by_cases q:x=p
 ·rw[q,df,e]
 ·rw[aW q,oP q]
theorem jdf.ext(hr:HR C ex bs h H)(q:jdf C ex E bs h H (.ok ds h) Q)(hp:H p=none)(e:H' p=some (.lst vs))(sm:Same H H')(r:RVs C bs (gh ex bs h H) vs ds):Q (.ref p) H':=by
 have ev:=Ev.ext hr (Mj hp sm);have:=q p vs bs (hid p H') ev (if_pos rfl) (r.ev ev);rw[OX e]at this;exact this
theorem Post.ext{Q:VK}(hr:HR C ex bs h H)(q:Post C ex E bs h H (RV C) (.ok (.lst ds) h) Q)(hp:H p=none)(e:H' p=some (.lst vs))(sm:Same H H')(r:RVs C bs (gh ex bs h H) vs ds):Q (.ref p) H':=by
 have ev:=Ev.ext hr sm;have np:p∉ex:=λm=>hr.domx p m hp;have nb:p∉bs:=λm=>hr.dom p m hp;exact q (.ref p) bs H' ev (by simp only[RV];exact⟨p,vs,rfl,du.mpr ⟨np,λ⟨k,c,e1,_⟩=>nb (ql e1),e⟩,r.ev ev⟩)
noncomputable def so(K:W.Frag)(te:TE)(tl th ts:TO):TE:=λσ H Q=>te σ H λx H1=>tl σ H1 λl H2=>th σ H2 λu H3=>ts σ H3 λk H4=>∃(a:Addr) (ns:List Int) (st:Int),x=.ref a/\k=some st/\0<st/\SqL K H4 a (ns.map V.int)/\
 ∀p H',H4 p=none->H' p=some (.lst ((Z.BV ns l u st).map V.int))->Same H4 H'->Q (.ref p) H'
theorem Ja{ns:List Int}(r:Vals (ns.map V.int) its):∀(l:List Nat),Vals ((l.filterMap (ns[·]?)).map V.int) (l.filterMap (its.toArray[·]?))
 | []=>.nil
 | i::l=>by
  have ih:=Ja r l;have hl:=r.length;rw[qi]at hl;rw[wm,wm];by_cases hi:i<ns.length
  ·have e1:ns[i]?=some ns[i]:=qt hi
   have e2:its.toArray[i]?=some its[i]:=by simp[show i<its.length by omega]
   obtain⟨t,e3,_⟩:=FF r (i:=i) (v:=its[i]) (by simp[show i<its.length by omega]);rw[e1,e2,e3];have e4:ns.getD i 0=ns[i]:=by simp[List.getD,e1]
   rw[e4,List.map_cons];exact .cons ⟨t,rfl⟩ ih
  ·have e1:ns[i]?=none:=wv (by omega)
   have e2:its.toArray[i]?=none:=by simp;omega
   rw[e1,e2];exact ih
theorem O9{lo hi:Option Expr}{st:Expr}(he:PE X e te)(hl:PO X lo tl)(hu:PO X hi th)(hs:PO X (some st) ts):
  PE X (.Subscript e (.Slice lo hi (some st) p2) pos) (so X.K te tl th ts):=by
 intro pins s σ H Q I h;refine Subscript_ (bx (he pins s σ H _ I h) λv s1 ⟨x,H1,I1,r1,q1⟩=> ?_);refine wpAny_Slice (bx (hl pins s1 σ H1 _ I1 q1) λvl s2 ⟨l,H2,I2,pl,q2⟩=>bx (hu pins s2 σ H2 _ I2 q2) λvu s3 ⟨u,H3,I3,pu,q3⟩=>bx (hs pins s3 σ H3 _ I3 q3) λvk s4 ⟨k,H4,I4,pk,q4⟩=> ?_);obtain⟨a,ns,st',ex,ek,hk,hq,q4⟩:=q4;subst ex ek;cases r1;have I5:Inv X pins σ H4 {s4 with heap:=s4.heap.push {cls:=.type "slice",data:=.fields #[vl,vu,vk]}}:=I4.kept (t':=s4.toks) λb ob q=>qa _ q;show wpAny (model X.prog X.w) X.A (subscriptTail e (.Slice lo hi (some st) p2) (.ref a) (.ref s4.heap.objs.size)) (EP X pins σ Q) X.xe {s4 with heap:=s4.heap.push {cls:=.type "slice",data:=.fields #[vl,vu,vk]}};obtain⟨its,r,pl',hz⟩:=I5.list hq;have hlen:=r.length;rw[qi]at hlen hz;refine tail_any (ops:=[.ref a,.ref s4.heap.objs.size]) pl'.isList.typeIs slot_list_getitem.lookup ?_ (by with_unfolding_all rfl);refine wpAny_getItem_list_slice (lo:=l) (hi:=u) (st:=some st') pl'.isList (Heap.IsSliceOf.new ..) pl pu pk (by simp;omega) ?_ (by rw[qk]<;>omega);have hsz:=slicePick_size_le its.toArray l u (some st');have e:slicePick its.toArray l u (some st')=((sliceRange (sliceBounds l u (some st') its.toArray.size).1 (sliceBounds l u (some st') its.toArray.size).2.1 (sliceBounds l u (some st') its.toArray.size).2.2).filterMap (its.toArray[·]?)).toArray:=rfl;have rm:=Ja r (sliceRange (sliceBounds l u (some st') its.toArray.size).1 (sliceBounds l u (some st') its.toArray.size).2.1 (sliceBounds l u (some st') its.toArray.size).2.2);have en:its.toArray.size=ns.length:=by rw[qk];exact hlen.symm
 rw[e];rw[e,qk]at hsz;have hr:=rm.length;have ec:(sliceRange (sliceBounds l u (some st') its.toArray.size).1 (sliceBounds l u (some st') its.toArray.size).2.1 (sliceBounds l u (some st') its.toArray.size).2.2).filterMap (ns[·]?)=Z.BV ns l u st':=by rw[en];rfl
 rw[ec]at rm hr;refine⟨.ref _,_,I5.lnew (t':=s4.toks) rm (by rw[hr];exact zd hsz (by rw[qk];omega)),rfl,q4 _ _ I5.fresh df λb o e=>by rw[aW (ed e I5.fresh)];exact e⟩
theorem m7(ht:SE C E t m)(hl:SO C E tl ml)(hh:SO C E th mh)(hs:SO C E ts ms):SE C E (so C.K t tl th ts) (Z.jC m ml mh ms):=by
 intro ex bs h ρ σ H Q hr re p;refine ht ex bs h ρ σ H _ hr re (p.bind λd x h1 bs1 H1 e1 rx p1=> ?_);refine hl ex bs1 h1 ρ σ H1 _ e1.hr (re.ev e1) (p1.bind λl l' h2 bs2 H2 e2 rl p2=> ?_);refine hh ex bs2 h2 ρ σ H2 _ e2.hr ((re.ev e1).ev e2) (p2.bind λu u' h3 bs3 H3 e3 ru p3=> ?_);refine hs ex bs3 h3 ρ σ H3 _ e3.hr (((re.ev e1).ev e2).ev e3) (p3.bind λk k' h4 bs4 H4 e4 rk p4=> ?_);cases rl;cases ru;cases rk;have rx4:=((rx.ev e2).ev e3).ev e4;cases k with
 | none=>exact p4.elim
 | some k=>
  obtain⟨q,p4⟩:=Post.chk p4;obtain⟨ns,e5,p4⟩:=p4.oR;obtain⟨a,rfl,hq⟩:=Ks e4.hr rx4 e5;exact⟨a,ns,k,rfl,rfl,q,hq,λp H' hp hp' sm=>Post.ext e4.hr p4 hp hp' sm (JS _)⟩
end
section
variable {C : Ct} {ex bs bs1 bs2 : List Addr} {h h1 h2 : Z.MH} {H H1 H2 : Hp} {E : XK}
theorem gN(r:RVs C bs G vs [d]):∃v,vs=[v]/\RV C bs G v d:=by
 match vs,r with
 | [v],r=>simp only[RVs]at r;exact⟨v,rfl,r.1⟩
 | [],r=>simp only[RVs]at r
 | _::_::_,r=>simp only[RVs]at r;exact r.2.elim
theorem zX(r:RVs C bs G vs [d,e]):∃v u,vs=[v,u]/\RV C bs G v d/\RV C bs G u e:=by
 match vs,r with
 | [v,u],r=>simp only[RVs]at r;exact⟨v,u,rfl,r.1,r.2.1⟩
 | [],r=>simp only[RVs]at r
 | [_],r=>simp only[RVs]at r;exact r.2.elim
 | _::_::_::_,r=>simp only[RVs]at r;exact r.2.2.elim
noncomputable def E3(P:Program)(w:World)(K:W.Frag):List V->Hp->VK->Prop:=λxs H Q=>nL P w K xs H Q\/∃a kvs,xs=[V.ref a]/\H a=some (.dK kvs)/\Q (.int kvs.length) H
theorem Lw:jcn X (.builtin "len") (E3 X.prog X.w X.K):=jcn.or OV Px
theorem iw:SL C (E3 C.P C.w C.K) Z.b_:=by
 intro ex bs h H E xs ds Q hr rs p;unfold Z.b_ at p;split at p
 ·obtain⟨q,p⟩:=p.chk
  obtain⟨v,rfl,r⟩:=gN rs;simp only[RV]at r;subst r;exact .inl (.inr ⟨_,rfl,q,p.now hr (by simp only[RV])⟩)
 ·obtain⟨v,rfl,r⟩:=gN rs
  split at p
  ·rename_i ys hy
   obtain⟨a,vs,rfl,hq,qs⟩:=uT hr r hy;exact .inl (.inl ⟨a,vs,rfl,hq,p.now hr (by simp only[RV];rw[qs.len])⟩)
  ·split at p
   ·obtain⟨kvs,e,p⟩:=p.oR
    simp only[Z.DG]at e;split at e
    ·rename_i kvs' hc
     cases e
     simp only[RV]at r;obtain⟨a,rfl,hk⟩:=r;obtain⟨kws,ha,rk⟩:=hr.cell _ a _ hk hc;exact .inr ⟨a,kws,rfl,ha,p.now hr (by simp only[RV];rw[rk.len])⟩
    ·cases e
   ·exact p.elim
 ·exact p.elim
theorem Ex:SL C (rn C.K) Z.fQ:=by
 intro ex bs h H E xs ds Q hr rs p;unfold Z.fQ at p;split at p
 ·obtain⟨v,rfl,r⟩:=gN rs
  obtain⟨ns,e,p⟩:=p.oR;obtain⟨a,rfl,hq⟩:=Ks hr r e;exact⟨a,ns,rfl,hq,p.now hr (by simp only[RV])⟩
 ·exact p.elim
theorem Io:∀(ns:List Int),0<ns.length->Z.da ns∈ns
 | [a],_=>by simp[Z.da]
 | a::b::r,_=>by
  have ih:=Io (b::r) (by simp);unfold Z.da;split
  ·exact q9 _ ih
  ·exact qf ..
theorem Lc:∀(ns:List Int),∀a∈ns,a<=Z.da ns
 | [a],x,hx=>by simp at hx;subst hx;simp[Z.da]
 | a::b::r,x,hx=>by
  have ih:=Lc (b::r);unfold Z.da;rcases qr.mp hx with rfl|hx
  ·split<;>omega
  ·have:=ih x hx
   split<;>omega
theorem sT:SL C (sG C.K) Z.tD:=by
 intro ex bs h H E xs ds Q hr rs p;unfold Z.tD at p;split at p
 ·obtain⟨v,u,rfl,r1,r2⟩:=zX rs
  simp only[RV]at r1 r2;subst r1 r2;exact .inl ⟨_,_,rfl,p.now hr (by simp only[RV])⟩
 ·obtain⟨v,rfl,r⟩:=gN rs
  obtain⟨ns,e,p⟩:=p.oR;obtain⟨q,p⟩:=p.chk;simp only[RV]at r;obtain⟨a,vs,rfl,ga,qs⟩:=r;have:=Gm qs e;subst this;refine .inr ⟨a,ns,rfl,SqT.of (cn _ _ ga),q,λM hm hle=> ?_⟩;have e1:M=Z.da ns:=by
   have h1:=Lc ns M hm;have h2:=hle _ (Io ns q);omega
  rw[e1];exact p.now hr (by simp only[RV])
 ·exact p.elim
theorem K8:SL C (pZ C.K) Z.lh:=by
 intro ex bs h H E xs ds Q hr rs p;unfold Z.lh at p;split at p
 ·obtain⟨v,rfl,r⟩:=gN rs
  obtain⟨bb,e,p⟩:=p.oR;rw[z4]at e;obtain⟨ys,e1,e2⟩:=e;obtain⟨a,vs,rfl,ha,qs⟩:=lN hr r e1;have:=EX qs e2;subst this;exact⟨a,bb,rfl,SqL.of ha,p.now hr (by simp only[RV])⟩
 ·exact p.elim
theorem Hi:SL C vz Z.d9:=by
 intro ex bs h H E xs ds Q hr rs p;unfold Z.d9 at p;split at p
 ·obtain⟨v,rfl,r⟩:=gN rs
  simp only[RV]at r;subst r;exact .inl (.inl ⟨_,rfl,p.now hr (by simp only[RV])⟩)
 ·obtain⟨v,rfl,r⟩:=gN rs
  simp only[RV]at r;subst r;exact .inl (.inr ⟨_,rfl,p.now hr (by simp only[RV])⟩)
 ·obtain⟨q,p⟩:=p.chk
  obtain⟨n,e,p⟩:=p.oR;obtain⟨v,rfl,r⟩:=gN rs;simp only[RV]at r;subst r;exact .inr ⟨_,n,rfl,q,e,p.now hr (by simp only[RV])⟩
 ·exact p.elim
theorem t9:SL C sy Z.dv:=by
 intro ex bs h H E xs ds Q hr rs p;unfold Z.dv at p;split at p
 ·obtain⟨q,p⟩:=p.chk
  obtain⟨v,rfl,r⟩:=gN rs;simp only[RV]at r;subst r;exact⟨_,rfl,q,p.now hr (by simp only[RV];rfl)⟩
 ·exact p.elim
theorem KO(hl:SA C E tl ml):SN C E (Di (λxs H Q=>∃p ys,xs=[.ref p]/\(SqL C.K H p ys\/SqT C.K H p ys)/\∀l,H l=none->Q (.ref l) (aQ H l (.lst ys))) tl) (Z.wA ml):=by
 intro ex bs h ρ σ H Q hr re p;refine hl ex bs h ρ σ H _ hr re (jdf.bind p λds xs h1 bs1 H1 e1 rx p1=> ?_);split at p1
 ·obtain⟨v,rfl,r⟩:=gN rx
  rename_i d;cases e:Z.eE h1 d with
  | none=>rw[e]at p1;exact p1.elim
  | some ys=>
   rw[e]at p1;obtain⟨a,vs,rfl,hq,qs⟩:=uT e1.hr r e;exact⟨a,vs,rfl,hq,λl hl=>jdf.now e1.hr p1 hl qs⟩
 ·exact p1.elim
theorem Nq:SL C (λxs H Q=>∃p ys,xs=[.ref p]/\((SqL C.K H p ys/\∀l,H l=none->Q (.ref l) (aQ H l (.tup ys)))\/(SqT C.K H p ys/\Q (.ref p) H))) Z.E9:=by
 intro ex bs h H E xs ds Q hr rs p;unfold Z.E9 at p;split at p
 ·obtain⟨v,rfl,r⟩:=gN rs
  have r':=r;simp only[RV]at r;obtain⟨a,vs,rfl,ga,qs⟩:=r;exact⟨a,vs,rfl,.inr ⟨SqT.of (cn _ _ ga),p.now hr r'⟩⟩
 ·rename_i d hnt
  obtain⟨v,rfl,r⟩:=gN rs;obtain⟨ys,e,p⟩:=p.oR;obtain⟨a,vs,rfl,hq,qs⟩:=Le hr r (λds z=>hnt ds (by rw[z])) e;exact⟨a,vs,rfl,.inl ⟨hq,λl hl=>Post.ttup hr p hl qs⟩⟩
 ·exact p.elim
theorem OZ{K:W.Frag}(ht:t="NoneType"\/t="bool"\/t="int"\/t="str"\/t="tuple"\/t="list"\/t="dict")(hn:n="int"\/n="bool"\/n="str"\/n="tuple"\/n="list"):
  W.kitOne K (.type t) (.type n)=some (Z.Hx t n):=by
 rcases ht with rfl|rfl|rfl|rfl|rfl|rfl|rfl<;>rcases hn with rfl|rfl|rfl|rfl|rfl<;>first|rfl|kernel_rfl
theorem v8(hr:HR C ex bs h H)(r:RV C bs (gh ex bs h H) v d)(e:Z.rq h d=some t):TyOf C.K H v (.type t)/\(t="NoneType"\/t="bool"\/t="int"\/t="str"\/t="tuple"\/t="list"\/t="dict"):=by
 cases d with
 | non=>simp only[RV]at r;subst r;cases e;exact⟨.non,by simp⟩
 | bl b=>simp only[RV]at r;subst r;cases e;exact⟨.bl _,by simp⟩
 | int b=>simp only[RV]at r;subst r;cases e;exact⟨.int _,by simp⟩
 | str b=>simp only[RV]at r;subst r;cases e;exact⟨.str _,by simp⟩
 | tup ds=>
  simp only[RV]at r;obtain⟨a,vs,rfl,ga,_⟩:=r;cases e;exact⟨.tup (cn _ _ ga),by simp⟩
 | lst ds=>
  simp only[RV]at r;obtain⟨a,vs,rfl,ga,_⟩:=r;cases e;exact⟨.lst (cn _ _ ga),by simp⟩
 | ref k=>
  simp only[RV]at r;obtain⟨a,rfl,hk⟩:=r;simp only[Z.rq]at e;split at e
  ·rename_i xs hc
   cases e
   obtain⟨vs,ha,_⟩:=hr.cell k a _ hk hc;exact⟨.lst ha,by simp⟩
  ·rename_i xs hc
   cases e
   obtain⟨vs,ha,_⟩:=hr.cell k a _ hk hc;exact⟨.dK ha,by simp⟩
  ·cases e
 | _=>cases e
theorem Md(h:Z.GZ n=true):n="int"\/n="bool"\/n="str"\/n="tuple"\/n="list":=by
 unfold Z.GZ at h;simpa [or_assoc]using h
theorem FV:SL C (rT C.K) Z.gA:=by
 intro ex bs h H E xs ds Q hr rs p;unfold Z.gA at p;split at p
 ·obtain⟨q,p⟩:=p.chk
  obtain⟨t,e,p⟩:=p.oR;obtain⟨v,u,rfl,r1,r2⟩:=zX rs;simp only[RV]at r2;subst r2;obtain⟨ty,ht⟩:=v8 hr r1 e;exact⟨v,_,_,_,rfl,.inl ⟨_,rfl⟩,ty,OZ ht (Md q),p.now hr (by simp only[RV])⟩
 ·exact p.elim
noncomputable def SM(C:Ct)(r:V->List V->Hp->VK->Prop)(f:Str->List Z.D->Z.MH->Z.Res Z.D):Prop:=∀(ex bs:List Addr) (h:Z.MH) (H:Hp) (E:XK) (z:Str) (xs:List V) (ds:List Z.D) (Q:VK),HR C ex bs h H->RVs C bs (gh ex bs h H) xs ds->Post C ex E bs h H (RV C) (f z ds h) Q->r (.str z) xs H Q
theorem kY{r:V->List V->Hp->VK->Prop}{f:Str->List Z.D->Z.MH->Z.Res Z.D}(o:SM C r f)(ho:SE C E to mo)(hl:SA C E tl ml):SE C E (uz C.K "str" r to tl) (Z.rZ f mo ml):=by
 intro ex bs h ρ σ H Q hr re p;refine ho ex bs h ρ σ H _ hr re (p.bind λd x h1 bs1 H1 e1 rx p1=> ?_);cases d with
 | str z=>
  simp only[RV]at rx;subst rx;refine⟨rfl,hl ex bs1 h1 ρ σ H1 _ e1.hr (re.ev e1) (p1.bind λds xs h2 bs2 H2 e2 rs p2=> ?_)⟩;exact o ex bs2 h2 H2 E z xs ds Q e2.hr rs p2
 | _=>exact p1.elim
theorem D9:SM C (EK C.K) Z.kT:=by
 intro ex bs h H E z xs ds Q hr rs p;unfold Z.kT at p;split at p
 ·obtain⟨ys,e,p⟩:=p.oR
  obtain⟨q,p⟩:=p.chk;obtain⟨v,rfl,r⟩:=gN rs;rw[z4]at e;obtain⟨ds',e1,e2⟩:=e;obtain⟨a,vs,rfl,ha,qs⟩:=lN hr r e1;have:=IQ qs e2;subst this;exact⟨z,a,ys,rfl,rfl,SqL.of ha,q,p.now hr (by simp only[RV])⟩
 ·exact p.elim
theorem IG(ho:SE C E to mo)(hl:SA C E tl ml):SN C E (uz C.K "str" Jp to tl) (Z.ue mo ml):=by
 intro ex bs h ρ σ H Q hr re p;refine ho ex bs h ρ σ H _ hr re (jdf.bind p λd x h1 bs1 H1 e1 rx p1=> ?_);cases d with
 | str z=>
  simp only[RV]at rx;subst rx;refine⟨rfl,hl ex bs1 h1 ρ σ H1 _ e1.hr (re.ev e1) (jdf.bind p1 λds xs h2 bs2 H2 e2 rs p2=> ?_)⟩;split at p2
  ·rename_i y
   obtain⟨q,p2⟩:=p2.chk;obtain⟨v,rfl,r⟩:=gN rs;simp only[RV]at r;subst r;exact⟨z,y,rfl,rfl,q.1,q.2.1,q.2.2,λa H' ha ha' sm=>jdf.ext e2.hr p2 ha ha' sm (KG _)⟩
  ·exact p2.elim
 | _=>exact p1.elim
noncomputable def SJ(C:Ct)(E:XK)(t:TJ)(m:Z.MJ):Prop:=∀out:Str,uM C E E2 (t out) (m out)
theorem rP:SJ C E nc Z.kF:=λout ex bs h ρ σ H Q hr re p=>Post.now hr p rfl
theorem IL(ht:SE C E t m)(hj:SJ C E j mj):SJ C E (HX t j) (Z.lJ m mj):=by
 intro out ex bs h ρ σ H Q hr re p;refine ht ex bs h ρ σ H _ hr re (p.bind λd x h1 bs1 H1 e1 rx p1=> ?_);cases d with
 | str y=>
  simp only[RV]at rx;obtain⟨q,p1⟩:=Post.chk p1;exact⟨y,rx,q,hj (out++y) ex bs1 h1 ρ σ H1 Q e1.hr (re.ev e1) p1⟩
 | _=>exact p1.elim
theorem Gq(hj:SJ C E j mj):SE C E (Lb j) (Z.Ck mj):=by
 intro ex bs h ρ σ H Q hr re p;refine hj Str.empty ex bs h ρ σ H _ hr re (p.bind λz z' h1 bs1 H1 e1 rz p1=> ?_);cases rz;obtain⟨q,p1⟩:=Post.chk p1;exact⟨q,Post.now e1.hr p1 (by simp only[RV])⟩
theorem B7(ht:SE C E t m):SE C E (yR t) (Z.jO m):=by
 intro ex bs h ρ σ H Q hr re p;refine ht ex bs h ρ σ H _ hr re (p.bind λd x h1 bs1 H1 e1 rx p1=> ?_);cases d with
 | int i=>
  simp only[RV]at rx;obtain⟨q,p1⟩:=Post.chk p1;exact .inl ⟨i,rx,q,Post.now e1.hr p1 (by simp only[RV];rfl)⟩
 | str z=>
  simp only[RV]at rx;obtain⟨q,p1⟩:=Post.chk p1;exact .inr ⟨z,rx,q,Post.now e1.hr p1 (by simp only[RV])⟩
 | _=>exact p1.elim
theorem dg(ea:C.cm c=a)(ht:SE C E t m):SS C E (JR a E t) (Z.c7 c m):=by
 intro ex bs h ρ σ H D hr re p;refine ht ex bs h ρ σ H _ hr re (p.bind λd x h1 bs1 H1 e1 rx p1=> ?_);exact⟨x,rfl,by rw[<-ea];exact p1 bs1 H1 (Ev.refl e1.hr)⟩
theorem rj:SE C E II Z.mS:=by
 intro ex bs h ρ σ H Q hr re p;intro a ha;have e2:=Ev.cell (o:=.dK []) (c:=.dct []) hr ha ⟨[],df,by simp only[RVk]⟩;refine p (.ref a) (bs++[a]) _ e2 ?_;simp only[RV];exact⟨a,rfl,by rw[<-hr.len];simp⟩
theorem RVk.put{k:Sum Int Str}(q:RV C bs G v d)(r:RVk C bs G vs ds):RVk C bs G (cA vs k v) (Z.cA ds k d):=by
 have any:∀{ds:List (Sum Int Str×Z.D)} {vs:List (cp×V)},RVk C bs G vs ds->(vs.any λkv=>decide (kv.1=k))=ds.any λkv=>decide (kv.1=k):=by
  intro ds
  induction ds with
  | nil=>intro vs r;cases vs with
   | nil=>rfl
   | cons _ _=>simp only[RVk]at r
  | cons p ds ih=>
   intro vs r;cases vs with
   | nil=>simp only[RVk]at r
   | cons w vs=>
    obtain⟨y,d'⟩:=p;obtain⟨x,v'⟩:=w;simp only[RVk]at r;rw[w6,w6,ih r.2.2,r.1]
 have map:∀{ds:List (Sum Int Str×Z.D)} {vs:List (cp×V)},RVk C bs G vs ds->RVk C bs G (vs.map λkv=>if kv.1=k then(kv.1,v)else kv) (ds.map λkv=>if kv.1=k then(kv.1,d)else kv):=by
  intro ds
  induction ds with
  | nil=>intro vs r;cases vs with
   | nil=>simp only[zw,RVk]
   | cons _ _=>simp only[RVk]at r
  | cons p ds ih=>
   intro vs r;cases vs with
   | nil=>simp only[RVk]at r
   | cons w vs=>
    obtain⟨y,d'⟩:=p;obtain⟨x,v'⟩:=w;simp only[RVk]at r;obtain⟨rfl,r1,r2⟩:=r;simp only[List.map_cons];by_cases e:x=k
    ·simp only[e,if_true,RVk];exact⟨trivial,q,by simpa [e]using ih r2⟩
    ·simp only[e,if_false,RVk];exact⟨trivial,r1,ih r2⟩
 have app:∀{ds:List (Sum Int Str×Z.D)} {vs:List (cp×V)},RVk C bs G vs ds->RVk C bs G (vs++[(k,v)]) (ds++[(k,d)]):=by
  intro ds
  induction ds with
  | nil=>intro vs r;cases vs with
   | nil=>simp only[gq,RVk];exact⟨trivial,q,trivial⟩
   | cons _ _=>simp only[RVk]at r
  | cons p ds ih=>
   intro vs r;cases vs with
   | nil=>simp only[RVk]at r
   | cons w vs=>
    obtain⟨y,d'⟩:=p;obtain⟨x,v'⟩:=w;simp only[RVk]at r;simp only[gn,RVk];exact⟨r.1,r.2.1,ih r.2.2⟩
 unfold cA Z.cA;rw[any r];split
 ·exact map r
 ·exact app r
theorem M9(ho:SE C E to mo)(hi:SE C E ti mi)(he:SE C E te me):SS C E (nQ to ti te) (Z.oQ mo mi me):=by
 intro ex bs h ρ σ H D hr re p;refine he ex bs h ρ σ H _ hr re (p.bind λd v h0 bs0 H0 e0 rv p0=> ?_);refine ho ex bs0 h0 ρ σ H0 _ e0.hr (re.ev e0) (p0.bind λo x h1 bs1 H1 e1 rx p1=> ?_);refine hi ex bs1 h1 ρ σ H1 _ e1.hr ((re.ev e0).ev e1) (p1.bind λi y h2 bs2 H2 e2 ry p2=> ?_);have rv2:=(rv.ev e1).ev e2;have rx2:=rx.ev e2;cases o with
 | ref k=>
  simp only[RV]at rx2;obtain⟨a,rfl,hk⟩:=rx2;dsimp only at p2;split at p2
  ·rename_i kvs hc
   split at p2
   ·rename_i j hj
    split at p2
    ·rename_i hz
     obtain⟨kws,ha,rk⟩:=e2.hr.cell k a _ hk hc;have ek:=DD ry hj;subst ek;refine⟨a,_,rfl,DPut.k ha (by rw[rk.len];exact hz),?_⟩;have e3:=Ev.put (o:=.dK (cA kws j v)) (c:=.dct (Z.cA kvs j d)) e2.hr hk hc ⟨_,df,rk.put rv2⟩;exact p2 σ bs2 _ e3 ((((re.ev e0).ev e1).ev e2).ev e3)
    ·exact p2.elim
   ·exact p2.elim
  ·exact p2.elim
 | _=>exact p2.elim
end
noncomputable def spL(K:W.Frag):Sp:=λvs H Q _=>∃(a:Addr) (ns:List Int),vs=[.ref a]/\SqL K H a (ns.map V.int)/\ns.length<=63/\∀H',Q (.bl true) H'
theorem spL_of(K:W.Frag)(H:Hp)(a:Addr)(ns:List Int)(hl:ns.length<=63)(hO:jL H)(hS:SqL K H a (ns.map V.int)):spL K [.ref a] H (λv _=>v=.bl true) λ_ _ _=>False:=⟨a,ns,rfl,hS,hl,λ_=>rfl⟩
theorem sI:gh [] [] [] H=H:=by
 funext x;unfold gh;rw[if_neg];rintro(z|⟨k,c,z,_⟩)
 ·cases z
 ·simp at z
theorem law_ok{mg:Str->Option Value}(F:FnOk P w C.K mg base CX k f fd ps (bq C z))
  (hz:∀ns:List Int,ns.length<=63->∃h,z [.arg ns] []=.ok (.bl true) h):FnOk P w C.K mg base CX k f fd ps (spL C.K):=by
 refine F.imp λvs H Q E q=> ?_;obtain⟨a,ns,rfl,hS,hl,q⟩:=q;obtain⟨h,e⟩:=hz ns hl;refine⟨[],[],[],[.arg ns],⟨rfl,λi j a e=>by simp at e,λa m=>(by cases m),λa m=>(by cases m),λa m=>(by cases m),λk a c e=>by simp at e⟩,?_,?_⟩
 ·rw[sI];simp only[RVs,RV];exact⟨⟨a,rfl,hS⟩,trivial⟩
 ·rw[e]
  intro v bs' H' _ rv;simp only[RV]at rv;subst rv;exact q H'
theorem walk_ofE{l:W.OpenLaw}{XP:(Str->Option Value)->Heap->Prop}{YP:World->Heap->Prop}{K:Params->W.Frag}{CX:World->iE}{sp:W.Frag->Sp}
  (hn:l.most=some n) (hn2:n<=sizeLine) (hdf:d.params.defaults=[]) (hr:Room k callerA)
  (hY:∀(w:World) (h:Heap),YP w h->(K w.params).In h)
  (F:∀(w:World) (mg:Str->Option Value) (fa:Addr) (h:Heap),(K w.params).In h->h.Ns mainGlobals mg->mg d.name=some (.ref fa)->
   ∃fd:FuncData,(∀(s:Shared) (u:Value),BindsTo s fd ⟨[u],[]⟩ [(x,u)])/\
    ∀base:Heap,(K w.params).In base->base.Ns mainGlobals mg->FnOk l.prog w (K w.params) mg base (CX w) k fa fd [x] (sp (K w.params)))
  (hsp:∀(K:W.Frag) (H:Hp) (a:Addr) (ns:List Int),ns.length<=n->jL H->SqL K H a (ns.map V.int)->sp K [.ref a] H (λv _=>v=.bl true) λ_ _ _=>False)
  (hCX:∀(w:World) (H:Hp) (s:Shared) (e:Value) (s':Shared),CX w [] H s (λ_ _ _=>False) e s'->False):
  W.WalkO q loose XP YP l.row.toRowW d [] (λf vs=>PySem.call f vs):=
 Nz (K:=K) (CX:=CX) (sp:=λw=>sp (K w.params)) hn hn2 hdf hr hY F (λw H a ns h1 h2 h3=>hsp (K w.params) H a ns h1 h2 h3) hCX
noncomputable def GK:List DictEntry->List (cp×V)->Prop
 | [],[]=>True
 | e::es,(k,v)::r=>(∃x t,e.key=.str x t/\k=Sum.inr x)/\RelV v e.val/\GK es r
 | _,_=>False
theorem Lh:∀{es:List DictEntry} {kvs:List (cp×V)},GK es kvs->∃vs:List (cp×Value),KV kvs vs/\Pairs (eJ P w) es vs/\vs.map (·.1)=kvs.map (·.1)
 | [],[],_=>⟨[],.nil,.nil,rfl⟩
 | e::es,(k,v)::r,h=>by
  obtain⟨⟨x,t,h1,h2⟩,h3,h4⟩:=h;obtain⟨vs,a,b,c⟩:=Lh (P:=P) (w:=w) h4;refine⟨(k,e.val)::vs,.cons ⟨rfl,h3⟩ a,.cons ?_ rfl b,by simp[c]⟩;rw[h1,h2];exact FA P w x t
 | [],_::_,h=>h.elim
 | _::_,[],h=>h.elim
theorem kdict_of{K:W.Frag}(hl:K.lookup a=some ⟨.type "dict",none,.dict es n,#[]⟩)(ha:(a==sysModules)=false)
  (hk:W.KeysLit w.params es.toList) (hp:GK es.toList kvs) (nd:(kvs.map (·.1)).Nodup):DO P w K a kvs:=by
 intro h X;obtain⟨vs,a1,b,c⟩:=Lh (P:=P) (w:=w) hp;refine⟨ha,vs,a1,_,es,n,X _ _ hl,⟨rfl,rfl,rfl⟩,rfl,λe he=> ?_,b,by rw[c];exact nd⟩;obtain⟨x,t,e1,e2⟩:=hk.all e (Array.mem_toList_iff.mpr he);exact⟨.inr x,by rw[e1];exact FA P w x t,e2⟩
theorem iv:ST C E aS Z.aS:=λex bs h ρ σ H Q hr re p=>Post.now hr p rfl
section
variable {X : Cx} {P : Program} {w : World} {K : W.Frag}
theorem c8(k:X.K=K):cw X (binaryOp .Add) (mD K):=by subst k;exact Oi
theorem ED(p:X.prog=P)(w':X.w=w)(k:X.K=K)(hu:X.A.units+64<cLine):IxR X (xv P w K):=by subst p w' k;exact FR hu
theorem CG(p:X.prog=P)(w':X.w=w)(k:X.K=K)(hu:X.A.units+64<cLine):cw X (compareOp .In) (wI P w K false):=by subst p w' k;exact sR hu
theorem Hz(p:X.prog=P)(w':X.w=w)(k:X.K=K)(hu:X.A.units+64<cLine):cw X (compareOp .NotIn) (wI P w K true):=by subst p w' k;exact OQ hu
theorem eV(k:X.K=K):SlR X (s_ K):=by subst k;exact G7
theorem NV{r:V->List V->Hp->VK->Prop}(k:X.K=K)(h:PE X e (lX X.K T r to)):PE X e (lX K T r to):=by subst k;exact h
theorem JQ{lo hi:Option Expr}{st:Expr}(k:X.K=K)(he:PE X e te)(hl:PO X lo tl)(hu:PO X hi th)(hs:PO X (some st) ts):
  PE X (.Subscript e (.Slice lo hi (some st) p2) pos) (so K te tl th ts):=by subst k;exact O9 he hl hu hs
theorem iy(p:X.prog=P)(w':X.w=w)(k:X.K=K):jcn X (.builtin "len") (E3 P w K):=by subst p w' k;exact Lw
theorem Er(k:X.K=K)(hc:X.calm=true):jcn X (.builtin "sum") (rn K):=by subst k;exact OW hc
theorem M8(k:X.K=K)(hc:X.calm=true):jcn X (.builtin "max") (sG K):=by subst k;exact M6 hc
theorem JO(k:X.K=K)(hc:X.calm=true):jcn X (.builtin "all") (pZ K):=by subst k;exact Om hc
theorem Ft(k:X.K=K):jcn X (.builtin "isinstance") (rT K):=by subst k;exact PM
theorem HJ(k:X.K=K):jcn X (.type "list") (λxs H Q=>∃p ys,xs=[.ref p]/\(SqL K H p ys\/SqT K H p ys)/\∀l,H l=none->Q (.ref l) (aQ H l (.lst ys))):=by subst k;exact Oc
theorem Nw(k:X.K=K):jcn X (.type "tuple") (λxs H Q=>∃p ys,xs=[.ref p]/\((SqL K H p ys/\∀l,H l=none->Q (.ref l) (aQ H l (.tup ys)))\/(SqT K H p ys/\Q (.ref p) H))):=by subst k;exact LM
theorem DZ(k:X.K=K):qM X "str.join" (EK K):=by subst k;exact MX
theorem dC(k:X.K=K)(ha:PE X a ta)(he:∀whole,isTrue a X.env whole=(do let v<-whole;standAt a.pos;holding [v] (truthy v))):
  PT X a (λσ H Q=>ta σ H λx H'=>∃k,fo K x H' k/\Q k H'):=by subst k;exact NS ha he
theorem MV(k:X.K=K)(ha:PE X a ta):PE X (.UnaryOp .Not a pos) (λσ H Q=>ta σ H λx H1=>∃k,fo K x H1 k/\Q (.bl (!k)) H1):=by subst k;exact Mh ha
theorem cx(k:X.K=K)(hl:PE X l tl):PI X tg l (iV K tl):=by subst k;exact Hj hl
theorem pd{r:V->List V->Hp->VK->Prop}(k:X.K=K)(h:PE X e (uz X.K T r to t)):PE X e (uz K T r to t):=by subst k;exact h
end
section
variable {C : Ct} {E : XK} {ex bs bs1 : List Addr} {h : Z.MH} {H : Hp} {α β : Type} {R : List Addr -> Hp -> β -> α -> Prop}
theorem Post.noX{Q:β->Hp->Prop}(p:Post C ex E bs h H R r.noX Q):Post C ex E0 bs h H R r Q:=by
 cases r with
 | ok a h'=>exact p
 | exc c h'=>exact p.elim
 | stuck=>exact p
theorem Hy(q:SA C E0 t m):SA C E t (Z.fq m):=λex bs hh ρ σ H Q hr re p=>q ex bs hh ρ σ H Q hr re p.noX
noncomputable def SX(C:Ct)(t:FK->TS)(m:Z.MS):Prop:=
 ∀(ex bs:List Addr) (h:Z.MH) (ρ:Z.Ro) (σ:St) (H:Hp) (D:Ends) (F:FK),HR C ex bs h H->RE C bs (gh ex bs h H) ρ σ->jeo C ex (FE (F σ)) bs h H (m ρ h) D->t F D σ H
noncomputable def GH(C:Ct)(t:(Addr->Hp->Prop)->TE)(m:Z.ME):Prop:=∀F,SE C (FE F) (t F) m
theorem Mc(hl:SA C E0 tl ml):GH C (Gj (bq C z) [] tl) (Z.aV z (Z.fq ml)):=λF=>bI (E:=FE F) (Hy hl)
theorem Je{t:(Addr->Hp->Prop)->TE}(q:GH C t m):SX C (om i t) (Z.aw m (Z.ay i)):=λex bs h ρ σ H D F hr re p=>xM (q (F σ)) ex bs h ρ σ H D hr re p
theorem IA{t:FK->TS}(q:SX C t m):SX C (nh t (λ_=>DP)) m:=λex bs h ρ σ H D F hr re p=>q ex bs h ρ σ H D F hr re p
noncomputable def tL(C:Ct)(W:Addr)(tab:List (String×Bool)):Prop:=∀c b,tab.lookup c=some b->PySem.W.subIn C.K (.ref (C.cm c)) (.ref W)=some b
theorem PU:tL C W []:=λ_ _ e=>nomatch e
theorem Nu(q:PySem.W.subIn C.K (.ref (C.cm c)) (.ref W)=some b)(r:tL C W tab):tL C W ((c,b)::tab):=by
 intro x y e;by_cases z:x=c
 ·subst z
  simp at e;subst e;exact q
 ·rw[ki,beq_eq_false_iff_ne.mpr z]at e;exact r x y e
theorem RE.unset(r:RE C bs G ρ σ):RE C bs G (ρ.set i none) (σ.set i none):=by
 refine⟨by simp[r.1],λj e hj=> ?_⟩;by_cases hij:i=j
 ·subst hij
  rw[List.getElem?_set_self']at hj;cases q:ρ[i]? with
  | none=>rw[q]at hj;simp at hj
  | some o=>rw[q]at hj;simp at hj
 ·rw[qe hij]at hj
  obtain⟨u,h1,h2⟩:=r.2 j e hj;exact⟨u,by rw[qe hij];exact h1,h2⟩
theorem jeo.gone(p:jeo C ex E bs h H (r.noX.gone i) D):jeo C ex E0 bs h H r (D.gone i):=by
 cases r with
 | nx ρ1 h1=>exact λσ' bs' H' e' re'=>p _ bs' H' e' re'.unset
 | bk ρ1 h1=>exact λσ' bs' H' e' re'=>p _ bs' H' e' re'.unset
 | ct ρ1 h1=>exact λσ' bs' H' e' re'=>p _ bs' H' e' re'.unset
 | rt d h1=>exact p
 | exc c h1=>exact p.elim
 | stuck=>exact p.elim
theorem Kw:SS C E (BA (C.cm c)) (Z.rh c):=λex bs h ρ σ H D hr re p=>p.elim
theorem oS{rest:Addr->TS}{r:String->Z.MS}(ht:tL C W tab)(hm:SS C E0 th m)(hrest:∀c,SS C E (rest (C.cm c)) (r c))(c:String):
  SS C E (DK C.K W i th rest (C.cm c)) (Z.Dm tab i m r c):=by
 intro ex bs h ρ σ H D hr re p;unfold Z.Dm at p;cases e:tab.lookup c with
 | none=>rw[e]at p;exact p.elim
 | some b=>
  rw[e]at p;refine⟨b,ht c b e,?_⟩;cases b with
  | false=>exact hrest c ex bs h ρ σ H D hr re p
  | true=>
   intro ea oe hn hc;obtain⟨e2,g⟩:=Ev.alloc (o:=.frz oe (.own 0)) hr hn;exact hm ex bs h _ _ _ (D.gone i) e2.hr ((re.ev e2).set (v:=.ref ea) (d:=.exc c) (by simp only[RV];exact⟨ea,oe,_,rfl,g,hc⟩)) ((jeo.gone p).from e2)
theorem JF{tb:FK->TS}{th:Addr->TS}{f:String->Z.MS}(hb:SX C tb m)(hh:∀c,SS C E (th (C.cm c)) (f c)):SS C E (AX tb th) (Z.lz m f):=by
 intro ex bs h ρ σ H D hr re p;refine hb ex bs h ρ σ H D _ hr re ?_;unfold Z.lz at p;cases e:m ρ h with
 | exc c h1=>rw[e]at p;exact λbs' H' e'=>⟨C.cm c,rfl,hh c ex bs' h1 ρ σ H' D e'.hr (re.ev e') (p.from e')⟩
 | nx ρ1 h1=>rw[e]at p;exact p
 | rt d h1=>rw[e]at p;exact p
 | bk ρ1 h1=>rw[e]at p;exact p
 | ct ρ1 h1=>rw[e]at p;exact p
 | stuck=>rw[e]at p;exact p
noncomputable def ve(K:PySem.W.Frag):List V->Hp->VK->Prop:=λxs H Q=>∃a v2 cv oe u C b,xs=[.ref a,v2]/\((∃W,v2=.ref W/\cv=.ref W)\/∃n,v2=.ty n/\cv=.type n)/\H a=some (.frz oe u)/\oe.cls=.ref C/\IsiC K C/\PySem.W.kitOne K (.ref C) cv=some b/\Q (.bl b) H
theorem h_{K:PySem.W.Frag}(k:X.K=K):jcn X (.builtin "isinstance") (ve K):=by
 subst k;intro pins s σ H xs us Q I r h;obtain⟨a,v2,cv,oe,u,C,b,rfl,hv,hH,hc,ic,hk,q⟩:=h;cases r with
 | cons r1 rr=>
  cases rr with
  | cons r2 rr=>
   cases rr
   cases r1
   rcases hv with⟨W,rfl,rfl⟩|⟨n,rfl,rfl⟩
   ·cases r2;exact HU I hH hc ic hk λtk=>⟨.bl b,H,I.tok tk,rfl,q⟩
   ·cases r2;exact HU I hH hc ic hk λtk=>⟨.bl b,H,I.tok tk,rfl,q⟩
noncomputable def nP(C:Ct)(tab:List ((String×Bool×String)×Bool)):Prop:=∀c k n b,tab.lookup (c,k,n)=some b->IsiC C.K (C.cm c)/\W.kitOne C.K (.ref (C.cm c)) (if k=true then .ref (C.cm n)else .type n)=some b
theorem Qd:nP C []:=λ_ _ _ _ e=>nomatch e
theorem LJ(q:IsiC C.K (C.cm c))(q2:W.kitOne C.K (.ref (C.cm c)) (if k=true then .ref (C.cm n)else .type n)=some b)(r:nP C tab):nP C (((c,k,n),b)::tab):=by
 intro x k' n' y e;by_cases z:(x,k',n')=(c,k,n)
 ·cases z
  simp at e;subst e;exact⟨q,q2⟩
 ·rw[ki,beq_eq_false_iff_ne.mpr z]at e;exact r x k' n' y e
theorem ia(ht:nP C tab):SL C (ve C.K) (Z.cU tab):=by
 intro ex bs h H E xs ds Q hr rs p;unfold Z.cU at p;split at p
 ·obtain⟨b,e,p⟩:=p.oR
  obtain⟨v,u,rfl,r1,r2⟩:=zX rs;simp only[RV]at r1 r2;subst r2;obtain⟨a,oe,u,rfl,g,hc⟩:=r1;obtain⟨i1,i2⟩:=ht _ _ _ _ e;exact⟨a,_,_,oe,u,_,b,rfl,.inl ⟨_,rfl,rfl⟩,cn _ _ g,hc,i1,by simpa using i2,p.now hr (by simp only[RV])⟩
 ·obtain⟨b,e,p⟩:=p.oR
  obtain⟨v,u,rfl,r1,r2⟩:=zX rs;simp only[RV]at r1 r2;subst r2;obtain⟨a,oe,u,rfl,g,hc⟩:=r1;obtain⟨i1,i2⟩:=ht _ _ _ _ e;exact⟨a,_,_,oe,u,_,b,rfl,.inr ⟨_,rfl,rfl⟩,cn _ _ g,hc,i1,by simpa using i2,p.now hr (by simp only[RV])⟩
 ·exact p.elim
theorem Ke{K:PySem.W.Frag}{tr:Addr->TS}(k:X.K=K)(q:PH X hs (DK X.K W i th tr)):PH X hs (DK K W i th tr):=by subst k;exact q
end
end L2
namespace L2
open PySem PySem.Spec
section
variable {C : Ct} {ex bs bs1 bs2 : List Addr} {h h1 h2 : Z.MH} {H H1 H2 : Hp} {E : XK}
theorem RVf.lookup:∀{fs:List (Str×Z.D)} {vs:List (Str×V)},RVf C bs G vs fs->(∀d,fs.lookup f=some d->∃v,vs.lookup f=some v/\RV C bs G v d)/\(fs.lookup f=none->vs.lookup f=none)
  | [],[],_=>⟨λd e=>by simp at e,λ_=>rfl⟩
  | (y,d)::ds,(x,v)::vs,r=>by
    simp only[RVf]at r;obtain⟨rfl,r1,r2⟩:=r;have ih:=RVf.lookup (f:=f) r2;by_cases q:(f==x)=true
    · simp only[List.lookup,q]
      exact⟨λd' e=>by cases e;exact⟨v,rfl,r1⟩,λe=>by cases e⟩
    · have q':(f==x)=false:=by simpa using q
      simp only[List.lookup,q'];exact ih
  | [],_::_,r=>by simp only[RVf]at r
  | _::_,[],r=>by simp only[RVf]at r
theorem RVf.put(rv:RV C bs G v d):∀{fs:List (Str×Z.D)} {vs:List (Str×V)},RVf C bs G vs fs->RVf C bs G (bA f v vs) (Z.bA f d fs)
  | [],[],_=>by simp only[bA,Z.bA,RVf];exact⟨trivial,rv,trivial⟩
  | (y,e)::ds,(x,u)::vs,r=>by
    simp only[RVf]at r;obtain⟨rfl,r1,r2⟩:=r;simp only[bA,Z.bA];by_cases q:x=f
    · rw[if_pos q,if_pos q];simp only[RVf];exact⟨trivial,rv,r2⟩
    · rw[if_neg q,if_neg q];simp only[RVf];exact⟨trivial,r1,RVf.put rv r2⟩
  | [],_::_,r=>by simp only[RVf]at r
  | _::_,[],r=>by simp only[RVf]at r
theorem RVf.len:∀{fs:List (Str×Z.D)} {vs:List (Str×V)},RVf C bs G vs fs->vs.length=fs.length
  | [],[],_=>rfl
  | (y,d)::ds,(x,v)::vs,r=>by simp only[RVf]at r;simp[RVf.len r.2.2]
  | [],_::_,r=>by simp only[RVf]at r
  | _::_,[],r=>by simp only[RVf]at r
theorem IV(hr:HR C ex bs h H)(rx:RV C bs (gh ex bs h H) x d)(e:Z.t7 h d=some (c,fs)):
  ∃a dx fvs,x=.ref a/\H a=some (.ins (C.cm c) dx fvs)/\RVf C bs (gh ex bs h H) fvs fs:=by
 cases d with
 | obj c' fs'=>
  simp only[Z.t7,Option.some.injEq,Prod.mk.injEq]at e;obtain⟨rfl,rfl⟩:=e;simp only[RV]at rx;obtain⟨a,dx,fvs,h1,h2,h3⟩:=rx;exact⟨a,dx,fvs,h1,cn _ _ h2,h3⟩
 | ref k=>
  simp only[RV]at rx;obtain⟨a,rfl,hk⟩:=rx;simp only[Z.t7]at e;split at e
  ·rename_i c' fs' hc
   simp only[Option.some.injEq,Prod.mk.injEq]at e;obtain⟨rfl,rfl⟩:=e;obtain⟨dx,fvs,h1,h2⟩:=hr.cell k a _ hk hc;exact⟨a,dx,fvs,rfl,h1,h2⟩
  ·cases e
 | _=>simp[Z.t7]at e
noncomputable def fG(C:Ct)(f:Str)(tab:List String):Prop:=∀c∈tab,Cls C.K (C.cm c)/\jbw C.K (C.cm c) f
theorem jr:fG C f []:=λc m=>by simp at m
theorem Pa(a:Cls C.K (C.cm c))(b:jbw C.K (C.cm c) f)(r:fG C f tab):fG C f (c::tab):=λc' m=>by
 rcases qr.mp m with rfl|m
 ·exact⟨a,b⟩
 ·exact r c' m
theorem bY(ok:fG C f tab)(ht:SE C E t m):SE C E (mG C.K t f) (Z.ax tab f m):=by
 intro ex bs h ρ σ H Q hr re p;refine ht ex bs h ρ σ H _ hr re (p.bind λd x h1 bs1 H1 e1 rx p1=> ?_);obtain⟨⟨c,fs⟩,eo,p1⟩:=p1.oR;obtain⟨hc,p1⟩:=p1.chk;obtain⟨v,el,p1⟩:=p1.oR1;obtain⟨a,dx,fvs,rfl,ha,rf⟩:=IV e1.hr rx eo;obtain⟨u,hu,ru⟩:=rf.lookup.1 v el;exact⟨a,_,dx,fvs,u,rfl,ha,(ok c hc).1,(ok c hc).2,hu,Post.now e1.hr p1 ru⟩
theorem e8(ok:fG C f tab)(ho:SE C E to mo)(he:SE C E te me):SS C E (kZ C.K to te f) (Z.dS tab f mo me):=by
 intro ex bs h ρ σ H D hr re p;refine he ex bs h ρ σ H _ hr re (p.bind λd v h0 bs0 H0 e0 rv p0=> ?_);refine ho ex bs0 h0 ρ σ H0 _ e0.hr (re.ev e0) (p0.bind λo x h1 bs1 H1 e1 rx p1=> ?_);cases o with
 | ref k=>
  simp only[RV]at rx;obtain⟨a,rfl,hk⟩:=rx;dsimp only at p1;split at p1
  ·rename_i c fs hc
   split at p1
   case isFalse=>exact p1.elim
   rename_i q;obtain⟨dx,fvs,ha,rf⟩:=e1.hr.cell k a _ hk hc;refine⟨a,_,dx,fvs,rfl,ha,(ok c q.1).1,(ok c q.1).2,by rw[rf.len];exact q.2,?_⟩;have e2:=Ev.put (o:=.ins (C.cm c) dx (bA f v fvs)) (c:=.ins c (Z.bA f d fs)) e1.hr hk hc ⟨dx,_,df,RVf.put (rv.ev e1) rf⟩;exact p1 σ bs1 _ e2 ((re.ev e0).ev (e1.trans e2))
  ·exact p1.elim
 | _=>exact p1.elim
noncomputable def cX(C:Ct)(mg:Str->Option Value)(base:Heap)(k:Nat)(m:Str)(tab:List (String×Z.MF)):Prop:=
 ∀c z,tab.lookup c=some z->Cls C.K (C.cm c)/\oE C.P C.w C.K mg base (CXE C.P C.w) k (C.cm c) m (bq C z)
theorem dP{mg:Str->Option Value}:cX C mg base k m []:=λc z e=>by simp at e
theorem Pn{mg:Str->Option Value}(a:Cls C.K (C.cm c))(b:Meth C.K (C.cm c) m f)(F:FnOk C.P C.w C.K mg base (CXE C.P C.w) j f fd ps (bq C z))(hj:j<=k)(B:jfb C.K fd ps [])(r:cX C mg base k m tab):
  cX C mg base k m ((c,z)::tab):=λc' z' e=>by
 by_cases q:(c'==c)=true
 ·simp only[List.lookup,q]at e
  cases e
  have:c'=c:=by simpa using q
  subst this;exact⟨a,f,fd,ps,b,F.mono hj,B⟩
 ·have q':(c'==c)=false:=by simpa using q
  simp only[List.lookup,q']at e;exact r c' z' e
theorem b9{mg:Str->Option Value}(ok:cX C mg base k f tab)(ho:SE C E to m)(hl:SA C E ta l):
  SE C E (oq C.P C.w C.K mg base (CXE C.P C.w) k f E to ta) (Z.aF tab f m l):=by
 intro ex bs h ρ σ H Q hr re p;refine ho ex bs h ρ σ H _ hr re (p.bind λd x h1 bs1 H1 e1 rx p1=> ?_);obtain⟨⟨c,fs⟩,eo,p1⟩:=p1.oR;obtain⟨z,ez,p1⟩:=p1.oR;obtain⟨hn,p1⟩:=p1.chk;obtain⟨a,dx,fvs,rfl,ha,rf⟩:=IV e1.hr rx eo;obtain⟨k1,k2⟩:=ok c z ez;refine⟨a,_,dx,fvs,_,rfl,ha,k1,k2,rf.lookup.2 hn,?_⟩;refine hl ex bs1 h1 ρ σ H1 _ e1.hr (re.ev e1) (p1.bind λds xs h2 bs2 H2 e2 rxs p2=> ?_);exact⟨ex,bs2,h2,d::ds,e2.hr,by simp only[RVs];exact⟨rx.ev e2,rxs⟩,p2⟩
theorem Ev.freezeI(hr:HR C ex bs h H)(hk:bs[k]?=some a)(h0:h[k]?=some (some (.ins c fs))):
  Ev C ex bs h H bs (h.set k none) H/\RV C bs (gh ex bs (h.set k none) H) (.ref a) (.obj c fs):=by
 have ab:a∈bs:=ql hk;have lvs:∀x,lv bs (h.set k none) x->lv bs h x/\x≠a:=λx ⟨j,c',e1,e2,l2⟩=>by
  by_cases hj:k=j
  ·subst hj;rw[qg (q8.mp h0).1]at e2;cases e2
  ·rw[qe hj]at e2
   exact⟨⟨j,c',e1,e2,l2⟩,λz=>hj (hr.inj k j a hk (by rw[<-z];exact e1))⟩
 have sm:Same (gh ex bs h H) (gh ex bs (h.set k none) H):=λx u e=>by
  obtain⟨h1,h2,h3⟩:=du.mp e;exact du.mpr ⟨h1,λl=>h2 (lvs x l).1,h3⟩
 obtain⟨dx,vs,h1,h2⟩:=hr.cell k a _ hk h0;refine⟨⟨λ_ _ e=>e,⟨by simp[hr.len],hr.inj,hr.sep,hr.dom,hr.domx,λj x c' e1 e2=> ?_⟩,sm,λ_ _=>rfl⟩,?_⟩
 ·by_cases hj:k=j
  ·subst hj;rw[qg (q8.mp h0).1]at e2;cases e2
  ·rw[qe hj]at e2
   exact(hr.cell j x c' e1 e2).mono (λ_ _ e=>e) sm rfl
 ·simp only[RV]
  exact⟨a,dx,vs,rfl,du.mpr ⟨λm=>hr.sep a m ab,λl=>(lvs a l).2 rfl,h1⟩,h2.mono (λ_ _ e=>e) sm⟩
theorem Ev.born(hr:HR C ex bs h H)(hx:H x=none)(hd:H dx=none)(ne:dx≠x):
  Ev C ex bs h H (bs++[x]) (h++[some (.ins c [])]) (aQ (aQ H dx (.own x)) x (.ins (C.cm c) dx [])):=by
 obtain⟨e1,_⟩:=Ev.alloc (o:=.own x) hr hd;exact e1.trans (Ev.cell e1.hr (by rw[aW (Ne.symm ne)];exact hx) ⟨dx,[],df,by simp only[RVf]⟩)
theorem mB(ea:C.cm c=a)(hl:SA C E tl ml):SE C E (uk a (bq C z) [] E tl) (Z.eN c z ml):=by
 intro ex bs h ρ σ H Q hr re p;refine hl ex bs h ρ σ H _ hr re (p.bind λds xs h1 bs1 H1 e1 rx p1=> ?_);intro x dx hx hd ne;rw[<-ea];have e2:=Ev.born (c:=c) e1.hr hx hd ne;have kx:(bs1++[x])[h1.length]?=some x:=by rw[<-e1.hr.len];simp
 refine⟨ex,bs1++[x],h1++[some (.ins c [])],.ref h1.length::ds,e2.hr,?_,?_⟩
 ·simp only[RVs,RV]
  exact⟨⟨x,rfl,kx⟩,by rw[zx];exact rx.ev e2⟩
 ·refine(p1.from e2).bind (R1:=RV C) λd v h2 bs2 H2 e3 rv p3=> ?_
  cases d with
  | non=>
   simp only[RV]at rv;refine⟨rv,?_⟩;dsimp only at p3;split at p3
   ·rename_i c' fs hc
    obtain⟨e4,r4⟩:=Ev.freezeI e3.hr (e3.pre _ _ kx) hc;exact p3 (.ref x) bs2 H2 e4 r4
   ·exact p3.elim
  | _=>exact p3.elim
theorem E5(ea:C.cm c=a)(hl:SA C E tl ml):SE C E (uk a (bq C z) [] E tl) (Z.sN c z ml):=by
 intro ex bs h ρ σ H Q hr re p;refine hl ex bs h ρ σ H _ hr re (p.bind λds xs h1 bs1 H1 e1 rx p1=> ?_);intro x dx hx hd ne;rw[<-ea];have e2:=Ev.born (c:=c) e1.hr hx hd ne;have kx:(bs1++[x])[h1.length]?=some x:=by rw[<-e1.hr.len];simp
 refine⟨ex,bs1++[x],h1++[some (.ins c [])],.ref h1.length::ds,e2.hr,?_,?_⟩
 ·simp only[RVs,RV]
  exact⟨⟨x,rfl,kx⟩,by rw[zx];exact rx.ev e2⟩
 ·refine(p1.from e2).bind (R1:=RV C) λd v h2 bs2 H2 e3 rv p3=> ?_
  cases d with
  | non=>
   simp only[RV]at rv;exact⟨rv,Post.now e3.hr p3 (by simp only[RV];exact⟨x,rfl,e3.pre _ _ kx⟩)⟩
  | _=>exact p3.elim
theorem FD{mg:Str->Option Value}:FnOk P w K mg base CX k f fd ps (bq C (λ_ _=>.stuck)):=
 ⟨λvs H Q E ⟨_,_,_,_,_,_,p⟩=>p.elim,λA outer s H args us vs Q E _ _ _ _ ⟨_,_,_,_,_,_,p⟩=>p.elim⟩
theorem Mp(ds:List Z.D)(i:Nat):(Z.jY ds)[i]?=(ds[i]?).map λd=>Z.D.tup [.int i,d]:=by
 unfold Z.jY;rw[List.getElem?_mapIdx]
theorem ItOk.enum(hq:SqL C.K G a vs)(r:RVs C bs G vs ds):ItOk C bs G (Gf C.K a) (none,Z.jY ds):=by
 intro ex2 bs2 h2 H2 hr pre sm _ i;have hq2:SqL C.K H2 a vs:=(sm.trans cn).sql hq;refine⟨λd e=> ?_,λhle=>⟨vs,hq2,by rw[r.len];simpa [Z.jY]using hle⟩⟩;rw[Mp]at e;cases e2:ds[i]? with
 | none=>rw[e2]at e;cases e
 | some d0=>
  rw[e2]at e;simp only[ke,Option.some.injEq]at e;subst e;obtain⟨v,hv,rv⟩:=r.get e2;refine⟨⟨vs,v,hq2,hv⟩,λx H3 y=> ?_⟩;obtain⟨p,x',hp,hx',rfl,rfl⟩:=y;have:=hx' vs hq2;rw[hv]at this;cases this;obtain⟨e3,g⟩:=Ev.alloc (o:=.tup [.int i,v]) hr hp;refine⟨e3,?_⟩;simp only[RV,RVs];exact⟨p,_,rfl,g,by simp only[RVs,RV];exact⟨trivial,(rv.mono pre sm).ev e3,trivial⟩⟩
theorem RVs.only(r:RVs C bs G xs [d]):∃x,xs=[x]/\RV C bs G x d:=by
 cases xs with
 | nil=>simp only[RVs]at r
 | cons x xs=>
  simp only[RVs]at r;cases xs with
  | nil=>exact⟨x,rfl,r.1⟩
  | cons y ys=>exact absurd r.2 (by simp only[RVs];exact id)
theorem LZ(ht:SA C E t m):SI C E (Ei C.K t) (Z.m9 m):=by
 intro ex bs h ρ σ H Q hr re p;refine ht ex bs h ρ σ H _ hr re (p.bind λds xs h1 bs1 H1 e1 rx p1=> ?_);split at p1
 ·obtain⟨x,rfl,ry⟩:=rx.only
  simp only[RV]at ry;obtain⟨a,vs,rfl,ga,rs⟩:=ry;exact⟨a,vs,rfl,SqL.of (cn _ _ ga),Post.now e1.hr p1 (.enum (SqL.of ga) rs)⟩
 ·rename_i ns
  obtain⟨x,rfl,ry⟩:=rx.only;simp only[RV]at ry;obtain⟨a,rfl,ga⟩:=ry;refine⟨a,_,rfl,cn.sql ga,Post.now e1.hr p1 (.enum ga ?_)⟩;clear ga p1 p rx
  induction ns with
  | nil=>simp only[zw,RVs]
  | cons n ns ih=>simp only[List.map_cons,RVs,RV];exact⟨trivial,ih⟩
 ·exact p1.elim
end
end L2
namespace L2
open PySem PyProof
variable {C : Ct} {E : XK} {ex bs bs1 : List Addr} {h h1 : Z.MH} {H H1 : Hp}
theorem jdf.oR{α:Type}{o:Option α}{f:α->Z.MH->Z.Res (List Z.D)}(p:jdf C ex E bs h H ((Z.oR o h1).bind f) Q):∃a,o=some a/\jdf C ex E bs h H (f a h1) Q:=by
 cases o with
 | none=>exact p.elim
 | some a=>exact⟨a,rfl,p⟩
theorem Hv(ha:SE C E ta ma)(hb:SE C E tb mb):SN C E (ou (mD C.K) ta tb) (Z.gW ma mb):=by
 intro ex bs h ρ σ H Q hr re p;refine ha ex bs h ρ σ H _ hr re (jdf.bind p λdx x h1 bs1 H1 e1 rx p1=> ?_);refine hb ex bs1 h1 ρ σ H1 _ e1.hr (re.ev e1) (jdf.bind p1 λdy y h2 bs2 H2 e2 ry p2=> ?_);obtain⟨xs,a1,p2⟩:=p2.oR;obtain⟨ys,a2,p2⟩:=p2.oR;obtain⟨q,p2⟩:=p2.chk;obtain⟨a,vs,rfl,ha',rs⟩:=lN e2.hr (rx.ev e2) a1;obtain⟨b,ws,rfl,hb',qs⟩:=lN e2.hr ry a2;exact .inl ⟨a,b,vs,ws,rfl,rfl,ha',hb',by rw[rs.len,qs.len];exact q,λl hl=>jdf.now e2.hr p2 hl (rs.append qs)⟩
end L2
namespace L2
open PySem PySem.Spec
section
variable {C : Ct} {ex bs bs1 bs2 : List Addr} {h h1 h2 : Z.MH} {H H1 H2 : Hp} {E : XK}
theorem ph(ho:SE C E to mo):SE C E (lX C.K "int" oB to) (Z.m5 mo):=by
 intro ex bs h ρ σ H Q hr re p;refine ho ex bs h ρ σ H _ hr re (p.bind λd x h1 bs1 H1 e1 rx p1=> ?_);cases d with
 | int i=>
  simp only[RV]at rx;subst rx;exact⟨rfl,i,rfl,rfl,Post.now e1.hr p1 (by simp only[RV])⟩
 | _=>exact p1.elim
end
end L2
namespace L2
open PySem PySem.Spec PyProof.Rows
structure FnM (K:W.Frag) (x q:Str) (st:Stmt) (f:Addr) (fd:FuncData) (ps:List Str):Prop where
 F:Fun K x q st f fd
 B:jfb K fd ps []
structure FnT (K:W.Frag) (mg:Str->Option Value) (x q:Str) (st:Stmt) (f:Addr) (fd:FuncData) (ps:List Str):Prop where
 F:Fun K x q st f fd
 B:jfb K fd ps []
 m:mg x=some (.ref f)
structure ClsT (K:W.Frag) (mg:Str->Option Value) (x:Str) (c:Addr):Prop where
 cl:Cls K c
 mc:mg x=some (.ref c)
 ms:W.makesIn K c=true
 kc:W.keepIn K (.ref c)=true
section
variable {K : W.Frag} {h : Heap} {mg : Str -> Option Value} {x q : Str} {st : Stmt} {f c : Addr} {oc : Value} {od an : Option Addr} {osl : Array (Option Value)} {kV doc pm cdv ct : Value} {ps : List Str}
theorem lenN{P:List Value->Prop}(h:P []):∀us:List Value,us.length=([]:List Str).length->P us
 | [],_=>h
theorem lenC{P:List Value->Prop}{x:Str}{ps:List Str}(h:∀a,∀us:List Value,us.length=ps.length->P (a::us)):∀us:List Value,us.length=(x::ps).length->P us
 | a::us,e=>h a us (Nat.succ.inj e)
theorem fnm(l:K.lookup f=some ⟨oc,od,.func (W.fnOf x q (k_ st) (i9 st) (bj st) .none kV doc pm an cdv ct),osl⟩)
  (c:W.codeIn K cdv q=true) (k:W.keepIn K (.ref f)=true)
  (b:∀(kV doc pm:Value) (an:Option Addr) (cdv ct:Value) (us:List Value),us.length=ps.length->bindArgs (W.fnOf x q (k_ st) (i9 st) (bj st) .none kV doc pm an cdv ct) ⟨us,[]⟩=pure (ps.zip us):=by intro _ _ _ _ _ _;repeat (first | exact lenN rfl | refine lenC λ_=> ?_)):
  FnM K x q st f (W.fnOf x q (k_ st) (i9 st) (bj st) .none kV doc pm an cdv ct) ps:=⟨Ju l c k,(Ju l c k).binds b⟩
theorem fnt(X:K.In h)(G:h.Ns mainGlobals mg)(a:W.nsIn K mainGlobals x=some (some (.ref f)))(M:FnM K x q st f (W.fnOf x q (k_ st) (i9 st) (bj st) .none kV doc pm an cdv ct) ps):
  FnT K mg x q st f (W.fnOf x q (k_ st) (i9 st) (bj st) .none kV doc pm an cdv ct) ps:=⟨M.F,M.B,W.mg_of X G a⟩
theorem clm(X:K.In h)(G:h.Ns mainGlobals mg)(a:W.nsIn K mainGlobals x=some (some (.ref c)))(pg:W.plainGet K c Str.empty=true)(hd:W.hasDictIn K c=true)(po:W.plainOver K c=true)
  (sa:W.findIn K (.ref c) "__setattr__"=some (some (.builtin "object.__setattr__"))) (mk:W.makesIn K c=true) (kc:W.keepIn K (.ref c)=true):ClsT K mg x c:=⟨⟨pg,hd,po,sa⟩,W.mg_of X G a,mk,kc⟩
theorem naOf(h:W.findIn K (.ref c) a=some none):jbw K c a:=h
theorem ClsT.k(C:ClsT K mg x c):GV mg x (.ref c):=⟨_,C.mc,rfl⟩
theorem ClsT.mkk(C:ClsT K mg x c)(M:Meth K c "__init__" f):Mk K c f:=⟨C.ms,M.at_,M.fn,C.kc⟩
end
theorem bJ{K:W.Frag}{mg:Str->Option Value}{st:Stmt}(H:FnT K mg x q st f fd ps)(o:FnOk P w K mg base CX k f fd ps sp):GC P w K mg base CX k x sp:=⟨f,fd,ps,o,H.m,H.F.kp,H.B⟩
theorem iY{K:W.Frag}{mg:Str->Option Value}{st:Stmt}(C:ClsT K mg x c)(M:Meth K c "__init__" f)(H:FnM K y q st f fd ps)(o:FnOk P w K mg base CX k f fd ps sp):Fj P w K mg base CX k x c sp:=⟨f,fd,ps,C.mkk M,o,C.mc,H.B⟩
theorem aH{N P:List Str}{sc:Scope}(a:sc.kind=.function:=by rfl)(b:sc.isCoroutine=false:=by rfl)(c:sc.isGenerator=false:=by rfl)(d:N.Nodup:=by decide+kernel)(e:N.take P.length=P:=by rfl)
  (f:∀x∈P,sc.names.lookup x=some .local\/sc.names.lookup x=some .cell:=by decide+kernel) (g:∀y∈sc.names,y.2≠ .free:=by decide+kernel):FnScope N P sc:=⟨a,b,c,d,e,f,g⟩
theorem aG{C:Ct}{P:Program}{w:World}{K:W.Frag}{mg:Str->Option Value}{base:Heap}{x qual:Str}{st:Stmt}{f:Addr}{fd:FuncData}{N ps:List Str}{k np nn:Nat}{b:Z.MS}{z:Z.MF}(F:Fun K x qual st f fd)(S:FnScope N ps (bj st))
  (hb:∀(cdv:Value) (A:Around) (outer:List Env) (s:Shared) (H:Hp) (E:XK),Room k (A.deeper (envOfC qual (bj st) s.heap.objs.size f cdv))->
   ∃t,PSs (bD (CXE P w) P w K mg base N qual (bj st) f cdv A outer s H E) (i9 st) t/\SS C E t b)
  (hz:z=Z.az np nn b:=by rfl) (hp:ps.length=np:=by rfl) (hn:N.length=nn:=by rfl) (hle:np<=nn:=by decide):FnOk P w K mg base (CXE P w) (k+1) f fd ps (bq C z):=
 PN F S hz hp hn hle hb
theorem hm{j k:Nat}{A:Around}(r:Room k A)(h:j<=k:=by decide):Room j A:=r.mono h
theorem b8(P:Program)(w:World)(K:W.Frag){X:Cx}{a b:Expr}{ta tb:TE}{pos:Pos}(hu:X.A.units+64<cLine)(ha:PE X a ta)(hb:PE X b tb)(hs:HD b:=by exact λ_ _=>rfl)(p:X.prog=P:=by rfl)(w':X.w=w:=by rfl)(k:X.K=K:=by rfl):PE X (.Subscript a b pos) (ou (xv P w K) ta tb):=AG (ED p w' k hu) ha hb hs
theorem cb(P:Program)(w:World)(K:W.Frag)(mg:Str->Option Value)(base:Heap)(k:Nat){X:Cx}{m:Str}{E:XK}{e:Expr}{ta:TE}{t:TA}(h:PE X e (oq X.prog X.w X.K X.mg X.base (CXE P w) k m E ta t))(h1:X.prog=P:=by rfl)(h2:X.w=w:=by rfl)(h3:X.K=K:=by rfl)(h4:X.mg=mg:=by rfl)(h5:X.base=base:=by rfl):PE X e (oq P w K mg base (CXE P w) k m E ta t):=tK h1 h2 h3 h4 h5 h
section
variable {C : Ct} {ex bs bs1 bs2 : List Addr} {h h1 h2 : Z.MH} {H H1 H2 : Hp} {E : XK}
theorem MB{mg:Str->Option Value}(ok:cX C mg base k f tab)(ho:∀F,SE C (FE F) to m)(hl:SA C E0 ta l):
  GH C (Dh C.P C.w C.K mg base k f to ta) (Z.aF tab f m (Z.fq l)):=λF=>b9 ok (ho F) (Hy hl)
noncomputable def NoD(G G':Hp):Prop:=∀x u,G x=some u->(∃o kw,u=.frz o (.dK kw)/\o.cls=.type "dict")\/G' x=some u
noncomputable def BH(a:Addr)(G G':Hp):Prop:=NoD G G'/\∀x u,x≠a->G x=some u->G' x=some u
theorem NoD.sql{K:W.Frag}(e:NoD G G')(h:SqL K G a xs):SqL K G' a xs:=by
 rcases h with(h|⟨o,h⟩)|h
 ·rcases e _ _ h with⟨_,_,z,_⟩|z
  ·cases z
  ·exact .inl (.inl z)
 ·rcases e _ _ h with⟨_,_,z,_⟩|z
  ·cases z
  ·exact .inl (.inr ⟨o,z⟩)
 ·exact .inr h
mutual
theorem RV.noD{G G':Hp}(hs:NoD G G'):∀{d:Z.D} {v:V},RV C bs G v d->RV C bs G' v d
 | .non,v,h=>by simp only[RV]at h ⊢;exact h
 | .bl b,v,h=>by simp only[RV]at h ⊢;exact h
 | .int i,v,h=>by simp only[RV]at h ⊢;exact h
 | .str x,v,h=>by simp only[RV]at h ⊢;exact h
 | .tup ds,v,h=>by
  simp only[RV]at h ⊢;obtain⟨a,vs,h1,h2,h3⟩:=h;rcases hs _ _ h2 with⟨_,_,z,_⟩|z
  ·cases z
  ·exact⟨a,vs,h1,z,RVs.noD hs h3⟩
 | .lst ds,v,h=>by
  simp only[RV]at h ⊢;obtain⟨a,vs,h1,h2,h3⟩:=h;rcases hs _ _ h2 with⟨_,_,z,_⟩|z
  ·cases z
  ·exact⟨a,vs,h1,z,RVs.noD hs h3⟩
 | .arg ns,v,h=>by
  simp only[RV]at h ⊢;obtain⟨a,h1,h2⟩:=h;exact⟨a,h1,hs.sql h2⟩
 | .ref k,v,h=>by simp only[RV]at h ⊢;exact h
 | .ty n,v,h=>by simp only[RV]at h ⊢;exact h
 | .cls n,v,h=>by simp only[RV]at h ⊢;exact h
 | .exc c,v,h=>by
  simp only[RV]at h ⊢;obtain⟨a,oe,u,h1,h2,h3⟩:=h;rcases hs _ _ h2 with⟨_,_,z,zc⟩|z
  ·cases z;rw[h3]at zc;cases zc
  ·exact⟨a,oe,u,h1,z,h3⟩
 | .obj c fs,v,h=>by
  simp only[RV]at h ⊢;obtain⟨a,dx,fvs,h1,h2,h3⟩:=h;rcases hs _ _ h2 with⟨_,_,z,_⟩|z
  ·cases z
  ·exact⟨a,dx,fvs,h1,z,RVf.noD hs h3⟩
 | .dic kvs,v,h=>by simp only[RV]at h ⊢;exact h
theorem RVs.noD{G G':Hp}(hs:NoD G G'):∀{ds:List Z.D} {vs:List V},RVs C bs G vs ds->RVs C bs G' vs ds
 | [],[],_=>by simp only[RVs]
 | d::ds,v::vs,h=>by
  simp only[RVs]at h ⊢;exact⟨RV.noD hs h.1,RVs.noD hs h.2⟩
 | [],_::_,h=>by simp only[RVs]at h
 | _::_,[],h=>by simp only[RVs]at h
theorem RVf.noD{G G':Hp}(hs:NoD G G'):∀{ds:List (Str×Z.D)} {vs:List (Str×V)},RVf C bs G vs ds->RVf C bs G' vs ds
  | [],[],_=>by simp only[RVf]
  | (y,d)::ds,(x,v)::vs,h=>by
    simp only[RVf]at h ⊢;exact⟨h.1,RV.noD hs h.2.1,RVf.noD hs h.2.2⟩
  | [],_::_,h=>by simp only[RVf]at h
  | _::_,[],h=>by simp only[RVf]at h
theorem RVk.noD{G G':Hp}(hs:NoD G G'):∀{ds:List (Sum Int Str×Z.D)} {vs:List (cp×V)},RVk C bs G vs ds->RVk C bs G' vs ds
  | [],[],_=>by simp only[RVk]
  | (y,d)::ds,(x,v)::vs,h=>by
    simp only[RVk]at h ⊢;exact⟨h.1,RV.noD hs h.2.1,RVk.noD hs h.2.2⟩
  | [],_::_,h=>by simp only[RVk]at h
  | _::_,[],h=>by simp only[RVk]at h
end
theorem RVk.get:∀{ds:List (Sum Int Str×Z.D)} {vs:List (cp×V)},RVk C bs G vs ds->ds.length=vs.length/\∀(i:Nat) (d:Z.D),(ds.map (·.2))[i]?=some d->∃k v,vs[i]?=some (k,v)/\RV C bs G v d
  | [],[],_=>⟨rfl,λi d e=>by simp at e⟩
  | (y,d)::ds,(x,v)::vs,h=>by
    simp only[RVk]at h;obtain⟨h1,h2,h3⟩:=h;obtain⟨i1,i2⟩:=RVk.get h3;refine⟨by simp[i1],λi d' e=> ?_⟩;cases i with
    | zero=>simp at e;subst e;exact⟨x,v,rfl,h2⟩
    | succ i=>exact i2 i d' (by simpa using e)
  | [],_::_,h=>by simp only[RVk]at h
  | _::_,[],h=>by simp only[RVk]at h
theorem ItOk.vals(hg:G a=some (.frz o (.dK kws)))(r:RVk C bs G kws kvs):ItOk C bs G (qK a o kws) (none,kvs.map (·.2)):=by
 intro ex2 bs2 h2 H2 hr pre sm _ i;have ha:H2 a=some (.frz o (.dK kws)):=cn _ _ (sm _ _ hg);obtain⟨hl,hget⟩:=r.get;refine⟨λd e=> ?_,λhle=>⟨ha,by simp at hle;omega⟩⟩;obtain⟨k,v,hv,rv⟩:=hget i d e;refine⟨⟨ha,(q8.mp hv).1⟩,λx H3 y=> ?_⟩;obtain⟨rfl,y⟩:=y;rw[hv]at y;simp at y;subst y;exact⟨Ev.refl hr,rv.mono pre sm⟩
theorem jf3.noD(hn:BH b G G')(na:a≠b)(e:H1 a=H a)(q:jf3 C bs G H a c):jf3 C bs G' H1 a c:=by
 have hs:=hn.1;cases c with
 | lst ds=>obtain⟨vs,h1,h2⟩:=q;exact⟨vs,by rw[e];exact h1,h2.noD hs⟩
 | dct kvs=>obtain⟨vs,h1,h2⟩:=q;exact⟨vs,by rw[e];exact h1,h2.noD hs⟩
 | ins c fs=>obtain⟨dx,vs,h1,h2⟩:=q;exact⟨dx,vs,by rw[e];exact h1,h2.noD hs⟩
 | fdc kvs=>obtain⟨o,vs,h1,hc,h2⟩:=q;exact⟨o,vs,hn.2 _ _ na h1,hc,h2.noD hs⟩
theorem Ev.froze(hr:HR C ex bs h H)(hk:bs[k]?=some a)(h0:h[k]?=some (some (.dct kvs)))(ha:H a=some (.dK kws)):
  Ev C ex bs h H bs (h.set k none) (aQ H a (.frz o (.dK kws)))/\gh ex bs (h.set k none) (aQ H a (.frz o (.dK kws))) a=some (.frz o (.dK kws)):=by
 have ab:a∈bs:=ql hk;have lk:=(q8.mp h0).1;have lvs:∀x,lv bs (h.set k none) x->lv bs h x/\x≠a:=λx ⟨j,c',e1,e2,l2⟩=>by
  by_cases hj:k=j
  ·subst hj;rw[qg lk]at e2;cases e2
  ·rw[qe hj]at e2
   exact⟨⟨j,c',e1,e2,l2⟩,λz=>hj (hr.inj k j a hk (by rw[<-z];exact e1))⟩
 have la:lv bs h a:=⟨k,_,hk,h0,rfl⟩;have sm:Same (gh ex bs h H) (gh ex bs (h.set k none) (aQ H a (.frz o (.dK kws)))):=λx u e=>by
  obtain⟨h1,h2,h3⟩:=du.mp e;have:x≠a:=λz=>h2 (z▸la);exact du.mpr ⟨h1,λl=>h2 (lvs x l).1,by rw[aW this];exact h3⟩
 refine⟨⟨λ_ _ e=>e,⟨by simp[hr.len],hr.inj,hr.sep,λx m=> ?_,λx m=> ?_,λj x c' e1 e2=> ?_⟩,sm,λx m=> ?_⟩,du.mpr ⟨λm=>hr.sep a m ab,λl=>(lvs a l).2 rfl,df⟩⟩
 ·by_cases q:x=a
  ·subst q;rw[df];simp
  ·rw[aW q];exact hr.dom x m
 ·have:x≠a:=λz=>hr.sep x m (z▸ab)
  rw[aW this];exact hr.domx x m
 ·by_cases hj:k=j
  ·subst hj;rw[qg lk]at e2;cases e2
  ·rw[qe hj]at e2
   have:x≠a:=λz=>hj (hr.inj k j a hk (by rw[<-z];exact e1));exact(hr.cell j x c' e1 e2).mono (λ_ _ e=>e) sm (aW this)
 ·exact aW λz=>hr.sep x m (z▸ab)
theorem Ev.thawed(hr:HR C ex bs h H)(hk:bs[k]?=some a)(h0:h[k]?=some (some (.dct kvs)))(rk:RVk C bs (gh ex bs h H) kws kvs)(hc:o.cls=.type "dict")
  (ev:Ev C ex bs h H bs1 h1 H1) (lk:k<h1.length) (ha:H1 a=some (.frz o (.dK kws))):NoD (gh ex bs1 h1 H1) (gh ex bs1 (h1.set k (some (.dct kvs))) (aQ H1 a (.dK kws)))/\Ev C ex bs h H bs1 (h1.set k (some (.dct kvs))) (aQ H1 a (.dK kws)):=by
 have hk1:=ev.pre k a hk;have ab:a∈bs1:=ql hk1;have lvs:∀x,lv bs1 (h1.set k (some (.dct kvs))) x->lv bs1 h1 x\/x=a:=λx ⟨j,c',e1,e2,l2⟩=>by
  by_cases hj:k=j
  ·subst hj;rw[hk1]at e1;cases e1;exact .inr rfl
  ·rw[qe hj]at e2
   exact .inl ⟨j,c',e1,e2,l2⟩
 have nd:NoD (gh ex bs1 h1 H1) (gh ex bs1 (h1.set k (some (.dct kvs))) (aQ H1 a (.dK kws))):=λx u e=>by
  obtain⟨q1,q2,q3⟩:=du.mp e;by_cases q:x=a
  ·subst q;rw[ha]at q3;cases q3;exact .inl ⟨o,kws,rfl,hc⟩
  ·exact .inr (du.mpr ⟨q1,λl=>(lvs x l).elim q2 q,by rw[aW q];exact q3⟩)
 have nda:BH a (gh ex bs1 h1 H1) (gh ex bs1 (h1.set k (some (.dct kvs))) (aQ H1 a (.dK kws))):=⟨nd,λx u q e=>by
  obtain⟨q1,q2,q3⟩:=du.mp e;exact du.mpr ⟨q1,λl=>(lvs x l).elim q2 q,by rw[aW q];exact q3⟩⟩
 have la:lv bs h a:=⟨k,_,hk,h0,rfl⟩;refine⟨nd,ev.pre,⟨by simp[ev.hr.len],ev.hr.inj,ev.hr.sep,λx m=> ?_,λx m=> ?_,λj x c' e1 e2=> ?_⟩,λx u e=> ?_,λx m=> ?_⟩
 ·by_cases q:x=a
  ·subst q;rw[df];simp
  ·rw[aW q];exact ev.hr.dom x m
 ·have:x≠a:=λz=>ev.hr.sep x m (z▸ab)
  rw[aW this];exact ev.hr.domx x m
 ·by_cases hj:k=j
  ·subst hj
   rw[qg lk]at e2;cases e2;rw[hk1]at e1;cases e1;exact⟨kws,df,(rk.mono ev.pre ev.same).noD nd⟩
  ·rw[qe hj]at e2
   have:x≠a:=λz=>hj (ev.hr.inj k j a hk1 (by rw[<-z];exact e1));exact(ev.hr.cell j x c' e1 e2).noD nda this (aW this)
 ·rcases nd x u (ev.same x u e)with⟨o',kw,rfl,_⟩|z
  ·obtain⟨q1,q2,q3⟩:=du.mp (ev.same x _ e)
   obtain⟨p1,p2,p3⟩:=du.mp e;have:x≠a:=λz=>p2 (z▸la);exact du.mpr ⟨q1,λl=>(lvs x l).elim q2 this,by rw[aW this];exact q3⟩
  ·exact z
 ·have:x≠a:=λz=>ev.hr.sep x m (z▸ab)
  rw[aW this];exact ev.exs x m
theorem NB(ho:SE C E to mo)(hg:SG C E g mg)(hb:SS C E tb mb):SS C E (oK to g tb) (Z.oj mo mg mb):=by
 intro ex bs h ρ σ H D hr re p N;refine ho ex bs h ρ σ H _ hr re (p.bind λd x h1 bs1 H1 e1 rx p1=> ?_);cases d with
 | ref k=>
  simp only[RV]at rx;obtain⟨a,rfl,hk⟩:=rx;dsimp only at p1;split at p1
  ·rename_i kvs h0
   obtain⟨kws,ha,rk⟩:=e1.hr.cell k a _ hk h0;refine⟨a,kws,rfl,ha,λo oc na=> ?_⟩;obtain⟨e2,ga⟩:=Ev.froze (o:=o) e1.hr hk h0 ha;refine J4 (gd:=none) (items:=kvs.map (·.2)) hg hb e2.hr ((re.ev e1).ev e2) (.vals ga (rk.mono e2.pre e2.same)) ?_;rw[Z.t6];have hfz:∀{bs':List Addr} {h':Z.MH} {H':Hp},Ev C ex bs1 (h1.set k none) (aQ H1 a (.frz o (.dK kws))) bs' h' H'->H' a=some (.frz o (.dK kws)):=λev=>cn _ _ (ev.same _ _ ga);cases er:Z.dY mg mb (kvs.map (·.2)) ρ (h1.set k none)with
   | nx ρ' h'=>
    rw[er]at p1;dsimp only[Z.E8]at p1;split at p1
    ·rename_i hn
     intro σ' bs' H' ev re';obtain⟨nd,e3⟩:=Ev.thawed e1.hr hk h0 rk oc (e2.trans ev) (q8.mp hn).1 (hfz ev);exact⟨a,o,kws,na,hfz ev,p1 σ' bs' _ e3 ⟨re'.1,λi d q=>by obtain⟨v,q1,q2⟩:=re'.2 i d q;exact⟨v,q1,q2.noD nd⟩⟩⟩
    ·exact p1.elim
   | rt d h'=>
    rw[er]at p1;dsimp only[Z.E8]at p1;split at p1
    ·rename_i hn
     intro v bs' H' ev rv;obtain⟨nd,e3⟩:=Ev.thawed e1.hr hk h0 rk oc (e2.trans ev) (q8.mp hn).1 (hfz ev);exact⟨a,o,kws,na,hfz ev,p1 v bs' _ e3 (rv.noD nd)⟩
    ·exact p1.elim
   | exc c h'=>
    rw[er]at p1;exact λbs' H' ev=>p1 bs' H' (e2.trans ev)
   | bk ρ' h'=>rw[er]at p1;exact p1.elim
   | ct ρ' h'=>rw[er]at p1;exact p1.elim
   | stuck=>rw[er]at p1;exact p1.elim
  ·exact p1.elim
 | _=>exact p1.elim
end
noncomputable def IoL(K:W.Frag)(a:Addr):List Value->List Bool->Prop
 | v::vs,b::bs=>W.kitOne K (.ref a) v=some b/\IoL K a vs bs
 | [],[]=>True
 | _,_=>False
section
variable {C : Ct} {ex bs bs1 bs2 : List Addr} {h h1 h2 : Z.MH} {H H1 H2 : Hp} {E : XK}
theorem RVk.drop{k:Sum Int Str}:∀{ds:List (Sum Int Str×Z.D)} {vs:List (cp×V)},RVk C bs G vs ds->RVk C bs G (lj vs k) (Z.pX ds k)
  | [],[],_=>by simp only[lj,Z.pX,List.filter_nil,RVk]
  | (y,d)::ds,(x,v)::vs,h=>by
    simp only[RVk]at h;obtain⟨rfl,h2,h3⟩:=h;have ih:=RVk.drop (k:=k) h3;unfold lj Z.pX at ih ⊢;by_cases q:x=k
    · simp only[wo,q,ne_eq,not_true_eq_false,decide_false,wd,if_false];exact ih
    · simp only[wo,q,ne_eq,not_false_eq_true,decide_true,if_true,RVk];exact⟨trivial,h2,ih⟩
  | [],_::_,h=>by simp only[RVk]at h
  | _::_,[],h=>by simp only[RVk]at h
theorem MM(ho:SE C E to mo)(hi:SE C E ti mi):SE C E (HI to ti) (Z.Jz mo mi):=by
 intro ex bs h ρ σ H Q hr re p;refine ho ex bs h ρ σ H _ hr re (p.bind λo x h1 bs1 H1 e1 rx p1=> ?_);cases o with
 | ref k=>
  simp only[RV]at rx;obtain⟨a,rfl,hk⟩:=rx;dsimp only at p1;split at p1
  ·rename_i kv0 hc0
   obtain⟨vs0,ha0,_⟩:=e1.hr.cell k a _ hk hc0;refine⟨a,rfl,.inl ⟨_,.inl ha0⟩,?_⟩;refine hi ex bs1 h1 ρ σ H1 _ e1.hr (re.ev e1) (p1.bind λy vy h2 bs2 H2 e2 ry p2=> ?_);split at p2
   ·rename_i j hj
    split at p2
    ·rename_i kvs hc
     obtain⟨kws,ha,rk⟩:=e2.hr.cell k a _ (e2.pre k a hk) hc;have ek:=DD ry hj;subst ek;rcases RVk.val (k:=j) rk with⟨q1,q2⟩|⟨d,v,q1,q2,q3⟩
     ·rw[q1]at p2;exact p2.elim
     ·rw[q1]at p2
      refine⟨kws,j,v,ha,rfl,q2,?_⟩;have e3:=Ev.put (o:=.dK (lj kws j)) (c:=.dct (Z.pX kvs j)) e2.hr (e2.pre k a hk) hc ⟨_,df,rk.drop⟩;exact p2 v bs2 _ e3 (q3.ev e3)
    ·exact p2.elim
   ·exact p2.elim
  ·exact p1.elim
 | _=>exact p1.elim
theorem cQ(hc:C.cm c=a)(cl:Cls C.K a)(na:jbw C.K a f)(r:fG C f tab):fG C f (c::tab):=by subst hc;exact Pa cl na r
theorem cY(hc:C.cm c=a)(q:PySem.W.mroIn C.K a (.ref W)=some b)(r:tL C W tab):tL C W ((c,b)::tab):=by subst hc;exact Nu q r
theorem cF{mg:Str->Option Value}(hc:C.cm c=a)(cl:Cls C.K a)(b:Meth C.K a m f)(F:FnOk C.P C.w C.K mg base (CXE C.P C.w) j f fd ps (bq C z))(hj:j<=k)(B:jfb C.K fd ps [])(r:cX C mg base k m tab):cX C mg base k m ((c,z)::tab):=by subst hc;exact Pn cl b F hj B r
noncomputable def DY(C:Ct):List (Bool×String)->List Value->Prop
  | (k,n)::ns,v::vs=>(if k=true then Value.ref (C.cm n)else .type n)=v/\DY C ns vs
  | [],[]=>True
  | _,_=>False
noncomputable def XL(C:Ct)(vs:List Value):List (String×List Bool)->Prop
  | []=>True
  | (c,bs)::r=>(IsiC C.K (C.cm c)/\IoL C.K (C.cm c) vs bs)/\XL C vs r
theorem gQ{bs:List Bool}(hc:C.cm c=a)(ic:IsiC C.K a)(io:IoL C.K a vs bs)(h:XL C vs r):XL C vs ((c,bs)::r):=by subst hc;exact⟨⟨ic,io⟩,h⟩
theorem Kx{c:String}{tab:List ((String×Bool×String)×Bool)}(ic:IsiC C.K (C.cm c))(r:nP C tab):∀{ns:List (Bool×String)} {vs:List Value} {bs:List Bool},DY C ns vs->IoL C.K (C.cm c) vs bs->nP C (((ns.zip bs).map λq=>((c,q.1.1,q.1.2),q.2))++tab)
  | (k,n)::ns,v::vs,b::bs,h1,h2=>by
    obtain⟨rfl,h1⟩:=h1;exact LJ ic h2.1 (Kx ic r h1 h2.2)
  | [],[],[],_,_=>r
  | [],[],_::_,_,h=>h.elim
  | _::_,[],_,h,_=>h.elim
  | [],_::_,_,h,_=>h.elim
  | (_,_)::_,_::_,[],_,h=>h.elim
theorem Bu(h:DY C ns vs):∀{l:List (String×List Bool)},XL C vs l->nP C (Z.xT ns l)
  | [],_=>Qd
  | (c,bs)::l,q=>by
    have:=Kx (c:=c) q.1.1 (Bu h q.2) h q.1.2;exact this
end
section
variable {C : Ct} {ex bs bs1 bs2 : List Addr} {h h1 h2 : Z.MH} {H H1 H2 : Hp} {E : XK}
theorem B_:∀(xs ys:List Z.D) (i:Nat) (d:Z.D),(Z.bZ xs ys)[i]?=some d->∃x y,xs[i]?=some x/\ys[i]?=some y/\d=.tup [x,y]
 | x::xs,y::ys,0,d,e=>⟨x,y,rfl,rfl,by simpa [Z.bZ]using e.symm⟩
 | x::xs,y::ys,i+1,d,e=>by
  obtain⟨a,b,h1,h2,h3⟩:=B_ xs ys i d (by simpa [Z.bZ]using e);exact⟨a,b,by simpa using h1,by simpa using h2,h3⟩
 | [],_,i,d,e=>by simp[Z.bZ]at e
 | _::_,[],i,d,e=>by simp[Z.bZ]at e
theorem De:∀(xs ys:List Z.D),(Z.bZ xs ys).length=min xs.length ys.length
 | x::xs,y::ys=>by simp[Z.bZ,De xs ys]
 | [],ys=>by simp[Z.bZ]
 | _::_,[]=>by simp[Z.bZ]
theorem ItOk.zip(hq:SqL C.K G a vs)(r:RVs C bs G vs ds)(hq2:SqL C.K G b us)(r2:RVs C bs G us es):ItOk C bs G (Fn C.K a b) (none,Z.bZ ds es):=by
 intro ex2 bs2 h2 H2 hr pre sm _ i;have q1:SqL C.K H2 a vs:=(sm.trans cn).sql hq;have q2:SqL C.K H2 b us:=(sm.trans cn).sql hq2;refine⟨λd e=> ?_,λhle=>⟨vs,us,q1,q2,?_⟩⟩
 ·obtain⟨d0,e0,e1,e2,rfl⟩:=B_ ds es i d e
  obtain⟨v,hv,rv⟩:=r.get e1;obtain⟨u,hu,ru⟩:=r2.get e2;refine⟨⟨vs,v,us,u,q1,hv,q2,hu⟩,λx H3 y=> ?_⟩;obtain⟨p,x',y',hp,hx',hy',rfl,rfl⟩:=y;have:=hx' vs q1;rw[hv]at this;cases this;have:=hy' us q2;rw[hu]at this;cases this;obtain⟨e3,g⟩:=Ev.alloc (o:=.tup [v,u]) hr hp;refine⟨e3,?_⟩;simp only[RV,RVs];exact⟨p,_,rfl,g,by simp only[RVs,RV];exact⟨(rv.mono pre sm).ev e3,(ru.mono pre sm).ev e3,trivial⟩⟩
 ·have hle:(Z.bZ ds es).length<=i:=hle
  rw[De]at hle;rw[r.len,r2.len];omega
theorem rR(ht:SA C E t m):SI C E (mE C.K t) (Z.lF m):=by
 intro ex bs h ρ σ H Q hr re p;refine ht ex bs h ρ σ H _ hr re (p.bind λds xs h1 bs1 H1 e1 rx p1=> ?_);split at p1
 ·obtain⟨x,y,rfl,rx,ry⟩:=zX rx
  simp only[RV]at rx ry;obtain⟨a,vs,rfl,ga,rs⟩:=rx;obtain⟨b,us,rfl,gb,rs2⟩:=ry;exact⟨a,b,vs,us,rfl,SqL.of (cn _ _ ga),SqL.of (cn _ _ gb),Post.now e1.hr p1 (.zip (SqL.of ga) rs (SqL.of gb) rs2)⟩
 ·exact p1.elim
theorem sP:SL C (rJ C.K) Z.pL:=by
 intro ex bs h H E xs ds Q hr rs p;unfold Z.pL at p;split at p
 ·obtain⟨v,rfl,r⟩:=gN rs
  obtain⟨bb,e,p⟩:=p.oR;rw[z4]at e;obtain⟨ys,e1,e2⟩:=e;obtain⟨a,vs,rfl,ha,qs⟩:=lN hr r e1;have:=EX qs e2;subst this;exact⟨a,bb,rfl,SqL.of ha,p.now hr (by simp only[RV])⟩
 ·exact p.elim
theorem La:SL C oO Z.uJ:=by
 intro ex bs h H E xs ds Q hr rs p;unfold Z.uJ at p;split at p
 ·obtain⟨v,rfl,r⟩:=gN rs
  simp only[RV]at r;subst r;exact .inl ⟨_,rfl,p.now hr (by simp only[RV])⟩
 ·exact .inr (t9 ex bs h H E xs _ Q hr rs p)
 ·exact p.elim
end
end L2
namespace Z
open PySem
theorem K6(r:D->Ro)(f:D->D):∀(ds:List D),(∀d∈ds,g d ρ0 h=.nx (r d) h/\t (r d) h=.ok true h/\m (r d) h=.ok (f d) h)->compLoop g t m ρ0 ds h=.ok (ds.map f) h
 | [],_=>by unfold compLoop;rfl
 | d::ds,q=>by
  obtain⟨h1,h2,h3⟩:=q d (qf ..);unfold compLoop;simp only[h1,h2,h3,K6 r f ds λe he=>q e (q9 _ he),List.map_cons]
theorem i3{α:Type}(e:α->D)(r:α->Ro)(f:α->D):∀(as:List α),(∀a∈as,g (e a) ρ0 h=.nx (r a) h/\t (r a) h=.ok true h/\m (r a) h=.ok (f a) h)->compLoop g t m ρ0 (as.map e) h=.ok (as.map f) h
 | [],_=>by unfold compLoop;rfl
 | a::as,q=>by
  obtain⟨h1,h2,h3⟩:=q a (qf ..);rw[List.map_cons];unfold compLoop;simp only[h1,h2,h3,i3 e r f as λb hb=>q b (q9 _ hb),List.map_cons]
@[simp] theorem HM(ns:List Int):sJ (ns.map D.int)=some ns:=by
 induction ns with
 | nil=>rfl
 | cons n ns ih=>simp[ih]
@[simp] theorem F_(ns:List Str):uX (ns.map D.str)=some ns:=by
 induction ns with
 | nil=>rfl
 | cons n ns ih=>simp[ih]
@[simp] theorem pM(ns:List Bool):mZ (ns.map D.bl)=some ns:=by
 induction ns with
 | nil=>rfl
 | cons n ns ih=>simp[ih]
@[simp] theorem sY(lo:Int)(n:Nat):(rng lo n).length=n:=by simp[rng]
@[simp] theorem Ew(n:Nat):bS (n+1) 0 (some 1)=1:=by simp[bS]
@[simp] theorem Jd{α:Type}(x:α)(xs:List α):cut (x::xs) (some 1) none=xs:=by
 unfold cut;rw[show bS (x::xs).length 0 (some 1)=1 by simp[bS]];simp[bS]
@[simp] theorem z_{α:Type}(a:α)(l:List α):cZ (a::l) 0=some a:=by simp[cZ,g_]
@[simp] theorem Dz{α:Type}(a b:α)(l:List α):cZ (a::b::l) 1=some b:=by
 unfold cZ g_;rw[if_pos (by decide),if_pos (by simp only[qz];omega)];rfl
@[simp] theorem Ec{α:Type}(a b c:α)(l:List α):cZ (a::b::c::l) 2=some c:=by
 unfold cZ g_;rw[if_pos (by decide),if_pos (by simp only[qz];omega)];rfl
theorem Li{c:Nat}:∀{a b x y:List Nat},c∉a->c∉b->a++c::x=b++c::y->a=b/\x=y
 | [],[],x,y,_,_,e=>⟨rfl,(List.cons.inj e).2⟩
 | [],k::b,x,y,_,hb,e=>by
  have:=(List.cons.inj e).1;exact absurd (by rw[this];exact qf ..) hb
 | k::a,[],x,y,ha,_,e=>by
  have:=(List.cons.inj e).1;exact absurd (by rw[<-this];exact qf ..) ha
 | k::a,j::b,x,y,ha,hb,e=>by
  obtain⟨e1,e2⟩:=List.cons.inj e;obtain⟨h1,h2⟩:=Li (λm=>ha (q9 _ m)) (λm=>hb (q9 _ m)) e2;exact⟨by rw[e1,h1],h2⟩
theorem IP{c:Nat}(ha:c∉a)(e:a=b++c::x):False:=ha (by rw[e];simp)
theorem Jh{a b:Str}(h:a.cps.toList=b.cps.toList):a=b:=by
 obtain⟨⟨x⟩⟩:=a;obtain⟨⟨y⟩⟩:=b;simp at h;rw[h]
theorem Bp:(Str.join ⟨#[c]⟩ (p::q::r)).cps.toList=p.cps.toList++c::(Str.join ⟨#[c]⟩ (q::r)).cps.toList:=by
 show(p++⟨#[c]⟩++Str.join ⟨#[c]⟩ (q::r)).cps.toList=_;simp only[Str.cps_append,Array.toList_append];simp
theorem J5{c:Nat}:∀{ps qs:List Str},ps≠[]->qs≠[]->(∀p∈ps,c∉p.cps.toList)->(∀q∈qs,c∉q.cps.toList)->Str.join ⟨#[c]⟩ ps=Str.join ⟨#[c]⟩ qs->ps=qs
 | [],_,h,_,_,_,_=>absurd rfl h
 | _,[],_,h,_,_,_=>absurd rfl h
 | [p],[q],_,_,_,_,e=>by rw[show p=q from e]
 | [p],q::q'::r,_,_,hp,_,e=>by
  have:=congrArg (λz:Str=>z.cps.toList) e;rw[Bp]at this;exact(IP (hp p (qf ..)) this).elim
 | p::p'::r,[q],_,_,_,hq,e=>by
  have:=congrArg (λz:Str=>z.cps.toList) e;rw[Bp]at this;exact(IP (hq q (qf ..)) this.symm).elim
 | p::p'::r,q::q'::r',_,_,hp,hq,e=>by
  have:=congrArg (λz:Str=>z.cps.toList) e;rw[Bp,Bp]at this;obtain⟨h1,h2⟩:=Li (hp p (qf ..)) (hq q (qf ..)) this;have:=J5 (ps:=p'::r) (qs:=q'::r') (λz=>nomatch z) (λz=>nomatch z) (λa ha=>hp a (q9 _ ha)) (λa ha=>hq a (q9 _ ha)) (Jh h2);rw[this,Jh h1]
theorem vD(x y:Str):Txt.split x y≠[]:=by
 unfold Txt.split;split
 ·exact λz=>nomatch z
 ·split
  ·exact λz=>nomatch z
  ·rw[StrLaws.partsBetween_eq]
   obtain⟨p,r,e⟩:=StrLaws.partsFrom_ne x y.length 0 (Builtin.Str.occurrences x y 0 x.length (x.length+1));rw[e];exact λz=>nomatch z
theorem JJ(h0:ps≠[])(h:∀p∈ps,c∉p.cps.toList):Txt.split (Str.join ⟨#[c]⟩ ps) ⟨#[c]⟩=ps:=
 J5 (vD _ _) h0 (StrLaws.split_free _ c) h (StrLaws.join_split _ _)
theorem Hr(s:Str)(ps:List Str):Txt.join s ps=Str.join s ps:=StrLaws.glued_eq_join s ps
theorem wQ:∀(ps:List Str),ps≠[]->(Str.join ⟨#[c]⟩ ps).length+1=(ps.map (·.length)).sum+ps.length
 | [],h=>absurd rfl h
 | [p],_=>by simp[Str.join]
 | p::q::r,_=>by
  have ih:=wQ (c:=c) (q::r) (λz=>nomatch z);have e:(Str.join ⟨#[c]⟩ (p::q::r)).length=p.length+1+(Str.join ⟨#[c]⟩ (q::r)).length:=by
   show(p++⟨#[c]⟩++Str.join ⟨#[c]⟩ (q::r)).length=_;rw[Str.length_append,Str.length_append];rfl
  rw[e];simp only[List.map_cons,ko,qz]at ih ⊢;omega
theorem Ly(x:Str)(c:Nat):(Txt.split x ⟨#[c]⟩).length<=x.length+1:=by
 have h:=wQ (c:=c) (Txt.split x ⟨#[c]⟩) (vD _ _);rw[StrLaws.join_split]at h;omega
mutual
theorem Ik:∀{d:D} {p:PyData},d.py=some p->d.eq d=true
 | .non,_,_=>by simp[D.eq]
 | .bl b,_,_=>by simp[D.eq]
 | .int i,_,_=>by simp[D.eq]
 | .str x,_,_=>by simp[D.eq]
 | .tup ds,_,e=>by
  simp only[D.py,qj]at e;obtain⟨ps,h,_⟩:=e;simp only[D.eq];exact Gn h
 | .lst ds,_,e=>by
  simp only[D.py,qj]at e;obtain⟨ps,h,_⟩:=e;simp only[D.eq];exact Gn h
 | .arg _,_,e=>by simp only[D.py]at e;cases e
 | .ref _,_,e=>by simp only[D.py]at e;cases e
 | .ty _,_,e=>by simp only[D.py]at e;cases e
 | .cls _,_,e=>by simp only[D.py]at e;cases e
 | .exc _,_,e=>by simp only[D.py]at e;cases e
 | .obj _ _,_,e=>by simp only[D.py]at e;cases e
 | .dic _,_,e=>by simp only[D.py]at e;cases e
theorem Gn:∀{ds:List D} {ps:List PyData},D.pys ds=some ps->D.eqs ds ds=true
 | [],_,_=>by simp[D.eqs]
 | d::ds,ps,e=>by
  simp only[D.pys]at e;split at e
  ·rename_i p qs e1 e2
   simp only[D.eqs,qu];exact⟨Ik e1,Gn e2⟩
  ·cases e
end
theorem sk{d:D}(h:d.dat=true):d.eq d=true:=by
 unfold D.dat at h;rw[qu,w5]at h;obtain⟨⟨p,hp⟩,_⟩:=h;exact Ik hp
theorem Mi(h:∀d∈ds,d.py.isSome=true/\d.deep<=n):(D.pys ds).isSome=true/\D.deeps ds<=n:=by
 induction ds with
 | nil=>exact⟨by simp[D.pys],by simp[D.deeps]⟩
 | cons d ds ih=>
  obtain⟨h1,h2⟩:=h d (qf ..);obtain⟨h3,h4⟩:=ih λe he=>h e (q9 _ he);rw[w5]at h1 h3;obtain⟨p,hp⟩:=h1;obtain⟨ps,hps⟩:=h3;exact⟨by simp[D.pys,hp,hps],by simp only[D.deeps];omega⟩
theorem Fe(h:∀d∈ds,d.py.isSome=true/\d.deep<=n):(D.lst ds).py.isSome=true/\(D.lst ds).deep<=n+1:=by
 obtain⟨h1,h2⟩:=Mi h;exact⟨by simp only[D.py];simpa using h1,by simp only[D.deep];omega⟩
theorem yu{d:D}(h:d.py.isSome=true/\d.deep<=n)(hn:n<=64):d.dat=true:=by
 unfold D.dat;rw[h.1,gk,decide_eq_true_eq];omega
mutual
theorem px(h:MH):∀(n:Nat) {d:D},D.bnd 0 d=true->res n h d=d
 | 0,d,_=>by unfold res;rfl
 | n+1,.ref k,e=>by simp[D.bnd]at e
 | n+1,.tup xs,e=>by
  simp only[D.bnd]at e;unfold res;rw[GJ h n e]
 | n+1,.lst xs,e=>by
  simp only[D.bnd]at e;unfold res;rw[GJ h n e]
 | n+1,.non,_=>by unfold res;rfl
 | n+1,.bl _,_=>by unfold res;rfl
 | n+1,.int _,_=>by unfold res;rfl
 | n+1,.str _,_=>by unfold res;rfl
 | n+1,.arg _,_=>by unfold res;rfl
 | n+1,.ty _,_=>by unfold res;rfl
 | n+1,.cls _,_=>by unfold res;rfl
 | n+1,.exc _,_=>by unfold res;rfl
 | n+1,.obj _ _,_=>by unfold res;rfl
 | n+1,.dic _,_=>by unfold res;rfl
theorem GJ(h:MH):∀(n:Nat) {ds:List D},D.bnds 0 ds=true->ds.map (res n h)=ds
 | n,[],_=>rfl
 | n,d::ds,e=>by
  simp only[D.bnds,qu]at e;rw[List.map_cons,px h n e.1,GJ h n e.2]
end
end Z
namespace Clo
noncomputable def sub(a b:Nat):Prop:=∀i,a.testBit i=true->b.testBit i=true
theorem sub.refl(a:Nat):sub a a:=λ_ h=>h
theorem sub.trans(h:sub a b)(g:sub b c):sub a c:=λi q=>g i (h i q)
theorem sub.antisymm(h:sub a b)(g:sub b a):a=b:=zp λi=>by
 cases x:a.testBit i with
 | true=>rw[h i x]
 | false=>cases y:b.testBit i with
  | true=>rw[g i y]at x;cases x
  | false=>rfl
theorem Fw(a b:Nat):sub a (a|||b):=λi h=>by rw[w9,h];rfl
theorem GX(a b:Nat):sub b (a|||b):=λi h=>by rw[w9,h,Bool.or_true]
theorem IS(h:sub a c)(g:sub b c):sub (a|||b) c:=λi q=>by
 rw[w9,Bool.or_eq_true]at q;rcases q with q|q
 ·exact h i q
 ·exact g i q
theorem sub.or_eq(h:sub a b):a|||b=b:=sub.antisymm (IS h (sub.refl _)) (GX _ _)
theorem sub.le(h:sub a b):a<=b:=by rw[<-h.or_eq];exact Nat.left_le_or
theorem and_ne:a&&&b≠0↔∃i,a.testBit i=true/\b.testBit i=true:=by
 constructor
 ·intro h
  obtain⟨i,hi⟩:=Nat.exists_testBit_of_ne_zero h;rw[wf,qu]at hi;exact⟨i,hi⟩
 ·rintro⟨i,h1,h2⟩ e
  have:(a&&&b).testBit i=true:=by rw[wf,h1,h2];rfl
  rw[e]at this;simp at this
theorem sub.and_ne(h:sub b c)(g:a&&&b≠0):a&&&c≠0:=by
 obtain⟨i,h1,h2⟩:=Clo.and_ne.mp g;exact Clo.and_ne.mpr ⟨i,h1,h i h2⟩
noncomputable def mY(ps:List Nat)(t:Nat):Prop:=∀p∈ps,p&&&t≠0->sub p t
structure Is (ps:List Nat) (s r:Nat):Prop where
 ge:sub s r
 cl:mY ps r
 le:∀t,sub s t->mY ps t->sub r t
theorem Is.uniq(a:Is ps s r)(b:Is ps s q):r=q:=sub.antisymm (a.le q b.ge b.cl) (b.le r a.ge a.cl)
noncomputable def all(ps:List Nat)(s:Nat):Nat:=ps.foldl (·|||·) s
theorem Ho:∀(ps:List Nat) (s:Nat),sub s (all ps s)
 | [],s=>sub.refl _
 | p::ps,s=>(Fw s p).trans (Ho ps (s|||p))
theorem KZ:∀(ps:List Nat) (s p:Nat),p∈ps->sub p (all ps s)
 | q::ps,s,p,m=>by
  rcases qr.mp m with rfl|m
  ·exact(GX s p).trans (Ho ps (s|||p))
  ·exact KZ ps (s|||q) p m
theorem M0(ps:List Nat)(s:Nat):mY ps (all ps s):=λp m _=>KZ ps s p m
structure Step (ps:List Nat) (F:Nat->Nat):Prop where
 up:∀r,sub r (F r)
 lo:∀r t,mY ps t->sub r t->sub (F r) t
 fx:∀r,F r=r->mY ps r
structure Mid (ps:List Nat) (s r:Nat):Prop where
 ge:sub s r
 le:∀t,sub s t->mY ps t->sub r t
theorem Mid.start(ps:List Nat)(s:Nat):Mid ps s s:=⟨sub.refl _,λ_ h _=>h⟩
theorem Mid.step{F:Nat->Nat}(f:Step ps F)(m:Mid ps s r):Mid ps s (F r):=⟨m.ge.trans (f.up r),λt h c=>f.lo r t c (m.le t h c)⟩
theorem Mid.fin{F:Nat->Nat}(f:Step ps F)(m:Mid ps s r)(e:F r=r):Is ps s r:=⟨m.ge,f.fx r e,m.le⟩
theorem Mid.bnd(m:Mid ps s r):r<=all ps s:=(m.le _ (Ho ps s) (M0 ps s)).le
theorem Step.lt{F:Nat->Nat}(f:Step ps F)(h:F r≠r):r<F r:=Nat.lt_of_le_of_ne (f.up r).le (Ne.symm h)
theorem tO{ps:List Nat}{s:Nat}{F:Nat->Nat}(f:Step ps F){P:Nat->Prop}(h1:∀r,Mid ps s r->F r=r->P r)(h2:∀r,Mid ps s r->F r≠r->P (F r)->P r):∀(n r:Nat),Mid ps s r->all ps s - r<n->P r
 | 0,r,_,h=>absurd h (Nat.not_lt_zero _)
 | n+1,r,m,h=>by
  by_cases e:F r=r
  ·exact h1 r m e
  ·have:=f.lt e
   have:=(m.step f).bnd;exact h2 r m e (tO f h1 h2 n (F r) (m.step f) (by omega))
noncomputable def cK(ps:List Nat)(r:Nat):Nat:=ps.foldl (λr p=>if p&&&r≠0 then r|||p else r) r
theorem E7:∀(ps:List Nat) (r:Nat),sub r (cK ps r)
 | [],r=>sub.refl _
 | p::ps,r=>by
  show sub r (cK ps (if p&&&r≠0 then r|||p else r));refine sub.trans ?_ (E7 ps _);split
  ·exact Fw _ _
  ·exact sub.refl _
theorem Ic:∀(ps:List Nat) (r t:Nat),mY ps t->sub r t->sub (cK ps r) t
 | [],r,t,_,h=>h
 | p::ps,r,t,c,h=>by
  show sub (cK ps (if p&&&r≠0 then r|||p else r)) t;refine Ic ps _ t (λq m=>c q (q9 _ m)) ?_;split
  ·rename_i n
   exact IS h (c p qf (h.and_ne n))
  ·exact h
theorem K3:∀(ps:List Nat) (r:Nat),cK ps r=r->mY ps r
 | [],r,_=>λp m=>by cases m
 | p::ps,r,e=>by
  have e':cK ps (if p&&&r≠0 then r|||p else r)=r:=e;have u:=E7 ps (if p&&&r≠0 then r|||p else r);rw[e']at u;have k:(if p&&&r≠0 then r|||p else r)=r:=by
   by_cases n:p&&&r≠0
   ·rw[if_pos n]at u ⊢;exact sub.antisymm u (Fw _ _)
   ·rw[if_neg n]
  rw[k]at e';intro q m n;rcases qr.mp m with rfl|m
  ·rw[if_pos n]at u;exact(GX _ _).trans u
  ·exact K3 ps r e' q m n
theorem Ac(ps:List Nat):Step ps (cK ps):=⟨E7 ps,Ic ps,K3 ps⟩
noncomputable def Bj(s:Nat)(ps:List Nat)(f:Nat):Nat:=ps.foldl (λf p=>if s&&&p≠0 then f|||p else f) f
noncomputable def OP(ps:List Nat)(s:Nat):Nat:=Bj s ps s
theorem ex(ps:List Nat)(s:Nat):∃r,Is ps s r:=tO (P:=λr=>Mid ps s r->∃r,Is ps s r) (Ac ps) (λr _ e m=>⟨r,m.fin (Ac ps) e⟩) (λr m _ h _=>h (m.step (Ac ps))) _ s (Mid.start ps s) (zy _) (Mid.start ps s)
noncomputable def fz(ps:List Nat)(s:Nat):Nat:=(ex ps s).choose
theorem is(ps:List Nat)(s:Nat):Is ps s (fz ps s):=(ex ps s).choose_spec
theorem Is.eq(h:Is ps s r):r=fz ps s:=h.uniq (is ps s)
end Clo
namespace Z
open PySem
theorem fD(a b:Nat):Builtin.bitAnd (a:Int) b=((a&&&b:Nat):Int):=by simp[Builtin.bitAnd]
theorem lG(a b:Nat):Builtin.bitOr (a:Int) b=((a|||b:Nat):Int):=by
 rw[PyProof.Rows.bitOr_and,fD];have:=PyProof.Rows.nat_or_add_and a b;omega
theorem yE(a b:Nat):Builtin.bitAnd (a:Int) (Builtin.bitNot b)=((a - (a&&&b):Nat):Int):=by
 rw[PyProof.Rows.bitAnd_not,fD];have:a&&&b<=a:=Nat.and_le_left;omega
theorem JX(a b:Nat):a - (a&&&b)=a^^^(a&&&b):=by
 have h:(a^^^(a&&&b))+(a&&&b)=a:=by
  have h1:=PyProof.Rows.nat_or_add_and (a^^^(a&&&b)) (a&&&b);have h2:(a^^^(a&&&b))&&&(a&&&b)=0:=zp λi=>by
   simp only[wf,ky,Nat.zero_testBit];cases a.testBit i<;>cases b.testBit i<;>rfl
  have h3:(a^^^(a&&&b))|||(a&&&b)=a:=zp λi=>by
   simp only[w9,wf,ky];cases a.testBit i<;>cases b.testBit i<;>rfl
  omega
 omega
theorem EG(a b:Nat):Builtin.bitXor (a:Int) b=((a^^^b:Nat):Int):=by
 unfold Builtin.bitXor;rw[lG,fD];have h:(a^^^b)=(a|||b) - (a&&&b):=by
  have e:a&&&b=(a|||b)&&&(a&&&b):=zp λi=>by
   simp only[w9,wf];cases a.testBit i<;>cases b.testBit i<;>rfl
  rw[e,JX];refine zp λi=> ?_;simp only[w9,wf,ky];cases a.testBit i<;>cases b.testBit i<;>rfl
 have:a&&&b<=a|||b:=zd Nat.and_le_left Nat.left_le_or;omega
theorem j9(a k:Nat):Builtin.bitAnd ((a:Int) / 2^((k:Int)).toNat) 1=if a.testBit k then 1 else 0:=by
 have e:((a:Int) / 2^((k:Int)).toNat)=((a / 2^k:Nat):Int):=by simp
 rw[e,show(1:Int)=((1:Nat):Int)from rfl,fD,Nat.and_one_is_mod,Nat.testBit_eq_decide_div_mod_eq];by_cases q:a / 2^k % 2=1
 ·simp[q]
 ·have:a / 2^k % 2=0:=by omega
  simp[this]
theorem CP(a:Nat):((a:Int)!=0)=decide (a≠0):=by
 cases a with
 | zero=>rfl
 | succ n=>simp;omega
theorem gK{b:Nat}(h:b<=100):lV 1 (b:Int):=⟨by omega,by omega,by decide⟩
theorem KH(a i:Nat):(2^a).testBit i=decide (a=i):=by rw[Nat.testBit_two_pow]
end Z
namespace My
open Z
noncomputable def xl:Z.D:=.dic [(.inr "bars",(.int 1)),(.inr "feed",(.int 1)),(.inr "earth",(.int 1)),(.inr "breaker",(.int 2)),(.inr "splitter",(.int 2))]
noncomputable def w_Xm:List (String×Bool):=[("Held",true),("Loaded",true),("Locked",true),("NoBar",true),("NoLock",true),("NoMeasure",true),("NoPermit",true),("NoRow",true),("NoSwitch",true),("NotDead",true),("NotEarthed",true),("NotLocked",true),("NotOpen",true),("Same",true),("Shorted",true)]
noncomputable def zI:List (Bool×String):=[(true,"NoSwitch"),(true,"Loaded"),(true,"Shorted"),(true,"Locked"),(true,"Held"),(true,"NoLock"),(true,"NotOpen"),(true,"NotLocked"),(true,"NotEarthed"),(true,"NotDead"),(true,"NoPermit"),(true,"NoRow"),(true,"NoMeasure"),(true,"NoBar"),(true,"Same")]
noncomputable def fN:List ((String×Bool×String)×Bool):=xT zI [("Held",[false,false,false,false,true,false,false,false,false,false,false,false,false,false,false]),("Loaded",[false,true,false,false,false,false,false,false,false,false,false,false,false,false,false]),("Locked",[false,false,false,true,false,false,false,false,false,false,false,false,false,false,false]),("NoBar",[false,false,false,false,false,false,false,false,false,false,false,false,false,true,false]),("NoLock",[false,false,false,false,false,true,false,false,false,false,false,false,false,false,false]),("NoMeasure",[false,false,false,false,false,false,false,false,false,false,false,false,true,false,false]),("NoPermit",[false,false,false,false,false,false,false,false,false,false,true,false,false,false,false]),("NoRow",[false,false,false,false,false,false,false,false,false,false,false,true,false,false,false]),("NoSwitch",[true,false,false,false,false,false,false,false,false,false,false,false,false,false,false]),("NotDead",[false,false,false,false,false,false,false,false,false,true,false,false,false,false,false]),("NotEarthed",[false,false,false,false,false,false,false,false,true,false,false,false,false,false,false]),("NotLocked",[false,false,false,false,false,false,false,true,false,false,false,false,false,false,false]),("NotOpen",[false,false,false,false,false,false,true,false,false,false,false,false,false,false,false]),("Same",[false,false,false,false,false,false,false,false,false,false,false,false,false,false,true]),("Shorted",[false,false,true,false,false,false,false,false,false,false,false,false,false,false,false])]
noncomputable def oI:List String:=["Feed","Earth"]
noncomputable def nR:List String:=["Breaker","Splitter"]
noncomputable def nX:List String:=["Breaker","Splitter"]
noncomputable def gI:List String:=["Net"]
noncomputable def c5:List String:=["Bundle","Board","Desk"]
noncomputable def m4:List String:=["Bundle","Board"]
noncomputable def uu:List String:=["Bundle"]
noncomputable def BN:List String:=["Bundle"]
noncomputable def vv:List String:=["Bundle"]
noncomputable def xH:List String:=["Bundle"]
noncomputable def v_:List String:=["Bundle"]
noncomputable def kG:List String:=["Board"]
noncomputable def fS:List String:=["Board"]
noncomputable def rp:List String:=["Board"]
noncomputable def tE:List String:=["Board"]
noncomputable def eF:List String:=["Desk"]
noncomputable def O_:Z.MS:=(aw (ae aT (ae aU (ae dH (aa 3) (ae aU (ae dH (mC (.int 2)) (aa 1)) (mC (.int 1013)))) (aa 4)) (mC (.int 999999000001))) (ay 3))
noncomputable def tF:Z.MS:=(aj (aw (ae aU (mC (.int 1)) (ae bP (bB b_ (ag (aa 0) af)) (mC (.int 8)))) (ay 2))
      (aj (aw (ae aU (ae dH (mC (.int 31)) (aa 1)) (mC (.int 5))) (ay 3))
      (aj (dt (cE (jC (aa 0) (c6 (ae aT (aa 1) (aa 2))) ee (c6 (aa 2)))) (ay 4)
      O_)
      (au (ae aT (ae dH (aa 3) (ae aU (ae aU (ae aT (ae bP (aa 3) (mC (.int 7))) (mC (.int 99991))) (ae dH (mC (.int 3)) (aa 1))) (mC (.int 1)))) (mC (.int 999999000001)))))))
noncomputable def fi:Z.MF:=az 2 5 tF
noncomputable def fO:Z.MS:=(aj (aw (ae aT (ae bP (aa 0) (mC (.int 6))) (aa 1)) (ay 2))
      (aj (bh (tB (ae kX (ae aT (aa 0) (mC (.int 6))) (mC (.int 3))))
      (au (a_ (ag (ae aI (bw (cJ (ag (mC (.str "feed")) (ag (mC (.str "earth")) (ag (mC (.str "earth")) af))))) (ae aT (aa 0) (mC (.int 6)))) (ag (aa 2) af))))
      bz)
      (aj (aw (ae aT (ae aU (ae aU (aa 2) (mC (.int 1))) (ae aT (ae bP (aa 0) (mC (.int 60))) (ae fZ (aa 1) (mC (.int 1))))) (aa 1)) (ay 3))
      (au (a_ (ag (ae aI (bw (cJ (ag (mC (.str "breaker")) (ag (mC (.str "splitter")) (ag (mC (.str "breaker")) af))))) (ae fZ (ae aT (aa 0) (mC (.int 6))) (mC (.int 3)))) (ag (aa 2) (ag (aa 3) af))))))))
noncomputable def e_:Z.MF:=az 2 4 fO
noncomputable def tw:Z.MS:=(aj (aw (ae aU (mC (.int 2)) (ae aT (aV fi (ag (aa 0) (ag (mC (.int 0)) af))) (mC (.int 4)))) (ay 1))
      (aj (aw (ae aT (aV fi (ag (aa 0) (ag (mC (.int 1)) af))) (mC (.int 13))) (ay 2))
      (au (a_ (ag (aa 1) (ag (bw (cC 1 [1,0] (eP (ag (aa 2) af)) (ay 0) aS (aV e_ (ag (ae aU (bB fQ (ag (jC (aa 2) (c6 (aa 0)) (c6 (mC (.int 63))) (c6 (mC (.int 12)))) af)) (aV fi (ag (aa 2) (ag (ae aU (mC (.int 20)) (aa 0)) af)))) (ag (aa 1) af))))) af))))))
noncomputable def jN:Z.MF:=az 1 3 tw
noncomputable def jX:Z.MS:=(aj (aw (ae aI (bw (cJ (ag (mC (.str "turn")) (ag (mC (.str "turn")) (ag (mC (.str "lock")) (ag (mC (.str "unlock")) (ag (mC (.str "back")) (ag (mC (.str "permit")) (ag (mC (.str "turn")) (ag (mC (.str "lock")) af)))))))))) (ae aT (aa 0) (mC (.int 8)))) (ay 2))
      (aj (aw (ae bP (aa 0) (mC (.int 8))) (ay 3))
      (aj (bh (tB (ae a9 (aa 2) (mC (.str "permit"))))
      (au (bw (cJ (ag (a_ (ag (aa 2) (ag (ae fw (ae bp (mC (.int 1)) (ae aT (aa 3) (ae aI (aa 1) (mC (.int 0))))) (ae bp (ae aT (ae bP (aa 3) (mC (.int 10))) (mC (.int 2))) (ae aT (ae bP (aa 3) (mC (.int 20))) (ae aI (aa 1) (mC (.int 0)))))) af))) af))))
      bz)
      (aj (bh (tB (ae a9 (aa 2) (mC (.str "back"))))
      (au (bw (cJ (ag (a_ (ag (aa 2) (ag (ae aT (aa 3) (mC (.int 4))) af))) af))))
      bz)
      (aj (bh (tB (ae a9 (ae aT (aa 3) (mC (.int 32))) (mC (.int 9))))
      (au (bw (cJ (ag (a_ (ag (aa 2) (ag (ae fZ (mC (.int 999999999)) (ae aT (ae bP (aa 3) (mC (.int 32))) (ae jV (mC (.int 10)) (mC (.int 8))))) af))) af))))
      bz)
      (au (bw (cJ (ag (a_ (ag (aa 2) (ag (ae aT (ae bP (aa 3) (mC (.int 2))) (ae aU (bB b_ (ag (ae aI (aa 1) (mC (.int 1))) af)) (mC (.int 3)))) af))) af)))))))))
noncomputable def h8:Z.MF:=az 2 4 jX
noncomputable def um:Z.MS:=(bh (eS (tB (ae a9 (ae aI (ae aI (ae aI (aa 1) (mC (.int 1))) (aa 6)) (mC (.int 0))) (aa 5))) (tB (ae a9 (ae bN (ae dr (aa 2) (aa 6)) (mC (.int 1))) (mC (.int 1)))))
      (KA (aa 4) (a_ (ag (mC (.str "turn")) (ag (aa 6) af))))
      bz)
noncomputable def C4:Z.MS:=(dt (eP (ag (bB b_ (ag (ae aI (aa 1) (mC (.int 1))) af)) af)) (ay 6)
      um)
noncomputable def kB:Z.MS:=(aj (aw (ae aT (ae bP (aa 0) (mC (.int 8))) (ae aI (aa 1) (mC (.int 0)))) (ay 3))
      (aj (aw (lW (cJ af)) (ay 4))
      (aj (dt (cE (bw (cJ (ag (mC (.str "feed")) (ag (mC (.str "breaker")) (ag (mC (.str "splitter")) af)))))) (ay 5)
      C4)
      (EA 4 (aj (aw (lW (gW (aa 4) (bw (cC 1 [1] (eP (ag (bB b_ (ag (ae aI (aa 1) (mC (.int 1))) af)) af)) (ay 0) (tB (ae (gD false) (ae aI (ae aI (ae aI (aa 1) (mC (.int 1))) (aa 0)) (mC (.int 0))) (a_ (ag (mC (.str "feed")) (ag (mC (.str "splitter")) af))))) (a_ (ag (mC (.str "lock")) (ag (aa 0) af))))))) (ay 4))
      (aj (aw (bw (cC 1 [3,1] (eP (ag (bB b_ (ag (ae aI (aa 1) (mC (.int 1))) af)) af)) (ay 0) (tB (ae a9 (ae aI (ae aI (aa 2) (mC (.int 1))) (aa 0)) (a_ (ag (mC (.str "earth")) (ag (aa 1) af))))) (aa 0))) (ay 7))
      (aj (aw (lW (gW (aa 4) (bw (cC 1 [2] (cE (fg (aa 7) ee (c6 (mC (.int 1))))) (ay 0) (tB (ae a9 (ae bN (ae dr (aa 1) (aa 0)) (mC (.int 1))) (mC (.int 0)))) (a_ (ag (mC (.str "turn")) (ag (aa 0) af))))))) (ay 4))
      (aj (aw (lW (gW (ae aU (aa 4) (bw (cJ (ag (a_ (ag (mC (.str "permit")) (ag (ae bp (mC (.int 1)) (aa 3)) af))) af)))) (bw (cC 1 [] (cE (fg (aa 7) ee (c6 (mC (.int 1))))) (ay 0) aS (a_ (ag (mC (.str "turn")) (ag (aa 0) af))))))) (ay 4))
      (au (ae aU (aa 4) (bw (cJ (ag (a_ (ag (mC (.str "unlock")) (ag (ae aT (ae bP (aa 0) (mC (.int 64))) (mC (.int 12))) af))) (ag (a_ (ag (mC (.str "turn")) (ag (ae aT (ae bP (aa 0) (mC (.int 64))) (mC (.int 12))) af))) af))))))))))))))
noncomputable def lB:Z.MF:=az 3 8 kB
noncomputable def jt:Z.MS:=(aj (aw (bw (cC 1 [0] (eP (ag (mC (.int 12)) af)) (ay 0) (tB (ae a9 (ae bN (ae dr (aa 1) (aa 0)) (mC (.int 1))) (mC (.int 1)))) (bB dv (ag (aa 0) af)))) (ay 1))
      (au (ae aI (bw (cJ (ag (rZ kT (mC (.str " ")) (ag (aa 1) af)) (ag (mC (.str "none")) af)))) (bB d9 (ag (ae a9 (aa 1) (bw (cJ af))) af)))))
noncomputable def iD:Z.MF:=az 1 2 jt
noncomputable def tU:Z.MS:=(aj (dS nR "one" (aa 0) (aa 1))
      (dS nX "other" (aa 0) (aa 2)))
noncomputable def r_:Z.MF:=az 3 3 tU
noncomputable def tT:Z.MS:=(dS oI "bar" (aa 0) (aa 1))
noncomputable def sA:Z.MF:=az 2 2 tT
noncomputable def tQ:Z.MS:=(dS oI "bar" (aa 0) (aa 1))
noncomputable def tZ:Z.MF:=az 2 2 tQ
noncomputable def tq:Z.MS:=(aj (dS nR "one" (aa 0) (aa 1))
      (dS nX "other" (aa 0) (aa 2)))
noncomputable def tW:Z.MF:=az 3 3 tq
noncomputable def p6:Z.MS:=(aj (aw (ae aI (aa 0) (mC (.int 0))) (ay 1))
      (aj (bh (tB (ae a9 (aa 1) (mC (.str "feed"))))
      (au (eN "Feed" tZ (ag (ae aI (aa 0) (mC (.int 1))) af)))
      bz)
      (aj (bh (tB (ae a9 (aa 1) (mC (.str "earth"))))
      (au (eN "Earth" sA (ag (ae aI (aa 0) (mC (.int 1))) af)))
      bz)
      (aj (bh (tB (ae a9 (aa 1) (mC (.str "breaker"))))
      (au (eN "Breaker" r_ (ag (ae aI (aa 0) (mC (.int 1))) (ag (ae aI (aa 0) (mC (.int 2))) af))))
      bz)
      (au (eN "Splitter" tW (ag (ae aI (aa 0) (mC (.int 1))) (ag (ae aI (aa 0) (mC (.int 2))) af))))))))
noncomputable def iM:Z.MF:=az 1 2 p6
noncomputable def tJ:Z.MS:=(dS gI "switches" (aa 0) (bw (cC 1 [] (cE (ae aI (aa 1) (mC (.int 1)))) (ay 0) aS (aV iM (ag (aa 0) af)))))
noncomputable def eY:Z.MF:=az 2 2 tJ
noncomputable def j0:Z.MS:=(au (mC (.int 0)))
noncomputable def gw:Z.MF:=az 1 1 j0
noncomputable def tH:Z.MS:=(au (ae bp (mC (.int 1)) (ax oI "bar" (aa 0))))
noncomputable def pH:Z.MF:=az 1 1 tH
noncomputable def lC:Z.MS:=(au (mC (.int 0)))
noncomputable def iT:Z.MF:=az 1 1 lC
noncomputable def sW:Z.MS:=(au (ae fw (ae bp (mC (.int 1)) (ax nR "one" (aa 0))) (ae bp (mC (.int 1)) (ax nX "other" (aa 0)))))
noncomputable def pO:Z.MF:=az 1 1 sW
noncomputable def sM:Z.MS:=(au (ae fw (ae bp (mC (.int 1)) (ax nR "one" (aa 0))) (ae bp (mC (.int 1)) (ax nX "other" (aa 0)))))
noncomputable def rK:Z.MF:=az 1 1 sM
noncomputable def F7:Z.MS:=(au (ae a9 (ae bN (ae dr (aa 0) (aa 1)) (mC (.int 1))) (mC (.int 1))))
noncomputable def gP:Z.MF:=az 2 2 F7
noncomputable def rA:Z.MS:=(au (bw (cC 2 [1] (m9 (ag (ax gI "switches" (aa 0)) af)) (dO [0,1]) (bC (aV gP (ag (aa 2) (ag (aa 0) af)))) (aa 1))))
noncomputable def mJ:Z.MF:=az 2 2 rA
noncomputable def iP:List (String×Z.MF):=[("Switch",iT),("Feed",iT),("Earth",iT),("Breaker",pO),("Splitter",rK)]
noncomputable def l7:List (String×Z.MF):=[("Net",mJ)]
noncomputable def pK:Z.MS:=(aj (aw (bw (cC 1 [] (cE (aF l7 "shut_ones" (aa 0) (ag (aa 1) af))) (ay 0) aS (aF iP "joins" (aa 0) af))) (ay 3))
      (aj (aw (aa 2) (ay 4))
      (aj (aw (mC .non) (ay 5))
      (aj (fI (tB (ae ib (aa 4) (aa 5)))
      (aj (aw (aa 4) (ay 5))
      (dt (cE (aa 3)) (ay 6)
      (bh (bC (ae bN (aa 6) (aa 4)))
      (aw (ae fw (aa 4) (aa 6)) (ay 4))
      bz))))
      (au (aa 4))))))
noncomputable def mH:Z.MF:=az 3 7 pK
noncomputable def kH:List (String×Z.MF):=[("Switch",gw),("Feed",pH),("Earth",gw),("Breaker",gw),("Splitter",gw)]
noncomputable def p9:List (String×Z.MF):=[("Net",mH)]
noncomputable def pT:Z.MS:=(aj (aw (mC (.int 0)) (ay 2))
      (aj (dt (cE (aF l7 "shut_ones" (aa 0) (ag (aa 1) af))) (ay 3)
      (aw (ae fw (aa 2) (aF kH "feeds" (aa 3) af)) (ay 2)))
      (au (aF p9 "joined_bars" (aa 0) (ag (aa 1) (ag (aa 2) af))))))
noncomputable def mF:Z.MF:=az 2 4 pT
noncomputable def oW:List (String×Z.MF):=[("Net",mF)]
noncomputable def sX:Z.MS:=(au (aF oW "live_bars" (eN "Net" eY (ag (aa 0) af)) (ag (aa 1) af)))
noncomputable def jg:Z.MF:=az 2 2 sX
noncomputable def j7:Z.MS:=(au (mC (.int 0)))
noncomputable def fT:Z.MF:=az 1 1 j7
noncomputable def ri:Z.MS:=(au (ae bp (mC (.int 1)) (ax oI "bar" (aa 0))))
noncomputable def qH:Z.MF:=az 1 1 ri
noncomputable def kN:List (String×Z.MF):=[("Switch",fT),("Feed",fT),("Earth",qH),("Breaker",fT),("Splitter",fT)]
noncomputable def qB:Z.MS:=(aj (aw (mC (.int 0)) (ay 2))
      (aj (dt (cE (aF l7 "shut_ones" (aa 0) (ag (aa 1) af))) (ay 3)
      (aw (ae fw (aa 2) (aF kN "earths" (aa 3) af)) (ay 2)))
      (au (aa 2))))
noncomputable def lY:Z.MF:=az 2 4 qB
noncomputable def ux:List (String×Z.MF):=[("Net",lY)]
noncomputable def p_:Z.MS:=(au (aF p9 "joined_bars" (aa 0) (ag (aa 1) (ag (aF ux "led_bars" (aa 0) (ag (aa 1) af)) af))))
noncomputable def lI:Z.MF:=az 2 2 p_
noncomputable def vH:List (String×Z.MF):=[("Net",lI)]
noncomputable def qV:Z.MS:=(au (aF vH "earthed_bars" (eN "Net" eY (ag (aa 0) af)) (ag (aa 1) af)))
noncomputable def ju:Z.MF:=az 2 2 qV
noncomputable def sC:Z.MS:=(au (ax fS "locks" (aa 0)))
noncomputable def iF:Z.MF:=az 1 1 sC
noncomputable def lq:Z.MS:=(aj (bh (cq (bC (aa 0)))
      (au (mC (.str "none")))
      bz)
      (au (rZ kT (mC (.str " ")) (ag (bw (cC 1 [] (cE (aa 0)) (ay 0) aS (bB dv (ag (aa 0) af)))) af))))
noncomputable def c_:Z.MF:=az 1 1 lq
noncomputable def qI:Z.MS:=(aj (bh (cq (tB (lU uV uV (mC (.int 1)) (bB b_ (ag (aa 0) af)) (mC (.int 9)))))
      (au (mC (.bl false)))
      bz)
      (aj (bh (eS (tB (ae a9 (ae aI (aa 0) (mC (.int 0))) (mC (.str "0")))) (tB (ae Cq (bB b_ (ag (aa 0) af)) (mC (.int 1)))))
      (au (mC (.bl false)))
      bz)
      (au (bB lh (ag (bw (cC 1 [] (cE (aa 0)) (ay 0) aS (ae (gD false) (aa 0) (mC (.str "0123456789"))))) af)))))
noncomputable def iU:Z.MF:=az 1 1 qI
noncomputable def lQ:Z.MS:=(aj (bh (cq (bC (bB lh (ag (bw (cC 1 [] (cE (aa 0)) (ay 0) aS (aV iU (ag (aa 0) af)))) af))))
      (c7 "NoRow" (mC (.str "a word of the row is no number")))
      bz)
      (au (bw (cC 1 [] (cE (aa 0)) (ay 0) aS (bB d9 (ag (aa 0) af))))))
noncomputable def fP:Z.MF:=az 1 1 lQ
noncomputable def sF:Z.MS:=(aj (bh (tB (ae ib (bB b_ (ag (aa 0) af)) (mC (.int 1))))
      (c7 "NoRow" (mC (.str "one number is due")))
      bz)
      (au (ae aI (aV fP (ag (aa 0) af)) (mC (.int 0)))))
noncomputable def jU:Z.MF:=az 1 1 sF
noncomputable def jx:Z.MS:=(aj (aw (aV fP (ag (aa 0) af)) (ay 2))
      (aj (bh (ug (cq (bC (aa 2))) (bC (bB pL (ag (bw (cC 2 [] (lF (ag (aa 2) (ag (fg (aa 2) (c6 (mC (.int 1))) ee) af))) (dO [0,1]) aS (ae je (aa 0) (aa 1)))) af))))
      (c7 "NoRow" (mC (.str "bars are due, rising, none twice")))
      bz)
      (aj (bh (tB (ae je (ae aI (aa 2) (h7 jD (mC (.int 1)))) (aa 1)))
      (c7 "NoBar" (mC (.str "there is no such bar")))
      bz)
      (au (bB fQ (ag (bw (cC 1 [] (cE (aa 2)) (ay 0) aS (ae bp (mC (.int 1)) (aa 0)))) af))))))
noncomputable def jF:Z.MF:=az 2 3 jx
noncomputable def rg:Z.MS:=(aj (aw (bw (ue (aa 0) (ag (mC (.str " ")) af))) (ay 1))
      (aj (aw (ae aI (aa 1) (mC (.int 0))) (ay 2))
      (aj (bh (ug (tB (ae (gD true) (aa 2) (mC xl))) (tB (ae ib (bB b_ (ag (aa 1) af)) (ae aU (mC (.int 1)) (ae aI (mC xl) (aa 2))))))
      (c7 "NoRow" (mC (.str "no such row")))
      bz)
      (au (bB E9 (ag (ae aU (bw (cJ (ag (aa 2) af))) (aV fP (ag (fg (aa 1) (c6 (mC (.int 1))) ee) af))) af))))))
noncomputable def f_:Z.MF:=az 1 3 rg
noncomputable def o_:Z.MS:=(aj (aw (aV f_ (ag (aa 0) af)) (ay 1))
      (aj (bh (tB (ae ib (ae aI (aa 1) (mC (.int 0))) (mC (.str "bars"))))
      (c7 "NoRow" (mC (.str "the row of the count is due")))
      bz)
      (aj (bh (cq (tB (lU uV uV (mC (.int 1)) (ae aI (aa 1) (mC (.int 1))) (mC (.int 10)))))
      (c7 "NoMeasure" (mC (.str "the count of the bars is out of its bounds")))
      bz)
      (au (ae aI (aa 1) (mC (.int 1)))))))
noncomputable def jw:Z.MF:=az 1 2 o_
noncomputable def Bt:Z.MF:=λ_ _=>.stuck
noncomputable def iB:Z.MS:=(aj (aw (aV f_ (ag (aa 0) af)) (ay 3))
      (aj (bh (tB (ae a9 (ae aI (aa 3) (mC (.int 0))) (mC (.str "bars"))))
      (c7 "NoRow" (mC (.str "the row of a switch is due")))
      bz)
      (aj (bh (tB (ae je (aa 2) (mC (.int 12))))
      (c7 "NoRow" (mC (.str "one switch too many")))
      bz)
      (aj (bh (tB (ae je (bB tD (ag (fg (aa 3) (c6 (mC (.int 1))) ee) af)) (aa 1)))
      (c7 "NoBar" (mC (.str "there is no such bar")))
      bz)
      (aj (bh (eS (tB (ae a9 (bB b_ (ag (aa 3) af)) (mC (.int 3)))) (tB (ae a9 (ae aI (aa 3) (mC (.int 1))) (ae aI (aa 3) (mC (.int 2))))))
      (c7 "Same" (mC (.str "a switch leads from a bar to itself")))
      bz)
      (au (aa 3)))))))
noncomputable def ft:Z.MF:=az 3 4 iB
noncomputable def j5:Z.MS:=(aj (dS c5 "yard" (aa 0) (a_ (ag (ae aI (aa 1) (mC (.int 0))) (ag (bw (wA (ag (ae aI (aa 1) (mC (.int 1))) af))) af))))
      (aj (dS m4 "net" (aa 0) (eN "Net" eY (ag (ax c5 "yard" (aa 0)) af)))
      (aj (dS kG "shut" (aa 0) (mC (.int 0)))
      (aj (dS fS "locks" (aa 0) (mC (.int 0)))
      (aj (dS rp "given" (aa 0) mS)
      (dS tE "last_number" (aa 0) (mC (.int 0))))))))
noncomputable def hZ:Z.MF:=az 2 2 j5
noncomputable def jk:Z.MS:=(aj (dS c5 "yard" (aa 0) (aa 1))
      (aj (dS eF "board" (aa 0) (sN "Board" hZ (ag (aa 1) af)))
      (au (mC (.str "ok")))))
noncomputable def fm:Z.MF:=az 2 2 jk
noncomputable def vX:List (String×Z.MF):=[("Desk",fm)]
noncomputable def kC:Z.MS:=(aj (aw (ae aI (ax c5 "yard" (aa 0)) (mC (.int 0))) (ay 2))
      (aj (aw (ae aI (ax c5 "yard" (aa 0)) (mC (.int 1))) (ay 3))
      (au (aF vX "begin" (aa 0) (ag (a_ (ag (aa 2) (ag (ae aU (aa 3) (bw (cJ (ag (aV ft (ag (aa 1) (ag (aa 2) (ag (bB b_ (ag (aa 3) af)) af)))) af)))) af))) af)))))
noncomputable def jq:Z.MF:=az 2 4 kC
noncomputable def tX:Z.MS:=(aj (aw (mC (.int 0)) (ay 1))
      (aj (oj (ax rp "given" (aa 0)) (ay 2)
      (aw (ae fw (aa 1) (ae aI (aa 2) (mC (.int 1)))) (ay 1)))
      (au (aa 1))))
noncomputable def gX:Z.MF:=az 1 3 tX
noncomputable def su:List (String×Z.MF):=[("Board",gX)]
noncomputable def mK:Z.MS:=(aj (bh (tB (ae (gD true) (aa 1) (ax rp "given" (aa 0))))
      (c7 "NoPermit" (mC (.str "no permit of that number stands")))
      bz)
      (aj (jf (Jz (ax rp "given" (aa 0)) (aa 1)))
      (au (aF su "held" (aa 0) af))))
noncomputable def fu:Z.MF:=az 2 2 mK
noncomputable def jv:Z.MS:=(bh (cq (tB (lU uV kX (mC (.int 0)) (aa 1) (bB b_ (ag (ae aI (aa 0) (mC (.int 1))) af)))))
      (c7 "NoSwitch" (mC (.str "there is no such switch")))
      bz)
noncomputable def eK:Z.MF:=az 2 2 jv
noncomputable def jl:Z.MS:=(au (mC (.bl false)))
noncomputable def fW:Z.MF:=az 1 1 jl
noncomputable def tR:Z.MS:=(au (mC (.bl true)))
noncomputable def rC:Z.MF:=az 1 1 tR
noncomputable def kS:List (String×Z.MF):=[("Switch",fW),("Feed",fW),("Earth",fW),("Breaker",fW),("Splitter",rC)]
noncomputable def mz:Z.MS:=(au (J8 (ae ib (aF kH "feeds" (aa 0) af) (mC (.int 0))) (aF kS "gentle" (aa 0) af)))
noncomputable def iC:Z.MF:=az 1 1 mz
noncomputable def gY:Z.MS:=(aj (jf (aV eK (ag (ax c5 "yard" (aa 0)) (ag (aa 1) af))))
      (aj (bh (cq (bC (aV iC (ag (ae aI (ax gI "switches" (ax m4 "net" (aa 0))) (aa 1)) af))))
      (c7 "NoLock" (mC (.str "no lock can be put to a switch of this kind")))
      bz)
      (aj (bh (bC (aV gP (ag (ax kG "shut" (aa 0)) (ag (aa 1) af))))
      (c7 "NotOpen" (mC (.str "the switch is shut")))
      bz)
      (aj (bh (bC (aV gP (ag (ax fS "locks" (aa 0)) (ag (aa 1) af))))
      (c7 "Locked" (mC (.str "the switch is locked already")))
      bz)
      (aj (dS fS "locks" (aa 0) (ae fw (ax fS "locks" (aa 0)) (ae bp (mC (.int 1)) (aa 1))))
      (au (ax fS "locks" (aa 0))))))))
noncomputable def dJ:Z.MF:=az 2 2 gY
noncomputable def p5:Z.MS:=(au (ae bN (aa 0) (h7 jD (aa 0))))
noncomputable def hU:Z.MF:=az 1 1 p5
noncomputable def pF:Z.MS:=(aj (aw (ae aI (ax gI "switches" (aa 0)) (aa 2)) (ay 3))
      (aj (bh (cq (bC (aF kS "gentle" (aa 3) af)))
      (au (mC (.bl false)))
      bz)
      (aj (aw (ae bN (aa 1) (h7 dI (ae bp (mC (.int 1)) (aa 2)))) (ay 4))
      (aj (aw (aF iP "joins" (aa 3) af) (ay 5))
      (aj (bh (cq (bC (ae bN (aa 5) (aF oW "live_bars" (aa 0) (ag (aa 4) af)))))
      (au (mC (.bl false)))
      bz)
      (au (ae ib (ae bN (aa 5) (h7 dI (aF p9 "joined_bars" (aa 0) (ag (aa 4) (ag (aV hU (ag (aa 5) af)) af))))) (mC (.int 0)))))))))
noncomputable def jJ:Z.MF:=az 3 6 pF
noncomputable def tV:Z.MS:=(au (ae yN (aa 0) (ae bp (mC (.int 1)) (aa 1))))
noncomputable def kE:Z.MF:=az 2 2 tV
noncomputable def pN:Z.MS:=(au (ae a9 (ae bN (aF oW "live_bars" (aa 0) (ag (aa 1) af)) (aF vH "earthed_bars" (aa 0) (ag (aa 1) af))) (mC (.int 0))))
noncomputable def lP:Z.MF:=az 2 2 pN
noncomputable def Fg:List (String×Z.MF):=[("Net",lP)]
noncomputable def pP:Z.MS:=(au (oU (aF Fg "is_safe" (aa 0) (ag (aV kE (ag (aa 1) (ag (aa 2) af))) af))))
noncomputable def mM:Z.MF:=az 3 3 pP
noncomputable def jz:Z.MS:=(aj (jf (aV eK (ag (aa 0) (ag (aa 2) af))))
      (aj (aw (eN "Net" eY (ag (aa 0) af)) (ay 3))
      (aj (bh (bC (aV jJ (ag (aa 3) (ag (aa 1) (ag (aa 2) af)))))
      (c7 "Loaded" (mC (.str "a splitter would part or join a load")))
      bz)
      (aj (bh (bC (aV mM (ag (aa 3) (ag (aa 1) (ag (aa 2) af)))))
      (c7 "Shorted" (mC (.str "a bar would be live and earthed")))
      bz)
      (au (aV kE (ag (aa 1) (ag (aa 2) af))))))))
noncomputable def iX:Z.MF:=az 3 4 jz
noncomputable def fR:Z.MS:=(aj (jf (aV eK (ag (ax c5 "yard" (aa 0)) (ag (aa 1) af))))
      (aj (bh (bC (aV gP (ag (ax fS "locks" (aa 0)) (ag (aa 1) af))))
      (c7 "Locked" (mC (.str "the switch is locked")))
      bz)
      (aj (bh (bC (aV gP (ag (aF su "held" (aa 0) af) (ag (aa 1) af))))
      (c7 "Held" (mC (.str "a permit holds the switch")))
      bz)
      (aj (dS kG "shut" (aa 0) (aV iX (ag (ax c5 "yard" (aa 0)) (ag (ax kG "shut" (aa 0)) (ag (aa 1) af)))))
      (au (ax kG "shut" (aa 0)))))))
noncomputable def cS:Z.MF:=az 2 2 fR
noncomputable def iN:Z.MS:=(aj (jf (aV eK (ag (ax c5 "yard" (aa 0)) (ag (aa 1) af))))
      (aj (bh (cq (bC (aV gP (ag (ax fS "locks" (aa 0)) (ag (aa 1) af)))))
      (c7 "NotLocked" (mC (.str "the switch isn't locked")))
      bz)
      (aj (bh (bC (aV gP (ag (aF su "held" (aa 0) af) (ag (aa 1) af))))
      (c7 "Held" (mC (.str "a permit holds the switch")))
      bz)
      (aj (dS fS "locks" (aa 0) (ae bN (ax fS "locks" (aa 0)) (h7 dI (ae bp (mC (.int 1)) (aa 1)))))
      (au (ax fS "locks" (aa 0)))))))
noncomputable def d_:Z.MF:=az 2 2 iN
noncomputable def jm:List (String×Z.MF):=[("Board",fu)]
noncomputable def jS:List (String×Z.MF):=[("Board",dJ)]
noncomputable def lK:List (String×Z.MF):=[("Board",cS)]
noncomputable def j_:List (String×Z.MF):=[("Board",d_)]
noncomputable def dZ:Z.MS:=(aj (bh (tB (ae a9 (aa 1) (mC (.str "turn"))))
      (au (Kt (bC (aV gP (ag (aF lK "turn" (ax eF "board" (aa 0)) (ag (aa 2) af)) (ag (aa 2) af)))) (mC (.str "shut")) (mC (.str "open"))))
      bz)
      (aj (bh (tB (ae a9 (aa 1) (mC (.str "lock"))))
      (jf (aF jS "lock" (ax eF "board" (aa 0)) (ag (aa 2) af)))
      bz)
      (aj (bh (tB (ae a9 (aa 1) (mC (.str "unlock"))))
      (jf (aF j_ "unlock" (ax eF "board" (aa 0)) (ag (aa 2) af)))
      bz)
      (aj (bh (tB (ae a9 (aa 1) (mC (.str "back"))))
      (jf (aF jm "give_back" (ax eF "board" (aa 0)) (ag (aa 2) af)))
      bz)
      (au (mC (.str "ok")))))))
noncomputable def eO:Z.MF:=az 3 3 dZ
noncomputable def pJ:Z.MS:=(au (ae fZ (ae bp (mC (.int 1)) (bB b_ (ag (ae aI (aa 0) (mC (.int 1))) af))) (mC (.int 1))))
noncomputable def jA:Z.MF:=az 1 1 pJ
noncomputable def l9:Z.MS:=(au (ae a9 (ae bN (aF oW "live_bars" (eN "Net" eY (ag (aa 0) af)) (ag (ae bN (aV jA (ag (aa 0) af)) (h7 dI (aa 2))) af)) (aa 1)) (mC (.int 0))))
noncomputable def iS:Z.MF:=az 3 3 l9
noncomputable def rE:Z.MS:=(au (bw (cC 1 [0] (eP (ag (m5 (aa 0)) af)) (ay 0) (bC (aV gP (ag (aa 1) (ag (aa 0) af)))) (aa 0))))
noncomputable def fU:Z.MF:=az 1 1 rE
noncomputable def qL:Z.MS:=(aj (aw (bw (cC 1 [2,0] (cE (aV fU (ag (aa 1) af))) (ay 0) (bC (ae bN (aF kN "earths" (ae aI (ax gI "switches" (aa 2)) (aa 0)) af) (aa 1))) (aa 0))) (ay 3))
      (au (bB fQ (ag (bw (cC 1 [] (cE (aa 3)) (ay 0) aS (ae bp (mC (.int 1)) (aa 0)))) af))))
noncomputable def jE:Z.MF:=az 3 4 qL
noncomputable def j6:Z.MS:=(aj (bh (cq (tB (lU kX kX (mC (.int 0)) (aa 1) (ae bp (mC (.int 1)) (ae aI (ax c5 "yard" (aa 0)) (mC (.int 0)))))))
      (c7 "NoBar" (mC (.str "no bars, or one that there is not")))
      bz)
      (aj (bh (bC (ae bN (aa 1) (h7 dI (aF ux "led_bars" (ax m4 "net" (aa 0)) (ag (ax kG "shut" (aa 0)) af)))))
      (c7 "NotEarthed" (mC (.str "a bar has no shut earth of its own")))
      bz)
      (aj (bh (cq (bC (aV iS (ag (ax c5 "yard" (aa 0)) (ag (aa 1) (ag (ax fS "locks" (aa 0)) af))))))
      (c7 "NotDead" (mC (.str "the locks don't keep the place dead")))
      bz)
      (aj (dS tE "last_number" (aa 0) (ae aU (ax tE "last_number" (aa 0)) (mC (.int 1))))
      (aj (oQ (ax rp "given" (aa 0)) (ax tE "last_number" (aa 0)) (a_ (ag (aa 1) (ag (ae fw (aV jE (ag (ax m4 "net" (aa 0)) (ag (ax kG "shut" (aa 0)) (ag (aa 1) af)))) (ax fS "locks" (aa 0))) af))))
      (au (ax tE "last_number" (aa 0))))))))
noncomputable def di:Z.MF:=az 2 2 j6
noncomputable def Cf:Z.MF:=λ_ _=>.stuck
noncomputable def uY:Z.MF:=λ_ _=>.stuck
noncomputable def ro:Z.MS:=(au (ax kG "shut" (aa 0)))
noncomputable def fC:Z.MF:=az 1 1 ro
noncomputable def zS:List (String×Z.MF):=[("Board",iF)]
noncomputable def iZ:List (String×Z.MF):=[("Board",fC)]
noncomputable def c9:Z.MS:=(aj (bh (tB (ae a9 (aa 1) (mC (.str "live"))))
      (au (aV c_ (ag (aV fU (ag (aV jg (ag (ax c5 "yard" (aa 0)) (ag (aF iZ "standing" (ax eF "board" (aa 0)) af) af))) af)) af)))
      bz)
      (aj (bh (tB (ae a9 (aa 1) (mC (.str "earthed"))))
      (au (aV c_ (ag (aV fU (ag (aV ju (ag (ax c5 "yard" (aa 0)) (ag (aF iZ "standing" (ax eF "board" (aa 0)) af) af))) af)) af)))
      bz)
      (aj (bh (tB (ae a9 (aa 1) (mC (.str "locked"))))
      (au (aV c_ (ag (aV fU (ag (aF zS "locked" (ax eF "board" (aa 0)) af) af)) af)))
      bz)
      (aj (bh (tB (ae a9 (aa 1) (mC (.str "shut"))))
      (au (aV c_ (ag (aV fU (ag (aF iZ "standing" (ax eF "board" (aa 0)) af) af)) af)))
      bz)
      (aj (bh (tB (ae a9 (aa 1) (mC (.str "show"))))
      (au (aV uY (ag (ax c5 "yard" (aa 0)) af)))
      bz)
      (c7 "NoRow" (mC (.str "no such row"))))))))
noncomputable def mQ:Z.MF:=az 2 2 c9
noncomputable def E_:List (String×Z.MF):=[("Desk",jq)]
noncomputable def Hq:List (String×Z.MF):=[("Desk",eO)]
noncomputable def sv:List (String×Z.MF):=[("Board",di)]
noncomputable def JI:List (String×Z.MF):=[("Desk",Cf)]
noncomputable def Hh:List (String×Z.MF):=[("Desk",mQ)]
noncomputable def cH:Z.MS:=(aj (aw (bw (ue (aa 1) (ag (mC (.str " ")) af))) (ay 2))
      (aj (aw (ae aI (aa 2) (mC (.int 0))) (ay 3))
      (aj (bh (tB (ae a9 (aa 3) (mC (.str "bars"))))
      (au (aF vX "begin" (aa 0) (ag (a_ (ag (aV jw (ag (aa 1) af)) (ag (bw (cJ af)) af))) af)))
      bz)
      (aj (bh (tB (ae ua (ax c5 "yard" (aa 0)) (mC .non)))
      (c7 "NoRow" (mC (.str "there is no yard yet")))
      bz)
      (aj (bh (tB (ae (gD false) (aa 3) (a_ (ag (mC (.str "feed")) (ag (mC (.str "earth")) (ag (mC (.str "breaker")) (ag (mC (.str "splitter")) af)))))))
      (au (aF E_ "add_switch" (aa 0) (ag (aa 1) af)))
      bz)
      (aj (bh (tB (ae (gD false) (aa 3) (a_ (ag (mC (.str "turn")) (ag (mC (.str "lock")) (ag (mC (.str "unlock")) (ag (mC (.str "back")) af)))))))
      (au (aF Hq "done" (aa 0) (ag (aa 3) (ag (aV jU (ag (fg (aa 2) (c6 (mC (.int 1))) ee) af)) af))))
      bz)
      (aj (bh (tB (ae a9 (aa 3) (mC (.str "permit"))))
      (aj (aw (aF sv "permit" (ax eF "board" (aa 0)) (ag (aV jF (ag (fg (aa 2) (c6 (mC (.int 1))) ee) (ag (ae aI (ax c5 "yard" (aa 0)) (mC (.int 0))) af))) af)) (ay 4))
      (au (Ck (lJ (mC (.str "permit ")) (lJ (jO (aa 4)) kF)))))
      bz)
      (aj (bh (tB (ae a9 (aa 3) (mC (.str "locks"))))
      (au (aV c_ (ag (ae aI (aV Bt (ag (ax c5 "yard" (aa 0)) (ag (aV jF (ag (fg (aa 2) (c6 (mC (.int 1))) ee) (ag (ae aI (ax c5 "yard" (aa 0)) (mC (.int 0))) af))) af))) (mC (.int 0))) af)))
      bz)
      (aj (bh (tB (ae a9 (aa 3) (mC (.str "reach"))))
      (au (aF JI "reach" (aa 0) (ag (fg (aa 2) (c6 (mC (.int 1))) ee) af)))
      bz)
      (aj (bh (tB (ae ib (bB b_ (ag (aa 2) af)) (mC (.int 1))))
      (c7 "NoRow" (mC (.str "no such row")))
      bz)
      (au (aF Hh "tell" (aa 0) (ag (aa 3) af)))))))))))))
noncomputable def cy:Z.MF:=az 2 5 cH
noncomputable def jo:List (String×Z.MF):=[("Desk",cy)]
noncomputable def jQ:Z.MS:=(aj (aw (aF iZ "standing" (aa 1) af) (ay 4))
      (aj (bh (tB (ae a9 (aa 3) (mC (.int 0))))
      (au (ae a9 (aF jo "say" (aa 0) (ag (mC (.str "live")) af)) (aV iD (ag (aV jg (ag (aa 2) (ag (aa 4) af))) af))))
      bz)
      (aj (bh (tB (ae a9 (aa 3) (mC (.int 1))))
      (au (ae a9 (aF jo "say" (aa 0) (ag (mC (.str "earthed")) af)) (aV iD (ag (aV ju (ag (aa 2) (ag (aa 4) af))) af))))
      bz)
      (aj (bh (tB (ae a9 (aa 3) (mC (.int 2))))
      (au (ae a9 (aF jo "say" (aa 0) (ag (mC (.str "locked")) af)) (aV iD (ag (aF zS "locked" (aa 1) af) af))))
      bz)
      (au (ae a9 (aF jo "say" (aa 0) (ag (mC (.str "shut")) af)) (aV iD (ag (aa 4) af))))))))
noncomputable def d7:Z.MF:=az 4 5 jQ
noncomputable def dc:Z.MS:=(aj (bh (tB (ae a9 (aa 1) (mC (.str "turn"))))
      (au (ae aI (bw (cJ (ag (mC (.str "open")) (ag (mC (.str "shut")) af)))) (ae bN (ae dr (aF lK "turn" (aa 0) (ag (aa 2) af)) (aa 2)) (mC (.int 1)))))
      bz)
      (aj (bh (tB (ae a9 (aa 1) (mC (.str "permit"))))
      (au (ae aU (mC (.str "permit ")) (bB dv (ag (aF sv "permit" (aa 0) (ag (aa 2) af)) af))))
      bz)
      (aj (bh (tB (ae a9 (aa 1) (mC (.str "lock"))))
      (jf (aF jS "lock" (aa 0) (ag (aa 2) af)))
      (bh (tB (ae a9 (aa 1) (mC (.str "unlock"))))
      (jf (aF j_ "unlock" (aa 0) (ag (aa 2) af)))
      (jf (aF jm "give_back" (aa 0) (ag (aa 2) af)))))
      (au (mC (.str "ok"))))))
noncomputable def eG:Z.MF:=az 3 3 dc
noncomputable def tN:Z.MS:=(aj (aw (bw (cJ (ag (bB (cU fN) (ag (aa 0) (ag (mC (.cls "NoSwitch")) af))) (ag (bB (cU fN) (ag (aa 0) (ag (mC (.cls "Loaded")) af))) (ag (bB (cU fN) (ag (aa 0) (ag (mC (.cls "Shorted")) af))) (ag (bB (cU fN) (ag (aa 0) (ag (mC (.cls "Locked")) af))) af)))))) (ay 1))
      (aj (aw (ae aU (aa 1) (bw (cJ (ag (bB (cU fN) (ag (aa 0) (ag (mC (.cls "Held")) af))) (ag (bB (cU fN) (ag (aa 0) (ag (mC (.cls "NoLock")) af))) (ag (bB (cU fN) (ag (aa 0) (ag (mC (.cls "NotOpen")) af))) (ag (bB (cU fN) (ag (aa 0) (ag (mC (.cls "NotLocked")) af))) af))))))) (ay 1))
      (aj (aw (ae aU (aa 1) (bw (cJ (ag (bB (cU fN) (ag (aa 0) (ag (mC (.cls "NotEarthed")) af))) (ag (bB (cU fN) (ag (aa 0) (ag (mC (.cls "NotDead")) af))) (ag (bB (cU fN) (ag (aa 0) (ag (mC (.cls "NoPermit")) af))) af)))))) (ay 1))
      (au (ae aU (aa 1) (bw (cJ (ag (bB (cU fN) (ag (aa 0) (ag (mC (.cls "NoRow")) af))) (ag (bB (cU fN) (ag (aa 0) (ag (mC (.cls "NoMeasure")) af))) (ag (bB (cU fN) (ag (aa 0) (ag (mC (.cls "NoBar")) af))) (ag (bB (cU fN) (ag (aa 0) (ag (mC (.cls "Same")) af))) af)))))))))))
noncomputable def jK:Z.MF:=az 1 2 tN
noncomputable def gE:Z.MS:=(aj (aw (mC .non) (ay 3))
      (aj (aw (mC .non) (ay 4))
      (aj (lz (aw (aV eG (fq (ag (aa 0) (ag (aa 1) (ag (aa 2) af))))) (ay 4)) (Dm w_Xm 5
      (aw (aa 5) (ay 3))
      rh))
      (aj (bh (tB (ae C9 (aa 3) (mC .non)))
      (au (aV jK (ag (aa 3) af)))
      bz)
      (au (aa 4))))))
noncomputable def jH:Z.MF:=az 3 6 gE
noncomputable def gC:Z.MS:=(aj (aw (mC .non) (ay 2))
      (aj (aw (mC .non) (ay 3))
      (aj (lz (aw (aF jo "say" (aa 0) (fq (ag (aa 1) af))) (ay 3)) (Dm w_Xm 4
      (aw (aa 4) (ay 2))
      rh))
      (aj (bh (tB (ae C9 (aa 2) (mC .non)))
      (au (aV jK (ag (aa 2) af)))
      bz)
      (au (aa 3))))))
noncomputable def jB:Z.MF:=az 2 5 gC
noncomputable def jR:Z.MS:=(aj (aw (ae aU (ae aU (aa 2) (mC (.str " "))) (bB dv (ag (aa 3) af))) (ay 4))
      (aj (bh (tB (ae a9 (aa 2) (mC (.str "permit"))))
      (aw (rZ kT (mC (.str " ")) (ag (ae aU (bw (cJ (ag (aa 2) af))) (bw (cC 1 [3] (eP (ag (mC (.int 10)) af)) (ay 0) (tB (ae a9 (ae bN (ae dr (aa 1) (aa 0)) (mC (.int 1))) (mC (.int 1)))) (bB dv (ag (aa 0) af))))) af)) (ay 4))
      bz)
      (aj (aw (aV jH (ag (aa 1) (ag (aa 2) (ag (aa 3) af)))) (ay 5))
      (aj (aw (aV jB (ag (aa 0) (ag (aa 4) af))) (ay 6))
      (aj (bh (bC (bB gA (ag (aa 5) (ag (mC (.ty "list")) af))))
      (au (hG (bB gA (ag (aa 6) (ag (mC (.ty "list")) af))) (hG (ae a9 (aa 6) (aa 5)) (ae a9 (bB fQ (ag (bw (cC 1 [] (cE (aa 5)) (ay 0) aS (bB d9 (ag (aa 0) af)))) af)) (mC (.int 1))))))
      bz)
      (au (hG (bB gA (ag (aa 6) (ag (mC (.ty "str")) af))) (ae a9 (aa 6) (aa 5)))))))))
noncomputable def lT:Z.MF:=az 4 7 jR
noncomputable def jW:Z.MS:=(aj (dS c5 "yard" (aa 0) (mC .non))
      (dS eF "board" (aa 0) (mC .non)))
noncomputable def iO:Z.MF:=az 1 1 jW
noncomputable def DL:Z.MS:=(bh (cq (bC (aV lT (ag (aa 2) (ag (aa 4) (ag (aa 8) (ag (aa 9) af)))))))
      (au (mC (.bl false)))
      bz)
noncomputable def zC:Z.MS:=(aj (aw (aV h8 (ag (ae bP (aa 6) (mC (.int 2))) (ag (aa 1) af))) (ay 7))
      (aj (bh (eS (tB (ae Cq (aa 5) (mC (.int 0)))) (tB (ae a9 (ae aT (aa 6) (mC (.int 16))) (mC (.int 6)))))
      (aj (aw (ae fZ (aa 5) (mC (.int 1))) (ay 5))
      (aw (aV lB (ag (ae bP (aa 6) (mC (.int 16))) (ag (aa 1) (ag (aF iZ "standing" (aa 4) af) af)))) (ay 7)))
      bz)
      (aj (dt (cE (aa 7)) (dO [8,9])
      DL)
      (bh (cq (bC (aV d7 (ag (aa 2) (ag (aa 4) (ag (aa 1) (ag (ae aT (ae bP (aa 6) (mC (.int 3))) (mC (.int 4))) af)))))))
      (au (mC (.bl false)))
      bz))))
noncomputable def BI:Z.MS:=(aj (aw (aV jN (ag (aa 0) af)) (ay 1))
      (aj (aw (sN "Desk" iO af) (ay 2))
      (aj (aw (ae aU (bw (cJ (ag (ae aU (mC (.str "bars ")) (bB uJ (ag (ae aI (aa 1) (mC (.int 0))) af))) af))) (bw (cC 1 [] (cE (ae aI (aa 1) (mC (.int 1)))) (ay 0) aS (rZ kT (mC (.str " ")) (ag (bw (cC 1 [] (cE (aa 0)) (ay 0) aS (bB uJ (ag (aa 0) af)))) af))))) (ay 3))
      (aj (bh (tB (ae ib (bw (cC 1 [2] (cE (aa 3)) (ay 0) (tB (ae ib (aF jo "say" (aa 1) (ag (aa 0) af)) (mC (.str "ok")))) (aa 0))) (bw (cJ af))))
      (au (mC (.bl false)))
      bz)
      (aj (aw (sN "Board" hZ (ag (a_ (ag (ae aI (aa 1) (mC (.int 0))) (ag (bw (wA (ag (ae aI (aa 1) (mC (.int 1))) af))) af))) af)) (ay 4))
      (aj (aw (mC (.int 2)) (ay 5))
      (aj (dt (cE (fg (aa 0) ee (c6 (mC (.int 63))))) (ay 6)
      zC)
      (au (ae a9 (bw (cC 1 [2,4,1] (eP (ag (mC (.int 4)) af)) (ay 0) (cq (bC (aV d7 (ag (aa 1) (ag (aa 2) (ag (aa 3) (ag (aa 0) af))))))) (aa 0))) (bw (cJ af)))))))))))
noncomputable def FH:Z.MF:=az 1 10 BI
end My
namespace My
open Z PySem
noncomputable def sd(s:Str×List Int):D:=.tup (.str s.1::s.2.map .int)
noncomputable def SwOk(c:Int)(s:Str×List Int):Prop:=
 (∃b,0<=b/\b<c/\(s=(("feed":Str),[b])\/s=(("earth":Str),[b])))\/∃a b,0<=a/\a<c/\0<=b/\b<c/\a≠b/\(s=(("breaker":Str),[a,b])\/s=(("splitter":Str),[a,b]))
noncomputable abbrev W(n:Int):Str:=br n
theorem xO:∀n:Fin 13,(W n.val).cps.toList.length<=2/\1<=(W n.val).cps.toList.length/\(32∉(W n.val).cps.toList)/\(10∉(W n.val).cps.toList):=by decide+kernel
theorem gu(h0:0<=n)(h1:n<=12):(W n).length<=2/\1<=(W n).length/\(32∉(W n).cps.toList)/\(10∉(W n).cps.toList):=by
 obtain⟨m,rfl⟩:∃m:Nat,n=m:=⟨n.toNat,by omega⟩;have:=xO ⟨m,by omega⟩;simpa [Str.length]using this
noncomputable def cI(s:Str×List Int):Str:=Str.join ⟨#[32]⟩ (s.1::s.2.map W)
theorem SwOk.bars(ok:SwOk c s):(∀b∈s.2,0<=b/\b<c)/\s.2.length<=2/\s.2≠[]/\s.1.length<=8/\(32∉s.1.cps.toList)/\(10∉s.1.cps.toList):=by
 have hs:∀k:Str,(k="feed"\/k="earth"\/k="breaker"\/k="splitter")->k.length<=8/\(32∉k.cps.toList)/\(10∉k.cps.toList):=by
  rintro k (rfl|rfl|rfl|rfl)<;>decide+kernel
 rcases ok with⟨b,h0,h1,rfl|rfl⟩|⟨a,b,h0,h1,h2,h3,_,rfl|rfl⟩
 ·exact⟨by simp;omega,by simp,by simp,hs _ (by simp)⟩
 ·exact⟨by simp;omega,by simp,by simp,hs _ (by simp)⟩
 ·exact⟨by simp;omega,by simp,by simp,hs _ (by simp)⟩
 ·exact⟨by simp;omega,by simp,by simp,hs _ (by simp)⟩
theorem D7{l:List Nat}(h:∀x∈l,x<=m):l.sum<=l.length*m:=by
 induction l with
 | nil=>simp
 | cons a l ih=>
  have h1:=h a (qf ..);have h2:=ih λx hx=>h x (q9 _ hx);simp only[ko,qz,Nat.succ_mul];omega
theorem uy:Str.ofString " "=⟨#[32]⟩:=by decide+kernel
noncomputable def f9(c:Int):Str:=cI (("bars":Str),[c])
theorem GA(hk:k.length<=8)(k32:32∉k.cps.toList)(k10:10∉k.cps.toList)(hb:∀b∈bs,0<=b/\b<=12)(hl:bs.length<=2):
  (cI (k,bs)).length<=20/\(10∉(cI (k,bs)).cps.toList)/\Txt.split (cI (k,bs)) ⟨#[32]⟩=k::bs.map W:=by
 have hw:∀p∈k::bs.map W,32∉p.cps.toList/\10∉p.cps.toList/\p.length<=8:=by
  intro p hp;rcases qr.mp hp with rfl|hp
  ·exact⟨k32,k10,hk⟩
  ·obtain⟨b,hb',rfl⟩:=qv.mp hp
   have:=gu (hb b hb').1 (hb b hb').2;exact⟨this.2.2.1,this.2.2.2,by omega⟩
 refine⟨?_,?_,JJ (λz=>nomatch z) λp hp=>(hw p hp).1⟩
 ·have:=wQ (c:=32) (k::bs.map W) (λz=>nomatch z)
  show(Str.join ⟨#[32]⟩ (k::bs.map W)).length<=20;have h2:((k::bs.map W).map (·.length)).sum<=8+2*2:=by
   have:=D7 (l:=(bs.map W).map (·.length)) (m:=2) (by
    intro x hx;simp only[qv]at hx;obtain⟨y,⟨b,hb',rfl⟩,rfl⟩:=hx;exact(gu (hb b hb').1 (hb b hb').2).1)
   simp only[qi]at this;simp only[List.map_cons,ko];omega
  simp only[qz,qi]at this;omega
 ·unfold cI
  have gen:∀ps:List Str,(∀p∈ps,10∉p.cps.toList)->10∉(Str.join ⟨#[32]⟩ ps).cps.toList:=by
   intro ps
   induction ps with
   | nil=>intro _;simp[Str.join,Str.empty]
   | cons p ps ih=>
    intro hp;cases ps with
    | nil=>exact hp p (qf ..)
    | cons q r=>
     rw[Bp];intro hm;rcases zi.mp hm with hm|hm
     ·exact hp p (qf ..) hm
     ·rcases qr.mp hm with hm|hm
      ·exact absurd hm (by decide)
      ·exact ih (λa ha=>hp a (q9 _ ha)) hm
  exact gen _ λp hp=>(hw p hp).2.1
theorem uU:("bars":Str).length<=8/\32∉("bars":Str).cps.toList/\10∉("bars":Str).cps.toList:=by decide+kernel
noncomputable def i7(c:Nat):Bool:=decide (48<=c/\c<=57)
noncomputable def dQ(w:Str):Bool:=decide (1<=w.length)&&decide (w.length<=9)&& !(decide (w.cps.toList[0]?=some 48)&&decide (1<w.length))&&w.cps.toList.all i7
theorem GN(c:Nat):(!(Builtin.Str.occurrences ("0123456789":Str) ⟨#[c]⟩ 0 ("0123456789":Str).length 1).isEmpty)=i7 c:=by
 rw[StrLaws.found_one];have e:("0123456789":Str).cps.toList=[48,49,50,51,52,53,54,55,56,57]:=by decide+kernel
 rw[e];unfold i7;by_cases h:48<=c/\c<=57
 ·rw[decide_eq_true h,decide_eq_true]
  simp;omega
 ·rw[decide_eq_false h,decide_eq_false]
  simp;omega
theorem FQ(c:Nat):decide ((⟨#[c]⟩:Str)=Str.ofString "0")=decide (c=48):=by
 have e:Str.ofString "0"=⟨#[48]⟩:=by decide+kernel
 rw[e];simp
theorem MR(w:Str)(h:MH)(hw:w.length<16777216):iU [.str w] h=.ok (.bl (dQ w)) h:=by
 have hl:w.cps.toList.length=w.length:=by simp[Str.length]
 have hle:w.length<=16777216:=by omega
 have hsz:w.cps.size<16777216:=hw;have comp:compLoop (ay 0) aS (ae (gD false) (aa 0) (mC (.str "0123456789"))) [none] (w.cps.toList.map λc=>D.str ⟨#[c]⟩) h=.ok ((w.cps.toList.map i7).map D.bl) h:=by
  have:=i3 (g:=ay 0) (t:=aS) (h:=h) (m:=ae (gD false) (aa 0) (mC (.str "0123456789"))) (ρ0:=[none]) (λc:Nat=>D.str ⟨#[c]⟩) (λc=>[some (D.str ⟨#[c]⟩)]) (λc=>D.bl (i7 c)) w.cps.toList (λc hm=>by
   refine⟨by simp,by simp,?_⟩;simp only[ae,aa,mC,gD,eT,zh];have:=GN c;simp only[wd,if_false];rw[this])
  rw[this,List.map_map];rfl
 have hlt:(w.cps.toList.map λc=>D.str ⟨#[c]⟩).length<16777216:=by rw[qi,hl];exact hw
 have e9:((w.length:Int)<=9)↔w.length<=9:=by omega
 have eall:(w.cps.toList.map i7).all id=w.cps.toList.all i7:=by simp[List.all_map]
 simp only[iU,qI];unfold dQ;by_cases h1:1<=w.length
 ·by_cases h2:w.length<=9
  ·obtain⟨c,r,ec⟩:∃c r,w.cps.toList=c::r:=by
    cases e:w.cps.toList with
    | nil=>rw[e]at hl;simp at hl;omega
    | cons c r=>exact⟨c,r,rfl⟩
   have i0:cZ w.cps.toList 0=some c:=by rw[ec];simp
   have g0:w.cps.toList[0]?=some c:=by rw[ec];rfl
   have h1':(1:Int)<=(w.length:Int):=by omega
   have h2':(w.length:Int)<=9:=by omega
   by_cases h3:c=48
   ·by_cases h4:1<w.length
    ·have h4':(1:Int)<(w.length:Int):=by omega
     simp[-List.map_map, -Array.toList_map,chk,hle,h1,h2,h1',h2',i0,FQ,h3,h4,h4',g0]
    ·have h4':¬(1:Int)<(w.length:Int):=by omega
     simp[-List.map_map, -Array.toList_map,chk,hle,h1,h2,h1',h2',i0,FQ,h3,h4,h4',g0,comp,hsz]
   ·simp[-List.map_map, -Array.toList_map,chk,hle,h1,h2,h1',h2',i0,FQ,h3,g0,comp,hsz]
  ·have h2':¬(w.length:Int)<=9:=by omega
   have h1':(1:Int)<=(w.length:Int):=by omega
   simp[chk,hle,h1,h2,h1',h2']
 ·have h1':¬(1:Int)<=(w.length:Int):=by omega
  simp[chk,hle,h1,h1']
noncomputable def gS(k:Str):Option Int:=if k="bars"then some 1 else if k="feed"then some 1 else if k="earth"then some 1 else if k="breaker"then some 2 else if k="splitter"then some 2 else none
theorem r0(k:Str):∃kvs,xl=.dic kvs/\cT kvs (.inr k)=(gS k).map D.int:=by
 refine⟨_,rfl,?_⟩;unfold cT gS;simp only[zq,List.find?_nil];by_cases h1:k="bars"
 ·subst h1;simp
 by_cases h2:k="feed"
 ·subst h2;rfl
 by_cases h3:k="earth"
 ·subst h3;rfl
 by_cases h4:k="breaker"
 ·subst h4;rfl
 by_cases h5:k="splitter"
 ·subst h5;rfl
 have e:∀x:Str,k≠x->¬(x=k):=λx hx z=>hx z.symm;simp[e _ h1,e _ h2,e _ h3,e _ h4,e _ h5,h1,h2,h3,h4,h5]
noncomputable def de(w:Str):Int:=(intText? w).getD 0
theorem sj(h:dQ w=true):intText? w=some (de w)/\w.length<=640:=by
 unfold dQ at h;simp only[qu,decide_eq_true_eq]at h;obtain⟨⟨⟨h1,h2⟩,_⟩,h4⟩:=h;have hd:PySem.NumText.AllDigits w.cps.toList:=by
  intro c hc;have:=List.all_eq_true.mp h4 c hc;unfold i7 at this;exact of_decide_eq_true this
 have hne:w.cps.toList≠[]:=by
  intro e;have:w.cps.toList.length=w.length:=by simp[Str.length]
  rw[e]at this;simp at this;omega
 have:=intText_digits hd hne (by omega);unfold de;rw[this];exact⟨rfl,by omega⟩
noncomputable def DM(ws:List Str):Option (Str×List Int):=match ws with
 | []=>none
 | k::r=>match gS k with
  | none=>none
  | some n=>if(r.length:Int)=n then(if r.all dQ=true then some (k,r.map de)else none)else none
theorem PZ{l:List Nat}(h:x∈l):x<=l.sum:=by
 induction l with
 | nil=>cases h
 | cons a l ih=>
  rcases qr.mp h with rfl|h
  ·simp
  ·have:=ih h;simp;omega
theorem NG(h:p∈Txt.split x ⟨#[c]⟩):p.length<=x.length:=by
 have e:=wQ (c:=c) (Txt.split x ⟨#[c]⟩) (vD _ _);rw[StrLaws.join_split]at e;have h1:p.length<=((Txt.split x ⟨#[c]⟩).map (·.length)).sum:=PZ (qv.mpr ⟨p,h,rfl⟩);have h2:(Txt.split x ⟨#[c]⟩).length≠0:=λz=>vD x ⟨#[c]⟩ (kt z);omega
theorem EO(r:List Str)(h:MH)(hs:∀w∈r,w.length<16777216)(hl:r.length<16777216):fP [.lst (r.map D.str)] h=if r.all dQ=true then .ok (.lst ((r.map de).map D.int)) h else .exc "NoRow" h:=by
 have comp:compLoop (ay 0) aS (aV iU (ag (aa 0) af)) [none] (r.map D.str) h=.ok ((r.map dQ).map D.bl) h:=by
  have:=i3 (g:=ay 0) (t:=aS) (h:=h) (m:=aV iU (ag (aa 0) af)) (ρ0:=[none]) (λw:Str=>D.str w) (λw=>[some (D.str w)]) (λw=>D.bl (dQ w)) r (λw hm=>by
   refine⟨by simp,by simp,?_⟩;simp;exact MR w h (hs w hm))
  rw[this,List.map_map];rfl
 have compI:r.all dQ=true->compLoop (ay 0) aS (bB d9 (ag (aa 0) af)) [none] (r.map D.str) h=.ok ((r.map de).map D.int) h:=λhall=>by
  have:=i3 (g:=ay 0) (t:=aS) (h:=h) (m:=bB d9 (ag (aa 0) af)) (ρ0:=[none]) (λw:Str=>D.str w) (λw=>[some (D.str w)]) (λw=>D.int (de w)) r (λw hm=>by
   refine⟨by simp,by simp,?_⟩;obtain⟨q1,q2⟩:=sj (List.all_eq_true.mp hall w hm);simp[chk,q1,q2])
  rw[this,List.map_map];rfl
 have eall:(r.map dQ).all id=r.all dQ:=by simp[List.all_map]
 by_cases hall:r.all dQ=true
 ·simp[-List.map_map, -List.all_eq_true,fP,lQ,chk,hall,comp,compI hall,hl,eall]
 ·simp[-List.map_map, -List.all_eq_true,fP,lQ,chk,hall,comp,hl,eall]
theorem rH(row:Str)(h:MH)(hr:row.length+1<16777216):f_ [.str row] h=match DM (Txt.split row ⟨#[32]⟩)with
  | some s=>.ok (sd s) h
  | none=>.exc "NoRow" h:=by
 have hsl:=Ly row 32;have hsh:=λp (hp:p∈Txt.split row ⟨#[32]⟩)=>NG hp;have hne:=vD row ⟨#[32]⟩;generalize ew:Txt.split row ⟨#[32]⟩=ws at*;have l32:¬((⟨#[32]⟩:Str).length=0):=by decide
 have hr0:row.length<=16777216:=by omega
 have hw0:ws.length<=16777216:=by omega
 have es:ue (aa 0) (ag (mC (.str " ")) af) [some (.str row),none,none] h=.ok (ws.map D.str) h:=by
  simp[uy,chk,l32,hr0,ew,hw0]
 cases ws with
 | nil=>exact absurd rfl hne
 | cons k r=>
  obtain⟨kvs,ek,ev⟩:=r0 k;have hrl:r.length<16777216:=by simp at hw0;omega
  have nt:=EO r h (λw hm=>by have:=hsh w (q9 _ hm);omega) hrl;have es':ue (aa 0) (ag (mC (.str " ")) af) [some (.str row),none,none] h=.ok (D.str k::r.map D.str) h:=es;unfold DM;simp only[f_,rg,az,qz,ku,if_pos,List.map_cons,zw,aj,aw,bw];simp only[List.replicate,gn,gq,Nat.reduceAdd,Nat.reduceSub,es',eT,dF,ay,g9,gc];cases ec:gS k with
  | none=>
   rw[ec]at ev;simp[ek,ev,chk]
  | some n=>
   rw[ec]at ev;have hcm:n+1=1+n:=Int.add_comm ..;by_cases hl:(r.length:Int)=n
   ·by_cases hall:r.all dQ=true
    ·rw[if_pos hall]at nt
     simp[-List.map_map, -List.all_eq_true,ek,ev,chk,hl,hcm,hall,nt,hrl,show 1+r.length<=16777216 by omega,sd]
    ·rw[if_neg hall]at nt
     simp[-List.map_map, -List.all_eq_true,ek,ev,chk,hl,hcm,hall,nt,hrl]
   ·have hl':¬((r.length:Int)+1=1+n):=by omega
    simp[-List.map_map,ek,ev,chk,hl,hl']
theorem xj:∀n:Fin 13,dQ (W n.val)=true:=by decide+kernel
theorem Jx(h0:0<=n)(h1:n<=12):dQ (W n)=true/\de (W n)=n:=by
 constructor
 ·obtain⟨m,rfl⟩:∃m:Nat,n=m:=⟨n.toNat,by omega⟩
  exact xj ⟨m,by omega⟩
 ·unfold de
  have:=PySem.W.KIN.num_reads (n:=n) h0 (by omega);show(intText? (Str.ofString (toString n))).getD 0=n;rw[this];rfl
theorem O0(hk:gS k=some m)(hm:(bs.length:Int)=m)(hb:∀b∈bs,0<=b/\b<=12):DM (k::bs.map W)=some (k,bs):=by
 unfold DM;simp only[hk];rw[if_pos (by rw[qi];exact hm),if_pos]
 ·have:(bs.map W).map de=bs:=by
   rw[List.map_map]
   conv=>rhs;rw[<-List.map_id bs]
   exact List.map_congr_left λb hb'=>(Jx (hb b hb').1 (hb b hb').2).2
  rw[this]
 ·rw[List.all_eq_true]
  intro w hw;obtain⟨b,hb',rfl⟩:=qv.mp hw;exact(Jx (hb b hb').1 (hb b hb').2).1
theorem IB(h:MH)(hk:gS k=some m)(hm:(bs.length:Int)=m)(hb:∀b∈bs,0<=b/\b<=12)(kl:k.length<=8)(k32:32∉k.cps.toList)(k10:10∉k.cps.toList)(hl:bs.length<=2):
  f_ [.str (cI (k,bs))] h=.ok (sd (k,bs)) h:=by
 obtain⟨f1,_,f3⟩:=GA kl k32 k10 hb hl;rw[rH _ h (by omega),f3,O0 hk hm hb]
theorem Fy:(Str.ofString "feed"≠Str.ofString "bars")/\(Str.ofString "earth"≠Str.ofString "bars")/\(Str.ofString "breaker"≠Str.ofString "bars")/\(Str.ofString "splitter"≠Str.ofString "bars"):=by decide+kernel
theorem N1(c:Int)(h:MH)(h1:1<=c)(h2:c<=10):jw [.str (f9 c)] h=.ok (.int c) h:=by
 have hp:=IB (k:="bars") (bs:=[c]) h (m:=1) rfl rfl (by simp;omega) uU.1 uU.2.1 uU.2.2 (by simp);have hp':f_ [.str (f9 c)] h=.ok (.tup [.str "bars",.int c]) h:=hp;simp[jw,o_,hp',h1,h2,chk]
theorem SwOk.cnt(ok:SwOk c s):∃m,gS s.1=some m/\(s.2.length:Int)=m:=by
 rcases ok with⟨b,_,_,rfl|rfl⟩|⟨a,b,_,_,_,_,_,rfl|rfl⟩
 ·exact⟨1,rfl,rfl⟩
 ·exact⟨1,rfl,rfl⟩
 ·exact⟨2,rfl,rfl⟩
 ·exact⟨2,rfl,rfl⟩
theorem NZ(s:Str×List Int)(c:Int)(n:Nat)(h:MH)(h1:1<=c)(h2:c<=10)(ok:SwOk c s)(hn:n<12):ft [.str (cI s),.int c,.int n] h=.ok (sd s) h:=by
 obtain⟨a1,a2,a3,a4,a5,a6⟩:=ok.bars;obtain⟨m,m1,m2⟩:=ok.cnt;have hp:=IB (k:=s.1) (bs:=s.2) h m1 m2 (λb hb=>⟨(a1 b hb).1,by have:=(a1 b hb).2;omega⟩) a4 a5 a6 a2;have hp':f_ [.str (cI s)] h=.ok (sd s) h:=hp;have hn':¬((12:Int)<=(n:Int)):=by omega
 obtain⟨e1,e2,e3,e4⟩:=Fy;rcases ok with⟨b,b0,b1,rfl|rfl⟩|⟨a,b,b0,b1,b2,b3,ne,rfl|rfl⟩
 ·simp[ft,iB,hp',sd,chk,e1,hn',da,show ¬c<=b by omega]
 ·simp[ft,iB,hp',sd,chk,e2,hn',da,show ¬c<=b by omega]
 ·have:¬c<=(if b>a then b else a):=by split<;>omega
  simp[ft,iB,hp',sd,chk,e3,hn',da,this,ne]
 ·have:¬c<=(if b>a then b else a):=by split<;>omega
  simp[ft,iB,hp',sd,chk,e4,hn',da,this,ne]
inductive Sw where
 | feed (b:Nat)|earth (b:Nat)|breaker (a b:Nat)|splitter (a b:Nat)
noncomputable def Sw.d:Sw->D
 | .feed b=>.tup [.str "feed",.int b]
 | .earth b=>.tup [.str "earth",.int b]
 | .breaker a b=>.tup [.str "breaker",.int a,.int b]
 | .splitter a b=>.tup [.str "splitter",.int a,.int b]
noncomputable def Sw.o:Sw->D
 | .feed b=>.obj "Feed" [("bar",.int b)]
 | .earth b=>.obj "Earth" [("bar",.int b)]
 | .breaker a b=>.obj "Breaker" [("one",.int a),("other",.int b)]
 | .splitter a b=>.obj "Splitter" [("one",.int a),("other",.int b)]
noncomputable def Sw.pair:Sw->Nat
 | .breaker a b=>2^a|||2^b
 | .splitter a b=>2^a|||2^b
 | _=>0
noncomputable def Sw.fed:Sw->Nat
 | .feed b=>2^b
 | _=>0
noncomputable def Sw.led:Sw->Nat
 | .earth b=>2^b
 | _=>0
noncomputable def Sw.ok(n:Nat):Sw->Prop
 | .feed b=>b<n
 | .earth b=>b<n
 | .breaker a b=>a<n/\b<n/\a≠b
 | .splitter a b=>a<n/\b<n/\a≠b
theorem Ht:¬(Str.ofString "earth"=Str.ofString "feed"):=by decide+kernel
theorem Hk:¬(Str.ofString "breaker"=Str.ofString "feed"):=by decide+kernel
theorem EC:¬(Str.ofString "breaker"=Str.ofString "earth"):=by decide+kernel
theorem G9:¬(Str.ofString "splitter"=Str.ofString "feed"):=by decide+kernel
theorem Fc:¬(Str.ofString "splitter"=Str.ofString "earth"):=by decide+kernel
theorem Gw:¬(Str.ofString "splitter"=Str.ofString "breaker"):=by decide+kernel
theorem EF:¬(Str.ofString "one"=Str.ofString "other"):=by decide+kernel
theorem nI:(Str.ofString "other"==Str.ofString "one")=false:=by decide+kernel
theorem Pw(s:Sw)(h:MH)(hb:h.all (Cell.bnd h.length)=true):iM [s.d] h=.ok s.o h:=by
 have hb':∀x∈h,Cell.bnd h.length x=true:=by simpa using hb
 cases s<;>simp[iM,p6,Sw.d,Sw.o,tZ,tQ,sA,tT,r_,tU,tW,tq,Ht,Hk,EC,G9,Fc,Gw,EF,oI,nR,nX,bA,D.bnd,D.bndf]<;>rw[if_neg (by omega),if_pos hb']
theorem yG{α:Type}(e:α->D)(r:α->Ro)(tt:α->Bool)(f:α->D):∀(as:List α),(∀a∈as,g (e a) ρ0 h=.nx (r a) h/\t (r a) h=.ok (tt a) h/\m (r a) h=.ok (f a) h)->compLoop g t m ρ0 (as.map e) h=.ok ((as.filter tt).map f) h
 | [],_=>rfl
 | a::as,q=>by
  obtain⟨h1,h2,h3⟩:=q a (qf ..);have ih:=yG e r tt f as λb hb=>q b (q9 _ hb);rw[List.map_cons];unfold compLoop;rw[h1];cases y:tt a with
  | true=>simp only[h2,y,h3,ih,wo,if_true,List.map_cons]
  | false=>simp only[h2,y,ih,wo,if_false,wd]
noncomputable def yd(n:Nat)(sws:List Sw):D:=.tup [.int n,.lst (sws.map Sw.d)]
noncomputable def aP(sws:List Sw):D:=.obj "Net" [("switches",.lst (sws.map Sw.o))]
noncomputable def Hb(h:MH):Prop:=∀n,h.length<=n->h.all (Cell.bnd n)=true
theorem Hb.nil:Hb []:=λ_ _=>rfl
theorem Hb.snoc(a:Hb h)(b:∀n,h.length<n->Cell.bnd n c=true):Hb (h++[c]):=λn hn=>by
 simp only[zf,qz,ku,gr,wk,List.all_nil,kq,qu]at hn ⊢;exact⟨a n (by omega),b n (by omega)⟩
theorem Mb(n:Nat)(sws:List Sw)(h:MH)(hl:sws.length<=12)(hb:Hb h):eY [.ref h.length,yd n sws] (h++[some (.ins "Net" [])])=.ok .non (h++[some (.ins "Net" [("switches",.lst (sws.map Sw.o))])]):=by
 have hb2:Hb (h++[some (.ins "Net" [])]):=hb.snoc λn _=>by simp[Cell.bnd,D.bnds]
 have comp:compLoop (ay 0) aS (aV iM (ag (aa 0) af)) [none] (sws.map Sw.d) (h++[some (.ins "Net" [])])=.ok (sws.map Sw.o) (h++[some (.ins "Net" [])]):=
  i3 (g:=ay 0) (t:=aS) (m:=aV iM (ag (aa 0) af)) (ρ0:=[none]) Sw.d (λs=>[some s.d]) Sw.o sws (λs _=>by
   refine⟨by simp,by simp,?_⟩;have:=Pw s _ (hb2 _ (qb _));simp[this])
 simp[-List.map_map,eY,tJ,yd,comp,gI,bA,show sws.length<16777216 by omega]
theorem vW(n:Nat)(sws:List Sw)(hl:sws.length<=12)(hb:Hb h)(e:m ρ h=.ok (yd n sws) h):eN "Net" eY (ag m af) ρ h=.ok (aP sws) (h++[none]):=by
 have:=Mb n sws h hl hb;simp[e,this,aP]
noncomputable def fJ(st:Nat)(sws:List Sw):List (Sw×Nat):=sws.zipIdx.filter λp=>st.testBit p.2
theorem NC(sws:List Sw)(f:Sw->D):jY (sws.map f)=sws.zipIdx.map λp=>.tup [.int (p.2:Int),f p.1]:=by
 unfold jY;rw[List.mapIdx_eq_zipIdx_map,List.zipIdx_map,List.map_map];rfl
theorem mw(st k:Nat)(h:MH):gP [.int st,.int k] h=.ok (.bl (st.testBit k)) h:=by
 have:=j9 st k;cases q:st.testBit k<;>simp[q]at this<;>simp[gP,F7,this]
theorem Kf(sws:List Sw)(st:Nat)(h:MH)(hl:sws.length<=12):mJ [aP sws,.int st] h=.ok (.lst ((fJ st sws).map λp=>p.1.o)) h:=by
 have comp:compLoop (dO [0,1]) (bC (aV gP (ag (aa 2) (ag (aa 0) af)))) (aa 1) [none,none,some (.int st)] (jY (sws.map Sw.o)) h=.ok ((fJ st sws).map λp=>p.1.o) h:=by
  rw[NC];refine yG (λp:Sw×Nat=>.tup [.int (p.2:Int),p.1.o]) (λp=>[some (.int p.2),some p.1.o,some (.int st)]) (λp=>st.testBit p.2) (λp=>p.1.o) sws.zipIdx λp _=> ?_;have:=mw st p.2 h;refine⟨by simp,?_,by simp⟩;simp[this]
 have h2:(jY (sws.map Sw.o)).length=sws.length:=by simp[jY]
 simp[-List.map_map,mJ,rA,aP,comp,gI,h2,show sws.length<16777216 by omega]
theorem Aa:(Str.ofString "joins"==Str.ofString "bar")=false:=by decide+kernel
theorem AN:(Str.ofString "joins"==Str.ofString "one")=false:=by decide+kernel
theorem AH:(Str.ofString "joins"==Str.ofString "other")=false:=by decide+kernel
theorem mX(s:Sw)(hn:n<=10)(ok:s.ok n)(h:MH):aF iP "joins" (aa 0) af [some s.o] h=.ok (.int s.pair) h:=by
 cases s with
 | feed b=>simp[Sw.o,iP,Aa,iT,lC,Sw.pair,List.lookup]
 | earth b=>simp[Sw.o,iP,Aa,iT,lC,Sw.pair,List.lookup]
 | breaker a b=>
  obtain⟨h1,h2,_⟩:=ok;have:=lG (2^a) (2^b);simp[Sw.o,iP,AN,AH,nI,pO,sW,Sw.pair,List.lookup,nR,nX,gK (show a<=100 by omega),gK (show b<=100 by omega)]at this ⊢;exact this
 | splitter a b=>
  obtain⟨h1,h2,_⟩:=ok;have:=lG (2^a) (2^b);simp[Sw.o,iP,AN,AH,nI,rK,sM,Sw.pair,List.lookup,nR,nX,gK (show a<=100 by omega),gK (show b<=100 by omega)]at this ⊢;exact this
noncomputable def gx(st:Nat)(sws:List Sw):List Nat:=(fJ st sws).map λp=>p.1.pair
noncomputable def cB:MT:=(tB (ae ib (aa 4) (aa 5)))
noncomputable def fB:MS:=(bh (bC (ae bN (aa 6) (aa 4))) (aw (ae fw (aa 4) (aa 6)) (ay 4)) bz)
theorem JA(a b c d e:Option D)(h:MH):∀(ps:List Nat) (r:Nat) (x:Option D),∃x',dY (ay 6) fB (ps.map λp:Nat=>D.int p) [a,b,c,d,some (.int r),e,x] h=.nx [a,b,c,d,some (.int (Clo.cK ps r:Nat)),e,x'] h
 | [],r,x=>⟨x,rfl⟩
 | p::ps,r,x=>by
  obtain⟨x',ih⟩:=JA a b c d e h ps (if p&&&r≠0 then r|||p else r) (some (.int p));refine⟨x',?_⟩;rw[List.map_cons];unfold dY;have e1:=fD p r;have e2:=lG r p;have e3:=CP (p&&&r);by_cases q:p&&&r≠0
  ·rw[if_pos q]at ih
   have:Clo.cK (p::ps) r=Clo.cK ps (r|||p):=by show Clo.cK ps (if p&&&r≠0 then r|||p else r)=_;rw[if_pos q]
   rw[this];have fb:fB [a,b,c,d,some (.int r),e,some (.int p)] h=.nx [a,b,c,d,some (.int (r|||p:Nat)),e,some (.int p)] h:=by
    simp[fB,e1,e2,e3,q]
   simp[fb];exact ih
  ·rw[if_neg q]at ih
   have:Clo.cK (p::ps) r=Clo.cK ps r:=by show Clo.cK ps (if p&&&r≠0 then r|||p else r)=_;rw[if_neg q]
   rw[this];have q':p&&&r=0:=by simpa using q
   have fb:fB [a,b,c,d,some (.int r),e,some (.int p)] h=.nx [a,b,c,d,some (.int r),e,some (.int p)] h:=by
    simp[fB,e1,e3,q']
   simp[fb];exact ih
noncomputable def wB:MS:=(aj (aw (aa 4) (ay 5)) (dt (cE (aa 3)) (ay 6) fB))
theorem nr(a b c:Option D)(ps:List Nat)(h:MH)(r:Nat)(y x:Option D):∃x',wB [a,b,c,some (.lst (ps.map λp:Nat=>D.int p)),some (.int r),y,x] h=.nx [a,b,c,some (.lst (ps.map λp:Nat=>D.int p)),some (.int (Clo.cK ps r:Nat)),some (.int r),x'] h:=by
 obtain⟨x',e⟩:=JA a b c (some (.lst (ps.map λp:Nat=>D.int p))) (some (.int r)) h ps r x;exact⟨x',by simp[wB,e]⟩
theorem Mx(a b c:Option D)(ps:List Nat)(s:Nat)(h:MH)(y:Option D)(hy:y=some .non)(x:Option D):∃x',fI cB wB [a,b,c,some (.lst (ps.map λp:Nat=>D.int p)),some (.int s),y,x] h=.nx [a,b,c,some (.lst (ps.map λp:Nat=>D.int p)),some (.int (Clo.fz ps s:Nat)),some (.int (Clo.fz ps s:Nat)),x'] h:=by
 have W:∀x,∃x',fI cB wB [a,b,c,some (.lst (ps.map λp:Nat=>D.int p)),some (.int (Clo.cK ps s:Nat)),some (.int s),x] h=.nx [a,b,c,some (.lst (ps.map λp:Nat=>D.int p)),some (.int (Clo.fz ps s:Nat)),some (.int (Clo.fz ps s:Nat)),x'] h:=by
  refine Clo.tO (P:=λr=>∀x,∃x',fI cB wB [a,b,c,some (.lst (ps.map λp:Nat=>D.int p)),some (.int (Clo.cK ps r:Nat)),some (.int r),x] h=.nx [a,b,c,some (.lst (ps.map λp:Nat=>D.int p)),some (.int (Clo.fz ps s:Nat)),some (.int (Clo.fz ps s:Nat)),x'] h) (Clo.Ac ps) ?_ ?_ _ s (Clo.Mid.start ps s) (zy _)
  ·intro r m e x
   have er:=(m.fin (Clo.Ac ps) e).eq;refine⟨x,?_⟩;rw[e,<-er];exact P7 (by simp[cB])
  ·intro r m ne ih x
   obtain⟨x1,e1⟩:=nr a b c ps h (Clo.cK ps r) (some (.int r)) x;obtain⟨x2,e2⟩:=ih x1;exact⟨x2,by rw[Jb (h1:=h) (by simp[cB];omega) e1,e2]⟩
 obtain⟨x1,e1⟩:=nr a b c ps h s y x;obtain⟨x2,e2⟩:=W x1;exact⟨x2,by rw[Jb (h1:=h) (by subst hy;simp[cB,D.dat,D.py,D.deep,D.eq]) e1,e2]⟩
noncomputable def cD(n:Nat)(sws:List Sw):Prop:=1<=n/\n<=10/\sws.length<=12/\∀s∈sws,s.ok n
theorem Fm(h:p∈fJ st sws):p.1∈sws:=by
 unfold fJ at h;have:=(zv.mp h).1;exact(List.mem_zipIdx this).2.2▸wp _
theorem GB:(Str.ofString "joined_bars"==Str.ofString "switches")=false:=by decide+kernel
theorem yW:(Str.ofString "shut_ones"==Str.ofString "switches")=false:=by decide+kernel
theorem Mn(st:Nat)(sws:List Sw):(fJ st sws).length<=sws.length:=by
 unfold fJ;exact zd (we _ _) (by simp)
theorem NR(ok:cD n sws)(st s:Nat)(h:MH):mH [aP sws,.int st,.int s] h=.ok (.int (Clo.fz (gx st sws) s:Nat)) h:=by
 obtain⟨h1,h2,h3,h4⟩:=ok;have e1:=Kf sws st h h3;have comp:compLoop (ay 0) aS (aF iP "joins" (aa 0) af) [none] ((fJ st sws).map λp=>p.1.o) h=.ok ((gx st sws).map λp:Nat=>D.int p) h:=by
  unfold gx;rw[List.map_map];exact i3 (g:=ay 0) (t:=aS) (m:=aF iP "joins" (aa 0) af) (ρ0:=[none]) (λp:Sw×Nat=>p.1.o) (λp=>[some p.1.o]) (λp=>.int (p.1.pair:Nat)) (fJ st sws) λp hp=>⟨by simp,by simp,mX p.1 h2 (h4 _ (Fm hp)) h⟩
 obtain⟨x',ew⟩:=Mx (some (aP sws)) (some (.int st)) (some (.int s)) (gx st sws) s h (some .non) rfl none;have hl:=Mn st sws;have a1:aF l7 "shut_ones" (aa 0) (ag (aa 1) af) [some (aP sws),some (.int st),some (.int s),none,none,none,none] h=.ok (.lst ((fJ st sws).map λp=>p.1.o)) h:=by
  simp only[aP]at e1;simp[-List.map_map,aP,l7,List.lookup,yW,e1]
 have eb:pK=aj (aw (bw (cC 1 [] (cE (aF l7 "shut_ones" (aa 0) (ag (aa 1) af))) (ay 0) aS (aF iP "joins" (aa 0) af))) (ay 3)) (aj (aw (aa 2) (ay 4)) (aj (aw (mC .non) (ay 5)) (aj (fI cB wB) (au (aa 4))))):=rfl;simp[-List.map_map, -aF,mH,eb,a1,comp,ew,show(fJ st sws).length<16777216 by omega]
theorem xA:(Str.ofString "feeds"==Str.ofString "bar")=false:=by decide+kernel
theorem yg:(Str.ofString "feeds"==Str.ofString "one")=false:=by decide+kernel
theorem yB:(Str.ofString "feeds"==Str.ofString "other")=false:=by decide+kernel
theorem oH(s:Sw)(hn:n<=10)(ok:s.ok n)(e:m ρ h=.ok s.o h):aF kH "feeds" m af ρ h=.ok (.int s.fed) h:=by
 cases s with
 | feed b=>
  have:b<n:=ok;simp[e,Sw.o,kH,xA,pH,tH,Sw.fed,List.lookup,oI,gK (show b<=100 by omega)]
 | earth b=>simp[e,Sw.o,kH,xA,gw,j0,Sw.fed,List.lookup]
 | breaker a b=>simp[e,Sw.o,kH,yg,yB,gw,j0,Sw.fed,List.lookup]
 | splitter a b=>simp[e,Sw.o,kH,yg,yB,gw,j0,Sw.fed,List.lookup]
noncomputable def DR(st:Nat)(sws:List Sw):Nat:=Clo.all ((fJ st sws).map λp=>p.1.fed) 0
noncomputable def eA(st:Nat)(sws:List Sw):Nat:=Clo.fz (gx st sws) (DR st sws)
theorem Fv(val:Sw->Nat)(a b:Option D)(h:MH)(hJ:∀s:Sw,s.ok n->∀f:Nat,J [a,b,some (.int f),some s.o] h=.ok (.int (val s)) h):∀(ps:List (Sw×Nat)) (f:Nat) (x:Option D),(∀p∈ps,p.1.ok n)->
  ∃x',dY (ay 3) (aw (ae fw (aa 2) J) (ay 2)) (ps.map λp=>p.1.o) [a,b,some (.int f),x] h=.nx [a,b,some (.int (Clo.all (ps.map λp=>val p.1) f:Nat)),x'] h
 | [],f,x,_=>⟨x,rfl⟩
 | p::ps,f,x,hp=>by
  obtain⟨x',ih⟩:=Fv val a b h hJ ps (f|||val p.1) (some p.1.o) λq m=>hp q (q9 _ m);refine⟨x',?_⟩;have e1:=hJ p.1 (hp p (qf ..)) f;have e2:=lG f (val p.1);rw[List.map_cons,List.map_cons];unfold dY;simp[-List.map_map,e1,e2];exact ih
theorem J2(sws:List Sw)(st:Nat)(h:MH)(hl:sws.length<=12)(e1:m ρ h=.ok (aP sws) h)(e2:l ρ h=.ok (.int st) h):aF l7 "shut_ones" m (ag l af) ρ h=.ok (.lst ((fJ st sws).map λp=>p.1.o)) h:=by
 have:=Kf sws st h hl;unfold aP at e1 this;simp[-List.map_map,e1,e2,l7,List.lookup,yW,this]
theorem GQ(ok:cD n sws)(st s:Nat)(h:MH)(e1:m ρ h=.ok (aP sws) h)(e2:l ρ h=.ok (.int st) h)(e3:k ρ h=.ok (.int s) h):aF p9 "joined_bars" m (ag l (ag k af)) ρ h=.ok (.int (Clo.fz (gx st sws) s:Nat)) h:=by
 have:=NR ok st s h;unfold aP at e1 this;simp[-List.map_map,e1,e2,e3,p9,List.lookup,GB,this]
theorem PX(ok:cD n sws)(st:Nat)(h:MH):mF [aP sws,.int st] h=.ok (.int (eA st sws:Nat)) h:=by
 obtain⟨x',e⟩:=Fv (J:=aF kH "feeds" (aa 3) af) Sw.fed (n:=n) (some (aP sws)) (some (.int st)) h (λs hs f=>oH s ok.2.1 hs (by simp)) (fJ st sws) 0 none λp hp=>ok.2.2.2 _ (Fm hp);have e1:=J2 sws st h ok.2.2.1 (m:=aa 0) (l:=aa 1) (ρ:=[some (aP sws),some (.int st),some (.int 0),none]) (by simp) (by simp);have e2:=GQ ok st (DR st sws) h (m:=aa 0) (l:=aa 1) (k:=aa 2) (ρ:=[some (aP sws),some (.int st),some (.int (DR st sws:Nat)),x']) (by simp) (by simp) (by simp);have f0:Clo.all ((fJ st sws).map λp=>p.1.fed) 0=DR st sws:=rfl;rw[f0]at e;simp at e;simp[-List.map_map, -aF,mF,pT,e1,e,e2,eA]
theorem Gu:(Str.ofString "live_bars"==Str.ofString "switches")=false:=by decide+kernel
theorem Eg(ok:cD n sws)(st:Nat)(h:MH)(e1:m ρ h0=.ok (aP sws) h)(e2:l ρ h=.ok (.int st) h):aF oW "live_bars" m (ag l af) ρ h0=.ok (.int (eA st sws:Nat)) h:=by
 have:=PX ok st h;unfold aP at e1 this;simp[-List.map_map,e1,e2,oW,List.lookup,Gu,this]
theorem u7:(Str.ofString "earths"==Str.ofString "bar")=false:=by decide+kernel
theorem Bw:(Str.ofString "earths"==Str.ofString "one")=false:=by decide+kernel
theorem As:(Str.ofString "earths"==Str.ofString "other")=false:=by decide+kernel
theorem IX(s:Sw)(hn:n<=10)(ok:s.ok n)(e:m ρ h=.ok s.o h):aF kN "earths" m af ρ h=.ok (.int s.led) h:=by
 cases s with
 | earth b=>
  have:b<n:=ok;simp[e,Sw.o,kN,u7,qH,ri,Sw.led,List.lookup,oI,gK (show b<=100 by omega)]
 | feed b=>simp[e,Sw.o,kN,u7,fT,j7,Sw.led,List.lookup]
 | breaker a b=>simp[e,Sw.o,kN,Bw,As,fT,j7,Sw.led,List.lookup]
 | splitter a b=>simp[e,Sw.o,kN,Bw,As,fT,j7,Sw.led,List.lookup]
noncomputable def kP(st:Nat)(sws:List Sw):Nat:=Clo.all ((fJ st sws).map λp=>p.1.led) 0
noncomputable def iR(st:Nat)(sws:List Sw):Nat:=Clo.fz (gx st sws) (kP st sws)
theorem Qe(ok:cD n sws)(st:Nat)(h:MH):lY [aP sws,.int st] h=.ok (.int (kP st sws:Nat)) h:=by
 obtain⟨x',e⟩:=Fv (J:=aF kN "earths" (aa 3) af) Sw.led (n:=n) (some (aP sws)) (some (.int st)) h (λs hs f=>IX s ok.2.1 hs (by simp)) (fJ st sws) 0 none λp hp=>ok.2.2.2 _ (Fm hp);have e1:=J2 sws st h ok.2.2.1 (m:=aa 0) (l:=aa 1) (ρ:=[some (aP sws),some (.int st),some (.int 0),none]) (by simp) (by simp);have f0:Clo.all ((fJ st sws).map λp=>p.1.led) 0=kP st sws:=rfl;rw[f0]at e;simp at e;simp[-List.map_map, -aF,lY,qB,e1,e]
theorem FX:(Str.ofString "led_bars"==Str.ofString "switches")=false:=by decide+kernel
theorem JY(ok:cD n sws)(st:Nat)(h:MH)(e1:m ρ h0=.ok (aP sws) h)(e2:l ρ h=.ok (.int st) h):aF ux "led_bars" m (ag l af) ρ h0=.ok (.int (kP st sws:Nat)) h:=by
 have:=Qe ok st h;unfold aP at e1 this;simp[-List.map_map,e1,e2,ux,List.lookup,FX,this]
theorem Pe(ok:cD n sws)(st:Nat)(h:MH):lI [aP sws,.int st] h=.ok (.int (iR st sws:Nat)) h:=by
 have e1:=JY ok st h (m:=aa 0) (l:=aa 1) (ρ:=[some (aP sws),some (.int st)]) (h0:=h) (by simp) (by simp);have e2:=GQ ok st (kP st sws) h (m:=aa 0) (l:=aa 1) (k:=aF ux "led_bars" (aa 0) (ag (aa 1) af)) (ρ:=[some (aP sws),some (.int st)]) (by simp) (by simp) e1;simp[-List.map_map, -aF,lI,p_,e2,iR]
theorem FP:(Str.ofString "earthed_bars"==Str.ofString "switches")=false:=by decide+kernel
theorem JP(ok:cD n sws)(st:Nat)(h:MH)(e1:m ρ h0=.ok (aP sws) h)(e2:l ρ h=.ok (.int st) h):aF vH "earthed_bars" m (ag l af) ρ h0=.ok (.int (iR st sws:Nat)) h:=by
 have:=Pe ok st h;unfold aP at e1 this;simp[-List.map_map,e1,e2,vH,List.lookup,FP,this]
noncomputable def pG(st:Nat)(sws:List Sw):Bool:=decide (eA st sws&&&iR st sws=0)
theorem NW(ok:cD n sws)(st:Nat)(h:MH):lP [aP sws,.int st] h=.ok (.bl (pG st sws)) h:=by
 have e1:=Eg ok st h (h0:=h) (m:=aa 0) (l:=aa 1) (ρ:=[some (aP sws),some (.int st)]) (by simp) (by simp);have e2:=JP ok st h (h0:=h) (m:=aa 0) (l:=aa 1) (ρ:=[some (aP sws),some (.int st)]) (by simp) (by simp);have e3:=fD (eA st sws) (iR st sws);have e4:((eA st sws&&&iR st sws:Nat):Int)=0↔eA st sws&&&iR st sws=0:=by omega
 simp[-aF,lP,pN,e1,e2,e3,pG]
theorem Eb{α:Type}{xs:List α}{k:Nat}{x:α}(e:xs[k]?=some x):cZ xs (k:Int)=some x:=by
 obtain⟨hk,e'⟩:=q8.mp e;simp[cZ,g_,hk,e']
theorem B_{sws:List Sw}(h:p∈sws.zipIdx):sws[p.2]?=some p.1:=by
 have:=List.mem_zipIdx h;obtain⟨_,h2,h3⟩:=this;rw[qt (by omega),h3];simp
theorem Kk{sws:List Sw}(h:p∈sws.zipIdx):p.1∈sws:=ql (B_ h)
theorem KN(s:Sw):s.d.py.isSome=true/\s.d.deep<=1:=by
 have k1:rO ("feed":Str)=true:=by decide+kernel
 have k2:rO ("earth":Str)=true:=by decide+kernel
 have k3:rO ("breaker":Str)=true:=by decide+kernel
 have k4:rO ("splitter":Str)=true:=by decide+kernel
 cases s<;>simp[Sw.d,D.py,D.pys,D.deep,D.deeps,k1,k2,k3,k4]
noncomputable def Sw.gen:Sw->Bool
 | .splitter _ _=>true
 | _=>false
theorem Ar:(Str.ofString "gentle"==Str.ofString "bar")=false:=by decide+kernel
theorem vQ:(Str.ofString "gentle"==Str.ofString "one")=false:=by decide+kernel
theorem vg:(Str.ofString "gentle"==Str.ofString "other")=false:=by decide+kernel
theorem Jk(s:Sw)(e:m ρ h=.ok s.o h):aF kS "gentle" m af ρ h=.ok (.bl s.gen) h:=by
 cases s with
 | splitter a b=>simp[e,Sw.o,kS,vQ,vg,rC,tR,Sw.gen,List.lookup]
 | feed b=>simp[e,Sw.o,kS,Ar,fW,jl,Sw.gen,List.lookup]
 | earth b=>simp[e,Sw.o,kS,Ar,fW,jl,Sw.gen,List.lookup]
 | breaker a b=>simp[e,Sw.o,kS,vQ,vg,fW,jl,Sw.gen,List.lookup]
theorem qA(s:Sw)(hn:n<=10)(ok:s.ok n)(e:m ρ h=.ok s.o h):aF iP "joins" m af ρ h=.ok (.int s.pair) h:=by
 have:=mX s hn ok h;unfold aF at this ⊢;rw[e];simpa using this
noncomputable def m_(a b:Nat):Nat:=2^min a b
theorem Nv:∀a b:Fin 10,a≠b->Builtin.bitAnd ((2^a.val|||2^b.val:Nat):Int) (-((2^a.val|||2^b.val:Nat):Int))=((2^min a.val b.val:Nat):Int):=by decide+kernel
theorem P8(hn:n<=10)(ha:a<n)(hb:b<n)(ab:a≠b)(h:MH):hU [.int (2^a|||2^b:Nat)] h=.ok (.int (m_ a b:Nat)) h:=by
 have e:=Nv ⟨a,by omega⟩ ⟨b,by omega⟩ (λz=>ab (by simpa using z));simp only at e;have:hU [.int (2^a|||2^b:Nat)] h=.ok (.int (Builtin.bitAnd ((2^a|||2^b:Nat):Int) (-((2^a|||2^b:Nat):Int)))) h:=by simp[hU,p5]
 rw[this,e];rfl
noncomputable def apart(st k:Nat):Nat:=st - (st&&&2^k)
noncomputable def sE(st k:Nat)(w:Sw)(sws:List Sw):Bool:=match w with
 | .splitter a b=>decide ((2^a|||2^b)&&&eA (apart st k) sws≠0)&&decide ((2^a|||2^b) - ((2^a|||2^b)&&&Clo.fz (gx (apart st k) sws) (m_ a b))≠0)
 | _=>false
theorem Lp(ok:cD n sws)(st k:Nat)(w:Sw)(hw:sws[k]?=some w)(h:MH):jJ [aP sws,.int st,.int k] h=.ok (.bl (sE st k w sws)) h:=by
 have wok:w.ok n:=ok.2.2.2 w (ql hw);have hk:k<sws.length:=(q8.mp hw).1;have hl:=ok.2.2.1;have hx:cZ (sws.map Sw.o) (k:Int)=some w.o:=Eb (by rw[zb,hw];rfl);have f1:ae aI (ax gI "switches" (aa 0)) (aa 2) [some (aP sws),some (.int st),some (.int k),none,none,none] h=.ok w.o h:=by simp[-List.map_map,aP,gI,hx]
 have g1:=Jk w (m:=aa 3) (ρ:=[some (aP sws),some (.int st),some (.int k),some w.o,none,none]) (h:=h) (by simp);have eb:pF=(aj (aw (ae aI (ax gI "switches" (aa 0)) (aa 2)) (ay 3))
   (aj (bh (cq (bC (aF kS "gentle" (aa 3) af)))
   (au (mC (.bl false)))
   bz)
   (aj (aw (ae bN (aa 1) (h7 dI (ae bp (mC (.int 1)) (aa 2)))) (ay 4))
   (aj (aw (aF iP "joins" (aa 3) af) (ay 5))
   (aj (bh (cq (bC (ae bN (aa 5) (aF oW "live_bars" (aa 0) (ag (aa 4) af)))))
   (au (mC (.bl false)))
   bz)
   (au (ae ib (ae bN (aa 5) (h7 dI (aF p9 "joined_bars" (aa 0) (ag (aa 4) (ag (aV hU (ag (aa 5) af)) af))))) (mC (.int 0))))))))):=rfl
 by_cases q:w.gen=false
 ·have:sE st k w sws=false:=by cases w<;>first|rfl|(simp[Sw.gen]at q)
  rw[this];rw[q]at g1;simp[-List.map_map, -aF, -ax, -aI,jJ,eb];simp[-List.map_map, -aF, -ax, -aI]at f1;simp[-aF, -ax, -aI,f1,g1]
 ·cases w with
  | splitter a b=>
   obtain⟨h1,h2,h3⟩:=wok;let pr:=2^a|||2^b;have epr:(Sw.splitter a b).pair=pr:=rfl;have j1:=qA (.splitter a b) ok.2.1 ⟨h1,h2,h3⟩ (m:=aa 3) (ρ:=[some (aP sws),some (.int st),some (.int k),some (Sw.splitter a b).o,some (.int (apart st k:Nat)),none]) (h:=h) (by simp);rw[epr]at j1;have l1:=Eg ok (apart st k) h (h0:=h) (m:=aa 0) (l:=aa 4) (ρ:=[some (aP sws),some (.int st),some (.int k),some (Sw.splitter a b).o,some (.int (apart st k:Nat)),some (.int (pr:Nat))]) (by simp) (by simp);have lo:=P8 ok.2.1 h1 h2 h3 h;have c1:=GQ ok (apart st k) (m_ a b) h (m:=aa 0) (l:=aa 4) (k:=aV hU (ag (aa 5) af)) (ρ:=[some (aP sws),some (.int st),some (.int k),some (Sw.splitter a b).o,some (.int (apart st k:Nat)),some (.int (pr:Nat))]) (by simp) (by simp) (by simpa using lo);have d1:=yE st (2^k);have d2:=fD pr (eA (apart st k) sws);have d3:=yE pr (Clo.fz (gx (apart st k) sws) (m_ a b));have d4:=CP (pr&&&eA (apart st k) sws);have o1:=gK (show k<=100 by omega);have el:sE st k (.splitter a b) sws=(decide (pr&&&eA (apart st k) sws≠0)&&decide (pr - (pr&&&Clo.fz (gx (apart st k) sws) (m_ a b))≠0)):=rfl;rw[el];have ap:st - (st&&&2^k)=apart st k:=rfl;rw[ap]at d1;simp at d1;clear_value pr;have d5:((pr - (pr&&&Clo.fz (gx (apart st k) sws) (m_ a b)):Nat):Int)=0↔pr - (pr&&&Clo.fz (gx (apart st k) sws) (m_ a b))=0:=by omega
   generalize pr - (pr&&&Clo.fz (gx (apart st k) sws) (m_ a b))=u at d3 d5 ⊢;simp[-List.map_map, -aF, -ax, -aI,jJ,eb];simp[-List.map_map, -aF, -ax, -aI]at f1;rw[show(Sw.splitter a b).gen=true from rfl]at g1;simp[-aF, -ax, -aI,f1,g1,o1,d1,j1,l1,d2,d4];by_cases q2:pr&&&eA (apart st k) sws=0
   ·simp[-aF,q2]
   ·simp[-aF,q2,c1,d3]
  | _=>simp[Sw.gen]at q
theorem Ir(st k:Nat)(hk:k<=100)(h:MH):kE [.int st,.int k] h=.ok (.int (st^^^2^k:Nat)) h:=by
 have:=EG st (2^k);simp at this;simp[kE,tV,gK hk,this]
theorem Af:(Str.ofString "is_safe"==Str.ofString "switches")=false:=by decide+kernel
theorem PB(ok:cD n sws)(st k:Nat)(hk:k<=100)(h:MH):mM [aP sws,.int st,.int k] h=.ok (.bl (!pG (st^^^2^k) sws)) h:=by
 have e1:=Ir st k hk h;have e2:=NW ok (st^^^2^k) h;unfold aP at e2;simp[-List.map_map,mM,pP,e1,aP,Fg,List.lookup,Af,e2]
noncomputable def G8(st k:Nat)(w:Sw)(sws:List Sw)(h:MH):Res D:=
 if sE st k w sws=true then .exc "Loaded" h else if pG (st^^^2^k) sws=true then .ok (.int (st^^^2^k:Nat)) h else .exc "Shorted" h
theorem CD(k:Nat)(hk:k<sws.length)(h:MH):eK [yd n sws,.int k] h=.ok .non h:=by
 simp[-List.map_map,eK,jv,yd,hk]
theorem G_(k:Int)(hk:k<0\/(sws.length:Int)<=k)(h:MH):eK [yd n sws,.int k] h=.exc "NoSwitch" h:=by
 by_cases h0:k<0
 ·have:¬0<=k:=by omega
  simp[-List.map_map,eK,jv,yd,this]
 ·have h1:0<=k:=by omega
  have:¬k<(sws.length:Int):=by omega
  simp[-List.map_map,eK,jv,yd,h1,this]
theorem Ov(ok:cD n sws)(st k:Nat)(w:Sw)(hw:sws[k]?=some w)(h:MH)(hb:Hb h):iX [yd n sws,.int st,.int k] h=G8 st k w sws h:=by
 have hk:k<sws.length:=(q8.mp hw).1;have hl:=ok.2.2.1;have e0:=CD (n:=n) k hk h;have e1:=vW (m:=aa 0) (ρ:=[some (yd n sws),some (.int st),some (.int k),none]) (h:=h) n sws ok.2.2.1 hb (by simp);have e2:=Lp ok st k w hw (h++[none]);have e3:=PB ok st k (by omega) (h++[none]);have e4:=Ir st k (by omega) (h++[none]);have hb2:∀x∈h,Cell.bnd h.length x=true:=by simpa using hb h.length (qb _)
 unfold G8;unfold yd at e0 e1;cases q1:sE st k w sws with
 | true=>
  rw[q1]at e2;simp[-List.map_map, -eN,iX,jz,yd,e0,e1,e2,hk];rw[if_neg (by omega),if_pos hb2]
 | false=>
  rw[q1]at e2;cases q2:pG (st^^^2^k) sws with
  | true=>
   rw[q2]at e3;simp[-List.map_map, -eN,iX,jz,yd,e0,e1,e2,e3,e4,hk,D.bnd];rw[if_neg (by omega),if_pos hb2]
  | false=>
   rw[q2]at e3;simp[-List.map_map, -eN,iX,jz,yd,e0,e1,e2,e3,e4,hk];rw[if_neg (by omega),if_pos hb2]
theorem BX:∀{ds:List D},(∀d∈ds,D.bnd n d=true)->D.bnds n ds=true
 | [],_=>by simp[D.bnds]
 | d::ds,h=>by
  simp only[D.bnds,qu];exact⟨h d (qf ..),BX λx m=>h x (q9 _ m)⟩
theorem PD{α:Type}{h:List α}{x:α}(hc:h[c]?=some x):h.set c x=h:=List.ext_getElem? λi=>by
 by_cases q:c=i
 ·subst q;rw[qg (q8.mp hc).1,hc]
 ·rw[qe q]
theorem Pp(hl:ds.length=np)(e:b (ds.map some++List.replicate (nn - ds.length) none) h=.rt d (h++J))(hb:Hb h)(hd:d.bnd h.length=true):az np nn b ds h=.ok d h:=by
 unfold az;rw[if_pos hl,e];show fin h.length d (h++J)=_;unfold fin;by_cases q:(h++J).length<=h.length
 ·rw[if_pos q]
  have:J=[]:=by
   cases J with
   | nil=>rfl
   | cons _ _=>simp at q;omega
  rw[this,zx]
 ·rw[if_neg q,if_pos]
  ·rw[List.take_left']
   rfl
  ·rw[hd,gk,List.take_left' rfl]
   exact hb _ (qb _)
theorem Po(h:a.testBit b=false):a+2^b=a|||2^b:=by
 have e1:(a|||2^b)&&&2^b=2^b:=zp λi=>by
  rw[wf,w9];cases(2^b).testBit i<;>simp
 have e2:=JX (a|||2^b) (2^b);rw[e1]at e2;have e3:(a|||2^b)^^^2^b=a:=zp λi=>by
  rw[ky,w9,KH];by_cases q:b=i
  ·subst q;simp[h]
  ·simp[q]
 rw[e3]at e2;have e4:2^b<=a|||2^b:=Nat.right_le_or;omega
theorem LD(h:p∈gx st sws):∃k w,sws[k]?=some w/\st.testBit k=true/\w.pair=p:=by
 obtain⟨q,hq,rfl⟩:=qv.mp h;obtain⟨h1,h2⟩:=zv.mp hq;exact⟨q.2,q.1,B_ h1,h2,rfl⟩
theorem MQ{w:Sw}(ok:w.ok n):w.pair<2^n:=by
 cases w with
 | feed b=>exact zr n
 | earth b=>exact zr n
 | breaker a b=>exact ww (ze (by decide) ok.1) (ze (by decide) ok.2.1)
 | splitter a b=>exact ww (ze (by decide) ok.1) (ze (by decide) ok.2.1)
theorem Ds{n:Nat}:∀(ps:List Nat) (s:Nat),(∀p∈ps,p<2^n)->s<2^n->Clo.all ps s<2^n
 | [],s,_,h=>h
 | p::ps,s,hp,h=>Ds ps (s|||p) (λq m=>hp q (q9 _ m)) (ww h (hp p qf))
theorem IZ(ok:cD n sws)(st:Nat)(hs:s<2^n):Clo.fz (gx st sws) s<2^n:=by
 have i:=Clo.is (gx st sws) s;refine zm (Clo.Mid.bnd (ps:=gx st sws) (s:=s) ⟨i.ge,i.le⟩) (Ds _ _ (λp hp=> ?_) hs);obtain⟨k,w,h1,_,rfl⟩:=LD hp;exact MQ (ok.2.2.2 w (ql h1))
@[simp] theorem Qk:(Str.ofString "net"==Str.ofString "yard")=false:=by decide+kernel
@[simp] theorem Qq:¬(Str.ofString "yard"=Str.ofString "net"):=by decide+kernel
@[simp] theorem Qu:(Str.ofString "shut"==Str.ofString "yard")=false:=by decide+kernel
@[simp] theorem Qv:¬(Str.ofString "yard"=Str.ofString "shut"):=by decide+kernel
@[simp] theorem Qj:(Str.ofString "shut"==Str.ofString "net")=false:=by decide+kernel
@[simp] theorem Qo:¬(Str.ofString "net"=Str.ofString "shut"):=by decide+kernel
@[simp] theorem Qi:(Str.ofString "locks"==Str.ofString "yard")=false:=by decide+kernel
@[simp] theorem Qz:¬(Str.ofString "yard"=Str.ofString "locks"):=by decide+kernel
@[simp] theorem Qh:(Str.ofString "locks"==Str.ofString "net")=false:=by decide+kernel
@[simp] theorem QD:¬(Str.ofString "net"=Str.ofString "locks"):=by decide+kernel
@[simp] theorem QB:(Str.ofString "locks"==Str.ofString "shut")=false:=by decide+kernel
@[simp] theorem Qm:¬(Str.ofString "shut"=Str.ofString "locks"):=by decide+kernel
@[simp] theorem QC:(Str.ofString "given"==Str.ofString "yard")=false:=by decide+kernel
@[simp] theorem QA:¬(Str.ofString "yard"=Str.ofString "given"):=by decide+kernel
@[simp] theorem QH:(Str.ofString "given"==Str.ofString "net")=false:=by decide+kernel
@[simp] theorem QJ:¬(Str.ofString "net"=Str.ofString "given"):=by decide+kernel
@[simp] theorem QG:(Str.ofString "given"==Str.ofString "shut")=false:=by decide+kernel
@[simp] theorem Qs:¬(Str.ofString "shut"=Str.ofString "given"):=by decide+kernel
@[simp] theorem QF:(Str.ofString "given"==Str.ofString "locks")=false:=by decide+kernel
@[simp] theorem Qt:¬(Str.ofString "locks"=Str.ofString "given"):=by decide+kernel
@[simp] theorem Qy:(Str.ofString "last_number"==Str.ofString "yard")=false:=by decide+kernel
@[simp] theorem Ql:¬(Str.ofString "yard"=Str.ofString "last_number"):=by decide+kernel
@[simp] theorem Qf:(Str.ofString "last_number"==Str.ofString "net")=false:=by decide+kernel
@[simp] theorem QE:¬(Str.ofString "net"=Str.ofString "last_number"):=by decide+kernel
@[simp] theorem Qn:(Str.ofString "last_number"==Str.ofString "shut")=false:=by decide+kernel
@[simp] theorem Qp:¬(Str.ofString "shut"=Str.ofString "last_number"):=by decide+kernel
@[simp] theorem QI:(Str.ofString "last_number"==Str.ofString "locks")=false:=by decide+kernel
@[simp] theorem Qw:¬(Str.ofString "locks"=Str.ofString "last_number"):=by decide+kernel
@[simp] theorem Qx:(Str.ofString "last_number"==Str.ofString "given")=false:=by decide+kernel
@[simp] theorem Qg:¬(Str.ofString "given"=Str.ofString "last_number"):=by decide+kernel
structure Bd where
 n:Nat
 sws:List Sw
 st:Nat
 lk:Nat
 gv:List (Nat×Nat×Nat)
 la:Nat
noncomputable def c4(gv:List (Nat×Nat×Nat)):List (Sum Int Str×D):=gv.map λg=>(.inl (g.1:Int),.tup [.int (g.2.1:Nat),.int (g.2.2:Nat)])
noncomputable def Bd.f(b:Bd)(r:Nat):List (Str×D):=[(Str.ofString "yard",yd b.n b.sws),(Str.ofString "net",aP b.sws),(Str.ofString "shut",.int b.st),(Str.ofString "locks",.int b.lk),(Str.ofString "given",.ref r),(Str.ofString "last_number",.int b.la)]
noncomputable def Bd.cell(b:Bd)(r:Nat):Option Cell:=some (.ins "Board" (b.f r))
theorem ui(n:Nat)(sws:List Sw)(m:Nat):(yd n sws).bnd m=true:=by
 simp only[yd,D.bnd,D.bnds,gk,kq];exact BX λd hd=>by
  obtain⟨s,_,rfl⟩:=qv.mp hd;cases s<;>simp[Sw.d,D.bnd,D.bnds]
theorem Ih(sws:List Sw)(m:Nat):(aP sws).bnd m=true:=by
 have:D.bnds m (sws.map Sw.o)=true:=BX λd hd=>by
  obtain⟨s,_,rfl⟩:=qv.mp hd;cases s<;>simp[Sw.o,D.bnd,D.bnds,D.bndf]
 simp[aP,D.bnd,D.bnds,D.bndf,this]
@[simp] theorem Dj:"Board"∈c5:=by decide
@[simp] theorem ES:"Board"∈m4:=by decide
@[simp] theorem CY:"Board"∈kG:=by decide
@[simp] theorem Ao:"Board"∈fS:=by decide
@[simp] theorem yD:"Board"∈rp:=by decide
@[simp] theorem DB:"Board"∈tE:=by decide
@[simp] theorem Dw(b:Bd)(r:Nat):(b.f r).lookup ("yard":Str)=some (yd b.n b.sws):=by simp[Bd.f,List.lookup]
@[simp] theorem Hc(b:Bd)(r:Nat):(b.f r).lookup ("net":Str)=some (aP b.sws):=by simp[Bd.f,List.lookup]
@[simp] theorem Ez(b:Bd)(r:Nat):(b.f r).lookup ("shut":Str)=some (.int b.st):=by simp[Bd.f,List.lookup]
@[simp] theorem AI(b:Bd)(r:Nat):(b.f r).lookup ("locks":Str)=some (.int b.lk):=by simp[Bd.f,List.lookup]
@[simp] theorem xu(b:Bd)(r:Nat):(b.f r).lookup ("given":Str)=some (.ref r):=by simp[Bd.f,List.lookup]
@[simp] theorem El(b:Bd)(r:Nat):(b.f r).lookup ("last_number":Str)=some (.int b.la):=by simp[Bd.f,List.lookup]
@[simp] theorem Ea(b:Bd)(r s:Nat):bA ("shut":Str) (.int s) (b.f r)=({b with st:=s}).f r:=by simp[Bd.f,bA]
@[simp] theorem yw(b:Bd)(r s:Nat):bA ("locks":Str) (.int s) (b.f r)=({b with lk:=s}).f r:=by simp[Bd.f,bA]
@[simp] theorem N8(b:Bd)(r s:Nat):bA ("last_number":Str) (.int s) (b.f r)=({b with la:=s}).f r:=by simp[Bd.f,bA]
@[simp] theorem GI(b:Bd)(r:Nat):(b.f r).length=6:=rfl
theorem Bk(b:Bd)(r:Nat)(h:([Str.ofString "yard",Str.ofString "net",Str.ofString "shut",Str.ofString "locks",Str.ofString "given",Str.ofString "last_number"]).contains m=false):(b.f r).lookup m=none:=by
 simp only[List.contains,List.elem_eq_mem,qr,k8,or_false,decide_eq_false_iff_not,not_or]at h;obtain⟨h1,h2,h3,h4,h5,h6⟩:=h;simp[Bd.f,List.lookup,beq_eq_false_iff_ne.mpr h1,beq_eq_false_iff_ne.mpr h2,beq_eq_false_iff_ne.mpr h3,beq_eq_false_iff_ne.mpr h4,beq_eq_false_iff_ne.mpr h5,beq_eq_false_iff_ne.mpr h6]
structure At (h:MH) (p r:Nat) (b:Bd):Prop where
 o:h[p]?=some (b.cell r)
 g:h[r]?=some (some (.dct (c4 b.gv)))
 hb:Hb h
 ok:cD b.n b.sws
theorem m8(gv:List (Nat×Nat×Nat))(m:Nat):Cell.bnd m (some (.dct (c4 gv)))=true:=by
 simp only[Cell.bnd];exact BX λd hd=>by
  simp only[c4,List.map_map,qv]at hd;obtain⟨g,_,rfl⟩:=hd;simp[D.bnd,D.bnds]
theorem FN(b:Bd)(h:r<m):Cell.bnd m (b.cell r)=true:=by
 have h1:=ui b.n b.sws m;have h2:=Ih b.sws m;simp[Bd.cell,Bd.f,Cell.bnd,D.bnd,D.bnds,h1,h2,h]
theorem Hb.set(a:Hb h)(q:∀n,h.length<=n->Cell.bnd n c=true):Hb (h.set p c):=λn hn=>by
 rw[wb]at hn;have:=a n hn;rw[List.all_eq_true]at this ⊢;intro x hx;rcases List.mem_or_eq_of_mem_set hx with hx|rfl
 ·exact this x hx
 ·exact q n hn
theorem At.ne(A:At h p r b):p≠r:=λe=>by
 have h1:=A.o;rw[e,A.g]at h1;simp[Bd.cell]at h1
theorem At.lt(A:At h p r b):r<h.length:=(q8.mp A.g).1
theorem At.lt'(A:At h p r b):p<h.length:=(q8.mp A.o).1
theorem At.put(A:At h p r b)(hg:b'.gv=b.gv)(ok:cD b'.n b'.sws):At (h.set p (b'.cell r)) p r b':=
 ⟨by rw[qg A.lt'],by rw[qe A.ne,hg];exact A.g,A.hb.set λn hn=>FN b' (qh A.lt hn),ok⟩
noncomputable def iW(gv:List (Nat×Nat×Nat)):Nat:=Clo.all (gv.map λg=>g.2.2) 0
theorem Ji(a:Option D)(h:MH):∀(gv:List (Nat×Nat×Nat)) (f:Nat) (x:Option D),∃x',dY (ay 2) (aw (ae fw (aa 1) (ae aI (aa 2) (mC (.int 1)))) (ay 1)) ((c4 gv).map (·.2)) [a,some (.int f),x] h=.nx [a,some (.int (Clo.all (gv.map λg=>g.2.2) f:Nat)),x'] h
 | [],f,x=>⟨x,rfl⟩
 | g::gv,f,x=>by
  obtain⟨x',ih⟩:=Ji a h gv (f|||g.2.2) (some (.tup [.int (g.2.1:Nat),.int (g.2.2:Nat)]));refine⟨x',?_⟩;have e2:=lG f g.2.2;simp only[c4,List.map_cons];unfold dY;simp only[c4]at ih;simp[-List.map_map,e2];exact ih
theorem Gb(A:At h p r b):gX [.ref p] h=.ok (.int (iW b.gv:Nat)) h:=by
 obtain⟨x',e⟩:=Ji (some (.ref p)) (h.set r none) b.gv 0 none;have o:h[p]?=some (some (.ins "Board" (b.f r))):=A.o;have g:=A.g;have l:∀c:Option Cell,(h.set r c)[r]?=some c:=λc=>qg A.lt;have hs:(h.set r none).set r (some (.dct (c4 b.gv)))=h:=by rw[List.set_set];exact PD g
 have f0:Clo.all (b.gv.map λg=>g.2.2) 0=iW b.gv:=rfl;rw[f0]at e;simp at e;simp[-List.map_map,gX,tX,o,g,e,l,hs]
theorem iH(A:At h p r b)(et:tab.lookup "Board"=some z)(hf:([Str.ofString "yard",Str.ofString "net",Str.ofString "shut",Str.ofString "locks",Str.ofString "given",Str.ofString "last_number"]).contains f=false)(e:m ρ h=.ok (.ref p) h)(el:l ρ h=.ok ds h):aF tab f m l ρ h=z (.ref p::ds) h:=by
 have o:h[p]?=some (some (.ins "Board" (b.f r))):=A.o;have ea:t7 h (.ref p)=some ("Board",b.f r):=by simp[o]
 have ef:=Bk b r hf;simp only[aF,e,eT,ea,Be,et,chk,ef,if_true,el]
theorem wM(A:At h p r b):fC [.ref p] h=.ok (.int b.st) h:=by
 have o:h[p]?=some (some (.ins "Board" (b.f r))):=A.o;simp[fC,ro,o]
theorem NQ(A:At h p r b)(v:Int)(hv:v<0\/(b.sws.length:Int)<=v):cS [.ref p,.int v] h=.exc "NoSwitch" h:=by
 have e:=G_ (n:=b.n) v hv h;have o:h[p]?=some (some (.ins "Board" (b.f r))):=A.o;simp[cS,fR,o,e]
noncomputable def vU(b:Bd)(k:Nat)(w:Sw):Option String:=
 if b.lk.testBit k=true then some "Locked"else if(iW b.gv).testBit k=true then some "Held"else if sE b.st k w b.sws=true then some "Loaded"else if pG (b.st^^^2^k) b.sws=true then none else some "Shorted"
theorem KY(A:At h p r b)(k:Nat)(w:Sw)(hw:b.sws[k]?=some w):cS [.ref p,.int k] h=match vU b k w with|some c=>.exc c h|none=>.ok (.int (b.st^^^2^k:Nat)) (h.set p (({b with st:=b.st^^^2^k}:Bd).cell r)):=by
 have hk:k<b.sws.length:=(q8.mp hw).1;have e0:=CD (n:=b.n) k hk h;have e1:=Ov A.ok b.st k w hw h A.hb;have hs:=mw b.lk k h;have hh:=mw (iW b.gv) k h;have o:h[p]?=some (some (.ins "Board" (b.f r))):=A.o;have l:∀c:Option Cell,(h.set p c)[p]?=some c:=λc=>qg A.lt';have f4:aF su "held" (aa 0) af [some (.ref p),some (.int k)] h=.ok (.int (iW b.gv:Nat)) h:=by
  rw[iH A (z:=gX) (ds:=[]) rfl (by decide+kernel) (by simp) (by simp)];exact Gb A
 unfold vU G8 at*;by_cases q0:b.lk.testBit k=true
 ·rw[q0]at hs
  simp[cS,fR,o,e0,hs,q0]
 ·have q0:b.lk.testBit k=false:=by simpa using q0
  rw[q0]at hs;by_cases q1:(iW b.gv).testBit k=true
  ·rw[q1]at hh
   simp[-aF,cS,fR,o,e0,hs,q0,f4,hh,q1]
  ·have q1:(iW b.gv).testBit k=false:=by simpa using q1
   rw[q1]at hh;cases q2:sE b.st k w b.sws with
   | true=>
    rw[q2]at e1;simp at e1;simp[-aF,cS,fR,o,e0,hs,q0,f4,hh,q1,e1]
   | false=>
    rw[q2]at e1;cases q3:pG (b.st^^^2^k) b.sws with
    | false=>
     rw[q3]at e1;simp at e1;simp[-aF,cS,fR,o,e0,hs,q0,f4,hh,q1,e1]
    | true=>
     rw[q3]at e1;simp at e1;generalize b.st^^^2^k=s2 at*;simp[-aF,cS,fR,o,e0,hs,q0,f4,hh,q1,e1,l,Bd.cell]
theorem Ky(A:At h p r b):iF [.ref p] h=.ok (.int b.lk) h:=by
 have o:h[p]?=some (some (.ins "Board" (b.f r))):=A.o;simp[iF,sC,o]
noncomputable def Bd.new(n:Nat)(sws:List Sw):Bd:=⟨n,sws,0,0,[],0⟩
theorem Ii(ok:cD n sws)(hb:Hb h)(e:m ρ h0=.ok (yd n sws) h):sN "Board" hZ (ag m af) ρ h0=.ok (.ref h.length) (h++[(Bd.new n sws).cell (h.length+2),none,some (.dct [])]):=by
 have hb1:Hb (h++[some (Cell.ins "Board" [(Str.ofString "yard",yd n sws)])]):=hb.snoc λk hk=>by
  simp[Cell.bnd,D.bnds,ui n sws k]
 have e1:=vW (m:=ax c5 "yard" (aa 0)) (ρ:=[some (.ref h.length),some (yd n sws)]) (h:=h++[some (.ins "Board" [(Str.ofString "yard",yd n sws)])]) n sws ok.2.2.1 hb1 (by simp[List.lookup]);have ix:∀h:MH,aI (yd n sws) (.int 1) h=.ok (.lst (sws.map Sw.d)) h:=λh=>by simp[-List.map_map,yd]
 have ix0:∀h:MH,aI (yd n sws) (.int 0) h=.ok (.int n) h:=λh=>by simp[yd]
 have yy:D.tup [.int n,.lst (sws.map Sw.d)]=yd n sws:=rfl;have h1:=ui n sws (h.length+1);have h2:=Ih sws (h.length+1);have hbn:(h++[some (Cell.ins "Board" [])]).length=h.length+1:=by simp
 have nb:Cell.bnd (h.length+1) (some (Cell.ins "Board" (((Bd.new n sws).f (h.length+2)))))=false:=by
  simp[Bd.f,Bd.new,Cell.bnd,D.bnds,D.bnd]
 have key:hZ [.ref h.length,yd n sws] (h++[some (Cell.ins "Board" [])])=.ok .non (h++[(Bd.new n sws).cell (h.length+2),none,some (.dct [])]):=by
  have eb:j5 [some (.ref h.length),some (yd n sws)] (h++[some (Cell.ins "Board" [])])=.nx [some (.ref h.length),some (yd n sws)] (h++[(Bd.new n sws).cell (h.length+2),none,some (.dct [])]):=by
   simp[-List.map_map, -aI, -eN, -ax,j5,ix,ix0,yy,e1,bA,Bd.cell,Bd.f,Bd.new]
  unfold hZ az;rw[if_pos (show[D.ref h.length,yd n sws].length=2 from rfl)];have e2:j5 ([D.ref h.length,yd n sws].map some++List.replicate (2 - [D.ref h.length,yd n sws].length) none) (h++[some (Cell.ins "Board" [])])=.nx [some (.ref h.length),some (yd n sws)] (h++[(Bd.new n sws).cell (h.length+2),none,some (.dct [])]):=eb;rw[e2];have tk:(h++[(Bd.new n sws).cell (h.length+2),none,some (.dct [])]).take (h++[some (Cell.ins "Board" [])]).length=h++[(Bd.new n sws).cell (h.length+2)]:=by
   rw[hbn,List.take_append,wr (gf _)];simp
  show fin _ _ _=_;unfold fin;rw[if_neg (by simp),tk,hbn,gr];have:([(Bd.new n sws).cell (h.length+2)].all (Cell.bnd (h.length+1)))=false:=by
   simp only[wk,List.all_nil,kq];exact nb
  rw[this];simp
 simp[e,key]
theorem JW(ok:cD n sws)(hb:Hb h):At (h++[(Bd.new n sws).cell (h.length+2),none,some (.dct [])]) h.length (h.length+2) (Bd.new n sws):=
 ⟨by simp,by simp[Bd.new,c4],λk hk=>by
  simp only[zf,qz,ku]at hk;rw[gr,hb k (by omega)];have:=FN (Bd.new n sws) (show h.length+2<k by omega);simp only[wk,List.all_nil,kq,this];simp[Cell.bnd,D.bnds],ok⟩
noncomputable def Sw.lockable:Sw->Bool
 | .feed _=>true
 | .splitter _ _=>true
 | _=>false
theorem O6(s:Sw)(hn:n<=10)(ok:s.ok n)(h:MH):iC [s.o] h=.ok (.bl s.lockable) h:=by
 have e1:=oH s hn ok (m:=aa 0) (ρ:=[some s.o]) (h:=h) (by simp);have e2:=Jk s (m:=aa 0) (ρ:=[some s.o]) (h:=h) (by simp);have key:∀(i:Int) (g:Bool),aF kH "feeds" (aa 0) af [some s.o] h=.ok (.int i) h->aF kS "gentle" (aa 0) af [some s.o] h=.ok (.bl g) h->iC [s.o] h=.ok (.bl (!decide (i=0)||g)) h:=λi g e1 e2=>by
  by_cases q:i=0
  ·simp[-aF,iC,mz,e1,e2,q]
  ·simp[-aF,iC,mz,e1,e2,q]
 rw[key _ _ e1 e2];have pos:∀b:Nat,¬(((2^b:Nat):Int)=0):=λb=>by
  have:=Nat.pow_pos (n:=b) (show 0<2 by decide);omega
 cases s with
 | feed b=>simp only[Sw.fed,Sw.gen,Sw.lockable,pos b,decide_false,Bool.not_false,Bool.true_or]
 | earth b=>rfl
 | breaker a b=>rfl
 | splitter a b=>rfl
theorem N2(A:At h p r b)(v:Int)(hv:v<0\/(b.sws.length:Int)<=v):dJ [.ref p,.int v] h=.exc "NoSwitch" h:=by
 have e:=G_ (n:=b.n) v hv h;have o:h[p]?=some (some (.ins "Board" (b.f r))):=A.o;simp[dJ,gY,o,e]
noncomputable def Au(b:Bd)(k:Nat)(w:Sw):Option String:=
 if w.lockable=false then some "NoLock"else if b.st.testBit k=true then some "NotOpen"else if b.lk.testBit k=true then some "Locked"else none
theorem IK(A:At h p r b)(k:Nat)(w:Sw)(hw:b.sws[k]?=some w):dJ [.ref p,.int k] h=match Au b k w with|some c=>.exc c h|none=>.ok (.int (b.lk|||2^k:Nat)) (h.set p (({b with lk:=b.lk|||2^k}:Bd).cell r)):=by
 have hk:k<b.sws.length:=(q8.mp hw).1;have hl:=A.ok.2.2.1;have e0:=CD (n:=b.n) k hk h;have hs:=mw b.lk k h;have hh:=mw b.st k h;have o:h[p]?=some (some (.ins "Board" (b.f r))):=A.o;have l:∀c:Option Cell,(h.set p c)[p]?=some c:=λc=>qg A.lt';have ec:=O6 w A.ok.2.1 (A.ok.2.2.2 w (ql hw)) h;have hx:cZ (b.sws.map Sw.o) (k:Int)=some w.o:=Eb (by rw[zb,hw];rfl);have ix:(ae aI (ax gI "switches" (ax m4 "net" (aa 0))) (aa 1)) [some (.ref p),some (.int k)] h=.ok w.o h:=by
  simp[-List.map_map,o,aP,gI,hx]
 have o1:=gK (show k<=100 by omega);have b1:=lG b.lk (2^k);simp at b1;unfold Au;cases q0:w.lockable with
 | false=>
  rw[q0]at ec;simp[-aI, -ae,dJ,gY,o,e0,ix,ec]
 | true=>
  rw[q0]at ec;cases q1:b.st.testBit k with
  | true=>
   rw[q1]at hh;simp[-aI, -ae,dJ,gY,o,e0,ix,ec,hh]
  | false=>
   rw[q1]at hh;cases q2:b.lk.testBit k with
   | true=>
    rw[q2]at hs;simp[-aI, -ae,dJ,gY,o,e0,ix,ec,hh,hs]
   | false=>
    rw[q2]at hs;have lv:(ae fw (ax fS "locks" (aa 0)) (ae bp (mC (.int 1)) (aa 1))) [some (.ref p),some (.int k)] h=.ok (.int (b.lk|||2^k:Nat)) h:=by
     simp[o,o1,b1]
    simp[-aI, -fw, -bp, -ae,dJ,gY,o,e0,ix,ec,hh,hs,lv,l,Bd.cell]
theorem Nh(A:At h p r b)(v:Int)(hv:v<0\/(b.sws.length:Int)<=v):d_ [.ref p,.int v] h=.exc "NoSwitch" h:=by
 have e:=G_ (n:=b.n) v hv h;have o:h[p]?=some (some (.ins "Board" (b.f r))):=A.o;simp[d_,iN,o,e]
noncomputable def Ag(b:Bd)(k:Nat):Option String:=
 if b.lk.testBit k=false then some "NotLocked"else if(iW b.gv).testBit k=true then some "Held"else none
theorem JV(A:At h p r b)(k:Nat)(hk:k<b.sws.length):d_ [.ref p,.int k] h=match Ag b k with|some c=>.exc c h|none=>.ok (.int (apart b.lk k:Nat)) (h.set p (({b with lk:=apart b.lk k}:Bd).cell r)):=by
 have hl:=A.ok.2.2.1;have e0:=CD (n:=b.n) k hk h;have hs:=mw b.lk k h;have hh:=mw (iW b.gv) k h;have o:h[p]?=some (some (.ins "Board" (b.f r))):=A.o;have l:∀c:Option Cell,(h.set p c)[p]?=some c:=λc=>qg A.lt';have f4:aF su "held" (aa 0) af [some (.ref p),some (.int k)] h=.ok (.int (iW b.gv:Nat)) h:=by
  rw[iH A (z:=gX) (ds:=[]) rfl (by decide+kernel) (by simp) (by simp)];exact Gb A
 have o1:=gK (show k<=100 by omega);have b1:=yE b.lk (2^k);simp at b1;unfold Ag;cases q0:b.lk.testBit k with
 | false=>
  rw[q0]at hs;simp[-aF,d_,iN,o,e0,hs]
 | true=>
  rw[q0]at hs;cases q1:(iW b.gv).testBit k with
  | true=>
   rw[q1]at hh;simp[-aF,d_,iN,o,e0,hs,f4,hh]
  | false=>
   rw[q1]at hh;have lv:(ae bN (ax fS "locks" (aa 0)) (h7 dI (ae bp (mC (.int 1)) (aa 1)))) [some (.ref p),some (.int k)] h=.ok (.int (apart b.lk k:Nat)) h:=by
    simp[o,o1,b1,apart]
   simp[-ae, -bN, -dI, -bp, -h7, -aF,d_,iN,o,e0,hs,f4,hh,lv,l,Bd.cell]
noncomputable def bR(x:Nat):List Nat:=(List.range (Builtin.Int.intBits (x:Int))).filter λk=>x.testBit k
theorem uw:k∈bR x↔x.testBit k=true:=by
 unfold bR;rw[zv,zj];refine⟨λh=>h.2,λh=>⟨?_,h⟩⟩;have h0:x≠0:=λz=>by subst z;simp at h
 have h1:2^k<=x:=Nat.ge_two_pow_of_testBit h;have h2:=(Nat.le_log2 h0).mpr h1;simp[Builtin.Int.intBits,h0];omega
theorem IJ{x m:Nat}(hx:x<2^m):Builtin.Int.intBits (x:Int)<=m:=by
 by_cases h0:x=0
 ·subst h0;simp[Builtin.Int.intBits]
 ·have h2:=(Nat.log2_lt h0).mpr hx
  simp[Builtin.Int.intBits,h0];omega
theorem yb(m:Nat):rng 0 m=(List.range m).map λk:Nat=>D.int k:=by
 unfold rng;simp
theorem zD(x:Nat)(hx:x<2^12)(h:MH):fU [.int x] h=.ok (.lst ((bR x).map λk:Nat=>D.int k)) h:=by
 have hl:=IJ hx;have comp:compLoop (ay 0) (bC (aV gP (ag (aa 1) (ag (aa 0) af)))) (aa 0) [none,some (.int x)] (rng 0 (Builtin.Int.intBits (x:Int))) h=.ok ((bR x).map λk:Nat=>D.int k) h:=by
  rw[yb];exact yG (g:=ay 0) (t:=bC (aV gP (ag (aa 1) (ag (aa 0) af)))) (m:=aa 0) (ρ0:=[none,some (.int x)]) (h:=h) (λk:Nat=>D.int k) (λk=>[some (.int k),some (.int x)]) (λk=>x.testBit k) (λk:Nat=>D.int k) (List.range (Builtin.Int.intBits (x:Int))) λk _=>by
   have:=mw x k h;refine⟨by simp,?_,by simp⟩;simp[this]
 simp[-List.map_map,fU,rE,comp,show Builtin.Int.intBits (x:Int)<4611686018427387904 by omega,show Builtin.Int.intBits (x:Int)<16777216 by omega]
theorem Cv{k:Nat}(hw:sws[k]?=some w)(em:m ρ h=.ok (aP sws) h)(el:l ρ h=.ok (.int k) h):(ae aI (ax gI "switches" m) l) ρ h=.ok w.o h:=by
 have hx:cZ (sws.map Sw.o) (k:Int)=some w.o:=Eb (by rw[zb,hw];rfl);simp[-List.map_map,em,el,aP,gI,List.lookup,hx]
noncomputable def Eu(v:Sw->Nat)(sws:List Sw)(k:Nat):Nat:=match sws[k]? with
 | some w=>v w
 | none=>0
theorem pS(ok:cD n sws)(h:MH):jA [yd n sws] h=.ok (.int ((2^sws.length - 1:Nat):Int)) h:=by
 have o1:=gK (show sws.length<=100 by have:=ok.2.2.1;omega);have p:0<2^sws.length:=Nat.pow_pos (by decide);have e:((2^sws.length - 1:Nat):Int)=2^sws.length - 1:=by rw[Int.ofNat_sub (by omega)];simp
 rw[e];simp[-List.map_map,jA,pJ,yd,o1]
theorem OR(ok:cD n sws)(pl lk:Nat)(h:MH)(hb:Hb h):iS [yd n sws,.int pl,.int lk] h=.ok (.bl (decide (eA ((2^sws.length - 1) - ((2^sws.length - 1)&&&lk)) sws&&&pl=0))) h:=by
 have e1:=vW (m:=aa 0) (ρ:=[some (yd n sws),some (.int pl),some (.int lk)]) (h:=h) n sws ok.2.2.1 hb (by simp);have e2:=pS ok (h++[none]);have d1:=yE (2^sws.length - 1) lk;generalize(2^sws.length - 1) - ((2^sws.length - 1)&&&lk)=st at d1 ⊢;have e3:=Eg ok st (h++[none]) (h0:=h) (m:=eN "Net" eY (ag (aa 0) af)) (l:=ae bN (aV jA (ag (aa 0) af)) (h7 dI (aa 2))) (ρ:=[some (yd n sws),some (.int pl),some (.int lk)]) e1 (by simp[e2,d1]);have d2:=fD (eA st sws) pl;have hb2:∀x∈h,Cell.bnd h.length x=true:=by simpa using hb h.length (qb _)
 generalize eA st sws&&&pl=u at d2 ⊢;simp[-eN, -aF]at e3;by_cases q:u=0
 ·simp[-eN, -aF,iS,l9,e3,d2,q,D.bnd]
  first|(rw[if_neg (by omega),if_pos hb2])|(rw[if_pos hb2])|skip
 ·simp[-eN, -aF,iS,l9,e3,d2,q,D.bnd]
  first|(rw[if_neg (by omega),if_pos hb2])|(rw[if_pos hb2])|skip
noncomputable def xf(sws:List Sw)(lk:Nat):Nat:=(2^sws.length - 1) - ((2^sws.length - 1)&&&lk)
noncomputable def EY(sws:List Sw)(pl lk:Nat):Bool:=decide (eA (xf sws lk) sws&&&pl=0)
noncomputable def gT:List Nat->Nat
 | []=>0
 | k::ks=>2^k+gT ks
theorem Jf:∀{ks:List Nat},ks.Nodup->∀i,(gT ks).testBit i=decide (i∈ks)
 | [],_,i=>by simp[gT]
 | k::ks,nd,i=>by
  obtain⟨h1,h2⟩:=wu.mp nd;have ih:=Jf h2;have hk:(gT ks).testBit k=false:=by rw[ih];simpa using h1
  show(2^k+gT ks).testBit i=_;rw[Nat.add_comm,Po hk,w9,ih,KH];by_cases q:k=i
  ·subst q;simp
  ·have:¬i=k:=λz=>q z.symm
   simp[q,this]
theorem HL(ks:List Nat):((ks.map λk:Nat=>(2:Int)^k)).sum=(gT ks:Nat):=by
 induction ks with
 | nil=>rfl
 | cons k ks ih=>
  rw[List.map_cons,ko,ih];simp[gT]
theorem KS(hx:x<2^m)(h:k∈bR x):k<m:=by
 have h1:=uw.mp h;refine Nat.lt_of_not_le λq=> ?_;have:x<2^k:=qh hx (wy (by decide) q);rw[Nat.testBit_lt_two_pow this]at h1;cases h1
noncomputable def cW(st pl:Nat)(sws:List Sw):List Nat:=(bR st).filter λk=>decide (Eu Sw.led sws k&&&pl≠0)
theorem tm(ok:cD n sws)(st pl:Nat)(hst:st<2^sws.length)(h:MH):jE [aP sws,.int st,.int pl] h=.ok (.int (gT (cW st pl sws):Nat)) h:=by
 have hl:=ok.2.2.1;have h12:st<2^12:=qh hst (wy (by decide) hl);have e1:=zD st h12 h;have bl:(bR st).length<=12:=by
  unfold bR;exact zd (we _ _) (by rw[kg];exact IJ h12)
 have comp:compLoop (ay 0) (bC (ae bN (aF kN "earths" (ae aI (ax gI "switches" (aa 2)) (aa 0)) af) (aa 1))) (aa 0) [none,some (.int pl),some (aP sws)] ((bR st).map λk:Nat=>D.int k) h=.ok ((cW st pl sws).map λk:Nat=>D.int k) h:=by
  unfold cW;refine yG (g:=ay 0) (ρ0:=[none,some (.int pl),some (aP sws)]) (λk:Nat=>D.int k) (λk=>[some (.int k),some (.int pl),some (aP sws)]) (λk=>decide (Eu Sw.led sws k&&&pl≠0)) (λk=>D.int k) (bR st) λk hk=> ?_;have hk':k<sws.length:=KS hst hk;have hw:sws[k]?=some sws[k]:=qt hk';have e2:=Cv hw (m:=aa 2) (l:=aa 0) (ρ:=[some (.int k),some (.int pl),some (aP sws)]) (h:=h) (by simp) (by simp);have e3:=IX sws[k] ok.2.1 (ok.2.2.2 _ (wp hk')) e2;have ev:Eu Sw.led sws k=sws[k].led:=by unfold Eu;rw[hw]
  have b1:=fD sws[k].led pl;have b2:=CP (sws[k].led&&&pl);refine⟨by simp,?_,by simp⟩;rw[ev];simp only[bC,ae,e3,eT,aa,zn,zh,bN,gB,b1,iA,Be,b2]
 have sub:∀k∈cW st pl sws,k<sws.length:=λk hk=>KS hst (zv.mp hk).1;have comp2:compLoop (ay 0) aS (ae bp (mC (.int 1)) (aa 0)) [none] ((cW st pl sws).map λk:Nat=>D.int k) h=.ok (((cW st pl sws).map λk:Nat=>(2:Int)^k).map D.int) h:=by
  rw[List.map_map];refine i3 (g:=ay 0) (t:=aS) (m:=ae bp (mC (.int 1)) (aa 0)) (ρ0:=[none]) (λk:Nat=>D.int k) (λk=>[some (.int k)]) (λk=>D.int ((2:Int)^k)) (cW st pl sws) λk hk=>⟨by simp,by simp,?_⟩;have o1:=gK (show k<=100 by have:=sub k hk;omega);simp[o1]
 have ol:(cW st pl sws).length<=12:=zd (we _ _) bl;have sm:=HL (cW st pl sws);simp[-List.map_map, -aF, -bN, -bp,jE,qL,e1,comp,comp2,sm,show(bR st).length<16777216 by omega,show(cW st pl sws).length<16777216 by omega]
noncomputable def wX(b:Bd)(pl:Nat):Option String:=
 if pl - (pl&&&kP b.st b.sws)≠0 then some "NotEarthed"else if EY b.sws pl b.lk=false then some "NotDead"else none
noncomputable def pU(b:Bd)(pl:Nat):Bd:={b with la:=b.la+1,gv:=b.gv++[(b.la+1,pl,gT (cW b.st pl b.sws)|||b.lk)]}
theorem LU{m a c:Nat}(h:∀g∈gv,g.1<m):cA (c4 gv) (.inl (m:Int)) (.tup [.int a,.int c])=c4 (gv++[(m,a,c)]):=by
 have:((c4 gv).any λkv=>decide (kv.1=.inl (m:Int)))=false:=by
  rw[List.any_eq_false];intro kv hkv;obtain⟨g,hg,rfl⟩:=qv.mp hkv;have:=h g hg;simp;omega
 unfold cA;rw[if_neg (by rw[this];simp)];simp[c4]
theorem Kb(A:At h p r b)(hst:b.st<2^b.sws.length)(hn:∀g∈b.gv,g.1<=b.la)(hlen:b.gv.length<16777216)(pl:Nat)(h1:0<pl)(h2:pl<2^b.n):
  di [.ref p,.int pl] h=match wX b pl with|some c=>.exc c h|none=>.ok (.int (b.la+1:Nat)) ((h.set p ((pU b pl).cell r)).set r (some (.dct (c4 (pU b pl).gv)))):=by
 have o:h[p]?=some (some (.ins "Board" (b.f r))):=A.o;have o1:=gK (show b.n<=100 by have:=A.ok.2.1;omega);have ix0:∀h:MH,aI (yd b.n b.sws) (.int 0) h=.ok (.int b.n) h:=λh=>by simp[yd]
 have l:∀c:Option Cell,(h.set p c)[p]?=some c:=λc=>qg A.lt';have lr:∀c:Option Cell,(h.set p c)[r]?=some (some (.dct (c4 b.gv))):=λc=>by rw[qe A.ne];exact A.g
 have lr2:∀c d:Option Cell,((h.set p c).set r d)[p]?=some c:=λc d=>by rw[qe (Ne.symm A.ne)];exact l c
 have c1:(lU kX kX (mC (.int 0)) (aa 1) (ae bp (mC (.int 1)) (ae aI (ax c5 "yard" (aa 0)) (mC (.int 0))))) [some (.ref p),some (.int pl)] h=.ok (.bl true) h:=by
  have q2:(pl:Int)<2^b.n:=by
   have:((pl:Nat):Int)<((2^b.n:Nat):Int):=by omega
   simpa using this
  simp[-aI,o,ix0,o1,h1,q2]
 have ld:=JY A.ok b.st h (m:=ax m4 "net" (aa 0)) (l:=ax kG "shut" (aa 0)) (ρ:=[some (.ref p),some (.int pl)]) (h0:=h) (by simp[o]) (by simp[o]);have d1:=yE pl (kP b.st b.sws);have d2:=CP (pl - (pl&&&kP b.st b.sws));have ek:=OR A.ok pl b.lk h A.hb;have ek:iS [yd b.n b.sws,.int pl,.int b.lk] h=.ok (.bl (EY b.sws pl b.lk)) h:=ek;unfold wX;by_cases q1:pl - (pl&&&kP b.st b.sws)≠0
 ·rw[decide_eq_true q1]at d2
  simp[-aI, -kX, -bp, -aF, -lU,di,j6,c1,ld,d1,d2];rw[if_neg q1]
 ·have q1':pl - (pl&&&kP b.st b.sws)=0:=by simpa using q1
  simp only[q1',ne_eq,not_true_eq_false,decide_false]at d1 d2;cases q2:EY b.sws pl b.lk with
  | false=>
   rw[q2]at ek;simp[-aI, -kX, -bp, -aF, -lU,di,j6,c1,ld,d1,o,ek,q1']
  | true=>
   rw[q2]at ek;have eo:∀h,jE [aP b.sws,.int b.st,.int pl] h=.ok (.int (gT (cW b.st pl b.sws):Nat)) h:=λh=>tm A.ok b.st pl hst h;have bo:=lG (gT (cW b.st pl b.sws)) b.lk;have pn:=LU (gv:=b.gv) (m:=b.la+1) (a:=pl) (c:=gT (cW b.st pl b.sws)|||b.lk) (λg hg=>Nat.lt_succ_of_le (hn g hg));unfold pU;generalize gT (cW b.st pl b.sws)=ow at*;have gl:(c4 b.gv).length<16777216:=by unfold c4;rw[qi];exact hlen
   have pl1:=N8 b r (b.la+1);simp at pl1 pn;simp[-aI, -kX, -bp, -aF, -lU,di,j6,c1,ld,d1,o,ek,q1',l,lr,pl1,eo,bo,gl,pn,lr2,Bd.cell];rfl
theorem At.perm(A:At h p r b)(pl:Nat):At ((h.set p ((pU b pl).cell r)).set r (some (.dct (c4 (pU b pl).gv)))) p r (pU b pl):=by
 refine⟨?_,?_,?_,A.ok⟩
 ·rw[qe (Ne.symm A.ne),qg A.lt']
 ·rw[qg (by rw[wb];exact A.lt)]
 ·exact(A.hb.set λn hn=>FN _ (qh A.lt hn)).set λn _=>m8 _ n
noncomputable def gone(gv:List (Nat×Nat×Nat))(v:Nat):List (Nat×Nat×Nat):=gv.filter λg=>decide (g.1≠v)
noncomputable def mr(gv:List (Nat×Nat×Nat))(v:Int):Bool:=gv.any λg=>decide ((g.1:Int)=v)
theorem Pr(gv:List (Nat×Nat×Nat))(v:Int):(cT (c4 gv) (.inl v)).isSome=mr gv v:=by
 induction gv with
 | nil=>rfl
 | cons g gv ih=>
  unfold mr cT c4 at*;simp only[List.map_cons,zq,w6];by_cases q:(g.1:Int)=v
  ·simp[q]
  ·have:¬((Sum.inl (g.1:Int):Sum Int Str)=.inl v):=λz=>q (Sum.inl.inj z)
   simp only[this,q,decide_false,Bool.false_or];exact ih
theorem OY(nd:(gv.map λg=>g.1).Nodup)(hg:g∈gv):cT (c4 gv) (.inl (g.1:Int))=some (.tup [.int (g.2.1:Nat),.int (g.2.2:Nat)]):=by
 induction gv with
 | nil=>cases hg
 | cons a gv ih=>
  rw[List.map_cons]at nd;obtain⟨n1,n2⟩:=wu.mp nd;unfold cT c4;simp only[List.map_cons,zq];rcases qr.mp hg with rfl|hg
  ·simp
  ·have ne:¬((a.1:Nat)=g.1):=λz=>n1 (z▸qv.mpr ⟨g,hg,rfl⟩)
   have:¬((Sum.inl (a.1:Int):Sum Int Str)=.inl (g.1:Int)):=λz=>ne (by have:=Sum.inl.inj z;omega);simp only[this,decide_false];exact ih n2 hg
theorem NA(gv:List (Nat×Nat×Nat))(v:Nat):pX (c4 gv) (.inl (v:Int))=c4 (gone gv v):=by
 unfold pX c4 gone;rw[List.filter_map];congr 1;refine List.filter_congr λg _=> ?_;simp only[Function.comp];by_cases q:g.1=v
 ·subst q;simp
 ·have:¬((Sum.inl (g.1:Int):Sum Int Str)=.inl (v:Int)):=λz=>q (by have:=Sum.inl.inj z;omega)
  simp[q,this]
theorem At.putG(A:At h p r b)(hf:b'.cell r=b.cell r)(ok:cD b'.n b'.sws):At (h.set r (some (.dct (c4 b'.gv)))) p r b':=
 ⟨by rw[qe (Ne.symm A.ne),hf];exact A.o,by rw[qg A.lt],A.hb.set λn _=>m8 _ n,ok⟩
theorem P9(A:At h p r b)(v:Int)(hv:mr b.gv v=false):fu [.ref p,.int v] h=.exc "NoPermit" h:=by
 have o:h[p]?=some (some (.ins "Board" (b.f r))):=A.o;have g:=A.g;have e:cT (c4 b.gv) (.inl v)=none:=Option.not_isSome_iff_eq_none.mp (by rw[Pr,hv];simp);simp[fu,mK,o,g,e]
theorem Nn(A:At h p r b)(nd:(b.gv.map λg=>g.1).Nodup)(g:Nat×Nat×Nat)(hg:g∈b.gv):fu [.ref p,.int g.1] h=.ok (.int (iW (gone b.gv g.1):Nat)) (h.set r (some (.dct (c4 (gone b.gv g.1))))):=by
 have o:h[p]?=some (some (.ins "Board" (b.f r))):=A.o;have gg:=A.g;have A2:=A.putG (b':={b with gv:=gone b.gv g.1}) rfl A.ok;have hh:=Gb A2;have ms:aF su "held" (aa 0) af [some (.ref p),some (.int g.1)] (h.set r (some (.dct (c4 (gone b.gv g.1)))))=.ok (.int (iW (gone b.gv g.1):Nat)) (h.set r (some (.dct (c4 (gone b.gv g.1))))):=by
  rw[iH A2 (z:=gX) (ds:=[]) rfl (by decide+kernel) (by simp) (by simp)];exact hh
 have e1:=OY nd hg;have e2:(cT (c4 b.gv) (.inl (g.1:Int))).isSome=true:=by rw[e1];rfl
 have e3:=NA b.gv g.1;simp[-aF,fu,mK,o,gg,e1,e3,ms]
theorem cc(e:a ρ h=.nx ρ' h'):aj a b ρ h=b ρ' h':=by simp only[aj,e]
theorem CV(e:a ρ h=.rt d h'):aj a b ρ h=.rt d h':=by simp only[aj,e]
theorem eZ(hl:ds.length=np)(e:b (ds.map some++List.replicate (nn - ds.length) none) h=.rt d h')(hn:h'.length<=h.length):az np nn b ds h=.ok d h':=by
 unfold az;rw[if_pos hl,e];show fin h.length d h'=_;unfold fin;rw[if_pos hn]
@[simp] theorem QK:(Str.ofString "board"==Str.ofString "yard")=false:=by decide+kernel
@[simp] theorem Qr:¬(Str.ofString "yard"=Str.ofString "board"):=by decide+kernel
noncomputable def eQ(y b:D):List (Str×D):=[(Str.ofString "yard",y),(Str.ofString "board",b)]
noncomputable def bF(y b:D):Option Cell:=some (.ins "Desk" (eQ y b))
@[simp] theorem DS:"Desk"∈c5:=by decide
@[simp] theorem xc:"Desk"∈eF:=by decide
@[simp] theorem DC(y b:D):(eQ y b).lookup ("yard":Str)=some y:=by simp[eQ,List.lookup]
@[simp] theorem yI(y b:D):(eQ y b).lookup ("board":Str)=some b:=by simp[eQ,List.lookup]
@[simp] theorem DF(y b y':D):bA ("yard":Str) y' (eQ y b)=eQ y' b:=by simp[eQ,bA]
@[simp] theorem vh(y b b':D):bA ("board":Str) b' (eQ y b)=eQ y b':=by simp[eQ,bA]
@[simp] theorem Fi(y b:D):(eQ y b).length=2:=rfl
theorem xB(y b:D)(h:([Str.ofString "yard",Str.ofString "board"]).contains m=false):(eQ y b).lookup m=none:=by
 simp only[List.contains_cons,List.contains_nil,Bool.or_false,Bool.or_eq_false_iff]at h;simp only[eQ,List.lookup,h.1,h.2]
theorem uo(o:h[d]?=some (bF y b))(et:tab.lookup "Desk"=some z)(hf:([Str.ofString "yard",Str.ofString "board"]).contains f=false)(em:m ρ h=.ok (.ref d) h)(el:l ρ h=.ok ds h):aF tab f m l ρ h=z (.ref d::ds) h:=by
 unfold bF at o;simp[em,el,o,et,xB y b hf]
structure Dk (h:MH) (d p r:Nat) (b:Bd):Prop where
 o:h[d]?=some (bF (yd b.n b.sws) (.ref p))
 a:At h p r b
theorem IE(ok:cD n sws)(hb:Hb h)(o:h[d]?=some (bF y b))(hy:∀m,h.length<=m->b.bnd m=true):fm [.ref d,yd n sws] h=.ok (.str "ok") (((h.set d (bF (yd n sws) b))++[(Bd.new n sws).cell (h.length+2),none,some (.dct [])]).set d (bF (yd n sws) (.ref h.length))):=by
 have ld:d<h.length:=(q8.mp o).1;have hl:(h.set d (bF (yd n sws) b)).length=h.length:=wb;have hb1:Hb (h.set d (bF (yd n sws) b)):=hb.set λm hm=>by
  have h1:=ui n sws m;have h2:=hy m hm;simp[bF,eQ,Cell.bnd,h1,h2,D.bnds,D.bndf]
 have mk:=Ii ok (m:=aa 1) (ρ:=[some (.ref d),some (yd n sws)]) (h0:=h.set d (bF (yd n sws) b)) hb1 (by simp);rw[hl]at mk;have o1:((h.set d (bF (yd n sws) b))++[(Bd.new n sws).cell (h.length+2),none,some (.dct [])])[d]?=some (bF (yd n sws) b):=by
  rw[za (by rw[hl];exact ld),qg ld]
 have key:jk [some (.ref d),some (yd n sws)] h=.rt (.str "ok") (((h.set d (bF (yd n sws) b))++[(Bd.new n sws).cell (h.length+2),none,some (.dct [])]).set d (bF (yd n sws) (.ref h.length))):=by
  unfold jk;refine(cc (ρ':=[some (.ref d),some (yd n sws)]) (h':=h.set d (bF (yd n sws) b)) (by
   unfold bF at o ⊢;simp[o])).trans ?_
  refine(cc (ρ':=[some (.ref d),some (yd n sws)]) (h':=((h.set d (bF (yd n sws) b))++[(Bd.new n sws).cell (h.length+2),none,some (.dct [])]).set d (bF (yd n sws) (.ref h.length))) (by
   generalize((h.set d (bF (yd n sws) b))++[(Bd.new n sws).cell (h.length+2),none,some (.dct [])])=H1 at*;generalize h.set d (bF (yd n sws) b)=H0 at*;unfold bF at o1 ⊢;unfold dS;rw[mk];simp[o1])).trans ?_
  simp
 unfold fm az;rw[if_pos (show[D.ref d,yd n sws].length=2 from rfl)];have k2:jk ([D.ref d,yd n sws].map some++List.replicate (2 - [D.ref d,yd n sws].length) none) h=_:=key;rw[k2];show fin _ _ _=_;unfold fin;have l3:(((h.set d (bF (yd n sws) b))++[(Bd.new n sws).cell (h.length+2),none,some (Cell.dct [])]).set d (bF (yd n sws) (.ref h.length))).length=h.length+3:=by simp
 rw[if_neg (by omega),if_neg];intro z;have z2:=(wz.mp z).2;rw[List.all_eq_true]at z2;have:=z2 (bF (yd n sws) (.ref h.length)) (by
  refine ql (i:=d) ?_;rw[ka ld,qg (by simp;omega)])
 simp[bF,eQ,Cell.bnd,D.bnd,D.bnds,D.bndf]at this
theorem Hg(o:H[d]?=some (bF y (.ref p)))(hd:d<n)(hp:n<=p):fin n x H=.ok x H:=by
 unfold fin;by_cases z:H.length<=n
 ·rw[if_pos z]
 ·rw[if_neg z,if_neg]
  intro q;have z2:=(wz.mp q).2;rw[List.all_eq_true]at z2;have:=z2 (bF y (.ref p)) (by
   refine ql (i:=d) ?_;rw[ka hd];exact o)
  simp[bF,eQ,Cell.bnd,D.bnd,D.bnds,D.bndf]at this;omega
noncomputable def fF(h:MH)(d n:Nat)(sws:List Sw)(b:D):MH:=((h.set d (bF (yd n sws) b))++[(Bd.new n sws).cell (h.length+2),none,some (.dct [])]).set d (bF (yd n sws) (.ref h.length))
theorem Du(ld:d<h.length):(fF h d n sws b)[d]?=some (bF (yd n sws) (.ref h.length)):=by
 unfold fF;rw[qg (by simp;omega)]
theorem Ld(ok:cD n sws)(hb:Hb h)(ld:d<h.length)(hy:∀m,h.length<=m->b.bnd m=true):Dk (fF h d n sws b) d h.length (h.length+2) (Bd.new n sws):=by
 have hb1:Hb (h.set d (bF (yd n sws) b)):=hb.set λm hm=>by
  have h1:=ui n sws m;have h2:=hy m hm;simp[bF,eQ,Cell.bnd,h1,h2,D.bnds,D.bndf]
 have A:=JW ok hb1;have hl:(h.set d (bF (yd n sws) b)).length=h.length:=wb;rw[hl]at A;refine⟨Du ld,?_,?_,?_,ok⟩
 ·unfold fF
  rw[qe (by omega)];exact A.o
 ·unfold fF
  rw[qe (by omega)];exact A.g
 ·unfold fF
  refine A.hb.set λm hm=> ?_;have h1:=ui n sws m;simp at hm;simp[bF,eQ,Cell.bnd,h1,D.bnds,D.bndf,D.bnd];omega
theorem Cu(e:Txt.split row ⟨#[32]⟩=k::ws)(lr:row.length<=16777216)(lw:ws.length<=100)(d:Nat)(B:MS)(h:MH):aj (aw (bw (ue (aa 1) (ag (mC (.str " ")) af))) (ay 2)) (aj (aw (ae aI (aa 2) (mC (.int 0))) (ay 3)) B) [some (.ref d),some (.str row),none,none,none] h=B [some (.ref d),some (.str row),some (.lst ((k::ws).map D.str)),some (.str k),none] h:=by
 have l1:(" ":Str).length≠0:=by decide+kernel
 have l2:(Txt.split row ⟨#[32]⟩).length<=16777216:=by rw[e];simp;omega
 refine(cc (ρ':=[some (.ref d),some (.str row),some (.lst ((k::ws).map D.str)),none,none]) (h':=h) (by
  rw[<-uy]at e l2;have l3:ws.length<=16777215:=by omega
  simp[-List.map_cons,l1,lr,l3,e])).trans ?_
 exact cc (by simp)
theorem OB{n:Nat}(h1:1<=n)(h2:n<=10)(hb:Hb h)(o:h[d]?=some (bF y b))(hy:∀m,h.length<=m->b.bnd m=true):cy [.ref d,.str (f9 n)] h=.ok (.str "ok") (fF h d n [] b):=by
 have ld:d<h.length:=(q8.mp o).1;have ok:cD n []:=⟨h1,h2,by simp,λs m=>(nomatch m)⟩;obtain⟨f1,_,f3⟩:=GA (k:="bars") (bs:=[(n:Int)]) uU.1 uU.2.1 uU.2.2 (by simp;omega) (by simp);have hd:=Cu (row:=f9 n) (k:="bars") (ws:=[(n:Int)].map W) f3 (by have:(f9 n).length<=20:=f1;omega) (by simp) d;have ci:=N1 n h (by omega) (by omega);have bg:fm [.ref d,.tup [.int (n:Int),.lst []]] h=.ok (.str "ok") (fF h d n [] b):=IE ok hb o hy;have key:cH [some (.ref d),some (.str (f9 n)),none,none,none] h=.rt (.str "ok") (fF h d n [] b):=by
  unfold cH;rw[hd];refine CV ?_;have mm:=uo o (tab:=vX) (f:="begin") (z:=fm) (m:=aa 0) (l:=ag (a_ (ag (aV jw (ag (aa 1) af)) (ag (bw (cJ af)) af))) af) (ρ:=[some (.ref d),some (.str (f9 n)),some (.lst ((Str.ofString "bars"::[(n:Int)].map W).map D.str)),some (.str ("bars":Str)),none]) (ds:=[.tup [.int (n:Int),.lst []]]) rfl (by decide+kernel) (by simp) (by simp[ci]);have mm:=mm.trans bg;generalize fF h d n [] b=H at*;simp only[bh,tB,ae,aa,mC,zn,zh,eT,a9,decide_true,dF,if_true,au,mm]
 unfold cy az;rw[if_pos (show[D.ref d,D.str (f9 n)].length=2 from rfl)];have k2:cH ([D.ref d,D.str (f9 n)].map some++List.replicate (5 - [D.ref d,D.str (f9 n)].length) none) h=_:=key;rw[k2];exact Hg (Du ld) ld (qb _)
noncomputable def Sw.t:Sw->Str×List Int
 | .feed a=>("feed",[(a:Int)])|.earth a=>("earth",[(a:Int)])|.breaker a b=>("breaker",[(a:Int),(b:Int)])|.splitter a b=>("splitter",[(a:Int),(b:Int)])
theorem GW(s:Sw):sd s.t=s.d:=by cases s<;>rfl
theorem xk{s:Sw}(ok:s.ok n):SwOk n s.t:=by
 cases s with
 | feed a=>exact .inl ⟨a,by omega,by have:a<n:=ok;omega,.inl rfl⟩
 | earth a=>exact .inl ⟨a,by omega,by have:a<n:=ok;omega,.inr rfl⟩
 | breaker a b=>obtain⟨h1,h2,h3⟩:=ok;exact .inr ⟨a,b,by omega,by omega,by omega,by omega,by omega,.inl rfl⟩
 | splitter a b=>obtain⟨h1,h2,h3⟩:=ok;exact .inr ⟨a,b,by omega,by omega,by omega,by omega,by omega,.inr rfl⟩
noncomputable def bQ(s:Sw):Str:=cI s.t
theorem vR:¬(Str.ofString "feed"=Str.ofString "bars")/\¬(Str.ofString "earth"=Str.ofString "bars")/\¬(Str.ofString "breaker"=Str.ofString "bars")/\¬(Str.ofString "splitter"=Str.ofString "bars"):=by decide+kernel
theorem MA(hn:n<=10)(ok:s.ok n):(bQ s).length<=20/\Txt.split (bQ s) ⟨#[32]⟩=s.t.1::s.t.2.map W/\s.t.2.length<=2:=by
 obtain⟨b1,b2,b3,b4,b5,b6⟩:=(xk ok).bars;obtain⟨f1,_,f3⟩:=GA (k:=s.t.1) (bs:=s.t.2) b4 b5 b6 (λb m=>by have:=b1 b m;omega) b2;exact⟨f1,f3,b2⟩
theorem DH(o:h[d]?=some (bF y (.ref p)))(hy:lu y=false)(hk:¬k=Str.ofString "bars")(x1 x2 x4:Option D)(A B:MS):aj (bh (tB (ae a9 (aa 3) (mC (.str "bars")))) A bz) (aj (bh (tB (ae ua (ax c5 "yard" (aa 0)) (mC .non))) (c7 "NoRow" (mC (.str "there is no yard yet"))) bz) B) [some (.ref d),x1,x2,some (.str k),x4] h=B [some (.ref d),x1,x2,some (.str k),x4] h:=by
 refine(cc (ρ':=[some (.ref d),x1,x2,some (.str k),x4]) (h':=h) (by simp[hk])).trans ?_;have e1:ax c5 "yard" (aa 0) [some (.ref d),x1,x2,some (.str k),x4] h=.ok y h:=by
  unfold bF at o;simp[o]
 have e2:ua y .non h=.ok (.bl false) h:=by
  have:ua y .non h=.ok (.bl (lu y)) h:=by cases y<;>rfl
  rw[this,hy]
 refine cc ?_;simp only[bh,tB,ae,e1,mC,eT,e2,dF,wd,if_false,bz]
theorem NP(s:Sw)(h:MH):gD false (.str s.t.1) (.tup [.str "feed",.str "earth",.str "breaker",.str "splitter"]) h=.ok (.bl true) h:=by
 cases s<;>simp[Sw.t,jM]
theorem Ms(D0:Dk h d p r b)(ok:cD b.n b.sws)(hs:s.ok b.n)(hl:b.sws.length<12):cy [.ref d,.str (bQ s)] h=.ok (.str "ok") (fF h d b.n (b.sws++[s]) (.ref p)):=by
 have ld:d<h.length:=(q8.mp D0.o).1;have lp:p<h.length:=D0.a.lt';have hn:=ok.2.1;obtain⟨f1,f2,f3⟩:=MA hn hs;have hd:=Cu (row:=bQ s) f2 (by omega) (by simp;omega) d;have si:=NZ s.t b.n b.sws.length h (by have:=ok.1;omega) (by omega) (xk hs) hl;rw[GW]at si;have ok2:cD b.n (b.sws++[s]):=⟨ok.1,hn,by simp;omega,λw m=>by
  rcases zi.mp m with m|m
  ·exact ok.2.2.2 w m
  ·rw[zz.mp m];exact hs⟩
 have bg:fm [.ref d,.tup [.int (b.n:Int),.lst (b.sws.map Sw.d++[s.d])]] h=.ok (.str "ok") (fF h d b.n (b.sws++[s]) (.ref p)):=by
  have this:fm [.ref d,yd b.n (b.sws++[s])] h=.ok (.str "ok") (fF h d b.n (b.sws++[s]) (.ref p)):=IE ok2 D0.a.hb D0.o (λm hm=>by simp[D.bnd];omega);have e:yd b.n (b.sws++[s])=.tup [.int (b.n:Int),.lst (b.sws.map Sw.d++[s.d])]:=by
   unfold yd;rw[List.map_append];rfl
  rw[e]at this;exact this
 have kn:¬s.t.1=Str.ofString "bars":=by
  obtain⟨a,b,c,e⟩:=vR;cases s<;>assumption
 have o:=D0.o;have i0:∀h,aI (yd b.n b.sws) (.int 0) h=.ok (.int (b.n:Nat)) h:=λh=>rfl;have i1:∀h,aI (yd b.n b.sws) (.int 1) h=.ok (.lst (b.sws.map Sw.d)) h:=λh=>rfl;have ad:jq [.ref d,.str (bQ s)] h=.ok (.str "ok") (fF h d b.n (b.sws++[s]) (.ref p)):=by
  have key:kC [some (.ref d),some (.str (bQ s)),none,none] h=.rt (.str "ok") (fF h d b.n (b.sws++[s]) (.ref p)):=by
   have fy:∀x1 x2 x3,ax c5 "yard" (aa 0) [some (.ref d),x1,x2,x3] h=.ok (yd b.n b.sws) h:=λx1 x2 x3=>by
    unfold bF at o;simp[o]
   unfold kC;refine(cc (ρ':=[some (.ref d),some (.str (bQ s)),some (.int (b.n:Nat)),none]) (h':=h) (by simp[-aI, -ax,fy,i0])).trans ?_;refine(cc (ρ':=[some (.ref d),some (.str (bQ s)),some (.int (b.n:Nat)),some (.lst (b.sws.map Sw.d))]) (h':=h) (by simp[-aI, -ax, -List.map_map,fy,i1])).trans ?_;have ll:(b.sws.map Sw.d).length=b.sws.length:=qi ..;have mm:=uo o (tab:=vX) (f:="begin") (z:=fm) (m:=aa 0) (l:=ag (a_ (ag (aa 2) (ag (ae aU (aa 3) (bw (cJ (ag (aV ft (ag (aa 1) (ag (aa 2) (ag (bB b_ (ag (aa 3) af)) af)))) af)))) af))) af) (ρ:=[some (.ref d),some (.str (bQ s)),some (.int (b.n:Nat)),some (.lst (b.sws.map Sw.d))]) (ds:=[.tup [.int (b.n:Int),.lst (b.sws.map Sw.d++[s.d])]]) rfl (by decide+kernel) (by simp) (by
    have l2:b.sws.length<=16777215:=by omega
    have si:ft [.str (bQ s),.int (b.n:Int),.int (b.sws.length:Int)] h=.ok s.d h:=si;generalize b.sws.map Sw.d=T at*;generalize bQ s=R at*;generalize s.d=S at*;simp[ll,si,l2])
   have mm:=mm.trans bg;generalize fF h d b.n (b.sws++[s]) (.ref p)=H at*;simp only[au,mm,dF]
  unfold jq az;rw[if_pos (show[D.ref d,D.str (bQ s)].length=2 from rfl)];have k2:kC ([D.ref d,D.str (bQ s)].map some++List.replicate (4 - [D.ref d,D.str (bQ s)].length) none) h=_:=key;rw[k2];exact Hg (Du ld) ld (qb _)
 have key:cH [some (.ref d),some (.str (bQ s)),none,none,none] h=.rt (.str "ok") (fF h d b.n (b.sws++[s]) (.ref p)):=by
  unfold cH;rw[hd,DH o rfl kn];refine CV ?_;have mm:=uo o (tab:=E_) (f:="add_switch") (z:=jq) (m:=aa 0) (l:=ag (aa 1) af) (ρ:=[some (.ref d),some (.str (bQ s)),some (.lst ((s.t.1::s.t.2.map W).map D.str)),some (.str s.t.1),none]) (ds:=[.str (bQ s)]) rfl (by decide+kernel) (by simp) (by simp);have mm:=mm.trans ad;have i4:=NP s h;generalize fF h d b.n (b.sws++[s]) (.ref p)=H at*;generalize s.t.1=K at*;have t4:a_ (ag (mC (.str "feed")) (ag (mC (.str "earth")) (ag (mC (.str "breaker")) (ag (mC (.str "splitter")) af)))) [some (.ref d),some (.str (bQ s)),some (.lst ((K::s.t.2.map W).map D.str)),some (.str K),none] h=.ok (.tup [.str "feed",.str "earth",.str "breaker",.str "splitter"]) h:=by simp
  simp only[bh,tB,ae,aa,zn,zh,eT,t4,i4,dF,if_true,au,mm]
 unfold cy az;rw[if_pos (show[D.ref d,D.str (bQ s)].length=2 from rfl)];have k2:cH ([D.ref d,D.str (bQ s)].map some++List.replicate (5 - [D.ref d,D.str (bQ s)].length) none) h=_:=key;rw[k2];exact Hg (Du ld) ld (qb _)
theorem Jg(ok:cD n sws)(st:Nat)(h:MH)(hb:Hb h):jg [yd n sws,.int st] h=.ok (.int (eA st sws:Nat)) h:=by
 have e1:=vW (m:=aa 0) (ρ:=[some (yd n sws),some (.int st)]) (h:=h) n sws ok.2.2.1 hb (by simp);have e3:=Eg ok st (h++[none]) (l:=aa 1) e1 (by simp);have hb2:∀x∈h,Cell.bnd h.length x=true:=by simpa using hb h.length (qb _)
 simp[-aF, -eN,jg,sX,e3,D.bnd];rw[if_neg (by omega),if_pos hb2]
theorem HH(ok:cD n sws)(st:Nat)(h:MH)(hb:Hb h):ju [yd n sws,.int st] h=.ok (.int (iR st sws:Nat)) h:=by
 have e1:=vW (m:=aa 0) (ρ:=[some (yd n sws),some (.int st)]) (h:=h) n sws ok.2.2.1 hb (by simp);have e3:=JP ok st (h++[none]) (l:=aa 1) e1 (by simp);have hb2:∀x∈h,Cell.bnd h.length x=true:=by simpa using hb h.length (qb _)
 simp[-aF, -eN,ju,qV,e3,D.bnd];rw[if_neg (by omega),if_pos hb2]
structure One (k:Str):Prop where
 sp:Txt.split k ⟨#[32]⟩=[k]
 ln:k.length<=10
 b:¬k=Str.ofString "bars"
 a1:¬Str.ofString "feed"=k
 a2:¬Str.ofString "earth"=k
 a3:¬Str.ofString "breaker"=k
 a4:¬Str.ofString "splitter"=k
 a5:¬Str.ofString "turn"=k
 a6:¬Str.ofString "lock"=k
 a7:¬Str.ofString "unlock"=k
 a8:¬Str.ofString "back"=k
 c1:¬k=Str.ofString "permit"
 c2:¬k=Str.ofString "locks"
 c3:¬k=Str.ofString "reach"
theorem Oy:One ("shut":Str):=⟨by decide+kernel,by decide+kernel,by decide+kernel,by decide+kernel,by decide+kernel,by decide+kernel,by decide+kernel,by decide+kernel,by decide+kernel,by decide+kernel,by decide+kernel,by decide+kernel,by decide+kernel,by decide+kernel⟩
theorem Pm:One ("live":Str):=⟨by decide+kernel,by decide+kernel,by decide+kernel,by decide+kernel,by decide+kernel,by decide+kernel,by decide+kernel,by decide+kernel,by decide+kernel,by decide+kernel,by decide+kernel,by decide+kernel,by decide+kernel,by decide+kernel⟩
theorem MW:One ("earthed":Str):=⟨by decide+kernel,by decide+kernel,by decide+kernel,by decide+kernel,by decide+kernel,by decide+kernel,by decide+kernel,by decide+kernel,by decide+kernel,by decide+kernel,by decide+kernel,by decide+kernel,by decide+kernel,by decide+kernel⟩
theorem Ox:One ("locked":Str):=⟨by decide+kernel,by decide+kernel,by decide+kernel,by decide+kernel,by decide+kernel,by decide+kernel,by decide+kernel,by decide+kernel,by decide+kernel,by decide+kernel,by decide+kernel,by decide+kernel,by decide+kernel,by decide+kernel⟩
theorem Ef(u:One k)(o:h[d]?=some (bF y (.ref p)))(hy:lu y=false)(et:mQ [.ref d,.str k] h=.ok x h):cy [.ref d,.str k] h=.ok x h:=by
 have hd:=Cu (row:=k) (ws:=[]) u.sp (by have:=u.ln;omega) (by simp) d;have mm:=uo o (tab:=Hh) (f:="tell") (z:=mQ) (m:=aa 0) (l:=ag (aa 3) af) (ρ:=[some (.ref d),some (.str k),some (.lst ([k].map D.str)),some (.str k),none]) (ds:=[.str k]) rfl (by decide+kernel) (by simp) (by simp);have mm:=mm.trans et;obtain⟨_,_,b,a1,a2,a3,a4,a5,a6,a7,a8,c1,c2,c3⟩:=u;have key:cH [some (.ref d),some (.str k),none,none,none] h=.rt x h:=by
  unfold cH;rw[hd,DH o hy b];refine(cc (ρ':=[some (.ref d),some (.str k),some (.lst ([k].map D.str)),some (.str k),none]) (h':=h) (by simp[jM,a1,a2,a3,a4])).trans ?_;refine(cc (ρ':=[some (.ref d),some (.str k),some (.lst ([k].map D.str)),some (.str k),none]) (h':=h) (by simp[jM,a5,a6,a7,a8])).trans ?_;refine(cc (ρ':=[some (.ref d),some (.str k),some (.lst ([k].map D.str)),some (.str k),none]) (h':=h) (by simp[c1])).trans ?_;refine(cc (ρ':=[some (.ref d),some (.str k),some (.lst ([k].map D.str)),some (.str k),none]) (h':=h) (by simp[c2])).trans ?_;refine(cc (ρ':=[some (.ref d),some (.str k),some (.lst ([k].map D.str)),some (.str k),none]) (h':=h) (by simp[c3])).trans ?_;refine(cc (ρ':=[some (.ref d),some (.str k),some (.lst ([k].map D.str)),some (.str k),none]) (h':=h) (by simp)).trans ?_;simp only[au,mm,dF]
 exact eZ (np:=2) (nn:=5) (b:=cH) (ds:=[.ref d,.str k]) rfl key (qb _)
noncomputable def dB:MS:=aw (ae aT (ae aU (ae dH (aa 3) (ae aU (ae dH (mC (.int 2)) (aa 1)) (mC (.int 1013)))) (aa 4)) (mC (.int 999999000001))) (ay 3)
theorem Ie(a b c:Option D)(k:Nat)(hk:k<=100)(hb:b=some (.int k))(h:MH):∀(cs:List Int) (f:Int) (x:Option D),0<=f->f<999999000001->
  ∃f' x',0<=f'/\f'<999999000001/\dY (ay 4) dB (cs.map D.int) [a,b,c,some (.int f),x] h=.nx [a,b,c,some (.int f'),x'] h
 | [],f,x,h0,h1=>⟨f,x,h0,h1,rfl⟩
 | n::cs,f,x,h0,h1=>by
  subst hb;obtain⟨f',x',g0,g1,e⟩:=Ie a (some (.int k)) c k hk rfl h cs ((f*(2*(k:Int)+1013)+n) % 999999000001) (some (.int n)) (wc _ (by omega)) (w4 _ (by omega));refine⟨f',x',g0,g1,?_⟩;rw[List.map_cons];unfold dY;have o1:kJ 2 (k:Int):=.inl (by decide);have o2:kJ f (2*(k:Int)+1013):=.inl (by omega);have eb:dB [a,some (.int k),c,some (.int f),some (.int n)] h=.nx [a,some (.int k),c,some (.int ((f*(2*(k:Int)+1013)+n) % 999999000001)),some (.int n)] h:=by simp[dB,o1,o2]
  simp[eb,e]
theorem GR(ns:List Int)(k:Nat)(hk:k<=100)(h:MH):∃x:Nat,fi [.arg ns,.int k] h=.ok (.int x) h:=by
 have o0:kJ 31 (k:Int):=.inl (by decide);obtain⟨f,x',g0,g1,e⟩:=Ie (some (.arg ns)) (some (.int k)) (some (.int (1+(ns.length:Int) / 8))) k hk rfl h (BV ns (some ((k:Int) % (1+(ns.length:Int) / 8))) none (1+(ns.length:Int) / 8)) (31*(k:Int)+5) none (by omega) (by omega);have o1:kJ 3 (k:Int):=.inl (by decide);have o2:∀y,kJ f y:=λy=>.inl (by omega);have hs:0<1+(ns.length:Int) / 8:=by omega
 refine⟨(f*(f / 7 % 99991+3*(k:Int)+1) % 999999000001).toNat,?_⟩;have hz:0<=f*(f / 7 % 99991+3*(k:Int)+1) % 999999000001:=wc _ (by omega);rw[g6 hz];have eb:tF=(aj (aw (ae aU (mC (.int 1)) (ae bP (bB b_ (ag (aa 0) af)) (mC (.int 8)))) (ay 2))
   (aj (aw (ae aU (ae dH (mC (.int 31)) (aa 1)) (mC (.int 5))) (ay 3))
   (aj (dt (cE (jC (aa 0) (c6 (ae aT (aa 1) (aa 2))) ee (c6 (aa 2)))) (ay 4) dB)
   (au (ae aT (ae dH (aa 3) (ae aU (ae aU (ae aT (ae bP (aa 3) (mC (.int 7))) (mC (.int 99991))) (ae dH (mC (.int 3)) (aa 1))) (mC (.int 1)))) (mC (.int 999999000001))))))):=rfl
 simp[fi,eb,hs,e,o0,o1,o2]
theorem jG{x:Int}(h:0<=x):∃a:Nat,x=a:=⟨x.toNat,(g6 h).symm⟩
theorem Pd{x y n:Int}(hx:0<=x)(hx2:x<n)(hy:0<=y)(hy2:y<n - 1):(x+1+y) % n≠x:=by
 intro e;by_cases z:x+1+y<n
 ·rw[Int.emod_eq_of_lt (by omega) z]at e;omega
 ·have:(x+1+y) % n=x+1+y - n:=by rw[<-Int.sub_emod_right,Int.emod_eq_of_lt (by omega) (by omega)]
  omega
theorem Oq(c:Int)(n:Nat)(h1:2<=n)(h2:n<=10)(h:MH):∃s:Sw,s.ok n/\e_ [.int c,.int n] h=.ok s.d h:=by
 have hn:0<n:=by omega
 obtain⟨a,ea⟩:=jG (x:=c / 6 % (n:Int)) (wc _ (by omega));have la:a<n:=by have:=w4 (c / 6) (b:=(n:Int)) (by omega);omega
 have h5:c % 6=0\/c % 6=1\/c % 6=2\/c % 6=3\/c % 6=4\/c % 6=5:=by omega
 have hn1:(1:Int)<(n:Int):=by omega
 obtain⟨b,eb⟩:=jG (x:=((a:Int)+1+c / 60 % ((n:Int) - 1)) % (n:Int)) (wc _ (by omega));have lb:b<n:=by have:=w4 ((a:Int)+1+c / 60 % ((n:Int) - 1)) (b:=(n:Int)) (by omega);omega
 have ab:a≠b:=λz=>by
  have:=Pd (x:=a) (y:=c / 60 % ((n:Int) - 1)) (n:=n) (by omega) (by omega) (wc _ (by omega)) (w4 _ (by omega));omega
 have a0:∀(x y z:D),cZ [x,y,z] 0=some x:=λ_ _ _=>rfl;have a1:∀(x y z:D),cZ [x,y,z] 1=some y:=λ_ _ _=>rfl;have a2:∀(x y z:D),cZ [x,y,z] 2=some z:=λ_ _ _=>rfl;rcases h5 with q|q|q|q|q|q
 ·exact⟨.feed a,la,by simp[e_,fO,Sw.d,q,ea,hn,a0]⟩
 ·exact⟨.earth a,la,by simp[e_,fO,Sw.d,q,ea,hn,a1]⟩
 ·exact⟨.earth a,la,by simp[e_,fO,Sw.d,q,ea,hn,a2]⟩
 ·exact⟨.breaker a b,⟨la,lb,ab⟩,by simp[e_,fO,Sw.d,q,ea,eb,hn,hn1,a0]⟩
 ·exact⟨.splitter a b,⟨la,lb,ab⟩,by simp[e_,fO,Sw.d,q,ea,eb,hn,hn1,a1]⟩
 ·exact⟨.breaker a b,⟨la,lb,ab⟩,by simp[e_,fO,Sw.d,q,ea,eb,hn,hn1,a2]⟩
theorem Pj(ns:List Int)(h:MH):∃n sws,(2<=n/\cD n sws)/\jN [.arg ns] h=.ok (yd n sws) h:=by
 obtain⟨d0,e0⟩:=GR ns 0 (by omega) h;obtain⟨d1,e1⟩:=GR ns 1 (by omega) h;obtain⟨n,hn,hb⟩:∃n:Nat,(2<=n/\n<=10)/\(n:Int)=2+(d0:Int) % 4:=⟨2+d0 % 4,by omega,by omega⟩;let M:ME:=(aV e_ (ag (ae aU (bB fQ (ag (jC (aa 2) (c6 (aa 0)) (c6 (mC (.int 63))) (c6 (mC (.int 12)))) af)) (aV fi (ag (aa 2) (ag (ae aU (mC (.int 20)) (aa 0)) af)))) (ag (aa 1) af)));have one:∀k:Fin 13,∃s:Sw,s.ok n/\M [some (.int (0+(k.val:Int))),some (.int n),some (.arg ns)] h=.ok s.d h:=λk=>by
  obtain⟨dk,ek⟩:=GR ns (20+k.val) (by omega) h;obtain⟨s,ok,es⟩:=Oq ((BV ns (some (k.val:Int)) (some 63) 12).sum+dk) n hn.1 hn.2 h;refine⟨s,ok,?_⟩;simp at ek;simp[M,ek,es]
 have hm:d1 % 13<=12:=by omega
 have em:(d1:Int) % 13=((d1 % 13:Nat):Int):=by omega
 let f:Nat->Sw:=λk=>if q:k<13 then(one ⟨k,q⟩).choose else .feed 0
 have comp:compLoop (ay 0) aS M [none,some (.int n),some (.arg ns)] (rng 0 (d1 % 13)) h=.ok (((List.range (d1 % 13)).map f).map Sw.d) h:=by
  unfold rng;rw[List.map_map];refine i3 (λ(k:Nat)=>D.int (0+(k:Int))) (λk=>[some (.int (0+(k:Int))),some (.int n),some (.arg ns)]) (λk=>(f k).d) (List.range (d1 % 13)) (λk hk=>⟨by simp,by simp,?_⟩);have hk':k<13:=by have:=zj.mp hk;omega
  simp only[f,dif_pos hk'];exact(one ⟨k,hk'⟩).choose_spec.2
 refine⟨n,(List.range (d1 % 13)).map f,⟨hn.1,by omega,hn.2,by simp;omega,λs hs=> ?_⟩,?_⟩
 ·obtain⟨k,hk,rfl⟩:=qv.mp hs
  have hk':k<13:=by have:=zj.mp hk;omega
  simp only[f,dif_pos hk'];exact(one ⟨k,hk'⟩).choose_spec.1
 ·have eb:tw=(aj (aw (ae aU (mC (.int 2)) (ae aT (aV fi (ag (aa 0) (ag (mC (.int 0)) af))) (mC (.int 4)))) (ay 1))
   (aj (aw (ae aT (aV fi (ag (aa 0) (ag (mC (.int 1)) af))) (mC (.int 13))) (ay 2))
   (au (a_ (ag (aa 1) (ag (bw (cC 1 [1,0] (eP (ag (aa 2) af)) (ay 0) aS M)) af)))))):=rfl
  have hb3:((d1:Int) % 13).natAbs<4611686018427387904:=by omega
  have et:((d1:Int) % 13).toNat=d1 % 13:=by omega
  have hl:d1 % 13<16777216:=by omega
  clear_value M;simp at e0 e1;simp[-List.map_map,jN,eb,e0,e1,hb3,et,hl,<-hb,comp,yd]
theorem OS(h:dQ w=true):32∉w.cps.toList:=λm=>by
 unfold dQ at h;simp only[qu]at h;have:=List.all_eq_true.mp h.2 32 m;simp[i7]at this
theorem uG(h:dQ w=true):1<=w.length/\w.length<=9/\10∉w.cps.toList/\32∉w.cps.toList:=by
 refine⟨?_,?_,?_,OS h⟩
 ·unfold dQ at h
  simp only[qu,decide_eq_true_eq]at h;exact h.1.1.1
 ·unfold dQ at h
  simp only[qu,decide_eq_true_eq]at h;exact h.1.1.2
 ·intro m
  unfold dQ at h;simp only[qu]at h;have:=List.all_eq_true.mp h.2 10 m;simp[i7]at this
theorem Jt:∀(cs:List Nat) (v:Nat),(∀c∈cs,48<=c/\c<=57)->cs.foldl (λacc c=>acc*10+(c - 48)) v<(v+1)*10^cs.length
 | [],v,_=>by simp
 | c::cs,v,h=>by
  have ih:=Jt cs (v*10+(c - 48)) λd m=>h d (q9 _ m);have hc:=h c (qf ..);rw[List.foldl_cons,qz,Nat.pow_succ];refine qh ih ?_;rw[show(v+1)*(10^cs.length*10)=((v+1)*10)*10^cs.length by rw[Nat.mul_comm (10^cs.length) 10,Nat.mul_assoc]];exact Nat.mul_le_mul_right _ (by omega)
theorem uc(h0:0<=n)(h1:n<1000000000):dQ (br n)=true/\de (br n)=n:=by
 have hr:=W.KIN.num_reads (n:=n) h0 (by omega);have hl:=PyProof.Rows.toString_length_le h0 (k:=9) (by decide) (by omega);obtain⟨m,rfl⟩:=Int.eq_ofNat_of_zero_le h0;have hsg:=W.KIN.signs_num m;have hL:∀k,0<k->(m:Int)<10^k->(br (m:Int)).length<=k:=λk hk h=>PyProof.Rows.toString_length_le h0 hk h;have hd:PySem.NumText.AllDigits (br (m:Int)).cps.toList:=by
  intro c hc;unfold br at hc;rw[hsg]at hc;obtain⟨ch,hch,e⟩:=qv.mp hc;have r:=Nat.isDigit_of_mem_toDigits (b:=10) (by decide) (by decide) hch;simp only[Char.isDigit,qu,decide_eq_true_eq]at r;have r1:48<=ch.toNat:=r.1;have r2:ch.toNat<=57:=r.2;omega
 have hne:(br (m:Int)).cps.toList≠[]:=by
  unfold br;rw[hsg];intro z;exact Nat.toDigits_ne_nil (g7.mp z)
 have hll:(br (m:Int)).cps.toList.length=(br (m:Int)).length:=by simp[Str.length]
 have hv:=intText_digits hd hne (by unfold br;omega);have hval:m=PySem.NumText.digitsVal (br (m:Int)).cps.toList:=by
  unfold br at hv;rw[hr]at hv;injection hv with hv;exact Int.ofNat.inj hv
 refine⟨?_,?_⟩
 ·unfold dQ
  have a1:1<=(br (m:Int)).length:=by
   rw[<-hll];exact List.length_pos_iff.mpr hne
  have a2:(br (m:Int)).length<=9:=hl;have a3:(br (m:Int)).cps.toList.all i7=true:=List.all_eq_true.mpr λc hc=>by
   have:=hd c hc;unfold i7;exact decide_eq_true this
  rw[decide_eq_true a1,decide_eq_true a2,a3];simp only[kq,gk,Bool.not_eq_true',Bool.and_eq_false_iff,decide_eq_false_iff_not];apply Decidable.byContradiction;intro q;have q1:(br (m:Int)).cps.toList[0]?=some 48:=Decidable.byContradiction λz=>q (.inl z);have q2:1<(br (m:Int)).length:=Decidable.byContradiction λz=>q (.inr z);cases e:(br (m:Int)).cps.toList with
  | nil=>exact hne e
  | cons c r=>
   rw[e]at q1 hval hll hd;have:c=48:=by simpa using q1
   subst this;have hb:=Jt r 0 λd md=>hd d (q9 _ md);have hv2:m=r.foldl (λacc c=>acc*10+(c - 48)) 0:=by rw[hval];rfl
   rw[<-hv2]at hb;simp only[qz]at hll;have:=hL r.length (by omega) (by
    have h3:m<10^r.length:=by simpa using hb
    have h4:((10^r.length:Nat):Int)=10^r.length:=by simp
    omega)
   omega
 ·unfold de br
  rw[hr];rfl
theorem J1(hk:k.length<=8)(k32:32∉k.cps.toList)(hb:∀b∈bs,0<=b/\b<1000000000)(hl:bs.length<=12):(cI (k,bs)).length<=200/\Txt.split (cI (k,bs)) ⟨#[32]⟩=k::bs.map W:=by
 have hw:∀p∈k::bs.map W,32∉p.cps.toList/\p.length<=9:=by
  intro p hp;rcases qr.mp hp with rfl|hp
  ·exact⟨k32,by omega⟩
  ·obtain⟨b,hb',rfl⟩:=qv.mp hp
   have:=uG (uc (hb b hb').1 (hb b hb').2).1;exact⟨this.2.2.2,this.2.1⟩
 refine⟨?_,JJ (λz=>nomatch z) λp hp=>(hw p hp).1⟩;have:=wQ (c:=32) (k::bs.map W) (λz=>nomatch z);show(Str.join ⟨#[32]⟩ (k::bs.map W)).length<=200;have h2:=D7 (l:=(k::bs.map W).map (·.length)) (m:=9) (by
  intro x hx;obtain⟨y,hy,rfl⟩:=qv.mp hx;exact(hw y hy).2)
 simp only[qi,qz]at this h2;omega
theorem CA:∀(N:Nat) (l:List Nat),l.Nodup->(∀x∈l,x<N)->l.length<=N
 | 0,[],_,_=>qb _
 | 0,x::l,_,h=>absurd (h x (qf ..)) (Nat.not_lt_zero _)
 | N+1,l,nd,h=>by
  by_cases m:N∈l
  ·have h1:=CA N (l.erase N) (nd.erase N) λx hx=>by
    have:=nd.mem_erase_iff.mp hx;have:=h x this.2;omega
   have h2:=List.length_erase_of_mem m;omega
  ·have:=CA N l nd λx hx=>by
    have:=h x hx;have:x≠N:=λz=>m (z▸hx);omega
   omega
theorem GF(x:Nat):(bR x).Pairwise (·<·):=List.Pairwise.filter _ List.pairwise_lt_range
theorem Jy(x:Nat):(bR x).Nodup:=(GF x).imp λh=>qo h
theorem qZ{l1 l2:List Nat}(p1:l1.Pairwise (·<·))(p2:l2.Pairwise (·<·))(h:∀y,y∈l1↔y∈l2):l1=l2:=by
 have nd:∀{l:List Nat},l.Pairwise (·<·)->l.Nodup:=λp=>p.imp λh=>qo h;exact List.Perm.eq_of_pairwise (le:=λa b:Nat=>a<b) (λa b _ _ h1 h2=>by omega) p1 p2 ((List.perm_ext_iff_of_nodup (nd p1) (nd p2)).mpr h)
theorem pj(hs:st<2^L):∀k,k∈bR st↔st.testBit k=true/\k<L:=λk=>by
 rw[uw];refine⟨λq=>⟨q,?_⟩,λq=>q.1⟩;have:=Nat.ge_two_pow_of_testBit q;exact(Nat.pow_lt_pow_iff_right (show 1<2 by decide)).mp (zm this hs)
theorem C0(hs:st<2^L):(bR st).length<=L:=CA L _ (Jy st) λk m=>((pj hs k).mp m).2
noncomputable abbrev iL(l:List Nat):List D:=l.map λk:Nat=>D.int k
theorem rV(l:List Nat):(D.lst (iL l)).dat=true:=by
 refine yu (n:=1) (Fe (n:=0) λd hd=> ?_) (by omega);obtain⟨k,_,rfl⟩:=qv.mp hd;exact⟨rfl,qb _⟩
theorem PV(l:List Nat)(h:MH):a9 (.lst (iL l)) (.lst []) h=.ok (.bl (decide (l=[]))) h:=by
 have h1:=rV l;have h2:(D.lst []).dat=true:=by simp[D.dat,D.py,D.pys,D.deep,D.deeps]
 have h3:(D.lst (iL l)).eq (.lst [])=decide (l=[]):=by
  cases l<;>simp[D.eq,D.eqs]
 generalize iL l=T at*;simp[h1,h2,h3]
noncomputable def jT(x:Nat):Str:=if bR x=[]then "none"else Txt.join (" ":Str) ((bR x).map λk:Nat=>W k)
theorem nF(l:List Nat)(hl:∀k∈l,k<=12)(hn:l.length<=12):((l.map λk:Nat=>W k).map (·.length)).sum+(l.map λk:Nat=>W k).length*(" ":Str).length<=16777216:=by
 have l1:(" ":Str).length=1:=by decide+kernel
 have:=D7 (l:=(l.map λk:Nat=>W k).map (·.length)) (m:=2) (λx m=>by
  obtain⟨s,ms,rfl⟩:=qv.mp m;obtain⟨k,mk,rfl⟩:=qv.mp ms;exact(gu (n:=k) (by omega) (by have:=hl k mk;omega)).1)
 simp only[qi]at this ⊢;rw[l1];omega
theorem P4(l:List Nat)(hl:∀k∈l,k<=12)(h:MH):compLoop (ay 0) aS (bB dv (ag (aa 0) af)) [none] (iL l) h=.ok ((l.map λk:Nat=>W k).map D.str) h:=by
 rw[List.map_map];refine i3 (g:=ay 0) (t:=aS) (h:=h) (m:=bB dv (ag (aa 0) af)) (ρ0:=[none]) (λk:Nat=>D.int k) (λk=>[some (.int (k:Nat))]) (λk=>D.str (W (k:Nat))) l λk m=>⟨by simp,by simp,?_⟩;have lg:(k:Nat).log2<1920:=zm (wq k) (by have:=hl k m;omega);simp[lg]
theorem PL:Str.ofString "bars "=Str.ofString "bars"++⟨#[32]⟩:=by decide+kernel
theorem Cr(k:Str)(a:Int):k++⟨#[32]⟩++br a=cI (k,[a]):=rfl
section
variable {n : Nat} {sws : List Sw} (ok : cD n sws)
include ok
theorem N5(st:Nat):eA st sws<2^n:=by
 refine IZ ok st (Ds _ _ (λp m=> ?_) (zr n));obtain⟨q,mq,rfl⟩:=qv.mp m;have wok:=ok.2.2.2 q.1 (Kk (zv.mp mq).1);cases e:q.1 with
 | feed b=>
  rw[e]at wok;exact ze (by decide) wok
 | _=>exact zr n
theorem NX(st:Nat):iR st sws<2^n:=by
 refine IZ ok st (Ds _ _ (λp m=> ?_) (zr n));obtain⟨q,mq,rfl⟩:=qv.mp m;have wok:=ok.2.2.2 q.1 (Kk (zv.mp mq).1);cases e:q.1 with
 | earth b=>
  rw[e]at wok;exact ze (by decide) wok
 | _=>exact zr n
end
theorem mv(h:x<2^m)(hm:m<=12):x<2^12:=qh h (wy (by decide) hm)
theorem CT(o:h[d]?=some (bF y b))(em:m ρ h=.ok (.ref d) h)(el:l ρ h=.ok [.str row] h):aF jo "say" m l ρ h=cy [.ref d,.str row] h:=uo o (tab:=jo) (f:="say") (z:=cy) rfl (by decide+kernel) em el
theorem NO(hs:st<2^L):(List.range L).filter (λk=>st.testBit k)=bR st:=qZ (List.pairwise_lt_range.filter _) (GF _) λy=>by
 rw[zv,zj,uw];exact⟨λh=>h.2,λh=>⟨((pj hs y).mp (uw.mpr h)).2,h⟩⟩
theorem HF(x:Nat):gT (bR x)=x:=zp λi=>by
 rw[Jf (Jy x)];by_cases q:i∈bR x
 ·rw[decide_eq_true q,uw.mp q]
 ·rw[decide_eq_false q]
  cases z:x.testBit i with
  | false=>rfl
  | true=>exact absurd (uw.mpr z) q
theorem Jw:∀{ks:List Nat},ks.Pairwise (·<·)->∀d∈bZ (iL ks) (iL ks.tail),∃a b:Nat,d=.tup [.int (a:Nat),.int (b:Nat)]/\a<b
 | [],_,d,m=>by simp[bZ]at m
 | [a],_,d,m=>by simp[bZ]at m
 | a::b::r,pw,d,m=>by
  have e:bZ (iL (a::b::r)) (iL (a::b::r).tail)=.tup [.int (a:Nat),.int (b:Nat)]::bZ (iL (b::r)) (iL (b::r).tail):=rfl;rw[e]at m;rcases qr.mp m with rfl|m
  ·exact⟨a,b,rfl,(List.pairwise_cons.mp pw).1 b (by simp)⟩
  ·exact Jw (List.pairwise_cons.mp pw).2 d m
theorem De(xs ys:List D):(bZ xs ys).length<=xs.length:=by
 induction xs generalizing ys with
 | nil=>simp[bZ]
 | cons x xs ih=>
  cases ys with
  | nil=>simp[bZ]
  | cons y ys=>simp[bZ];exact ih ys
theorem LF(n:Nat):mZ (List.replicate n (.bl false))=some (List.replicate n false):=by
 induction n with
 | zero=>rfl
 | succ n ih=>simp[zt,mZ,ih]
theorem Pb(hn:n<=10)(pw:ks.Pairwise (·<·))(ne:ks≠[])(lt:∀k∈ks,k<n)(h:MH):jF [.lst ((ks.map λk:Nat=>W k).map D.str),.int (n:Nat)] h=.ok (.int (gT ks:Nat)) h:=by
 have nd:ks.Nodup:=pw.imp λh=>qo h;have len:ks.length<=n:=CA n ks nd lt;have wn:∀k∈ks,dQ (W (k:Nat))=true/\de (W (k:Nat))=(k:Int):=λk m=>uc (by omega) (by have:=lt k m;omega);have nt:=EO (ks.map λk:Nat=>W k) h (λw m=>by
  obtain⟨k,mk,rfl⟩:=qv.mp m;have:=(uG (wn k mk).1).2.1;omega) (by rw[qi];omega)
 rw[if_pos (by
  rw[List.all_eq_true];intro w m;obtain⟨k,mk,rfl⟩:=qv.mp m;exact(wn k mk).1)]at nt
 have e1:((ks.map λk:Nat=>W k).map de).map D.int=iL ks:=by
  rw[List.map_map,List.map_map];exact List.map_congr_left λk m=>by
   show D.int (de (W k))=_;rw[(wn k m).2]
 rw[e1]at nt;have il:(iL ks).length=ks.length:=qi _;have ine:¬iL ks=[]:=λz=>ne (g7.mp z);have ct:cut (iL ks) (some 1) none=iL ks.tail:=by
  cases ks with
  | nil=>exact absurd rfl ne
  | cons a r=>
   have:(iL r).take r.length=iL r:=wr (by rw[qi];exact qb _);simp[cut,bS];exact this
 have zc:compLoop (dO [0,1]) aS (ae je (aa 0) (aa 1)) [none,none] (bZ (iL ks) (iL ks.tail)) h=.ok (List.replicate (bZ (iL ks) (iL ks.tail)).length (.bl false)) h:=by
  have:=K6 (g:=dO [0,1]) (t:=aS) (m:=ae je (aa 0) (aa 1)) (ρ0:=[none,none]) (h:=h) (λd=>match d with|.tup [a,b]=>[some a,some b]|_=>[]) (λ_=>.bl false) (bZ (iL ks) (iL ks.tail)) (λd m=>by
   obtain⟨a,b,rfl,ab⟩:=Jw pw d m;have:¬((b:Int)<=(a:Int)):=by omega
   exact⟨by simp,by simp,by simp[this]⟩)
  rw[this];congr 1;rw[List.map_const']
 have zl:=De (iL ks) (iL ks.tail);have nb:=LF (bZ (iL ks) (iL ks.tail)).length;have na:(List.replicate (bZ (iL ks) (iL ks.tail)).length false).any id=false:=by
  rw[Bool.eq_false_iff];intro z;obtain⟨x,m,e⟩:=km.mp z;rw[List.eq_of_mem_replicate m]at e;cases e
 obtain⟨l,hl,el⟩:∃l:Nat,l<n/\cZ (iL ks) (-1)=some (.int (l:Nat)):=by
  have kl:0<ks.length:=List.length_pos_iff.mpr ne;refine⟨ks[ks.length - 1],lt _ (wp _),?_⟩;have e:g_ (iL ks).length (-1)=some (ks.length - 1):=by
   rw[il];unfold g_;rw[if_neg (by omega),if_pos (by omega)];congr 1;omega
  unfold cZ;rw[e];show(iL ks)[ks.length - 1]?=_;rw[zb,qt (by omega)];rfl
 have sc:compLoop (ay 0) aS (ae bp (mC (.int 1)) (aa 0)) [none] (iL ks) h=.ok ((ks.map λk:Nat=>(2:Int)^k).map D.int) h:=by
  rw[List.map_map];refine i3 (g:=ay 0) (t:=aS) (h:=h) (m:=ae bp (mC (.int 1)) (aa 0)) (ρ0:=[none]) (λk:Nat=>D.int k) (λk=>[some (.int (k:Nat))]) (λk=>D.int ((2:Int)^k)) ks λk m=>⟨by simp,by simp,?_⟩;have o1:=gK (show k<=100 by have:=lt k m;omega);simp[o1]
 have ss:=HL ks;refine eZ (np:=2) (nn:=3) (b:=jx) (ds:=[.lst ((ks.map λk:Nat=>W k).map D.str),.int (n:Nat)]) rfl ?_ (qb _);show jx [some (.lst ((ks.map λk:Nat=>W k).map D.str)),some (.int (n:Nat)),none] h=_;have ii:=HM (ks.map λk:Nat=>(2:Int)^k);have lg:(ks.map λk:Nat=>(2:Int)^k).length<=10:=by rw[qi];omega
 generalize(ks.map λk:Nat=>W k).map D.str=T at*;generalize iL ks.tail=K2 at*;generalize iL ks=K at*;generalize ks.map (λk:Nat=>(2:Int)^k)=P at*;unfold jx;refine(cc (ρ':=[some (.lst T),some (.int (n:Nat)),some (.lst K)]) (h':=h) (by simp[nt])).trans ?_;have lc:cC 2 [] (lF (ag (aa 2) (ag (fg (aa 2) (c6 (mC (.int 1))) ee) af))) (dO [0,1]) aS (ae je (aa 0) (aa 1)) [some (.lst T),some (.int (n:Nat)),some (.lst K)] h=.ok (List.replicate (bZ K K2).length (.bl false)) h:=by
  simp[-ae, -je,caps,ct,zc,show(bZ K K2).length<16777216 by omega]
 refine(cc (ρ':=[some (.lst T),some (.int (n:Nat)),some (.lst K)]) (h':=h) ?_).trans ?_
 ·simp[-i6, -lF, -ae, -je,lc,ine,nb,na]
 have ng:(h7 jD (mC (.int 1))) [some (.lst T),some (.int (n:Nat)),some (.lst K)] h=.ok (.int (-1)) h:=by simp
 have ix:aI (.lst K) (.int (-1)) h=.ok (.int (l:Nat)) h:=by simp[el]
 have ge:je (.int (l:Nat)) (.int (n:Nat)) h=.ok (.bl false) h:=by
  have:¬((n:Int)<=(l:Int)):=by omega
  simp[this]
 refine(cc (ρ':=[some (.lst T),some (.int (n:Nat)),some (.lst K)]) (h':=h) (by simp[-h7, -aI, -je,ng,ix,ge])).trans ?_;have lc2:cC 1 [] (cE (aa 2)) (ay 0) aS (ae bp (mC (.int 1)) (aa 0)) [some (.lst T),some (.int (n:Nat)),some (.lst K)] h=.ok (P.map D.int) h:=by
  simp[-ae, -bp,caps,sc,show K.length<16777216 by omega]
 simp[-i6, -ae, -bp,lc2,ii,ss]
theorem Gx:¬(Str.ofString "earthed"=Str.ofString "live")/\¬(Str.ofString "locked"=Str.ofString "live")/\¬(Str.ofString "locked"=Str.ofString "earthed")/\¬(Str.ofString "shut"=Str.ofString "live")/\¬(Str.ofString "shut"=Str.ofString "earthed")/\¬(Str.ofString "shut"=Str.ofString "locked"):=by decide+kernel
theorem C7(hl:ds.length=np)(e:b (ds.map some++List.replicate (nn - ds.length) none) h=.exc c h):az np nn b ds h=.exc c h:=by
 unfold az;rw[if_pos hl,e];exact if_pos (qb _)
noncomputable abbrev nB(x:Nat):List D:=(bR x).map λk:Nat=>D.int k
section
variable {h : MH} {d p r : Nat} {b : Bd}
theorem CO(D0:Dk h d p r b)(x1:Option D):ax eF "board" (aa 0) [some (.ref d),x1] h=.ok (.ref p) h:=by
 have o:=D0.o;unfold bF at o;simp[o]
theorem nK(D0:Dk h d p r b)(x1:Option D):ax c5 "yard" (aa 0) [some (.ref d),x1] h=.ok (yd b.n b.sws) h:=by
 have o:=D0.o;unfold bF at o;simp[o]
theorem MZ(D0:Dk h d p r b)(hst:b.st<2^12)(ej:c_ [.lst (nB b.st)] h=.ok (.str x) h):cy [.ref d,.str "shut"] h=.ok (.str x) h:=by
 refine Ef Oy D0.o rfl ?_;have ni:=zD b.st hst h;obtain⟨_,_,_,s1,s2,s3⟩:=Gx;have ms:=iH D0.a (tab:=iZ) (f:="standing") (z:=fC) (m:=ax eF "board" (aa 0)) (l:=af) (ρ:=[some (.ref d),some (.str ("shut":Str))]) (ds:=[]) rfl (by decide+kernel) (CO D0 _) (by simp);have ms:=ms.trans (wM D0.a);refine eZ (np:=2) (nn:=2) (b:=c9) (ds:=[.ref d,.str "shut"]) rfl ?_ (qb _);show c9 [some (.ref d),some (.str ("shut":Str))] h=.rt (.str x) h;unfold nB at ej;generalize(bR b.st).map (λk:Nat=>D.int k)=T at*;simp[-ax, -aF,c9,s1,s2,s3,ms,ni,ej]
theorem N0(D0:Dk h d p r b)(hst:b.lk<2^12)(ej:c_ [.lst (nB b.lk)] h=.ok (.str x) h):cy [.ref d,.str "locked"] h=.ok (.str x) h:=by
 refine Ef Ox D0.o rfl ?_;have ni:=zD b.lk hst h;obtain⟨_,s1,s2,_⟩:=Gx;have ms:=iH D0.a (tab:=zS) (f:="locked") (z:=iF) (m:=ax eF "board" (aa 0)) (l:=af) (ρ:=[some (.ref d),some (.str ("locked":Str))]) (ds:=[]) rfl (by decide+kernel) (CO D0 _) (by simp);have ms:=ms.trans (Ky D0.a);refine eZ (np:=2) (nn:=2) (b:=c9) (ds:=[.ref d,.str "locked"]) rfl ?_ (qb _);show c9 [some (.ref d),some (.str ("locked":Str))] h=.rt (.str x) h;unfold nB at ej;generalize(bR b.lk).map (λk:Nat=>D.int k)=T at*;simp[-ax, -aF,c9,s1,s2,ms,ni,ej]
theorem PC(D0:Dk h d p r b)(hst:eA b.st b.sws<2^12)(ej:c_ [.lst (nB (eA b.st b.sws))] h=.ok (.str x) h):cy [.ref d,.str "live"] h=.ok (.str x) h:=by
 refine Ef Pm D0.o rfl ?_;have ni:=zD _ hst h;have lv:=Jg D0.a.ok b.st h D0.a.hb;have fy:=nK D0 (some (.str ("live":Str)));have ms:=iH D0.a (tab:=iZ) (f:="standing") (z:=fC) (m:=ax eF "board" (aa 0)) (l:=af) (ρ:=[some (.ref d),some (.str ("live":Str))]) (ds:=[]) rfl (by decide+kernel) (CO D0 _) (by simp);have ms:=ms.trans (wM D0.a);refine eZ (np:=2) (nn:=2) (b:=c9) (ds:=[.ref d,.str "live"]) rfl ?_ (qb _);show c9 [some (.ref d),some (.str ("live":Str))] h=.rt (.str x) h;unfold nB at ej;generalize(bR (eA b.st b.sws)).map (λk:Nat=>D.int k)=T at*;generalize eA b.st b.sws=v at*;generalize yd b.n b.sws=Y at*;simp[-ax, -aF,c9,fy,ms,lv,ni,ej]
theorem LO(D0:Dk h d p r b)(hst:iR b.st b.sws<2^12)(ej:c_ [.lst (nB (iR b.st b.sws))] h=.ok (.str x) h):cy [.ref d,.str "earthed"] h=.ok (.str x) h:=by
 refine Ef MW D0.o rfl ?_;have ni:=zD _ hst h;have lv:=HH D0.a.ok b.st h D0.a.hb;obtain⟨s1,_⟩:=Gx;have fy:=nK D0 (some (.str ("earthed":Str)));have ms:=iH D0.a (tab:=iZ) (f:="standing") (z:=fC) (m:=ax eF "board" (aa 0)) (l:=af) (ρ:=[some (.ref d),some (.str ("earthed":Str))]) (ds:=[]) rfl (by decide+kernel) (CO D0 _) (by simp);have ms:=ms.trans (wM D0.a);refine eZ (np:=2) (nn:=2) (b:=c9) (ds:=[.ref d,.str "earthed"]) rfl ?_ (qb _);show c9 [some (.ref d),some (.str ("earthed":Str))] h=.rt (.str x) h;unfold nB at ej;generalize(bR (iR b.st b.sws)).map (λk:Nat=>D.int k)=T at*;generalize iR b.st b.sws=v at*;generalize yd b.n b.sws=Y at*;simp[-ax, -aF,c9,s1,fy,ms,lv,ni,ej]
end
structure DeedW (k:Str):Prop where
 ln:k.length<=8
 s32:32∉k.cps.toList
 s10:10∉k.cps.toList
 b:¬k=Str.ofString "bars"
 a1:¬Str.ofString "feed"=k
 a2:¬Str.ofString "earth"=k
 a3:¬Str.ofString "breaker"=k
 a4:¬Str.ofString "splitter"=k
 i4:Str.ofString "turn"=k\/Str.ofString "lock"=k\/Str.ofString "unlock"=k\/Str.ofString "back"=k
theorem GY:DeedW ("turn":Str):=⟨by decide+kernel,by decide+kernel,by decide+kernel,by decide+kernel,by decide+kernel,by decide+kernel,by decide+kernel,by decide+kernel,.inl rfl⟩
theorem FU:DeedW ("lock":Str):=⟨by decide+kernel,by decide+kernel,by decide+kernel,by decide+kernel,by decide+kernel,by decide+kernel,by decide+kernel,by decide+kernel,.inr (.inl rfl)⟩
theorem F0:DeedW ("unlock":Str):=⟨by decide+kernel,by decide+kernel,by decide+kernel,by decide+kernel,by decide+kernel,by decide+kernel,by decide+kernel,by decide+kernel,.inr (.inr (.inl rfl))⟩
theorem GS:DeedW ("back":Str):=⟨by decide+kernel,by decide+kernel,by decide+kernel,by decide+kernel,by decide+kernel,by decide+kernel,by decide+kernel,by decide+kernel,.inr (.inr (.inr rfl))⟩
noncomputable def eX(w:Str)(k:Nat):Str:=cI (w,[(k:Int)])
theorem Qa{k:Nat}(hk:k<1000000000)(h:MH):jU [.lst [.str (W k)]] h=.ok (.int (k:Nat)) h:=by
 obtain⟨n1,n2⟩:=uc (n:=k) (by omega) (by omega);have lw:(W (k:Int)).length<=9:=(uG n1).2.1;have nt:=EO [W k] h (by simp;omega) (by simp);have nt:fP [.lst [.str (W k)]] h=.ok (.lst [.int (k:Nat)]) h:=by
  simp[n1,n2]at nt;exact nt
 simp[jU,sF,nt]
theorem HV(u:DeedW w)(o:h[d]?=some (bF y (.ref p)))(hy:lu y=false)(hk:k<1000000000):cH [some (.ref d),some (.str (eX w k)),none,none,none] h=(eO [.ref d,.str w,.int (k:Nat)] h).toS λx h1=>.rt x h1:=by
 obtain⟨f1,f3⟩:=J1 (k:=w) (bs:=[(k:Int)]) u.ln u.s32 (by simp;omega) (by simp);have hd:=Cu (row:=eX w k) (k:=w) (ws:=[(k:Int)].map W) f3 (by have:(eX w k).length<=200:=f1;omega) (by simp) d;have on:=Qa hk h;obtain⟨_,_,_,b,a1,a2,a3,a4,i4⟩:=u;unfold cH;rw[hd,DH o hy b];refine(cc (ρ':=[some (.ref d),some (.str (eX w k)),some (.lst ((w::[(k:Int)].map W).map D.str)),some (.str w),none]) (h':=h) (by simp[jM,a1,a2,a3,a4])).trans ?_;have mm:=uo o (tab:=Hq) (f:="done") (z:=eO) (m:=aa 0) (l:=ag (aa 3) (ag (aV jU (ag (fg (aa 2) (c6 (mC (.int 1))) ee) af)) af)) (ρ:=[some (.ref d),some (.str (eX w k)),some (.lst ((w::[(k:Int)].map W).map D.str)),some (.str w),none]) (ds:=[.str w,.int (k:Nat)]) rfl (by decide+kernel) (by simp) (by simp[on]);have t4:tB (ae (gD false) (aa 3) (a_ (ag (mC (.str "turn")) (ag (mC (.str "lock")) (ag (mC (.str "unlock")) (ag (mC (.str "back")) af)))))) [some (.ref d),some (.str (eX w k)),some (.lst ((w::[(k:Int)].map W).map D.str)),some (.str w),none] h=.ok true h:=by
  rcases i4 with rfl|rfl|rfl|rfl<;>simp[jM]
 simp only[aj,bh,t4,dF,if_true,au,mm];cases eO [.ref d,.str w,.int (k:Nat)] h<;>rfl
theorem Dv(u:DeedW w)(o:h[d]?=some (bF y (.ref p)))(hy:lu y=false)(hk:k<1000000000)(e:eO [.ref d,.str w,.int (k:Nat)] h=.ok x H)(hl:H.length<=h.length):cy [.ref d,.str (eX w k)] h=.ok x H:=
 eZ (np:=2) (nn:=5) (b:=cH) (ds:=[.ref d,.str (eX w k)]) rfl ((HV u o hy hk).trans (by rw[e];rfl)) hl
theorem Ep(u:DeedW w)(o:h[d]?=some (bF y (.ref p)))(hy:lu y=false)(hk:k<1000000000)(e:eO [.ref d,.str w,.int (k:Nat)] h=.exc c h):cy [.ref d,.str (eX w k)] h=.exc c h:=
 C7 (np:=2) (nn:=5) (b:=cH) (ds:=[.ref d,.str (eX w k)]) rfl ((HV u o hy hk).trans (by rw[e];rfl))
theorem D5(hx:x<2^12)(h:MH):c_ [.lst (nB x)] h=.ok (.str (jT x)) h:=by
 have hm:∀k∈bR x,k<=12:=λk m=>by have:=((pj hx k).mp m).2;omega
 have hl:=C0 hx;have sc:=P4 (bR x) hm h;have ws:=nF (bR x) hm hl;have l1:(iL (bR x)).length=(bR x).length:=qi _;have sd:=F_ ((bR x).map λk:Nat=>W k);unfold nB jT;show c_ [.lst (iL (bR x))] h=_;by_cases q:bR x=[]
 ·rw[q]
  simp[c_,lq]
 ·rw[if_neg q]
  have ne:¬(iL (bR x))=[]:=λz=>q (g7.mp z);generalize(bR x).map (λk:Nat=>W k)=U at*;generalize iL (bR x)=T at*;simp[-List.map_map,c_,lq,ne,sc,sd,ws,show T.length<16777216 by omega]
noncomputable def cu:List String:=w_Xm.map (·.1)
noncomputable def kM:List String:=["NoSwitch","Loaded","Shorted","Locked","Held","NoLock","NotOpen","NotLocked","NotEarthed","NotDead","NoPermit","NoRow","NoMeasure","NoBar","Same"]
theorem sZ:∀c∈cu,∀n∈kM,fN.lookup (c,true,n)=some (decide (c=n)):=by decide+kernel
theorem Kn:∀c∈cu,w_Xm.lookup c=some true:=by decide+kernel
noncomputable def i5(c:String):List D:=kM.map λn=>.bl (decide (c=n))
theorem sr:∀c∈cu,((kM.map λn=>if decide (c=n)then(1:Int)else 0)).sum=1:=by decide+kernel
theorem JZ(hc:c∈cu)(h:MH):jK [.exc c] h=.ok (.lst (i5 c)) h:=by
 have x:=sZ c hc;simp only[kM,qy]at x;obtain⟨x1,x2,x3,x4,x5,x6,x7,x8,x9,x10,x11,x12,x13,x14,x15,_⟩:=x;simp[jK,tN,x1,x2,x3,x4,x5,x6,x7,x8,x9,x10,x11,x12,x13,x14,x15,i5,kM]
theorem ye(c:String)(h:MH):a9 (.lst (i5 c)) (.lst (i5 c)) h=.ok (.bl true) h:=by
 have hd:(D.lst (i5 c)).dat=true:=yu (n:=1) (Fe (n:=0) λd md=>by
  obtain⟨n,_,rfl⟩:=qv.mp md;simp[D.py,D.deep]) (by omega)
 have he:=sk hd;generalize i5 c=T at*;simp[hd,he]
section
variable {h : MH} {d : Nat} {y p : D} (o : h[d]? = some (bF y p)) (row : Str)
include o
theorem N6(hl:H.length<=h.length)(e:cy [.ref d,.str row] h=.ok (.str a) H):jB [.ref d,.str row] h=.ok (.str a) H:=by
 have m1:=CT o (m:=aa 0) (l:=fq (ag (aa 1) af)) (ρ:=[some (.ref d),some (.str row),some .non,some .non,none]) (row:=row) (by simp) (by simp);have m1:=m1.trans e;refine eZ (np:=2) (nn:=5) (b:=gC) (ds:=[.ref d,.str row]) rfl ?_ hl;show gC [some (.ref d),some (.str row),none,none,none] h=_;simp[-aF, -fq,gC,m1]
theorem Py(hc:c∈cu)(e:cy [.ref d,.str row] h=.exc c h):jB [.ref d,.str row] h=.ok (.lst (i5 c)) h:=by
 have m1:=CT o (m:=aa 0) (l:=fq (ag (aa 1) af)) (ρ:=[some (.ref d),some (.str row),some .non,some .non,none]) (row:=row) (by simp) (by simp);have m1:=m1.trans e;have w:=Kn c hc;have k:=JZ hc h;refine eZ (np:=2) (nn:=5) (b:=gC) (ds:=[.ref d,.str row]) rfl ?_ (qb _);show gC [some (.ref d),some (.str row),none,none,none] h=_;simp[-aF, -fq,gC,m1,w,k]
end
theorem qF(hl:H.length<=h.length)(e:eG [.ref q,.str w,.int v] h=.ok (.str a) H):jH [.ref q,.str w,.int v] h=.ok (.str a) H:=by
 refine eZ (np:=3) (nn:=6) (b:=gE) (ds:=[.ref q,.str w,.int v]) rfl ?_ hl;show gE [some (.ref q),some (.str w),some (.int v),none,none,none] h=_;simp[gE,e]
theorem rS(hc:c∈cu)(e:eG [.ref q,.str w,.int v] h=.exc c h):jH [.ref q,.str w,.int v] h=.ok (.lst (i5 c)) h:=by
 have wl:=Kn c hc;have k:=JZ hc h;refine eZ (np:=3) (nn:=6) (b:=gE) (ds:=[.ref q,.str w,.int v]) rfl ?_ (qb _);show gE [some (.ref q),some (.str w),some (.int v),none,none,none] h=_;simp[gE,e,wl,k]
structure I38 (b:Bd) (m:Nat):Prop where
 ok:cD b.n b.sws
 s:b.st<2^b.sws.length
 l:b.lk<2^b.sws.length
 g:∀g∈b.gv,g.1<=b.la
 nd:(b.gv.map λg=>g.1).Nodup
 len:b.gv.length<=m
 la:b.la<=m
theorem I38.more(I:I38 b m):I38 b (m+1):=⟨I.ok,I.s,I.l,I.g,I.nd,zu I.len,zu I.la⟩
structure Eff (h H:MH) (q r:Nat) (b':Bd):Prop where
 a:At H q r b'
 len:H.length=h.length
 fr:∀j,j≠q->j≠r->H[j]?=h[j]?
noncomputable def AU(z:MF)(v:Int)(b:Bd)(m:Nat)(P:Bd->D->Prop):Prop:=
 (∃c∈cu,∀h q r,At h q r b->z [.ref q,.int v] h=.exc c h)\/
 ∃b' x,I38 b' (m+1)/\P b' x/\b'.n=b.n/\b'.sws=b.sws/\∀h q r,At h q r b->∃H,Eff h H q r b'/\z [.ref q,.int v] h=.ok x H
theorem Hs(A:At h q r b)(hg:b'.gv=b.gv)(ok:cD b'.n b'.sws):Eff h (h.set q (b'.cell r)) q r b':=⟨A.put hg ok,by rw[wb],λj j1 _=>qe (Ne.symm j1)⟩
theorem nY:"NoSwitch"∈cu/\"Locked"∈cu/\"Held"∈cu/\"Loaded"∈cu/\"Shorted"∈cu/\"NoLock"∈cu/\"NotOpen"∈cu/\"NotLocked"∈cu/\"NoPermit"∈cu/\"NotEarthed"∈cu/\"NotDead"∈cu:=by decide+kernel
theorem Ng(e:vU b k w=some c):c∈cu:=by
 obtain⟨r1,r2,r3,r4,r5,_⟩:=nY;unfold vU at e
 repeat' split at e
 all_goals first|(cases e;assumption)|(cases e;done)
theorem Qc(e:Au b k w=some c):c∈cu:=by
 obtain⟨r1,r2,r3,r4,r5,r6,r7,_⟩:=nY;unfold Au at e
 repeat' split at e
 all_goals first|(cases e;assumption)|(cases e;done)
theorem Ny(e:Ag b k=some c):c∈cu:=by
 obtain⟨r1,r2,r3,r4,r5,r6,r7,r8,_⟩:=nY;unfold Ag at e
 repeat' split at e
 all_goals first|(cases e;assumption)|(cases e;done)
theorem OC(e:wX b k=some c):c∈cu:=by
 obtain⟨r1,r2,r3,r4,r5,r6,r7,r8,r9,r10,r11⟩:=nY;unfold wX at e
 repeat' split at e
 all_goals first|(cases e;assumption)|(cases e;done)
section
variable {b : Bd} {m : Nat} (I : I38 b m)
include I
theorem Mq(v:Nat):AU cS v b m (λb' x=>x=.int (b'.st:Nat)/\v<=100):=by
 by_cases hv:v<b.sws.length
 ·have hw:b.sws[v]?=some b.sws[v]:=qt hv
  have pk:2^v<2^b.sws.length:=ze (by decide) hv;cases e:vU b v b.sws[v]with
  | some c=>exact .inl ⟨c,Ng e,λh q r A=>by rw[KY A v _ hw,e]⟩
  | none=>exact .inr ⟨{b with st:=b.st^^^2^v},_,⟨I.ok,Nat.xor_lt_two_pow I.s pk,I.l,I.g,I.nd,zu I.len,zu I.la⟩,⟨rfl,by have:=I.ok.2.2.1;omega⟩,rfl,rfl,λh q r A=>⟨_,Hs A rfl I.ok,by rw[KY A v _ hw,e]⟩⟩
 ·exact .inl ⟨"NoSwitch",nY.1,λh q r A=>NQ A v (.inr (by omega))⟩
theorem M7(v:Nat):AU dJ v b m (λ_ _=>True):=by
 by_cases hv:v<b.sws.length
 ·have hw:b.sws[v]?=some b.sws[v]:=qt hv
  have pk:2^v<2^b.sws.length:=ze (by decide) hv;cases e:Au b v b.sws[v]with
  | some c=>exact .inl ⟨c,Qc e,λh q r A=>by rw[IK A v _ hw,e]⟩
  | none=>exact .inr ⟨{b with lk:=b.lk|||2^v},_,⟨I.ok,I.s,ww I.l pk,I.g,I.nd,zu I.len,zu I.la⟩,trivial,rfl,rfl,λh q r A=>⟨_,Hs A rfl I.ok,by rw[IK A v _ hw,e]⟩⟩
 ·exact .inl ⟨"NoSwitch",nY.1,λh q r A=>N2 A v (.inr (by omega))⟩
theorem Lq(v:Nat):AU d_ v b m (λ_ _=>True):=by
 by_cases hv:v<b.sws.length
 ·cases e:Ag b v with
  | some c=>exact .inl ⟨c,Ny e,λh q r A=>by rw[JV A v hv,e]⟩
  | none=>exact .inr ⟨{b with lk:=apart b.lk v},_,⟨I.ok,I.s,zm (Nat.sub_le _ _) I.l,I.g,I.nd,zu I.len,zu I.la⟩,trivial,rfl,rfl,λh q r A=>⟨_,Hs A rfl I.ok,by rw[JV A v hv,e]⟩⟩
 ·exact .inl ⟨"NoSwitch",nY.1,λh q r A=>Nh A v (.inr (by omega))⟩
theorem LB(v:Nat):AU fu v b m (λ_ _=>True):=by
 cases e:mr b.gv v with
 | false=>exact .inl ⟨"NoPermit",nY.2.2.2.2.2.2.2.2.1,λh q r A=>P9 A v e⟩
 | true=>
  obtain⟨g,hg,eg⟩:=km.mp e;have eg:(g.1:Int)=v:=of_decide_eq_true eg;have eg:g.1=v:=by omega
  subst eg;have sub:∀x∈gone b.gv g.1,x∈b.gv:=λx hx=>(zv.mp hx).1;refine .inr ⟨{b with gv:=gone b.gv g.1},_,⟨I.ok,I.s,I.l,λx hx=>I.g x (sub x hx),?_,?_,zu I.la⟩,trivial,rfl,rfl,λh q r A=>⟨_,⟨A.putG (b':={b with gv:=gone b.gv g.1}) rfl I.ok,by rw[wb],λj _ j2=>qe (Ne.symm j2)⟩,Nn A I.nd g hg⟩⟩
  ·exact I.nd.sublist ((List.filter_sublist).map _)
  ·have:=we (λx:Nat×Nat×Nat=>decide (x.1≠g.1)) b.gv
   have:=I.len;show(gone b.gv g.1).length<=_;unfold gone;omega
theorem LQ{v:Nat}(h1:0<v)(h2:v<2^b.n)(hm:m<100000):AU di v b m (λb' x=>x=.int (b'.la:Nat)/\b'.la<=100001):=by
 have hl:=I.len;have ha:=I.la;cases e:wX b v with
 | some c=>exact .inl ⟨c,OC e,λh q r A=>by rw[Kb A I.s I.g (by omega) v h1 h2,e]⟩
 | none=>
  refine .inr ⟨pU b v,_,⟨I.ok,I.s,I.l,λx hx=> ?_,?_,?_,?_⟩,⟨rfl,?_⟩,rfl,rfl,λh q r A=>⟨_,⟨A.perm v,by rw[wb,wb],λj j1 j2=>by rw[qe (Ne.symm j2),qe (Ne.symm j1)]⟩,by rw[Kb A I.s I.g (by omega) v h1 h2,e];rfl⟩⟩
  ·show x.1<=b.la+1
   rcases zi.mp hx with hx|hx
   ·have:=I.g x hx;omega
   ·rw[zz.mp hx];exact qb _
  ·show((b.gv++[_]).map λg:Nat×Nat×Nat=>g.1).Nodup
   rw[List.map_append,List.nodup_append];refine⟨I.nd,by simp,λx mx y my=> ?_⟩;obtain⟨g,mg,rfl⟩:=qv.mp mx;have:=I.g g mg;simp at my;omega
  ·show(b.gv++[_]).length<=_
   simp;omega
  ·show b.la+1<=_
   omega
  ·show b.la+1<=_
   omega
end
theorem tf:¬(Str.ofString "lock"=Str.ofString "turn")/\¬(Str.ofString "unlock"=Str.ofString "turn")/\¬(Str.ofString "back"=Str.ofString "turn")/\¬(Str.ofString "permit"=Str.ofString "turn")/\¬(Str.ofString "unlock"=Str.ofString "lock")/\¬(Str.ofString "lock"=Str.ofString "unlock")/\¬(Str.ofString "back"=Str.ofString "lock")/\¬(Str.ofString "lock"=Str.ofString "back")/\¬(Str.ofString "back"=Str.ofString "unlock")/\¬(Str.ofString "unlock"=Str.ofString "back")/\¬(Str.ofString "turn"=Str.ofString "permit")/\¬(Str.ofString "lock"=Str.ofString "permit")/\¬(Str.ofString "unlock"=Str.ofString "permit")/\¬(Str.ofString "back"=Str.ofString "permit"):=by decide+kernel
theorem mW(ha:a<=100001):a.log2<1920:=by
 by_cases z:a=0
 ·subst z;decide
 ·exact qh ((Nat.log2_lt z).mpr (show a<2^17 by omega)) (by decide)
section
variable {h : MH} {q r : Nat} {b : Bd} (A : At h q r b) {v : Nat}
include A
theorem mn(w:Option D)(et:tab.lookup "Board"=some z)(hf:([Str.ofString "yard",Str.ofString "net",Str.ofString "shut",Str.ofString "locks",Str.ofString "given",Str.ofString "last_number"]).contains f=false):aF tab f (aa 0) (ag (aa 2) af) [some (.ref q),w,some (.int (v:Nat))] h=z [.ref q,.int (v:Nat)] h:=
 iH A (tab:=tab) (f:=f) (z:=z) (ds:=[.int (v:Nat)]) et hf (by simp) (by simp)
theorem xh(et:tab.lookup "Board"=some z)(hf:([Str.ofString "yard",Str.ofString "net",Str.ofString "shut",Str.ofString "locks",Str.ofString "given",Str.ofString "last_number"]).contains f=false)(e:z [.ref q,.int (v:Nat)] h=.exc c h)(hw:(w=Str.ofString "turn"/\tab=lK/\f=Str.ofString "turn")\/(w=Str.ofString "lock"/\tab=jS/\f=Str.ofString "lock")\/(w=Str.ofString "unlock"/\tab=j_/\f=Str.ofString "unlock")\/(w=Str.ofString "back"/\tab=jm/\f=Str.ofString "give_back")\/(w=Str.ofString "permit"/\tab=sv/\f=Str.ofString "permit")):eG [.ref q,.str w,.int (v:Nat)] h=.exc c h:=by
 have m:=(mn A (v:=v) (some (.str w)) et hf).trans e;obtain⟨n1,n2,n3,n4,n5,n6,n7,n8,n9,n10,n11,n12,n13,n14⟩:=tf;refine C7 (np:=3) (nn:=3) (b:=dc) (ds:=[.ref q,.str w,.int (v:Nat)]) rfl ?_;show dc [some (.ref q),some (.str w),some (.int (v:Nat))] h=_;rcases hw with⟨rfl,rfl,rfl⟩|⟨rfl,rfl,rfl⟩|⟨rfl,rfl,rfl⟩|⟨rfl,rfl,rfl⟩|⟨rfl,rfl,rfl⟩<;>simp[-aF,dc,m,n1,n2,n3,n4,n5,n7,n9,n12,n13,n14]
theorem EW(hl:H.length=h.length)(et:tab.lookup "Board"=some z)(hf:([Str.ofString "yard",Str.ofString "net",Str.ofString "shut",Str.ofString "locks",Str.ofString "given",Str.ofString "last_number"]).contains f=false)(e:z [.ref q,.int (v:Nat)] h=.ok x H)(hw:(w=Str.ofString "lock"/\tab=jS/\f=Str.ofString "lock")\/(w=Str.ofString "unlock"/\tab=j_/\f=Str.ofString "unlock")\/(w=Str.ofString "back"/\tab=jm/\f=Str.ofString "give_back")):eG [.ref q,.str w,.int (v:Nat)] h=.ok (.str "ok") H:=by
 have m:=(mn A (v:=v) (some (.str w)) et hf).trans e;obtain⟨n1,n2,n3,n4,n5,n6,n7,n8,n9,n10,n11,n12,n13,n14⟩:=tf;refine eZ (np:=3) (nn:=3) (b:=dc) (ds:=[.ref q,.str w,.int (v:Nat)]) rfl ?_ (zk hl);show dc [some (.ref q),some (.str w),some (.int (v:Nat))] h=_;rcases hw with⟨rfl,rfl,rfl⟩|⟨rfl,rfl,rfl⟩|⟨rfl,rfl,rfl⟩<;>simp[-aF,dc,m,n1,n2,n3,n5,n7,n9,n12,n13,n14]
theorem NI(hl:H.length=h.length)(hv:v<=100)(e:cS [.ref q,.int (v:Nat)] h=.ok (.int (s:Nat)) H):eG [.ref q,.str "turn",.int (v:Nat)] h=.ok (.str (if s.testBit v then "shut"else "open")) H:=by
 have m:=(mn A (v:=v) (tab:=lK) (f:="turn") (z:=cS) (some (.str ("turn":Str))) rfl (by decide+kernel)).trans e;have bt:=j9 s v;refine eZ (np:=3) (nn:=3) (b:=dc) (ds:=[.ref q,.str "turn",.int (v:Nat)]) rfl ?_ (zk hl);show dc [some (.ref q),some (.str ("turn":Str)),some (.int (v:Nat))] h=_;cases z:s.testBit v<;>rw[z]at bt<;>simp at bt<;>simp[-aF,dc,m,bt]
theorem OT(hl:H.length=h.length)(ha:a<=100001)(e:di [.ref q,.int (v:Nat)] h=.ok (.int (a:Nat)) H):eG [.ref q,.str "permit",.int (v:Nat)] h=.ok (.str (Str.ofString "permit "++br (a:Int))) H:=by
 have m:=(mn A (v:=v) (tab:=sv) (f:="permit") (z:=di) (some (.str ("permit":Str))) rfl (by decide+kernel)).trans e;obtain⟨n1,n2,n3,n4,_⟩:=tf;have lw:=(uG (uc (n:=a) (by omega) (by omega)).1).2.1;have lp:("permit ":Str).length=7:=by decide+kernel
 have lg:=mW ha;refine eZ (np:=3) (nn:=3) (b:=dc) (ds:=[.ref q,.str "permit",.int (v:Nat)]) rfl ?_ (zk hl);show dc [some (.ref q),some (.str ("permit":Str)),some (.int (v:Nat))] h=_;simp[-aF,dc,m,n4,lg,show(Str.ofString "permit ").length+(br (a:Int)).length<=16777216 by omega]
end
noncomputable def fH(v:Nat):Str:=cI (Str.ofString "permit",(bR v).map λk:Nat=>(k:Int))
theorem Ki:("permit":Str).length<=8/\32∉("permit":Str).cps.toList/\¬Str.ofString "permit"=Str.ofString "bars"/\¬Str.ofString "feed"=Str.ofString "permit"/\¬Str.ofString "earth"=Str.ofString "permit"/\¬Str.ofString "breaker"=Str.ofString "permit"/\¬Str.ofString "splitter"=Str.ofString "permit"/\¬Str.ofString "turn"=Str.ofString "permit"/\¬Str.ofString "lock"=Str.ofString "permit"/\¬Str.ofString "unlock"=Str.ofString "permit"/\¬Str.ofString "back"=Str.ofString "permit":=by decide+kernel
section
variable {h : MH} {d p r : Nat} {b : Bd} (D0 : Dk h d p r b) {v : Nat}
include D0
theorem pV(x1 x2:Option D):ax eF "board" (aa 0) [some (.ref d),x1,x2] h=.ok (.ref p) h:=by
 have o:=D0.o;unfold bF at o;simp[o]
theorem Hd(w:Option D)(et:tab.lookup "Board"=some z)(hf:([Str.ofString "yard",Str.ofString "net",Str.ofString "shut",Str.ofString "locks",Str.ofString "given",Str.ofString "last_number"]).contains f=false):aF tab f (ax eF "board" (aa 0)) (ag (aa 2) af) [some (.ref d),w,some (.int (v:Nat))] h=z [.ref p,.int (v:Nat)] h:=
 iH D0.a (tab:=tab) (f:=f) (z:=z) (ds:=[.int (v:Nat)]) et hf (pV D0 _ _) (by simp)
theorem C2(et:tab.lookup "Board"=some z)(hf:([Str.ofString "yard",Str.ofString "net",Str.ofString "shut",Str.ofString "locks",Str.ofString "given",Str.ofString "last_number"]).contains f=false)(e:z [.ref p,.int (v:Nat)] h=.exc c h)(hw:(w=Str.ofString "turn"/\tab=lK/\f=Str.ofString "turn")\/(w=Str.ofString "lock"/\tab=jS/\f=Str.ofString "lock")\/(w=Str.ofString "unlock"/\tab=j_/\f=Str.ofString "unlock")\/(w=Str.ofString "back"/\tab=jm/\f=Str.ofString "give_back")):eO [.ref d,.str w,.int (v:Nat)] h=.exc c h:=by
 have m:=(Hd D0 (v:=v) (some (.str w)) et hf).trans e;obtain⟨n1,n2,n3,n4,n5,n6,n7,n8,n9,n10,n11,n12,n13,n14⟩:=tf;refine C7 (np:=3) (nn:=3) (b:=dZ) (ds:=[.ref d,.str w,.int (v:Nat)]) rfl ?_;show dZ [some (.ref d),some (.str w),some (.int (v:Nat))] h=_;rcases hw with⟨rfl,rfl,rfl⟩|⟨rfl,rfl,rfl⟩|⟨rfl,rfl,rfl⟩|⟨rfl,rfl,rfl⟩<;>simp[-aF, -ax,dZ,m,n1,n2,n3,n5,n7,n9]
theorem FL(hl:H.length=h.length)(et:tab.lookup "Board"=some z)(hf:([Str.ofString "yard",Str.ofString "net",Str.ofString "shut",Str.ofString "locks",Str.ofString "given",Str.ofString "last_number"]).contains f=false)(e:z [.ref p,.int (v:Nat)] h=.ok x H)(hw:(w=Str.ofString "lock"/\tab=jS/\f=Str.ofString "lock")\/(w=Str.ofString "unlock"/\tab=j_/\f=Str.ofString "unlock")\/(w=Str.ofString "back"/\tab=jm/\f=Str.ofString "give_back")):eO [.ref d,.str w,.int (v:Nat)] h=.ok (.str "ok") H:=by
 have m:=(Hd D0 (v:=v) (some (.str w)) et hf).trans e;obtain⟨n1,n2,n3,n4,n5,n6,n7,n8,n9,n10,n11,n12,n13,n14⟩:=tf;refine eZ (np:=3) (nn:=3) (b:=dZ) (ds:=[.ref d,.str w,.int (v:Nat)]) rfl ?_ (zk hl);show dZ [some (.ref d),some (.str w),some (.int (v:Nat))] h=_;rcases hw with⟨rfl,rfl,rfl⟩|⟨rfl,rfl,rfl⟩|⟨rfl,rfl,rfl⟩<;>simp[-aF, -ax,dZ,m,n1,n2,n3,n5,n6,n7,n8,n9,n10]
theorem NK(hl:H.length=h.length)(e:cS [.ref p,.int (v:Nat)] h=.ok (.int (s:Nat)) H):eO [.ref d,.str "turn",.int (v:Nat)] h=.ok (.str (if s.testBit v then "shut"else "open")) H:=by
 have m:=(Hd D0 (v:=v) (tab:=lK) (f:="turn") (z:=cS) (some (.str ("turn":Str))) rfl (by decide+kernel)).trans e;have hh:=mw s v H;refine eZ (np:=3) (nn:=3) (b:=dZ) (ds:=[.ref d,.str "turn",.int (v:Nat)]) rfl ?_ (zk hl);show dZ [some (.ref d),some (.str ("turn":Str)),some (.int (v:Nat))] h=_;cases z:s.testBit v<;>rw[z]at hh<;>simp[-aF, -ax,dZ,m,hh]
theorem HP(h1:0<v)(h2:v<2^b.n):cH [some (.ref d),some (.str (fH v)),none,none,none] h=(di [.ref p,.int (v:Nat)] h).toS λx h1=>(Ck (lJ (mC (.str "permit ")) (lJ (jO (aa 4)) kF)) [some (.ref d),some (.str (fH v)),some (.lst ((Str.ofString "permit"::((bR v).map λk:Nat=>(k:Int)).map W).map D.str)),some (.str ("permit":Str)),some x] h1).toS λy h2=>.rt y h2:=by
 have hn:=D0.a.ok.2.1;obtain⟨p1,p2,p3,a1,a2,a3,a4,t1,t2,t3,t4⟩:=Ki;have bl:(bR v).length<=10:=zd (C0 h2) hn;obtain⟨f1,f3⟩:=J1 (k:=Str.ofString "permit") (bs:=(bR v).map λk:Nat=>(k:Int)) p1 p2 (λx m=>by
  obtain⟨k,mk,rfl⟩:=qv.mp m;have:=((pj h2 k).mp mk).2;omega) (by rw[qi];omega)
 have hd:=Cu (row:=fH v) (k:=Str.ofString "permit") (ws:=((bR v).map λk:Nat=>(k:Int)).map W) f3 (by have:(fH v).length<=200:=f1;omega) (by simp;omega) d;have pl:=Pb hn (GF v) (λz=>by
  have:v=0:=by rw[<-HF v,z];rfl
  omega) (λk m=>((pj h2 k).mp m).2) h
 rw[HF]at pl;have em:(bR v).map (λk:Nat=>W k)=((bR v).map λk:Nat=>(k:Int)).map W:=by rw[List.map_map];rfl
 rw[em]at pl;have o:=D0.o;unfold cH;rw[hd,DH o rfl p3];have fb:ax eF "board" (aa 0) [some (.ref d),some (.str (fH v)),some (.lst ((Str.ofString "permit"::((bR v).map λk:Nat=>(k:Int)).map W).map D.str)),some (.str ("permit":Str)),none] h=.ok (.ref p) h:=by
  unfold bF at o;simp[o]
 have fy:ax c5 "yard" (aa 0) [some (.ref d),some (.str (fH v)),some (.lst ((Str.ofString "permit"::((bR v).map λk:Nat=>(k:Int)).map W).map D.str)),some (.str ("permit":Str)),none] h=.ok (yd b.n b.sws) h:=by
  unfold bF at o;simp[o]
 have y0:aI (yd b.n b.sws) (.int 0) h=.ok (.int (b.n:Nat)) h:=by simp[yd]
 have sl:fg (aa 2) (c6 (mC (.int 1))) ee [some (.ref d),some (.str (fH v)),some (.lst ((Str.ofString "permit"::((bR v).map λk:Nat=>(k:Int)).map W).map D.str)),some (.str ("permit":Str)),none] h=.ok (.lst ((((bR v).map λk:Nat=>(k:Int)).map W).map D.str)) h:=by
  rw[List.map_cons];generalize(((bR v).map λk:Nat=>(k:Int)).map W).map D.str=T;simp
 have mm:=iH D0.a (tab:=sv) (f:="permit") (z:=di) (m:=ax eF "board" (aa 0)) (l:=ag (aV jF (ag (fg (aa 2) (c6 (mC (.int 1))) ee) (ag (ae aI (ax c5 "yard" (aa 0)) (mC (.int 0))) af))) af) (ρ:=[some (.ref d),some (.str (fH v)),some (.lst ((Str.ofString "permit"::((bR v).map λk:Nat=>(k:Int)).map W).map D.str)),some (.str ("permit":Str)),none]) (ds:=[.int (v:Nat)]) rfl (by decide+kernel) fb (by
  simp only[ag,aV,sl,eT,ae,fy,mC,y0,af,pl])
 generalize yd b.n b.sws=Y at*;generalize(Str.ofString "permit"::((bR v).map λk:Nat=>(k:Int)).map W).map D.str=T at*;refine(cc (ρ':=[some (.ref d),some (.str (fH v)),some (.lst T),some (.str ("permit":Str)),none]) (h':=h) (by simp[jM,a1,a2,a3,a4])).trans ?_;refine(cc (ρ':=[some (.ref d),some (.str (fH v)),some (.lst T),some (.str ("permit":Str)),none]) (h':=h) (by simp[jM,t1,t2,t3,t4])).trans ?_;have t:tB (ae a9 (aa 3) (mC (.str "permit"))) [some (.ref d),some (.str (fH v)),some (.lst T),some (.str ("permit":Str)),none] h=.ok true h:=by simp
 simp only[aj,bh,t,dF,if_true,aw,mm];cases di [.ref p,.int (v:Nat)] h with
 | ok x h1=>
  simp only[dF,ay,g9,gc,au];cases Ck (lJ (mC (.str "permit ")) (lJ (jO (aa 4)) kF)) [some (.ref d),some (.str (fH v)),some (.lst T),some (.str ("permit":Str)),some x] h1<;>rfl
 | _=>rfl
end
structure T38 (h:MH) (d p r q r2:Nat) (b:Bd):Prop where
 k:Dk h d p r b
 a:At h q r2 b
 dq:d≠q/\d≠r2/\d≠p/\d≠r
 pq:p≠q/\p≠r2/\r≠q/\r≠r2
noncomputable def ij(d p r q r2:Nat)(b:Bd)(w:Str)(v:Nat)(R:Str)(m:Nat):Prop:=
 (∃c∈cu,(∀h,At h q r2 b->eG [.ref q,.str w,.int (v:Nat)] h=.exc c h)/\∀h,Dk h d p r b->cy [.ref d,.str R] h=.exc c h)\/
 ∃b' a,I38 b' (m+1)/\b'.n=b.n/\b'.sws=b.sws/\(∀h,At h q r2 b->∃H,Eff h H q r2 b'/\eG [.ref q,.str w,.int (v:Nat)] h=.ok (.str a) H)/\∀h,Dk h d p r b->∃H,Eff h H p r b'/\cy [.ref d,.str R] h=.ok (.str a) H
section
variable {d p r q r2 : Nat} {b : Bd} {m : Nat} (I : I38 b m) {v : Nat} (hv : v < 1000000000)
include I hv
theorem Ol:ij d p r q r2 b "turn" v (eX "turn" v) m:=by
 rcases Mq I v with⟨c,hc,e⟩|⟨b',x,I',⟨rfl,v100⟩,en,es,e⟩
 ·exact .inl ⟨c,hc,λh A=>xh A (tab:=lK) (f:="turn") (z:=cS) rfl (by decide+kernel) (e h q r2 A) (.inl ⟨rfl,rfl,rfl⟩),λh K=>Ep GY K.o rfl hv (C2 K (tab:=lK) (f:="turn") (z:=cS) rfl (by decide+kernel) (e h p r K.a) (.inl ⟨rfl,rfl,rfl⟩))⟩
 ·refine .inr ⟨b',if b'.st.testBit v then Str.ofString "shut"else Str.ofString "open",I',en,es,λh A=> ?_,λh K=> ?_⟩
  ·obtain⟨H,F,e1⟩:=e h q r2 A
   exact⟨H,F,NI A F.len v100 e1⟩
  ·obtain⟨H,F,e1⟩:=e h p r K.a
   exact⟨H,F,Dv GY K.o rfl hv (NK K F.len e1) (zk F.len)⟩
theorem O2:ij d p r q r2 b "lock" v (eX "lock" v) m:=by
 rcases M7 I v with⟨c,hc,e⟩|⟨b',x,I',_,en,es,e⟩
 ·exact .inl ⟨c,hc,λh A=>xh A (tab:=jS) (f:="lock") (z:=dJ) rfl (by decide+kernel) (e h q r2 A) (.inr (.inl ⟨rfl,rfl,rfl⟩)),λh K=>Ep FU K.o rfl hv (C2 K (tab:=jS) (f:="lock") (z:=dJ) rfl (by decide+kernel) (e h p r K.a) (.inr (.inl ⟨rfl,rfl,rfl⟩)))⟩
 ·refine .inr ⟨b',Str.ofString "ok",I',en,es,λh A=> ?_,λh K=> ?_⟩
  ·obtain⟨H,F,e1⟩:=e h q r2 A
   exact⟨H,F,EW A (tab:=jS) (f:="lock") F.len rfl (by decide+kernel) e1 (.inl ⟨rfl,rfl,rfl⟩)⟩
  ·obtain⟨H,F,e1⟩:=e h p r K.a
   exact⟨H,F,Dv FU K.o rfl hv (FL K (tab:=jS) (f:="lock") F.len rfl (by decide+kernel) e1 (.inl ⟨rfl,rfl,rfl⟩)) (zk F.len)⟩
theorem MC:ij d p r q r2 b "unlock" v (eX "unlock" v) m:=by
 rcases Lq I v with⟨c,hc,e⟩|⟨b',x,I',_,en,es,e⟩
 ·exact .inl ⟨c,hc,λh A=>xh A (tab:=j_) (f:="unlock") (z:=d_) rfl (by decide+kernel) (e h q r2 A) (.inr (.inr (.inl ⟨rfl,rfl,rfl⟩))),λh K=>Ep F0 K.o rfl hv (C2 K (tab:=j_) (f:="unlock") (z:=d_) rfl (by decide+kernel) (e h p r K.a) (.inr (.inr (.inl ⟨rfl,rfl,rfl⟩))))⟩
 ·refine .inr ⟨b',Str.ofString "ok",I',en,es,λh A=> ?_,λh K=> ?_⟩
  ·obtain⟨H,F,e1⟩:=e h q r2 A
   exact⟨H,F,EW A (tab:=j_) (f:="unlock") F.len rfl (by decide+kernel) e1 (.inr (.inl ⟨rfl,rfl,rfl⟩))⟩
  ·obtain⟨H,F,e1⟩:=e h p r K.a
   exact⟨H,F,Dv F0 K.o rfl hv (FL K (tab:=j_) (f:="unlock") F.len rfl (by decide+kernel) e1 (.inr (.inl ⟨rfl,rfl,rfl⟩))) (zk F.len)⟩
theorem OJ:ij d p r q r2 b "back" v (eX "back" v) m:=by
 rcases LB I v with⟨c,hc,e⟩|⟨b',x,I',_,en,es,e⟩
 ·exact .inl ⟨c,hc,λh A=>xh A (tab:=jm) (f:="give_back") (z:=fu) rfl (by decide+kernel) (e h q r2 A) (.inr (.inr (.inr (.inl ⟨rfl,rfl,rfl⟩)))),λh K=>Ep GS K.o rfl hv (C2 K (tab:=jm) (f:="give_back") (z:=fu) rfl (by decide+kernel) (e h p r K.a) (.inr (.inr (.inr ⟨rfl,rfl,rfl⟩))))⟩
 ·refine .inr ⟨b',Str.ofString "ok",I',en,es,λh A=> ?_,λh K=> ?_⟩
  ·obtain⟨H,F,e1⟩:=e h q r2 A
   exact⟨H,F,EW A (tab:=jm) (f:="give_back") F.len rfl (by decide+kernel) e1 (.inr (.inr ⟨rfl,rfl,rfl⟩))⟩
  ·obtain⟨H,F,e1⟩:=e h p r K.a
   exact⟨H,F,Dv GS K.o rfl hv (FL K (tab:=jm) (f:="give_back") F.len rfl (by decide+kernel) e1 (.inr (.inr ⟨rfl,rfl,rfl⟩))) (zk F.len)⟩
end
theorem LG(I:I38 b m)(h1:0<v)(h2:v<2^b.n)(hm:m<100000):ij d p r q r2 b "permit" v (fH v) m:=by
 rcases LQ I h1 h2 hm with⟨c,hc,e⟩|⟨b',x,I',⟨rfl,hla⟩,en,es,e⟩
 ·refine .inl ⟨c,hc,λh A=>xh A (tab:=sv) (f:="permit") (z:=di) rfl (by decide+kernel) (e h q r2 A) (.inr (.inr (.inr (.inr ⟨rfl,rfl,rfl⟩)))),λh K=> ?_⟩
  have:=HP K h1 h2;rw[e h p r K.a]at this;exact C7 (np:=2) (nn:=5) (b:=cH) (ds:=[.ref d,.str (fH v)]) rfl this
 ·refine .inr ⟨b',Str.ofString "permit "++br (b'.la:Int),I',en,es,λh A=> ?_,λh K=> ?_⟩
  ·obtain⟨H,F,e1⟩:=e h q r2 A
   exact⟨H,F,OT A F.len hla e1⟩
  ·obtain⟨H,F,e1⟩:=e h p r K.a
   have:=HP K h1 h2;rw[e1]at this;have lw:=(uG (uc (n:=b'.la) (by omega) (by omega)).1).2.1;have lp:("permit ":Str).length=7:=by decide+kernel
   have lg:=mW hla;have js:∀T x,Ck (lJ (mC (.str "permit ")) (lJ (jO (aa 4)) kF)) [some (.ref d),some (.str (fH v)),T,x,some (.int (b'.la:Nat))] H=.ok (.str (Str.ofString "permit "++br (b'.la:Int))) H:=λT x=>by
    have e0:Str.empty++Str.ofString "permit "=Str.ofString "permit ":=by decide+kernel
    have e1:(Str.ofString "permit "++br (b'.la:Int)).length<=16777216:=by
     have:(Str.ofString "permit "++br (b'.la:Int)).length=("permit ":Str).length+(br (b'.la:Int)).length:=by simp[Str.length,Str.cps_append]
     omega
    simp[lg,e0,e1,show(Str.ofString "permit ").length<=16777216 by omega]
   refine⟨H,F,eZ (np:=2) (nn:=5) (b:=cH) (ds:=[.ref d,.str (fH v)]) rfl (this.trans ?_) (zk F.len)⟩;simp only[dF,js]
theorem MY(c:String)(h:MH):compLoop (ay 0) aS (bB d9 (ag (aa 0) af)) [none] (i5 c) h=.ok ((kM.map λn=>if decide (c=n)then(1:Int)else 0).map D.int) h:=by
 rw[List.map_map];exact i3 (g:=ay 0) (t:=aS) (h:=h) (m:=bB d9 (ag (aa 0) af)) (ρ0:=[none]) (λn:String=>D.bl (decide (c=n))) (λn=>[some (.bl (decide (c=n)))]) (λn=>D.int (if decide (c=n)then(1:Int)else 0)) kM λn _=>⟨by simp,by simp,by simp⟩
noncomputable def qS:MS:=(aj (aw (aV jH (ag (aa 1) (ag (aa 2) (ag (aa 3) af)))) (ay 5))
      (aj (aw (aV jB (ag (aa 0) (ag (aa 4) af))) (ay 6))
      (aj (bh (bC (bB gA (ag (aa 5) (ag (mC (.ty "list")) af))))
      (au (hG (bB gA (ag (aa 6) (ag (mC (.ty "list")) af))) (hG (ae a9 (aa 6) (aa 5)) (ae a9 (bB fQ (ag (bw (cC 1 [] (cE (aa 5)) (ay 0) aS (bB d9 (ag (aa 0) af)))) af)) (mC (.int 1))))))
      bz)
      (au (hG (bB gA (ag (aa 6) (ag (mC (.ty "str")) af))) (ae a9 (aa 6) (aa 5)))))))
theorem N4(T:T38 h d p r q r2 b)(I:I38 b m)(B:ij d p r q r2 b w v R m)(x5 x6:Option D):∃H b',T38 H d p r q r2 b'/\I38 b' (m+1)/\b'.n=b.n/\b'.sws=b.sws/\H.length=h.length/\(∀j,j≠p->j≠r->j≠q->j≠r2->H[j]?=h[j]?)/\qS [some (.ref d),some (.ref q),some (.str w),some (.int (v:Nat)),some (.str R),x5,x6] h=.rt (.bl true) H:=by
 rcases B with⟨c,hc,e1,e2⟩|⟨b',a,I',en,es,e1,e2⟩
 ·refine⟨h,b,T,I.more,rfl,rfl,rfl,λ_ _ _ _ _=>rfl,?_⟩
  have d1:=rS hc (e1 h T.a);have d2:=Py T.k.o R hc (e2 h T.k);have k1:=ye c h;have k2:=MY c h;have k3:=HM (kM.map λn=>if decide (c=n)then(1:Int)else 0);have k4:=sr c hc;have k5:(i5 c).length<16777216:=by simp[i5,kM]
  generalize i5 c=K at*;generalize kM.map (λn=>if decide (c=n)then(1:Int)else 0)=L at*;have lc:cC 1 [] (cE (aa 5)) (ay 0) aS (bB d9 (ag (aa 0) af)) [some (.ref d),some (.ref q),some (.str w),some (.int (v:Nat)),some (.str R),some (.lst K),some (.lst K)] h=.ok (L.map D.int) h:=by
   simp[-bB,caps,k2,k5]
  unfold qS;refine(cc (ρ':=[some (.ref d),some (.ref q),some (.str w),some (.int (v:Nat)),some (.str R),some (.lst K),x6]) (h':=h) (by simp[d1])).trans ?_;refine(cc (ρ':=[some (.ref d),some (.ref q),some (.str w),some (.int (v:Nat)),some (.str R),some (.lst K),some (.lst K)]) (h':=h) (by simp[d2])).trans ?_;refine CV ?_;simp[-a9, -i6,k1,lc,k3,k4];rfl
 ·obtain⟨H1,F1,l1⟩:=e1 h T.a
  obtain⟨dq1,dq2,dq3,dq4⟩:=T.dq;obtain⟨pq1,pq2,pq3,pq4⟩:=T.pq;have K1:Dk H1 d p r b:=⟨by rw[F1.fr d dq1 dq2];exact T.k.o,by rw[F1.fr p pq1 pq2];exact T.k.a.o,by rw[F1.fr r pq3 pq4];exact T.k.a.g,F1.a.hb,T.k.a.ok⟩;obtain⟨H2,F2,l2⟩:=e2 H1 K1;have T2:T38 H2 d p r q r2 b':=by
   refine⟨⟨?_,F2.a⟩,⟨by rw[F2.fr q (Ne.symm pq1) (Ne.symm pq3)];exact F1.a.o,by rw[F2.fr r2 (Ne.symm pq2) (Ne.symm pq4)];exact F1.a.g,F2.a.hb,F1.a.ok⟩,T.dq,T.pq⟩;rw[F2.fr d dq3 dq4,en,es];exact K1.o
  refine⟨H2,b',T2,I',en,es,F2.len.trans F1.len,λj j1 j2 j3 j4=>by rw[F2.fr j j1 j2,F1.fr j j3 j4],?_⟩;have d1:=qF (zk F1.len) l1;have d2:=N6 K1.o R (zk F2.len) l2;unfold qS;refine(cc (ρ':=[some (.ref d),some (.ref q),some (.str w),some (.int (v:Nat)),some (.str R),some (.str a),x6]) (h':=H1) (by simp[d1])).trans ?_;refine(cc (ρ':=[some (.ref d),some (.ref q),some (.str w),some (.int (v:Nat)),some (.str R),some (.str a),some (.str a)]) (h':=H2) (by simp[d2])).trans ?_;simp
noncomputable def fM(n:Nat)(w:Str)(v:Nat):Prop:=((w=Str.ofString "turn"\/w=Str.ofString "lock"\/w=Str.ofString "unlock"\/w=Str.ofString "back")/\v<1000000000)\/(w=Str.ofString "permit"/\0<v/\v<2^n)
theorem Kr(hw:w.length<=8)(hv:v<1000000000)(ρ:Ro)(h:MH)(e1:ρ[2]?=some (some (.str w)))(e2:ρ[3]?=some (some (.int (v:Nat)))):(ae aU (ae aU (aa 2) (mC (.str " "))) (bB dv (ag (aa 3) af))) ρ h=.ok (.str (eX w v)) h:=by
 have lg:v.log2<1920:=by
  by_cases z:v=0
  ·subst z;decide
  ·exact qh ((Nat.log2_lt z).mpr (show v<2^30 by omega)) (by decide)
 have lw:=(uG (uc (n:=v) (by omega) (by omega)).1).2.1;have l1:(" ":Str).length=1:=by decide+kernel
 have la:(w++Str.ofString " ").length=w.length+1:=by
  have:=l1;simp only[Str.length]at this ⊢;simp[Str.cps_append,this]
 have tr:w++Str.ofString " "++br (v:Int)=eX w v:=by rw[uy];exact Cr _ _
 have c1:w.length+(" ":Str).length<=16777216:=by omega
 have c2:(w++Str.ofString " ").length+(br (v:Int)).length<=16777216:=by omega
 simp[e1,e2,lg,c1,c2,tr]
theorem AY(x k:Nat)(h:MH):tB (ae a9 (ae bN (ae dr (aa 1) (aa 0)) (mC (.int 1))) (mC (.int 1))) [some (.int (k:Nat)),some (.int (x:Nat))] h=.ok (x.testBit k) h:=by
 have bt:=j9 x k;cases z:x.testBit k<;>rw[z]at bt<;>simp at bt<;>simp[bt]
theorem Jq(hx:x<2^L)(hL:L<=12)(h:MH):compLoop (ay 0) (tB (ae a9 (ae bN (ae dr (aa 1) (aa 0)) (mC (.int 1))) (mC (.int 1)))) (bB dv (ag (aa 0) af)) [none,some (.int (x:Nat))] (rng 0 L) h=.ok (((bR x).map λk:Nat=>W k).map D.str) h:=by
 rw[yb,List.map_map,<-NO hx];refine yG (g:=ay 0) (h:=h) (ρ0:=[none,some (.int (x:Nat))]) (λk:Nat=>D.int k) (λk=>[some (.int (k:Nat)),some (.int (x:Nat))]) (λk=>x.testBit k) (λk=>D.str (W (k:Nat))) (List.range L) λk m=>⟨by simp,AY x k h,?_⟩;have lg:(k:Nat).log2<1920:=zm (wq k) (by have:=zj.mp m;omega);simp[lg]
noncomputable def mP:ME:=bw (cC 1 [3] (eP (ag (mC (.int 10)) af)) (ay 0) (tB (ae a9 (ae bN (ae dr (aa 1) (aa 0)) (mC (.int 1))) (mC (.int 1)))) (bB dv (ag (aa 0) af)))
noncomputable def qR(C:MS):MS:=aj (aw (ae aU (ae aU (aa 2) (mC (.str " "))) (bB dv (ag (aa 3) af))) (ay 4)) (aj (bh (tB (ae a9 (aa 2) (mC (.str "permit")))) (aw (rZ kT (mC (.str " ")) (ag (ae aU (bw (cJ (ag (aa 2) af))) mP) af)) (ay 4)) bz) C)
theorem Mw(T:T38 h d p r q r2 b)(I:I38 b m)(hm:m<100000)(P:fM b.n w v):∃H b',T38 H d p r q r2 b'/\I38 b' (m+1)/\b'.n=b.n/\b'.sws=b.sws/\H.length=h.length/\(∀j,j≠p->j≠r->j≠q->j≠r2->H[j]?=h[j]?)/\lT [.ref d,.ref q,.str w,.int (v:Nat)] h=.ok (.bl true) H:=by
 have eb:jR=qR qS:=rfl;obtain⟨n1,n2,n3,n4,n5,n6,n7,n8,n9,n10,n11,n12,n13,n14⟩:=tf;have fin:∀{R:Str} (B:ij d p r q r2 b w v R m),(∀C:MS,qR C [some (.ref d),some (.ref q),some (.str w),some (.int (v:Nat)),none,none,none] h=C [some (.ref d),some (.ref q),some (.str w),some (.int (v:Nat)),some (.str R),none,none] h)->∃H b',T38 H d p r q r2 b'/\I38 b' (m+1)/\b'.n=b.n/\b'.sws=b.sws/\H.length=h.length/\(∀j,j≠p->j≠r->j≠q->j≠r2->H[j]?=h[j]?)/\lT [.ref d,.ref q,.str w,.int (v:Nat)] h=.ok (.bl true) H:=fun{R} B er=>by
  obtain⟨H,b',T',I',en,es,hl,fr,e⟩:=N4 T I B none none;refine⟨H,b',T',I',en,es,hl,fr,eZ (np:=4) (nn:=7) (b:=jR) (ds:=[.ref d,.ref q,.str w,.int (v:Nat)]) rfl ?_ (zk hl)⟩;show jR [some (.ref d),some (.ref q),some (.str w),some (.int (v:Nat)),none,none,none] h=_;rw[eb,er];exact e
 have deed:∀(hw:w.length<=8) (np:¬w=Str.ofString "permit") (hv:v<1000000000) (C:MS),qR C [some (.ref d),some (.ref q),some (.str w),some (.int (v:Nat)),none,none,none] h=C [some (.ref d),some (.ref q),some (.str w),some (.int (v:Nat)),some (.str (eX w v)),none,none] h:=λhw np hv C=>by
  unfold qR;have rd:=Kr hw hv [some (.ref d),some (.ref q),some (.str w),some (.int (v:Nat)),none,none,none] h rfl rfl;refine(cc (ρ':=[some (.ref d),some (.ref q),some (.str w),some (.int (v:Nat)),some (.str (eX w v)),none,none]) (h':=h) (by simp only[aw,rd,dF];simp)).trans ?_;exact cc (by simp[np])
 rcases P with⟨hw,hv⟩|⟨rfl,h1,h2⟩
 ·rcases hw with rfl|rfl|rfl|rfl
  ·exact fin (Ol I hv) (deed GY.ln n11 hv)
  ·exact fin (O2 I hv) (deed FU.ln n12 hv)
  ·exact fin (MC I hv) (deed F0.ln n13 hv)
  ·exact fin (OJ I hv) (deed GS.ln n14 hv)
 ·refine fin (LG I h1 h2 hm) λC=> ?_
  have hn:=I.ok.2.1;have v10:v<2^10:=qh h2 (wy (by decide) hn);have rd:=Kr Ki.1 (by omega) [some (.ref d),some (.ref q),some (.str ("permit":Str)),some (.int (v:Nat)),none,none,none] h rfl rfl;unfold qR;refine(cc (ρ':=[some (.ref d),some (.ref q),some (.str ("permit":Str)),some (.int (v:Nat)),some (.str (eX ("permit":Str) v)),none,none]) (h':=h) (by simp only[aw,rd,dF];simp)).trans ?_;refine cc ?_;have bc:=Jq v10 (by omega) h;have bl:=C0 v10;have lc:mP [some (.ref d),some (.ref q),some (.str ("permit":Str)),some (.int (v:Nat)),some (.str (eX ("permit":Str) v)),none,none] h=.ok (.lst (((bR v).map λk:Nat=>W k).map D.str)) h:=by
   unfold mP bw;rw[i6];have li:eP (ag (mC (.int 10)) af) [some (.ref d),some (.ref q),some (.str ("permit":Str)),some (.int (v:Nat)),some (.str (eX ("permit":Str) v)),none,none] h=.ok (none,rng 0 10) h:=by simp
   rw[li];have l10:(rng 0 10).length<16777216:=by rw[yb];simp
   simp only[eT,chk,l10,if_true,lO];have bc2:=congrArg (λR=>Res.bind R λxs h1=>.ok (D.lst xs) h1) bc;exact bc2
  have hs:=D7 (l:=((bR v).map λk:Nat=>W k).map (·.length)) (m:=2) (λx mx=>by
   obtain⟨s,ms,rfl⟩:=qv.mp mx;obtain⟨k,mk,rfl⟩:=qv.mp ms;exact(gu (n:=k) (by omega) (by have:=((pj v10 k).mp mk).2;omega)).1)
  rw[qi]at hs;have sdm:=F_ (Str.ofString "permit"::(bR v).map λk:Nat=>W k);have jn:Txt.join (" ":Str) (Str.ofString "permit"::(bR v).map λk:Nat=>W k)=fH v:=by
   rw[Hr,uy];unfold fH cI;rw[List.map_map];rfl
  have lp:("permit":Str).length=6:=by decide+kernel
  have l1:(" ":Str).length=1:=by decide+kernel
  have ll:((bR v).map λk:Nat=>W k).length=(bR v).length:=qi _;rw[List.map_cons]at sdm;generalize(bR v).map (λk:Nat=>W k)=U at*;have s2:((Str.ofString "permit"::U).map (·.length)).sum+(Str.ofString "permit"::U).length*(" ":Str).length<=16777216:=by
   simp only[List.map_cons,ko,qz,lp,l1];omega
  generalize mP=A at*;have u1:1+U.length<=16777216:=by omega
  simp at lc sdm s2 jn;simp[lc,sdm,s2,jn,u1]
theorem Lo:∀n:Fin 13,rO (W n.val)=true:=by decide+kernel
theorem OM(l:List Nat)(hl:∀k∈l,k<=12)(h:MH):a9 (.lst ((l.map λk:Nat=>W k).map D.str)) (.lst []) h=.ok (.bl (decide (l=[]))) h:=by
 have h1:(D.lst ((l.map λk:Nat=>W k).map D.str)).dat=true:=by
  refine yu (n:=1) (Fe (n:=0) λd hd=> ?_) (by omega);obtain⟨s,hs,rfl⟩:=qv.mp hd;obtain⟨k,hk,rfl⟩:=qv.mp hs;have:=Lo ⟨k,by have:=hl k hk;omega⟩;have:rO (W (k:Int))=true:=this;exact⟨by simp[D.py,this],qb _⟩
 have h2:(D.lst []).dat=true:=by simp[D.dat,D.py,D.pys,D.deep,D.deeps]
 have h3:(D.lst ((l.map λk:Nat=>W k).map D.str)).eq (.lst [])=decide (l=[]):=by
  cases l<;>simp[D.eq,D.eqs]
 generalize(l.map λk:Nat=>W k).map D.str=T at*;simp[h1,h2,h3]
theorem CL(hx:x<2^12)(h:MH):iD [.int (x:Nat)] h=.ok (.str (jT x)) h:=by
 have hm:∀k∈bR x,k<=12:=λk m=>by have:=((pj hx k).mp m).2;omega
 have bc:=Jq hx (by omega) h;have en:=OM (bR x) hm h;have ws:=nF (bR x) hm (C0 hx);have sd:=F_ ((bR x).map λk:Nat=>W k);refine eZ (np:=1) (nn:=2) (b:=jt) (ds:=[.int (x:Nat)]) rfl ?_ (qb _);show jt [some (.int (x:Nat)),none] h=_;unfold jt;refine(cc (ρ':=[some (.int (x:Nat)),some (.lst (((bR x).map λk:Nat=>W k).map D.str))]) (h':=h) ?_).trans ?_
 ·have li:eP (ag (mC (.int 12)) af) [some (.int (x:Nat)),none] h=.ok (none,rng 0 12) h:=by simp
  have l12:(rng 0 12).length<16777216:=by rw[yb];simp
  simp only[aw,bw,i6,li,eT,chk,l12,if_true,lO];have bc2:=congrArg (λR=>Res.toS (Res.bind R λxs h1=>.ok (D.lst xs) h1) λd h1=>ay 1 d [some (.int (x:Nat)),none] h1) bc;exact bc2
 unfold jT;by_cases q:bR x=[]
 ·rw[if_pos q]
  rw[decide_eq_true q]at en;rw[q]at en ⊢;have jn:Txt.join (" ":Str) []=Str.ofString "":=by decide+kernel
  have en2:a9 (.lst []) (.lst []) h=.ok (.bl true) h:=en;have hj:kT (" ":Str) [.lst []] h=.ok (.str ("":Str)) h:=by simp[jn]
  simp[-a9, -kT,hj,en2]
 ·rw[if_neg q]
  rw[decide_eq_false q]at en;generalize(bR x).map (λk:Nat=>W k)=U at*;simp[-a9, -List.map_map,sd,ws,en]
theorem Jn(T:T38 h d p r q r2 b)(I:I38 b m)(k:Nat)(hk:k<4):d7 [.ref d,.ref q,yd b.n b.sws,.int (k:Nat)] h=.ok (.bl true) h:=by
 have h12:=I.ok.2.2.1;have h10:=I.ok.2.1;have L1:=mv (N5 I.ok b.st) (by omega);have L2:=mv (NX I.ok b.st) (by omega);have L3:=mv I.s h12;have L4:=mv I.l h12;have s1:=PC T.k L1 (D5 L1 h);have s2:=LO T.k L2 (D5 L2 h);have s3:=MZ T.k L3 (D5 L3 h);have s4:=N0 T.k L4 (D5 L4 h);have r1:=CL L1 h;have r2':=CL L2 h;have r3:=CL L3 h;have r4:=CL L4 h;have lv:=Jg I.ok b.st h T.a.hb;have ea:=HH I.ok b.st h T.a.hb;have o:=T.k.o;have kk:(k:Int)=0\/(k:Int)=1\/(k:Int)=2\/(k:Int)=3:=by omega
 generalize(k:Int)=j at*;have st:=iH T.a (tab:=iZ) (f:="standing") (z:=fC) (m:=aa 1) (l:=af) (ρ:=[some (.ref d),some (.ref q),some (yd b.n b.sws),some (.int j),none]) (ds:=[]) rfl (by decide+kernel) (by simp) (by simp);have st:=st.trans (wM T.a);have lo:=iH T.a (tab:=zS) (f:="locked") (z:=iF) (m:=aa 1) (l:=af) (ρ:=[some (.ref d),some (.ref q),some (yd b.n b.sws),some (.int j),some (.int (b.st:Nat))]) (ds:=[]) rfl (by decide+kernel) (by simp) (by simp);have lo:=lo.trans (Ky T.a);refine eZ (np:=4) (nn:=5) (b:=jQ) (ds:=[.ref d,.ref q,yd b.n b.sws,.int j]) rfl ?_ (qb _);show jQ [some (.ref d),some (.ref q),some (yd b.n b.sws),some (.int j),none] h=_;generalize yd b.n b.sws=Y at*;have sm:∀{w x:Str},cy [.ref d,.str w] h=.ok (.str x) h->aF jo "say" (aa 0) (ag (mC (.str w)) af) [some (.ref d),some (.ref q),some Y,some (.int j),some (.int (b.st:Nat))] h=.ok (.str x) h:=fun{w x} e=>(CT o (m:=aa 0) (l:=ag (mC (.str w)) af) (row:=w) (by simp) (by simp)).trans e;have s1:=sm s1;have s2:=sm s2;have s3:=sm s3;have s4:=sm s4;unfold jQ;refine(cc (ρ':=[some (.ref d),some (.ref q),some Y,some (.int j),some (.int (b.st:Nat))]) (h':=h) (by simp only[aw,st,dF];simp)).trans ?_;rcases kk with rfl|rfl|rfl|rfl
 ·simp[-aF,s1,lv,r1]
 ·simp[-aF,s2,ea,r2']
 ·simp[-aF,s4,lo,r4]
 ·simp[-aF,s3,r3]
noncomputable abbrev ba(x:Str×Nat):D:=.tup [.str x.1,.int (x.2:Nat)]
theorem OK(h2:2<=n)(ok:cD n sws)(c:Int)(h:MH):∃w v,fM n w v/\h8 [.int c,yd n sws] h=.ok (.lst [ba (w,v)]) h:=by
 have hn:=ok.2.1;have hn0:(0:Int)<(n:Int):=by omega
 have y0:aI (yd n sws) (.int 0) h=.ok (.int (n:Nat)) h:=by simp[yd]
 have y1:aI (yd n sws) (.int 1) h=.ok (.lst (sws.map Sw.d)) h:=by simp[-List.map_map,yd]
 obtain⟨R,hR⟩:∃R:Int,c / 8=R:=⟨_,rfl⟩;obtain⟨w,hw,ew⟩:∃w:Str,(w=Str.ofString "turn"\/w=Str.ofString "lock"\/w=Str.ofString "unlock"\/w=Str.ofString "back"\/w=Str.ofString "permit")/\(ae aI (bw (cJ (ag (mC (.str "turn")) (ag (mC (.str "turn")) (ag (mC (.str "lock")) (ag (mC (.str "unlock")) (ag (mC (.str "back")) (ag (mC (.str "permit")) (ag (mC (.str "turn")) (ag (mC (.str "lock")) af)))))))))) (ae aT (aa 0) (mC (.int 8)))) [some (.int c),some (yd n sws),none,none] h=.ok (.str w) h:=by
  have at8:∀i:Fin 8,∃w:Str,(w=Str.ofString "turn"\/w=Str.ofString "lock"\/w=Str.ofString "unlock"\/w=Str.ofString "back"\/w=Str.ofString "permit")/\cZ [D.str ("turn":Str),.str ("turn":Str),.str ("lock":Str),.str ("unlock":Str),.str ("back":Str),.str ("permit":Str),.str ("turn":Str),.str ("lock":Str)] (i.val:Int)=some (.str w):=λi=>by
   match i with
   | ⟨0,_⟩=>exact⟨_,.inl rfl,rfl⟩
   | ⟨1,_⟩=>exact⟨_,.inl rfl,rfl⟩
   | ⟨2,_⟩=>exact⟨_,.inr (.inl rfl),rfl⟩
   | ⟨3,_⟩=>exact⟨_,.inr (.inr (.inl rfl)),rfl⟩
   | ⟨4,_⟩=>exact⟨_,.inr (.inr (.inr (.inl rfl))),rfl⟩
   | ⟨5,_⟩=>exact⟨_,.inr (.inr (.inr (.inr rfl))),rfl⟩
   | ⟨6,_⟩=>exact⟨_,.inl rfl,rfl⟩
   | ⟨7,_⟩=>exact⟨_,.inr (.inl rfl),rfl⟩
  obtain⟨i,hi⟩:=jG (x:=c % 8) (by omega);obtain⟨w,hw,e⟩:=at8 ⟨i,by omega⟩;refine⟨w,hw,?_⟩;generalize yd n sws=Y at*;simp[hi,e]
 obtain⟨n1,n2,n3,n4,n5,n6,n7,n8,n9,n10,n11,n12,n13,n14⟩:=tf;have dn:∀x:Int,aT (.int x) (.int (n:Nat)) h=.ok (.int (x % (n:Int))) h:=λx=>by
  have:0<n:=by omega
  simp[this]
 have bit:∀x:Int,∃k:Nat,k<n/\x % (n:Int)=k:=λx=>by
  obtain⟨k,hk⟩:=jG (x:=x % (n:Int)) (wc _ (by omega));exact⟨k,by have:=w4 x hn0;omega,hk⟩
 have d8:bP (.int c) (.int 8) h=.ok (.int R) h:=by rw[<-hR];simp
 have key:∀(v:Nat),fM n w v->aj (bh (tB (ae a9 (aa 2) (mC (.str "permit")))) (au (bw (cJ (ag (a_ (ag (aa 2) (ag (ae fw (ae bp (mC (.int 1)) (ae aT (aa 3) (ae aI (aa 1) (mC (.int 0))))) (ae bp (ae aT (ae bP (aa 3) (mC (.int 10))) (mC (.int 2))) (ae aT (ae bP (aa 3) (mC (.int 20))) (ae aI (aa 1) (mC (.int 0)))))) af))) af)))) bz)
   (aj (bh (tB (ae a9 (aa 2) (mC (.str "back")))) (au (bw (cJ (ag (a_ (ag (aa 2) (ag (ae aT (aa 3) (mC (.int 4))) af))) af)))) bz)
   (aj (bh (tB (ae a9 (ae aT (aa 3) (mC (.int 32))) (mC (.int 9)))) (au (bw (cJ (ag (a_ (ag (aa 2) (ag (ae fZ (mC (.int 999999999)) (ae aT (ae bP (aa 3) (mC (.int 32))) (ae jV (mC (.int 10)) (mC (.int 8))))) af))) af)))) bz)
   (au (bw (cJ (ag (a_ (ag (aa 2) (ag (ae aT (ae bP (aa 3) (mC (.int 2))) (ae aU (bB b_ (ag (ae aI (aa 1) (mC (.int 1))) af)) (mC (.int 3)))) af))) af)))))) [some (.int c),some (yd n sws),some (.str w),some (.int R)] h=.rt (.lst [ba (w,v)]) h->∃w v,fM n w v/\h8 [.int c,yd n sws] h=.ok (.lst [ba (w,v)]) h:=λv P e=>by
  refine⟨w,v,P,eZ (np:=2) (nn:=4) (b:=jX) (ds:=[.int c,yd n sws]) rfl ?_ (qb _)⟩;show jX [some (.int c),some (yd n sws),none,none] h=_;unfold jX;generalize yd n sws=Y at*;refine(cc (ρ':=[some (.int c),some Y,some (.str w),none]) (h':=h) (by simp only[aw,ew,dF];simp)).trans ?_;refine(cc (ρ':=[some (.int c),some Y,some (.str w),some (.int R)]) (h':=h) (by simp[-bP,d8])).trans ?_;exact e
 have deed:(w=Str.ofString "turn"\/w=Str.ofString "lock"\/w=Str.ofString "unlock")->¬w=Str.ofString "permit"->¬w=Str.ofString "back"->∃w v,fM n w v/\h8 [.int c,yd n sws] h=.ok (.lst [ba (w,v)]) h:=λhw np nb=>by
  have hw4:w=Str.ofString "turn"\/w=Str.ofString "lock"\/w=Str.ofString "unlock"\/w=Str.ofString "back":=by
   rcases hw with h|h|h
   ·exact .inl h
   ·exact .inr (.inl h)
   ·exact .inr (.inr (.inl h))
  by_cases q:R % 32=9
  ·obtain⟨v,hv⟩:=jG (x:=999999999 - R / 32 % 100000000) (by omega)
   refine key v (.inl ⟨hw4,by omega⟩) ?_;have pw:jV (.int 10) (.int 8) h=.ok (.int 100000000) h:=by
    have:lV 10 8:=by decide
    simp[this]
   generalize yd n sws=Y at*;simp[-jV,np,nb,q,pw,hv]
  ·have l12:=ok.2.2.1
   obtain⟨v,hv⟩:=jG (x:=R / 2 % ((sws.length:Int)+3)) (wc _ (by omega));have lv:(v:Int)<(sws.length:Int)+3:=by rw[<-hv];exact w4 _ (by omega)
   refine key v (.inl ⟨hw4,by omega⟩) ?_;have ll:(sws.map Sw.d).length=sws.length:=qi _;have q':a9 (.int (R % 32)) (.int 9) h=.ok (.bl false) h:=by simp[q]
   have dm:aT (.int (R / 2)) (.int ((sws.length:Int)+3)) h=.ok (.int (v:Nat)) h:=by
    rw[<-hv];simp[show(0:Int)<(sws.length:Int)+3 by omega]
   have ad:aU (.int (sws.length:Nat)) (.int 3) h=.ok (.int ((sws.length:Int)+3)) h:=by simp
   have fl:b_ [.lst (sws.map Sw.d)] h=.ok (.int (sws.length:Nat)) h:=by
    rw[<-ll];generalize sws.map Sw.d=V;simp
   have m32:aT (.int R) (.int 32) h=.ok (.int (R % 32)) h:=by simp
   have d2:bP (.int R) (.int 2) h=.ok (.int (R / 2)) h:=by simp
   generalize yd n sws=Y at*;generalize sws.map Sw.d=V at*;generalize(sws.length:Int)=L at*;have p1:a9 (.str w) (.str ("permit":Str)) h=.ok (.bl false) h:=by simp[np]
   have p2:a9 (.str w) (.str ("back":Str)) h=.ok (.bl false) h:=by simp[nb]
   simp[-a9, -aI, -b_, -aT, -aU, -bP,p1,p2,m32,q',d2,y1,fl,ad,dm]
 rcases hw with rfl|rfl|rfl|rfl|rfl
 ·exact deed (.inl rfl) n11 (λz=>n3 z.symm)
 ·exact deed (.inr (.inl rfl)) n12 n8
 ·exact deed (.inr (.inr rfl)) n13 n10
 ·obtain⟨v,hv⟩:=jG (x:=R % 4) (by omega)
  refine key v (.inl ⟨.inr (.inr (.inr rfl)),by omega⟩) ?_;generalize yd n sws=Y at*;simp[n14,hv]
 ·obtain⟨k1,l1,e1⟩:=bit R
  obtain⟨k2,l2,e2⟩:=bit (R / 20);obtain⟨t,ht⟩:=jG (x:=R / 10 % 2) (by omega);have t2:t<2:=by omega
  have lv:t*2^k2<2^n:=by
   have h1:2^k2<2^n:=ze (by decide) l2;rcases(show t=0\/t=1 by omega)with rfl|rfl
   ·simp;exact zr n
   ·simpa using h1
  have l0:2^k1<2^n:=ze (by decide) l1;refine key (2^k1|||t*2^k2) (.inr ⟨rfl,?_,ww l0 lv⟩) ?_
  ·have:=zr k1
   exact qh this Nat.left_le_or
  ·have o1:=gK (show k1<=100 by omega)
   have s1:bp (.int 1) (.int (k1:Nat)) h=.ok (.int (2^k1:Nat)) h:=by simp[o1]
   have s2:bp (.int (t:Nat)) (.int (k2:Nat)) h=.ok (.int ((t*2^k2:Nat):Int)) h:=by
    have:lV (t:Int) (k2:Int):=by
     exact⟨by omega,by omega,by omega⟩
    simp[this]
   have s3:fw (.int (2^k1:Nat)) (.int ((t*2^k2:Nat):Int)) h=.ok (.int ((2^k1|||t*2^k2:Nat):Int)) h:=by
    have:=lG (2^k1) (t*2^k2);simp only[fw,gB];rw[this]
   have d10:bP (.int R) (.int 10) h=.ok (.int (R / 10)) h:=by simp
   have d20:bP (.int R) (.int 20) h=.ok (.int (R / 20)) h:=by simp
   have m2:aT (.int (R / 10)) (.int 2) h=.ok (.int (t:Nat)) h:=by rw[<-ht];simp
   have dn1:=dn R;have dn2:=dn (R / 20);rw[e1]at dn1;rw[e2]at dn2;have p1:a9 (.str ("permit":Str)) (.str ("permit":Str)) h=.ok (.bl true) h:=by simp
   have gF:ba (Str.ofString "permit",2^k1|||t*2^k2)=.tup [.str ("permit":Str),.int ((2^k1|||t*2^k2:Nat):Int)]:=rfl;rw[gF];generalize yd n sws=Y at*;generalize((2^k1|||t*2^k2:Nat):Int)=F at*;generalize((t*2^k2:Nat):Int)=F2 at*;generalize((2^k1:Nat):Int)=F1 at*;refine CV ?_;simp[-a9, -aI, -aT, -bP, -bp, -fw,p1,y0,dn1,dn2,s1,s2,s3,d10,d20,m2]
theorem A8(e:Nat->D)(r:Nat->Ro)(f:Nat->D):∀ks:List Nat,(∀k∈ks,g (e k) ρ0 h=.nx (r k) h/\(∃b,t (r k) h=.ok b h)/\m (r k) h=.ok (f k) h)->∃ks':List Nat,(∀k∈ks',k∈ks)/\ks'.length<=ks.length/\compLoop g t m ρ0 (ks.map e) h=.ok (ks'.map f) h
 | [],_=>⟨[],λk m=>m,qb _,rfl⟩
 | k::ks,H=>by
  obtain⟨ks',s,l,e'⟩:=A8 e r f ks λj m=>H j (q9 _ m);obtain⟨h1,⟨b,h2⟩,h3⟩:=H k (qf ..);cases b with
  | true=>exact⟨k::ks',λj m=>by
    rcases qr.mp m with rfl|m
    ·exact qf ..
    ·exact q9 _ (s j m),by simp;omega,by rw[List.map_cons];simp only[compLoop,h1,h2,h3,e',List.map_cons]⟩
  | false=>exact⟨ks',λj m=>q9 _ (s j m),by simp;omega,by rw[List.map_cons];simp only[compLoop,h1,h2,e']⟩
section
variable {n : Nat} {sws : List Sw}
noncomputable def d6(n:Nat)(sws:List Sw)(L:List (Str×Nat)):Prop:=∀x∈L,fM n x.1 x.2
theorem CU(ok:cD n sws)(hw:w=Str.ofString "turn"\/w=Str.ofString "lock")(hk:k<sws.length):fM n w k:=.inl ⟨by
 rcases hw with h|h
 ·exact .inl h
 ·exact .inr (.inl h),by have:=ok.2.2.1;omega⟩
theorem Fu(hw:sws[k]?=some w)(h:MH):aI (yd n sws) (.int 1) h=.ok (.lst (sws.map Sw.d)) h/\aI (.lst (sws.map Sw.d)) (.int (k:Nat)) h=.ok w.d h:=by
 refine⟨by simp[-List.map_map,yd],?_⟩;have a:cZ (sws.map Sw.d) (k:Int)=some w.d:=Eb (by rw[zb,hw];rfl);generalize sws.map Sw.d=T at*;simp[a]
theorem vY(w:Sw)(h:MH):∃s:Str,aI w.d (.int 0) h=.ok (.str s) h:=by
 cases w<;>exact⟨_,by simp[Sw.d];rfl⟩
theorem oY(ok:cD n sws){h:MH}(st:Nat)(word:Str)(x0 x3 x7:Option D):∀(ks:List Nat) (L:List (Str×Nat)) (x6:Option D),(∀k∈ks,k<sws.length)->d6 n sws L->L.length+ks.length<=100->∃(L':List (Str×Nat)) (x6':Option D),d6 n sws L'/\L'.length<=L.length+ks.length/\dY (ay 6) um (iL ks) [x0,some (yd n sws),some (.int (st:Nat)),x3,some (.ref h.length),some (.str word),x6,x7] (h++[some (.lst (L.map ba))])=.nx [x0,some (yd n sws),some (.int (st:Nat)),x3,some (.ref h.length),some (.str word),x6',x7] (h++[some (.lst (L'.map ba))])
 | [],L,x6,_,G,_=>⟨L,x6,G,qb _,rfl⟩
 | k::ks,L,x6,hk,G,hl=>by
  have k0:=hk k (qf ..);obtain⟨w,hw⟩:∃w,sws[k]?=some w:=⟨_,qt k0⟩;obtain⟨y1,y2⟩:=Fu (n:=n) hw (h++[some (.lst (L.map ba))]);obtain⟨s,y3⟩:=vY w (h++[some (.lst (L.map ba))]);have g0:ay 6 (.int (k:Nat)) [x0,some (yd n sws),some (.int (st:Nat)),x3,some (.ref h.length),some (.str word),x6,x7] (h++[some (.lst (L.map ba))])=.nx [x0,some (yd n sws),some (.int (st:Nat)),x3,some (.ref h.length),some (.str word),some (.int (k:Nat)),x7] (h++[some (.lst (L.map ba))]):=rfl;have step:∃L1:List (Str×Nat),d6 n sws L1/\L1.length<=L.length+1/\um [x0,some (yd n sws),some (.int (st:Nat)),x3,some (.ref h.length),some (.str word),some (.int (k:Nat)),x7] (h++[some (.lst (L.map ba))])=.nx [x0,some (yd n sws),some (.int (st:Nat)),x3,some (.ref h.length),some (.str word),some (.int (k:Nat)),x7] (h++[some (.lst (L1.map ba))]):=by
   have bt:=j9 st k;have ap:L.map ba++[.tup [.str ("turn":Str),.int (k:Nat)]]=(L++[(Str.ofString "turn",k)]).map ba:=by simp
   have gl:(h++[some (Cell.lst (L.map ba))])[h.length]?=some (some (.lst (L.map ba))):=by simp
   have st1:∀c,(h++[some (Cell.lst (L.map ba))]).set h.length c=h++[c]:=λc=>by simp
   have ln:(L.map ba).length=L.length:=qi _;have hl:L.length+(ks.length+1)<=100:=hl;by_cases q1:s=word
   ·cases q2:st.testBit k with
    | true=>
     rw[q2]at bt;simp at bt;refine⟨L++[(Str.ofString "turn",k)],λx m=> ?_,by simp,?_⟩
     ·rcases zi.mp m with m|m
      ·exact G x m
      ·rw[zz.mp m];exact CU ok (.inl rfl) k0
     rw[<-ap];generalize L.map ba=T at*;generalize yd n sws=Y at*;generalize sws.map Sw.d=V at*;simp[-aI,um,y1,y2,y3,q1,bt,show T.length<16777216 by omega]
    | false=>
     rw[q2]at bt;simp at bt;refine⟨L,G,by omega,?_⟩;generalize L.map ba=T at*;generalize yd n sws=Y at*;generalize sws.map Sw.d=V at*;simp[-aI,um,y1,y2,y3,q1,bt]
   ·refine⟨L,G,by omega,?_⟩
    generalize L.map ba=T at*;generalize yd n sws=Y at*;generalize sws.map Sw.d=V at*;simp[-aI,um,y1,y2,y3,q1]
  obtain⟨L1,G1,l1,e1⟩:=step;obtain⟨L',x6',G',l',e'⟩:=oY ok (h:=h) st word x0 x3 x7 ks L1 (some (.int (k:Nat))) (λj m=>hk j (q9 _ m)) G1 (by simp at hl;omega);refine⟨L',x6',G',by simp;omega,?_⟩;have ei:iL (k::ks)=D.int (k:Nat)::iL ks:=rfl;rw[ei];simp only[dY,g0,e1,e']
end
section
variable {n : Nat} {sws : List Sw}
theorem IY(V:List D)(L:Nat)(hV:V.length=L)(hL:L<=12)(ρ:Ro)(h:MH)(m:ME)(e:m ρ h=.ok (.lst V) h):eP (ag (bB b_ (ag m af)) af) ρ h=.ok (none,iL (List.range L)) h:=by
 have r:=yb L;have hb:((L:Nat):Int).natAbs<4611686018427387904:=by omega
 have aq:eE h (.lst V)=some V:=rfl;simp only[eP,ag,bB,e,eT,af,b_,aq,hV,chk,hb,if_true,Int.toNat_natCast,r]
theorem JC(ok:cD n sws){h:MH}(st:Nat)(x0 x3 x7:Option D):∀(ws:List Str) (L:List (Str×Nat)) (x5 x6:Option D),d6 n sws L->L.length+12*ws.length<=100->∃(L':List (Str×Nat)) (x5' x6':Option D),d6 n sws L'/\L'.length<=L.length+12*ws.length/\dY (ay 5) C4 (ws.map D.str) [x0,some (yd n sws),some (.int (st:Nat)),x3,some (.ref h.length),x5,x6,x7] (h++[some (.lst (L.map ba))])=.nx [x0,some (yd n sws),some (.int (st:Nat)),x3,some (.ref h.length),x5',x6',x7] (h++[some (.lst (L'.map ba))])
 | [],L,x5,x6,G,_=>⟨L,x5,x6,G,qb _,rfl⟩
 | w::ws,L,x5,x6,G,hl=>by
  have l12:=ok.2.2.1;obtain⟨L1,y6,G1,l1,e1⟩:=oY ok (h:=h) st w x0 x3 x7 (List.range sws.length) L x6 (λk m=>zj.mp m) G (by simp at hl ⊢;omega);rw[kg]at l1;obtain⟨L',z5,z6,G',l',e'⟩:=JC ok (h:=h) st x0 x3 x7 ws L1 (some (.str w)) y6 G1 (by simp at hl;omega);refine⟨L',z5,z6,G',by simp;omega,?_⟩;have g0:ay 5 (.str w) [x0,some (yd n sws),some (.int (st:Nat)),x3,some (.ref h.length),x5,x6,x7] (h++[some (.lst (L.map ba))])=.nx [x0,some (yd n sws),some (.int (st:Nat)),x3,some (.ref h.length),some (.str w),x6,x7] (h++[some (.lst (L.map ba))]):=rfl;have li:eP (ag (bB b_ (ag (ae aI (aa 1) (mC (.int 1))) af)) af) [x0,some (yd n sws),some (.int (st:Nat)),x3,some (.ref h.length),some (.str w),x6,x7] (h++[some (.lst (L.map ba))])=.ok (none,iL (List.range sws.length)) (h++[some (.lst (L.map ba))]):=IY (sws.map Sw.d) _ (qi _) l12 _ _ _ (by simp[-List.map_map,yd]);have b1:C4 [x0,some (yd n sws),some (.int (st:Nat)),x3,some (.ref h.length),some (.str w),x6,x7] (h++[some (.lst (L.map ba))])=.nx [x0,some (yd n sws),some (.int (st:Nat)),x3,some (.ref h.length),some (.str w),y6,x7] (h++[some (.lst (L1.map ba))]):=by
   unfold C4;rw[CW,li];simp only[dF,t6];exact e1
  rw[List.map_cons];simp only[dY,g0,b1,e']
theorem wL(x y:List D)(h:MH)(hx:(D.tup x).dat=true)(hy:(D.tup y).dat=true):∃b,a9 (.tup x) (.tup y) h=.ok (.bl b) h:=⟨(D.tup x).eq (.tup y),by simp[hx,hy]⟩
theorem Lr(s a b:Str)(h:MH):∃c,gD false (.str s) (.tup [.str a,.str b]) h=.ok (.bl c) h:=⟨_,rfl⟩
theorem vj(w:Sw):∃l,w.d=.tup l/\(D.tup l).dat=true:=by
 obtain⟨h1,h2⟩:=KN w;have hd:w.d.dat=true:=yu ⟨h1,h2⟩ (by omega);cases w<;>exact⟨_,rfl,hd⟩
theorem wC(k:Nat):(D.tup [.str ("earth":Str),.int (k:Nat)]).dat=true:=by
 have:=KN (.earth k);exact yu ⟨this.1,this.2⟩ (by omega)
theorem Nf(x k:Nat)(h:MH):∃b,tB (ae a9 (ae bN (ae dr (aa 1) (aa 0)) (mC (.int 1))) (mC (.int 0))) [some (.int (k:Nat)),some (.int (x:Nat))] h=.ok b h:=by
 have bt:=j9 x k;cases z:x.testBit k<;>rw[z]at bt<;>simp at bt
 ·exact⟨true,by simp[bt]⟩
 ·exact⟨false,by simp[bt]⟩
theorem Jd(es:List Nat):cut (iL es) none (some 1)=iL (es.take 1):=by
 cases es<;>simp[cut,bS]
theorem LK(h2:2<=n)(ok:cD n sws)(c:Int)(st:Nat)(hb:Hb h):∃L:List (Str×Nat),d6 n sws L/\L.length<=100/\lB [.int c,yd n sws,.int (st:Nat)] h=.ok (.lst (L.map ba)) h:=by
 have l12:=ok.2.2.1;have h10:=ok.2.1;have hn0:(0:Int)<(n:Int):=by omega
 obtain⟨k0,hk0⟩:=jG (x:=c / 8 % (n:Int)) (wc _ (by omega));have lk0:k0<n:=by have:=w4 (c / 8) hn0;omega
 obtain⟨L1,x5,x6,G1,l1,e1⟩:=JC ok (h:=h) st (some (.int c)) (some (.int (k0:Nat))) none [Str.ofString "feed",Str.ofString "breaker",Str.ofString "splitter"] [] none none (λx m=>(nomatch m)) (by simp);have il:(iL (List.range sws.length)).length<16777216:=by rw[qi,kg];omega
 have Y1:∀h',aI (yd n sws) (.int 1) h'=.ok (.lst (sws.map Sw.d)) h':=λh'=>by simp[-List.map_map,yd]
 have Y0:∀h',aI (yd n sws) (.int 0) h'=.ok (.int (n:Nat)) h':=λh'=>by simp[yd]
 have cm2:∀h':MH,∃ks:List Nat,(∀k∈ks,k∈List.range sws.length)/\ks.length<=(List.range sws.length).length/\compLoop (ay 0) (tB (ae (gD false) (ae aI (ae aI (ae aI (aa 1) (mC (.int 1))) (aa 0)) (mC (.int 0))) (a_ (ag (mC (.str "feed")) (ag (mC (.str "splitter")) af))))) (a_ (ag (mC (.str "lock")) (ag (aa 0) af))) [none,some (yd n sws)] (iL (List.range sws.length)) h'=.ok (ks.map λk=>ba (Str.ofString "lock",k)) h':=λh'=>
  A8 (λk:Nat=>D.int k) (λk=>[some (.int (k:Nat)),some (yd n sws)]) (λk=>ba (Str.ofString "lock",k)) (List.range sws.length) λk m=>by
   obtain⟨w,hw⟩:∃w,sws[k]?=some w:=⟨_,qt (zj.mp m)⟩;obtain⟨y1,y2⟩:=Fu (n:=n) hw h';obtain⟨s,y3⟩:=vY w h';obtain⟨b,y4⟩:=Lr s "feed" "splitter" h';generalize yd n sws=Y at*;generalize sws.map Sw.d=V at*;exact⟨rfl,⟨b,by simp[-aI, -gD,y1,y2,y3,y4]⟩,by simp⟩
 have cm3:∀h':MH,∃es:List Nat,(∀k∈es,k∈List.range sws.length)/\es.length<=(List.range sws.length).length/\compLoop (ay 0) (tB (ae a9 (ae aI (ae aI (aa 2) (mC (.int 1))) (aa 0)) (a_ (ag (mC (.str "earth")) (ag (aa 1) af))))) (aa 0) [none,some (.int (k0:Nat)),some (yd n sws)] (iL (List.range sws.length)) h'=.ok (es.map λk:Nat=>D.int k) h':=λh'=>
  A8 (λk:Nat=>D.int k) (λk=>[some (.int (k:Nat)),some (.int (k0:Nat)),some (yd n sws)]) (λk=>D.int (k:Nat)) (List.range sws.length) λk m=>by
   obtain⟨w,hw⟩:∃w,sws[k]?=some w:=⟨_,qt (zj.mp m)⟩;obtain⟨y1,y2⟩:=Fu (n:=n) hw h';obtain⟨l,el,hd⟩:=vj w;rw[el]at y2;obtain⟨b,y4⟩:=wL l [.str ("earth":Str),.int (k0:Nat)] h' hd (wC k0);generalize yd n sws=Y at*;generalize sws.map Sw.d=V at*;exact⟨rfl,⟨b,by simp[-aI, -a9,y1,y2,y4]⟩,by simp⟩
 have cm4:∀(es:List Nat) (h':MH),∃fs:List Nat,(∀k∈fs,k∈es)/\fs.length<=es.length/\compLoop (ay 0) (tB (ae a9 (ae bN (ae dr (aa 1) (aa 0)) (mC (.int 1))) (mC (.int 0)))) (a_ (ag (mC (.str "turn")) (ag (aa 0) af))) [none,some (.int (st:Nat))] (iL es) h'=.ok (fs.map λk=>ba (Str.ofString "turn",k)) h':=λes h'=>
  A8 (λk:Nat=>D.int k) (λk=>[some (.int (k:Nat)),some (.int (st:Nat))]) (λk=>ba (Str.ofString "turn",k)) es λk m=>⟨rfl,Nf st k h',by simp⟩
 have cm5:∀(es:List Nat) (h':MH),∃fs:List Nat,(∀k∈fs,k∈es)/\fs.length<=es.length/\compLoop (ay 0) aS (a_ (ag (mC (.str "turn")) (ag (aa 0) af))) [none] (iL es) h'=.ok (fs.map λk=>ba (Str.ofString "turn",k)) h':=λes h'=>
  A8 (λk:Nat=>D.int k) (λk=>[some (.int (k:Nat))]) (λk=>ba (Str.ofString "turn",k)) es λk m=>⟨rfl,⟨true,rfl⟩,by simp⟩
 obtain⟨ks,s2,l2,e2⟩:=cm2 (h++[none]);let A2:List (Str×Nat):=L1++ks.map λk=>(Str.ofString "lock",k);have a2:L1.map ba++(ks.map λk=>ba (Str.ofString "lock",k))=A2.map ba:=by simp[A2,List.map_map,Function.comp_def]
 obtain⟨es,s3,l3,e3⟩:=cm3 (h++[none]++[some (.lst (A2.map ba))]);obtain⟨fs,s4,l4,e4⟩:=cm4 (es.take 1) (h++[none]++[some (.lst (A2.map ba))]);let A3:List (Str×Nat):=A2++fs.map λk=>(Str.ofString "turn",k);have a3:A2.map ba++(fs.map λk=>ba (Str.ofString "turn",k))=A3.map ba:=by simp[A3,List.map_map,Function.comp_def]
 obtain⟨gs,s5,l5,e5⟩:=cm5 (es.take 1) (h++[none]++[some (.lst (A2.map ba))]++[some (.lst (A3.map ba))]);let A4:List (Str×Nat):=(A3++[(Str.ofString "permit",2^k0)])++gs.map λk=>(Str.ofString "turn",k);have a4:A3.map ba++[.tup [.str ("permit":Str),.int ((2^k0:Nat):Int)]]++(gs.map λk=>ba (Str.ofString "turn",k))=A4.map ba:=by simp[A4,List.map_map,Function.comp_def]
 obtain⟨u,hu⟩:=jG (x:=c / 64 % 12) (by omega);let A5:List (Str×Nat):=A4++[(Str.ofString "unlock",u),(Str.ofString "turn",u)];have a5:A4.map ba++[.tup [.str ("unlock":Str),.int (u:Nat)],.tup [.str ("turn":Str),.int (u:Nat)]]=A5.map ba:=by simp[A5]
 have t1:(es.take 1).length<=1:=by rw[k7];omega
 rw[kg]at l2 l3;have n2:A2.length<=48:=by simp[A2];simp at l1;omega
 have n3:A3.length<=49:=by simp[A3];omega
 have n4:A4.length<=51:=by simp[A4];omega
 have n5:A5.length<=53:=by simp[A5];omega
 have tk:∀k∈es.take 1,k<sws.length:=λk m=>zj.mp (s3 k (kr m));refine⟨A5,λx m=> ?_,by omega,?_⟩
 ·have g2:d6 n sws A2:=λx m=>by
   rcases zi.mp m with m|m
   ·exact G1 x m
   ·obtain⟨k,mk,rfl⟩:=qv.mp m
    exact CU ok (.inr rfl) (zj.mp (s2 k mk))
  have g3:d6 n sws A3:=λx m=>by
   rcases zi.mp m with m|m
   ·exact g2 x m
   ·obtain⟨k,mk,rfl⟩:=qv.mp m
    exact CU ok (.inl rfl) (tk k (s4 k mk))
  have g4:d6 n sws A4:=λx m=>by
   rcases zi.mp m with m|m
   ·rcases zi.mp m with m|m
    ·exact g3 x m
    ·rw[zz.mp m]
     exact .inr ⟨rfl,zr _,ze (by decide) lk0⟩
   ·obtain⟨k,mk,rfl⟩:=qv.mp m
    exact CU ok (.inl rfl) (tk k (s5 k mk))
  rcases zi.mp m with m|m
  ·exact g4 x m
  ·have u12:u<1000000000:=by omega
   simp only[qr,k8,or_false]at m;rcases m with rfl|rfl
   ·exact .inl ⟨.inr (.inr (.inl rfl)),u12⟩
   ·exact .inl ⟨.inl rfl,u12⟩
 ·have b2:(A2.map ba).length=A2.length:=qi _
  have b3:(A3.map ba).length=A3.length:=qi _;have b4:(A4.map ba).length=A4.length:=qi _;have bL:(L1.map ba).length+(ks.map λk=>ba (Str.ofString "lock",k)).length=A2.length:=by rw[<-b2,<-a2,zf]
  have bL3:(A2.map ba).length+(fs.map λk=>ba (Str.ofString "turn",k)).length=A3.length:=by rw[<-b3,<-a3,zf]
  have bL4:(A3.map ba).length+1+(gs.map λk=>ba (Str.ofString "turn",k)).length=A4.length:=by rw[<-b4,<-a4,zf,zf];rfl
  have bn:D.bnds h.length (A5.map ba)=true:=BX λd md=>by
   obtain⟨x,_,rfl⟩:=qv.mp md;simp[D.bnd,D.bnds]
  have ct:=Jd es;have dm:aT (.int (c / 8)) (.int (n:Nat)) h=.ok (.int (k0:Nat)) h:=by
   rw[<-hk0];have:0<n:=by omega
   simp[this]
  have o1:=gK (show k0<=100 by omega);have sh:∀h',bp (.int 1) (.int (k0:Nat)) h'=.ok (.int ((2^k0:Nat):Int)) h':=λh'=>by simp[o1]
  refine Pp (np:=3) (nn:=8) (b:=kB) (ds:=[.int c,yd n sws,.int (st:Nat)]) (J:=[none,some (.lst (A2.map ba)),some (.lst (A3.map ba)),some (.lst (A4.map ba))]) rfl ?_ hb bn;show kB [some (.int c),some (yd n sws),some (.int (st:Nat)),none,none,none,none,none] h=_;have ej:h++[none,some (Cell.lst (A2.map ba)),some (.lst (A3.map ba)),some (.lst (A4.map ba))]=h++[none]++[some (.lst (A2.map ba))]++[some (.lst (A3.map ba))]++[some (.lst (A4.map ba))]:=by simp
  rw[ej];have lr:∀(ρ:Ro) (h':MH) (e:(ae aI (aa 1) (mC (.int 1))) ρ h'=.ok (.lst (sws.map Sw.d)) h'),eP (ag (bB b_ (ag (ae aI (aa 1) (mC (.int 1))) af)) af) ρ h'=.ok (none,iL (List.range sws.length)) h':=λρ h' e=>IY (sws.map Sw.d) _ (qi _) l12 _ _ _ e;unfold kB;generalize yd n sws=Y at*;have le:(iL es).length<=12:=by rw[qi];omega
  have lt1:(iL (es.take 1)).length<=1:=by rw[qi];exact t1
  refine(cc (ρ':=[some (.int c),some Y,some (.int (st:Nat)),some (.int (k0:Nat)),none,none,none,none]) (h':=h) (by simp[-aI, -aT,Y0,dm])).trans ?_;refine(cc (ρ':=[some (.int c),some Y,some (.int (st:Nat)),some (.int (k0:Nat)),some (.ref h.length),none,none,none]) (h':=h++[some (.lst [])]) (by simp)).trans ?_;refine(cc (ρ':=[some (.int c),some Y,some (.int (st:Nat)),some (.int (k0:Nat)),some (.ref h.length),x5,x6,none]) (h':=h++[some (.lst (L1.map ba))]) ?_).trans ?_
  ·have li:cE (bw (cJ (ag (mC (.str "feed")) (ag (mC (.str "breaker")) (ag (mC (.str "splitter")) af))))) [some (.int c),some Y,some (.int (st:Nat)),some (.int (k0:Nat)),some (.ref h.length),none,none,none] (h++[some (.lst [])])=.ok (none,[Str.ofString "feed",Str.ofString "breaker",Str.ofString "splitter"].map D.str) (h++[some (.lst [])]):=by simp
   rw[CW,li];simp only[dF,t6];exact e1
  have gL:(h++[some (Cell.lst (L1.map ba))])[h.length]?=some (some (.lst (L1.map ba))):=by simp
  have sL:(h++[some (Cell.lst (L1.map ba))]).set h.length none=h++[none]:=by simp
  generalize hA2:A2.map ba=B2 at*;generalize hA3:A3.map ba=B3 at*;generalize hA4:A4.map ba=B4 at*;generalize hA5:A5.map ba=B5 at*;generalize L1.map ba=B1 at*;generalize(ks.map λk=>ba (Str.ofString "lock",k))=K2 at*;generalize(fs.map λk=>ba (Str.ofString "turn",k))=F3 at*;generalize(gs.map λk=>ba (Str.ofString "turn",k))=G4 at*;simp only[EA,zn,zh,gL,sL,g9,gc];have lc2:cC 1 [1] (eP (ag (bB b_ (ag (ae aI (aa 1) (mC (.int 1))) af)) af)) (ay 0) (tB (ae (gD false) (ae aI (ae aI (ae aI (aa 1) (mC (.int 1))) (aa 0)) (mC (.int 0))) (a_ (ag (mC (.str "feed")) (ag (mC (.str "splitter")) af))))) (a_ (ag (mC (.str "lock")) (ag (aa 0) af))) [some (.int c),some Y,some (.int (st:Nat)),some (.int (k0:Nat)),some (.lst B1),x5,x6,none] (h++[none])=.ok K2 (h++[none]):=by
   rw[i6,lr _ _ (by simp[-aI,Y1])];simp only[eT,chk,il,if_true,lO];exact e2
  refine(cc (ρ':=[some (.int c),some Y,some (.int (st:Nat)),some (.int (k0:Nat)),some (.ref (h++[none]).length),x5,x6,none]) (h':=h++[none]++[some (.lst B2)]) ?_).trans ?_
  ·rw[<-a2]
   generalize h++[none]=h1 at*;simp only[aw,lW,gW,aa,bw,lc2,zn,zh,eT,gO,Be,chk,show B1.length+K2.length<=16777216 by omega,if_true,dF];simp
  generalize hh1:h++[none]=h1 at*;have lc3:cC 1 [3,1] (eP (ag (bB b_ (ag (ae aI (aa 1) (mC (.int 1))) af)) af)) (ay 0) (tB (ae a9 (ae aI (ae aI (aa 2) (mC (.int 1))) (aa 0)) (a_ (ag (mC (.str "earth")) (ag (aa 1) af))))) (aa 0) [some (.int c),some Y,some (.int (st:Nat)),some (.int (k0:Nat)),some (.ref h1.length),x5,x6,none] (h1++[some (.lst B2)])=.ok (iL es) (h1++[some (.lst B2)]):=by
   rw[i6,lr _ _ (by simp[-aI,Y1])];simp only[eT,chk,il,if_true,lO];exact e3
  refine(cc (ρ':=[some (.int c),some Y,some (.int (st:Nat)),some (.int (k0:Nat)),some (.ref h1.length),x5,x6,some (.lst (iL es))]) (h':=h1++[some (.lst B2)]) ?_).trans ?_
  ·simp only[aw,bw,lc3,eT,dF]
   simp
  have sl:∀(x4:Option D) (h':MH),cE (fg (aa 7) ee (c6 (mC (.int 1)))) [some (.int c),some Y,some (.int (st:Nat)),some (.int (k0:Nat)),x4,x5,x6,some (.lst (iL es))] h'=.ok (none,iL (es.take 1)) h':=λx4 h'=>by
   generalize iL (es.take 1)=E1 at*;generalize iL es=E0 at*;simp[ct]
  have g2:(h1++[some (Cell.lst B2)])[h1.length]?=some (some (.lst B2)):=by simp
  have lc4:cC 1 [2] (cE (fg (aa 7) ee (c6 (mC (.int 1))))) (ay 0) (tB (ae a9 (ae bN (ae dr (aa 1) (aa 0)) (mC (.int 1))) (mC (.int 0)))) (a_ (ag (mC (.str "turn")) (ag (aa 0) af))) [some (.int c),some Y,some (.int (st:Nat)),some (.int (k0:Nat)),some (.ref h1.length),x5,x6,some (.lst (iL es))] (h1++[some (.lst B2)])=.ok F3 (h1++[some (.lst B2)]):=by
   rw[i6,sl];simp only[eT,chk,show(iL (es.take 1)).length<16777216 by omega,if_true,lO];exact e4
  generalize hh2:h1++[some (Cell.lst B2)]=h2' at*;refine(cc (ρ':=[some (.int c),some Y,some (.int (st:Nat)),some (.int (k0:Nat)),some (.ref h2'.length),x5,x6,some (.lst (iL es))]) (h':=h2'++[some (.lst B3)]) ?_).trans ?_
  ·rw[<-a3]
   simp only[aw,lW,gW,aa,bw,lc4,zn,zh,eT,gO,g2,Be,chk,show B2.length+F3.length<=16777216 by omega,if_true,dF];simp
  have g3:(h2'++[some (Cell.lst B3)])[h2'.length]?=some (some (.lst B3)):=by simp
  have lc5:cC 1 [] (cE (fg (aa 7) ee (c6 (mC (.int 1))))) (ay 0) aS (a_ (ag (mC (.str "turn")) (ag (aa 0) af))) [some (.int c),some Y,some (.int (st:Nat)),some (.int (k0:Nat)),some (.ref h2'.length),x5,x6,some (.lst (iL es))] (h2'++[some (.lst B3)])=.ok G4 (h2'++[some (.lst B3)]):=by
   rw[i6,sl];simp only[eT,chk,show(iL (es.take 1)).length<16777216 by omega,if_true,lO];exact e5
  generalize hh3:h2'++[some (Cell.lst B3)]=h3' at*;generalize((2^k0:Nat):Int)=P2 at*;refine(cc (ρ':=[some (.int c),some Y,some (.int (st:Nat)),some (.int (k0:Nat)),some (.ref h3'.length),x5,x6,some (.lst (iL es))]) (h':=h3'++[some (.lst B4)]) ?_).trans ?_
  ·rw[<-a4]
   have ad:(ae aU (aa 4) (bw (cJ (ag (a_ (ag (mC (.str "permit")) (ag (ae bp (mC (.int 1)) (aa 3)) af))) af)))) [some (.int c),some Y,some (.int (st:Nat)),some (.int (k0:Nat)),some (.ref h2'.length),x5,x6,some (.lst (iL es))] h3'=.ok (.lst (B3++[.tup [.str ("permit":Str),.int P2]])) h3':=by
    simp[-bp,sh,g3,show B3.length<=16777215 by omega]
   have lb:(B3++[D.tup [.str ("permit":Str),.int P2]]).length+G4.length<=16777216:=by simp;omega
   generalize B3++[D.tup [.str ("permit":Str),.int P2]]=B9 at*;simp only[aw,lW,gW,ad,bw,lc5,eT,gO,Be,chk,lb,if_true,dF];simp
  have g4:(h3'++[some (Cell.lst B4)])[h3'.length]?=some (some (.lst B4)):=by simp
  generalize h3'++[some (Cell.lst B4)]=h4' at*;rw[<-a5];simp[g4,hu,show B4.length<=16777214 by omega]
end
section
variable {d p r q r2 : Nat} {n : Nat} {sws : List Sw}
theorem HC(x0 x1 x3 x5 x6 x7:Option D):∀(L:List (Str×Nat)) {h:MH} {b:Bd} {m:Nat} (x8 x9:Option D),d6 n sws L->T38 h d p r q r2 b->I38 b m->b.n=n->b.sws=sws->m+L.length<100000->∃(H:MH) (b':Bd) (y8 y9:Option D),T38 H d p r q r2 b'/\I38 b' (m+L.length)/\b'.n=n/\b'.sws=sws/\dY (dO [8,9]) DL (L.map ba) [x0,x1,some (.ref d),x3,some (.ref q),x5,x6,x7,x8,x9] h=.nx [x0,x1,some (.ref d),x3,some (.ref q),x5,x6,x7,y8,y9] H
  | [],h,b,m,x8,x9,_,T,I,en,es,_=>⟨h,b,x8,x9,T,I,en,es,rfl⟩
  | (w,v)::L,h,b,m,x8,x9,G,T,I,en,es,hm=>by
    have P:fM b.n w v:=by rw[en];exact G (w,v) (qf ..)
    obtain⟨H1,b1,T1,I1,en1,es1,_,_,e1⟩:=Mw T I (by omega) P;obtain⟨H,b',y8,y9,T',I',en',es',e'⟩:=HC x0 x1 x3 x5 x6 x7 L (some (.str w)) (some (.int (v:Nat))) (λx mx=>G x (q9 _ mx)) T1 I1 (en1.trans en) (es1.trans es) (by simp at hm;omega);refine⟨H,b',y8,y9,T',by rw[qz,show m+(L.length+1)=m+1+L.length by omega];exact I',en',es',?_⟩;have g0:dO [8,9] (ba (w,v)) [x0,x1,some (.ref d),x3,some (.ref q),x5,x6,x7,x8,x9] h=.nx [x0,x1,some (.ref d),x3,some (.ref q),x5,x6,x7,some (.str w),some (.int (v:Nat))] h:=by simp
    have st:DL [x0,x1,some (.ref d),x3,some (.ref q),x5,x6,x7,some (.str w),some (.int (v:Nat))] h=.nx [x0,x1,some (.ref d),x3,some (.ref q),x5,x6,x7,some (.str w),some (.int (v:Nat))] H1:=by
      simp[DL,e1]
    rw[List.map_cons];simp only[dY,g0,st,e']
theorem I38.upto(I:I38 b m)(h:m<=m'):I38 b m':=⟨I.ok,I.s,I.l,I.g,I.nd,zd I.len h,zd I.la h⟩
theorem PK(hn:2<=n)(x0 x3:Option D)(T:T38 h d p r q r2 b)(I:I38 b m)(en:b.n=n)(es:b.sws=sws)(hm:m+100<100000)(left v:Int)(x7 x8 x9:Option D):∃(H:MH) (b':Bd) (left':Int) (y7 y8 y9:Option D),T38 H d p r q r2 b'/\I38 b' (m+100)/\b'.n=n/\b'.sws=sws/\zC [x0,some (yd n sws),some (.ref d),x3,some (.ref q),some (.int left),some (.int v),x7,x8,x9] h=.nx [x0,some (yd n sws),some (.ref d),x3,some (.ref q),some (.int left'),some (.int v),y7,y8,y9] H:=by
 have ok:cD n sws:=by rw[<-en,<-es];exact I.ok
 obtain⟨w0,v0,P0,e0⟩:=OK hn ok (v / 2) h;have st:=iH T.a (tab:=iZ) (f:="standing") (z:=fC) (m:=aa 4) (l:=af) (ρ:=[x0,some (yd n sws),some (.ref d),x3,some (.ref q),some (.int (left - 1)),some (.int v),some (.lst [ba (w0,v0)]),x8,x9]) (ds:=[]) rfl (by decide+kernel) (by simp) (by simp);have st:=st.trans (wM T.a);obtain⟨L,G,lL,left',e1⟩:∃(L:List (Str×Nat)),d6 n sws L/\L.length<=100/\∃left':Int,∀B:MS,aj (aw (aV h8 (ag (ae bP (aa 6) (mC (.int 2))) (ag (aa 1) af))) (ay 7)) (aj (bh (eS (tB (ae Cq (aa 5) (mC (.int 0)))) (tB (ae a9 (ae aT (aa 6) (mC (.int 16))) (mC (.int 6)))))
   (aj (aw (ae fZ (aa 5) (mC (.int 1))) (ay 5))
   (aw (aV lB (ag (ae bP (aa 6) (mC (.int 16))) (ag (aa 1) (ag (aF iZ "standing" (aa 4) af) af)))) (ay 7))) bz) B) [x0,some (yd n sws),some (.ref d),x3,some (.ref q),some (.int left),some (.int v),x7,x8,x9] h=B [x0,some (yd n sws),some (.ref d),x3,some (.ref q),some (.int left'),some (.int v),some (.lst (L.map ba)),x8,x9] h:=by
  have s1:∀B:MS,aj (aw (aV h8 (ag (ae bP (aa 6) (mC (.int 2))) (ag (aa 1) af))) (ay 7)) B [x0,some (yd n sws),some (.ref d),x3,some (.ref q),some (.int left),some (.int v),x7,x8,x9] h=B [x0,some (yd n sws),some (.ref d),x3,some (.ref q),some (.int left),some (.int v),some (.lst [ba (w0,v0)]),x8,x9] h:=λB=>by
   generalize yd n sws=Y at*;exact cc (by simp[e0])
  by_cases c1:0<left
  ·by_cases c2:v % 16=6
   ·obtain⟨L,G,lL,e2⟩:=LK hn ok (v / 16) b.st T.a.hb
    refine⟨L,G,lL,left - 1,λB=> ?_⟩;rw[s1];refine cc ?_;generalize yd n sws=Y at*;generalize ba (w0,v0)=P at*;have t:eS (tB (ae Cq (aa 5) (mC (.int 0)))) (tB (ae a9 (ae aT (aa 6) (mC (.int 16))) (mC (.int 6)))) [x0,some Y,some (.ref d),x3,some (.ref q),some (.int left),some (.int v),some (.lst [P]),x8,x9] h=.ok true h:=by simp[c1,c2]
    simp only[bh,t,dF,if_true];refine(cc (ρ':=[x0,some Y,some (.ref d),x3,some (.ref q),some (.int (left - 1)),some (.int v),some (.lst [P]),x8,x9]) (h':=h) (by simp)).trans ?_;simp only[aw,aV,ag,ae,aa,mC,zn,zh,eT,bP,oN,chk,show(0:Int)<16/\(16:Int)<1073741824 by omega,and_self,if_true,st,af,e2,dF];simp
   ·refine⟨[(w0,v0)],λx m=>by rw[zz.mp m];exact P0,by simp,left,λB=> ?_⟩
    rw[s1];refine cc ?_;generalize yd n sws=Y at*;simp[c1,c2]
  ·refine⟨[(w0,v0)],λx m=>by rw[zz.mp m];exact P0,by simp,left,λB=> ?_⟩
   rw[s1];refine cc ?_;generalize yd n sws=Y at*;simp[c1]
 obtain⟨H,b',y8,y9,T',I',en',es',e2⟩:=HC x0 (some (yd n sws)) x3 (some (.int left')) (some (.int v)) (some (.lst (L.map ba))) L x8 x9 G T I en es (by omega);obtain⟨k,hk⟩:=jG (x:=v / 3 % 4) (by omega);have lk:=Jn T' I' k (by omega);rw[en',es']at lk;refine⟨H,b',left',some (.lst (L.map ba)),y8,y9,T',I'.upto (by omega),en',es',?_⟩;unfold zC;rw[e1];generalize L.map ba=LL at*;generalize yd n sws=Y at*;refine(cc (ρ':=[x0,some Y,some (.ref d),x3,some (.ref q),some (.int left'),some (.int v),some (.lst LL),y8,y9]) (h':=H) ?_).trans ?_
 ·have li:cE (aa 7) [x0,some Y,some (.ref d),x3,some (.ref q),some (.int left'),some (.int v),some (.lst LL),x8,x9] h=.ok (none,LL) h:=by simp
  rw[CW,li];simp only[dF,t6];exact e2
 simp[hk,lk]
theorem Il(hn:2<=n)(x0 x3:Option D):∀(vs:List Int) {h:MH} {b:Bd} {m:Nat} (left:Int) (x6 x7 x8 x9:Option D),T38 h d p r q r2 b->I38 b m->b.n=n->b.sws=sws->m+100*vs.length<99000->∃(H:MH) (b':Bd) (m':Nat) (left':Int) (y6 y7 y8 y9:Option D),T38 H d p r q r2 b'/\I38 b' m'/\b'.n=n/\b'.sws=sws/\dY (ay 6) zC (vs.map D.int) [x0,some (yd n sws),some (.ref d),x3,some (.ref q),some (.int left),x6,x7,x8,x9] h=.nx [x0,some (yd n sws),some (.ref d),x3,some (.ref q),some (.int left'),y6,y7,y8,y9] H
 | [],h,b,m,left,x6,x7,x8,x9,T,I,en,es,_=>⟨h,b,m,left,x6,x7,x8,x9,T,I,en,es,rfl⟩
 | v::vs,h,b,m,left,x6,x7,x8,x9,T,I,en,es,hm=>by
  simp only[qz]at hm;obtain⟨H1,b1,l1,z7,z8,z9,T1,I1,en1,es1,e1⟩:=PK hn x0 x3 T I en es (by omega) left v x7 x8 x9;obtain⟨H,b',m',left',y6,y7,y8,y9,T',I',en',es',e'⟩:=Il hn x0 x3 vs l1 (some (.int v)) z7 z8 z9 T1 I1 en1 es1 (by omega);refine⟨H,b',m',left',y6,y7,y8,y9,T',I',en',es',?_⟩;have g0:ay 6 (.int v) [x0,some (yd n sws),some (.ref d),x3,some (.ref q),some (.int left),x6,x7,x8,x9] h=.nx [x0,some (yd n sws),some (.ref d),x3,some (.ref q),some (.int left),some (.int v),x7,x8,x9] h:=rfl;rw[List.map_cons];simp only[dY,g0,e1,e']
end
noncomputable def fh:ME:=rZ kT (mC (.str " ")) (ag (bw (cC 1 [] (cE (aa 0)) (ay 0) aS (bB uJ (ag (aa 0) af)))) af)
theorem nq(hk:k.length<=8)(ha:a<=12)(h:MH):fh [some (.tup [.str k,.int (a:Nat)])] h=.ok (.str (cI (k,[(a:Int)]))) h:=by
 have lg:(a:Nat).log2<1920:=zm (wq a) (by omega);have lw:(br (a:Int)).length<=2:=(gu (n:=a) (by omega) (by omega)).1;have l1:(" ":Str).length=1:=by decide+kernel
 have jn:Txt.join (" ":Str) [k,br (a:Int)]=cI (k,[(a:Int)]):=by rw[Hr,uy];rfl
 simp[fh,compLoop,caps,lg,jn];omega
theorem oa(hk:k.length<=8)(ha:a<=12)(hb:b<=12)(h:MH):fh [some (.tup [.str k,.int (a:Nat),.int (b:Nat)])] h=.ok (.str (cI (k,[(a:Int),(b:Int)]))) h:=by
 have lg:(a:Nat).log2<1920:=zm (wq a) (by omega);have lg2:(b:Nat).log2<1920:=zm (wq b) (by omega);have lw:(br (a:Int)).length<=2:=(gu (n:=a) (by omega) (by omega)).1;have lw2:(br (b:Int)).length<=2:=(gu (n:=b) (by omega) (by omega)).1;have l1:(" ":Str).length=1:=by decide+kernel
 have jn:Txt.join (" ":Str) [k,br (a:Int),br (b:Int)]=cI (k,[(a:Int),(b:Int)]):=by rw[Hr,uy];rfl
 simp[fh,compLoop,caps,lg,lg2,jn];omega
theorem xa(hn:n<=10)(ok:s.ok n)(h:MH):fh [some s.d] h=.ok (.str (bQ s)) h:=by
 have g:("feed":Str).length<=8/\("earth":Str).length<=8/\("breaker":Str).length<=8/\("splitter":Str).length<=8:=by decide+kernel
 cases s with
 | feed a=>exact nq g.1 (by have:a<n:=ok;omega) _
 | earth a=>exact nq g.2.1 (by have:a<n:=ok;omega) _
 | breaker a b=>exact oa g.2.2.1 (by have:=ok.1;omega) (by have:=ok.2.1;omega) _
 | splitter a b=>exact oa g.2.2.2 (by have:=ok.1;omega) (by have:=ok.2.1;omega) _
noncomputable def ie:MT:=tB (ae ib (aF jo "say" (aa 1) (ag (aa 0) af)) (mC (.str "ok")))
theorem nu(o:h[d]?=some (bF y p))(e:cy [.ref d,.str row] h=.ok (.str "ok") H):ie [some (.str row),some (.ref d)] h=.ok false H:=by
 have m:=(CT o (m:=aa 1) (l:=ag (aa 0) af) (ρ:=[some (.str row),some (.ref d)]) (row:=row) (by simp) (by simp)).trans e;simp[-aF,ie,m]
theorem JH{n d:Nat}:∀(us ds:List Sw) (h:MH) (p r:Nat),cD n (ds++us)->Dk h d p r (Bd.new n ds)->d<p->∃(H:MH) (p' r':Nat),Dk H d p' r' (Bd.new n (ds++us))/\d<p'/\compLoop (ay 0) ie (aa 0) [none,some (.ref d)] (us.map λs=>D.str (bQ s)) h=.ok [] H
 | [],ds,h,p,r,ok,D0,hp=>⟨h,p,r,by rw[zx];exact D0,hp,rfl⟩
 | s::us,ds,h,p,r,ok,D0,hp=>by
  have sok:s.ok n:=ok.2.2.2 s (by simp);have okd:cD n ds:=⟨ok.1,ok.2.1,by have:=ok.2.2.1;simp at this;omega,λw m=>ok.2.2.2 w (wx _ m)⟩;have okd2:cD n (ds++[s]):=⟨ok.1,ok.2.1,by have:=ok.2.2.1;simp at this ⊢;omega,λw m=>ok.2.2.2 w (by
   rcases zi.mp m with m|m
   ·exact wx _ m
   ·rw[zz.mp m];simp)⟩
  have ld:d<h.length:=(q8.mp D0.o).1;have lp:=D0.a.lt';have e1:=Ms D0 okd sok (by have:=ok.2.2.1;simp at this;show ds.length<12;omega);have e1:cy [.ref d,.str (bQ s)] h=.ok (.str "ok") (fF h d n (ds++[s]) (.ref p)):=e1;have D1:=Ld (d:=d) (b:=.ref p) okd2 D0.a.hb ld (λm hm=>by simp[D.bnd];omega);have ea:ds++s::us=(ds++[s])++us:=by simp
  rw[ea];obtain⟨H,p',r',D2,hp',e⟩:=JH (n:=n) us (ds++[s]) _ _ _ (by rw[<-ea];exact ok) D1 ld;refine⟨H,p',r',D2,hp',?_⟩;have t:=nu D0.o e1;have g0:ay 0 (.str (bQ s)) [none,some (.ref d)] h=.nx [some (.str (bQ s)),some (.ref d)] h:=rfl;rw[List.map_cons];simp only[compLoop,g0,t,e]
theorem N_(h:MH):iO [.ref h.length] (h++[some (.ins "Desk" [])])=.ok .non (h++[bF .non .non]):=by
 have key:jW [some (.ref h.length)] (h++[some (.ins "Desk" [])])=.nx [some (.ref h.length)] (h++[bF .non .non]):=by
  simp[jW,bA,bF,eQ]
 unfold iO az;rw[if_pos (show[D.ref h.length].length=1 from rfl)];have k2:jW ([D.ref h.length].map some++List.replicate (1 - [D.ref h.length].length) none) (h++[some (.ins "Desk" [])])=_:=key;rw[k2];show fin _ _ _=_;unfold fin;rw[if_pos (by simp)]
theorem law_true(ns:List Int)(hns:ns.length<=63):∃h,FH [.arg ns] []=.ok (.bl true) h:=by
 obtain⟨n,sws,⟨n2,ok⟩,ey⟩:=Pj ns [];have d0:iO [.ref 0] [some (.ins "Desk" [])]=.ok .non [bF .non .non]:=N_ [];have hb0:Hb [bF .non .non]:=λm _=>by simp[bF,eQ,Cell.bnd,D.bnds,D.bnd]
 have ok0:cD n []:=⟨ok.1,ok.2.1,by simp,λs ms=>(nomatch ms)⟩;have hy:∀m,1<=m->D.non.bnd m=true:=λm _=>rfl;have e1:=OB (h:=[bF .non .non]) ok.1 ok.2.1 hb0 (d:=0) rfl hy;have D1:=Ld (h:=[bF .non .non]) (d:=0) (b:=.non) ok0 hb0 (by simp) hy;obtain⟨H,p,r,D2,hp,eB⟩:=JH (n:=n) (d:=0) sws [] _ _ _ (by simpa using ok) D1 (by simp);have D2:Dk H 0 p r (Bd.new n sws):=by simpa using D2
 have tb:=nu (h:=[bF .non .non]) (d:=0) rfl e1;have A2:=JW ok D2.a.hb;have lH:0<H.length:=(q8.mp D2.o).1;have lp:=D2.a.lt';have lr:=D2.a.lt;have fr:∀j,j<H.length->(H++[(Bd.new n sws).cell (H.length+2),none,some (.dct [])])[j]?=H[j]?:=λj hj=>za hj;have rne:r≠0:=λz=>by
  have:=D2.a.g;rw[z,D2.o]at this;simp[bF]at this
 have T0:T38 (H++[(Bd.new n sws).cell (H.length+2),none,some (.dct [])]) 0 p r H.length (H.length+2) (Bd.new n sws):=
  ⟨⟨by rw[fr 0 lH];exact D2.o,by rw[fr p lp];exact D2.a.o,by rw[fr r lr];exact D2.a.g,A2.hb,ok⟩,A2,by omega,by omega⟩
 have I0:I38 (Bd.new n sws) 0:=⟨ok,zr _,zr _,λg m=>(nomatch m),List.nodup_nil,qb _,qb _⟩;have lcut:(cut ns none (some 63)).length<=63:=by
  unfold cut;simp only[k7,gm];omega
 let R:List D:=.str (f9 n)::sws.map λs=>D.str (bQ s);obtain⟨H3,b3,m3,l3,y6,y7,y8,y9,T3,I3,en3,es3,eL⟩:=Il (n:=n) (sws:=sws) n2 (some (.arg ns)) (some (.lst R)) (cut ns none (some 63)) 2 none none none none T0 I0 rfl rfl (by omega);have key:∃H9,BI [some (.arg ns),none,none,none,none,none,none,none,none,none] []=.rt (.bl true) H9:=by
  refine⟨H3,?_⟩;have Y0:∀h',aI (yd n sws) (.int 0) h'=.ok (.int (n:Nat)) h':=λh'=>by simp[yd]
  have Y1:∀h',aI (yd n sws) (.int 1) h'=.ok (.lst (sws.map Sw.d)) h':=λh'=>by simp[-List.map_map,yd]
  have lg:(n:Nat).log2<1920:=zm (wq n) (by have:=ok.2.1;omega);have lw:(br (n:Int)).length<=2:=(gu (n:=n) (by omega) (by have:=ok.2.1;omega)).1;have tr:Str.ofString "bars "++br (n:Int)=f9 n:=by rw[PL];exact Cr _ _
  have lt:("bars ":Str).length<=5:=by decide+kernel
  have rc:compLoop (ay 0) aS fh [none] (sws.map Sw.d) [bF .non .non]=.ok (sws.map λs=>D.str (bQ s)) [bF .non .non]:=
   i3 (g:=ay 0) (t:=aS) (h:=[bF .non .non]) (m:=fh) (ρ0:=[none]) Sw.d (λs=>[some s.d]) (λs=>D.str (bQ s)) sws λs m=>⟨by simp,by simp,xa ok.2.1 (ok.2.2.2 s m) _⟩
  have ls:(sws.map Sw.d).length<=12:=by rw[qi];exact ok.2.2.1
  have ls2:(sws.map λs=>D.str (bQ s)).length<=12:=by rw[qi];exact ok.2.2.1
  have eb:BI=aj (aw (aV jN (ag (aa 0) af)) (ay 1))
   (aj (aw (sN "Desk" iO af) (ay 2))
   (aj (aw (ae aU (bw (cJ (ag (ae aU (mC (.str "bars ")) (bB uJ (ag (ae aI (aa 1) (mC (.int 0))) af))) af))) (bw (cC 1 [] (cE (ae aI (aa 1) (mC (.int 1)))) (ay 0) aS fh))) (ay 3))
   (aj (bh (tB (ae ib (bw (cC 1 [2] (cE (aa 3)) (ay 0) ie (aa 0))) (bw (cJ af)))) (au (mC (.bl false))) bz)
   (aj (aw (sN "Board" hZ (ag (a_ (ag (ae aI (aa 1) (mC (.int 0))) (ag (bw (wA (ag (ae aI (aa 1) (mC (.int 1))) af))) af))) af)) (ay 4))
   (aj (aw (mC (.int 2)) (ay 5))
   (aj (dt (cE (fg (aa 0) ee (c6 (mC (.int 63))))) (ay 6) zC)
   (au (ae a9 (bw (cC 1 [2,4,1] (eP (ag (mC (.int 4)) af)) (ay 0) (cq (bC (aV d7 (ag (aa 1) (ag (aa 2) (ag (aa 3) (ag (aa 0) af))))))) (aa 0))) (bw (cJ af)))))))))):=rfl
  rw[eb];have nilE:∀h':MH,a9 (.lst []) (.lst []) h'=.ok (.bl true) h':=λh'=>PV [] h';refine(cc (ρ':=[some (.arg ns),some (yd n sws),none,none,none,none,none,none,none,none]) (h':=[]) (by simp[ey])).trans ?_;refine(cc (ρ':=[some (.arg ns),some (yd n sws),some (.ref 0),none,none,none,none,none,none,none]) (h':=[bF .non .non]) (by generalize yd n sws=Y at*;simp[d0])).trans ?_;refine(cc (ρ':=[some (.arg ns),some (yd n sws),some (.ref 0),some (.lst R),none,none,none,none,none,none]) (h':=[bF .non .non]) ?_).trans ?_
  ·show _=RS.nx [_,_,_,some (.lst (.str (f9 n)::sws.map λs=>D.str (bQ s))),_,_,_,_,_,_] _
   generalize fh=M at*;generalize [bF .non .non]=h1 at*;generalize yd n sws=Y at*;generalize sws.map Sw.d=V at*;generalize(sws.map λs=>D.str (bQ s))=V2 at*;generalize f9 (n:Int)=B0 at*;simp[-aI,caps,Y0,Y1,lg,tr,rc,show(Str.ofString "bars ").length+(br (n:Int)).length<=16777216 by omega,show V.length<16777216 by omega,show 1+V2.length<=16777216 by omega]
  have cR:cC 1 [2] (cE (aa 3)) (ay 0) ie (aa 0) [some (.arg ns),some (yd n sws),some (.ref 0),some (.lst R),none,none,none,none,none,none] [bF .non .non]=.ok [] H:=by
   have li:cE (aa 3) [some (.arg ns),some (yd n sws),some (.ref 0),some (.lst R),none,none,none,none,none,none] [bF .non .non]=.ok (none,R) [bF .non .non]:=by simp
   rw[i6,li];have lR:R.length<16777216:=by simp[R];have:=ok.2.2.1;omega
   simp only[eT,chk,lR,if_true,lO];have g0:ay 0 (.str (f9 n)) [none,some (.ref 0)] [bF .non .non]=.nx [some (.str (f9 n)),some (.ref 0)] [bF .non .non]:=rfl;show compLoop (ay 0) ie (aa 0) [none,some (.ref 0)] (.str (f9 n)::sws.map λs=>D.str (bQ s)) _=_;simp only[compLoop,g0,tb,eB]
  generalize R=R at*;refine(cc (ρ':=[some (.arg ns),some (yd n sws),some (.ref 0),some (.lst R),none,none,none,none,none,none]) (h':=H) ?_).trans ?_
  ·generalize yd n sws=Y at*
   generalize ie=S at*;simp[-a9, -i6,cR,nilE]
  have mk:=Ii ok (m:=a_ (ag (ae aI (aa 1) (mC (.int 0))) (ag (bw (wA (ag (ae aI (aa 1) (mC (.int 1))) af))) af))) (ρ:=[some (.arg ns),some (yd n sws),some (.ref 0),some (.lst R),none,none,none,none,none,none]) (h0:=H) D2.a.hb (by
   have:yd n sws=.tup [.int (n:Nat),.lst (sws.map Sw.d)]:=rfl;rw[this];rw[this]at Y0 Y1;generalize sws.map Sw.d=V at*;simp[show V.length<=16777216 by omega])
  refine(cc (ρ':=[some (.arg ns),some (yd n sws),some (.ref 0),some (.lst R),some (.ref H.length),none,none,none,none,none]) (h':=H++[(Bd.new n sws).cell (H.length+2),none,some (.dct [])]) ?_).trans ?_
  ·simp only[aw,mk,dF]
   simp
  generalize H++[(Bd.new n sws).cell (H.length+2),none,some (.dct [])]=H5 at*;refine(cc (ρ':=[some (.arg ns),some (yd n sws),some (.ref 0),some (.lst R),some (.ref H.length),some (.int 2),none,none,none,none]) (h':=H5) (by simp)).trans ?_;refine(cc (ρ':=[some (.arg ns),some (yd n sws),some (.ref 0),some (.lst R),some (.ref H.length),some (.int l3),y6,y7,y8,y9]) (h':=H3) ?_).trans ?_
  ·have li:cE (fg (aa 0) ee (c6 (mC (.int 63)))) [some (.arg ns),some (yd n sws),some (.ref 0),some (.lst R),some (.ref H.length),some (.int 2),none,none,none,none] H5=.ok (none,(cut ns none (some 63)).map D.int) H5:=by
    have:cut (ns.map D.int) none (some 63)=(cut ns none (some 63)).map D.int:=by simp[cut,List.map_drop,List.map_take]
    generalize yd n sws=Y at*;simp[this]
   rw[CW,li];simp only[dF,t6];exact eL
  have lk:∀k:Nat,k<4->d7 [.ref 0,.ref H.length,yd n sws,.int (k:Nat)] H3=.ok (.bl true) H3:=λk hk=>by
   have:=Jn T3 I3 k hk;rw[en3,es3]at this;exact this
  have k0:=lk 0 (by omega);have k1:=lk 1 (by omega);have k2:=lk 2 (by omega);have k3:=lk 3 (by omega);generalize yd n sws=Y at*;have cL:cC 1 [2,4,1] (eP (ag (mC (.int 4)) af)) (ay 0) (cq (bC (aV d7 (ag (aa 1) (ag (aa 2) (ag (aa 3) (ag (aa 0) af))))))) (aa 0) [some (.arg ns),some Y,some (.ref 0),some (.lst R),some (.ref H.length),some (.int l3),y6,y7,y8,y9] H3=.ok [] H3:=by
   have r4:rng 0 4=[.int 0,.int 1,.int 2,.int 3]:=rfl;have k0:d7 [.ref 0,.ref H.length,Y,.int 0] H3=.ok (.bl true) H3:=k0;have k1:d7 [.ref 0,.ref H.length,Y,.int 1] H3=.ok (.bl true) H3:=k1;have k2:d7 [.ref 0,.ref H.length,Y,.int 2] H3=.ok (.bl true) H3:=k2;have k3:d7 [.ref 0,.ref H.length,Y,.int 3] H3=.ok (.bl true) H3:=k3;simp[caps,r4,compLoop,k0,k1,k2,k3]
  simp[-a9, -i6,cL,nilE]
 obtain⟨H9,key⟩:=key;have k2:BI ([D.arg ns].map some++List.replicate (10 - [D.arg ns].length) none) []=.rt (.bl true) H9:=key;unfold FH az;rw[if_pos (show[D.arg ns].length=1 from rfl),k2];show ∃h,fin _ _ _=_;unfold fin;split
 ·exact⟨_,rfl⟩
 ·split<;>exact⟨_,rfl⟩
end My
namespace My
open PySem L2
noncomputable def bE(i:Nat):Stmt:=PySem.Challenge.pw_earthward_k38_the_board_by_rows.main.body.getD i (.Pass ⟨0,0,0,0⟩)
noncomputable abbrev Ci:Stmt:=cO (bE 19) 0
noncomputable abbrev u3:Stmt:=cO (bE 19) 1
noncomputable abbrev yY:Stmt:=cO (bE 19) 2
noncomputable abbrev zE:Stmt:=cO (bE 19) 3
noncomputable abbrev BE:Stmt:=cO (bE 20) 0
noncomputable abbrev yx:Stmt:=cO (bE 20) 1
noncomputable abbrev zN:Stmt:=cO (bE 21) 0
noncomputable abbrev xR:Stmt:=cO (bE 21) 1
noncomputable abbrev yJ:Stmt:=cO (bE 22) 0
noncomputable abbrev xV:Stmt:=cO (bE 22) 1
noncomputable abbrev BF:Stmt:=cO (bE 23) 0
noncomputable abbrev xS:Stmt:=cO (bE 23) 1
noncomputable abbrev Al:Stmt:=cO (bE 23) 2
noncomputable abbrev yS:Stmt:=bE 24
noncomputable abbrev nA:Stmt:=bE 26
noncomputable abbrev Cg:Stmt:=cO (bE 27) 0
noncomputable abbrev Bf:Stmt:=cO (bE 27) 1
noncomputable abbrev A6:Stmt:=cO (bE 27) 2
noncomputable abbrev zO:Stmt:=cO (bE 27) 3
noncomputable abbrev zB:Stmt:=cO (bE 27) 4
noncomputable abbrev vo:Stmt:=cO (bE 27) 5
noncomputable abbrev AZ:Stmt:=cO (bE 27) 6
noncomputable abbrev AE:Stmt:=bE 28
noncomputable abbrev zL:Stmt:=bE 29
noncomputable abbrev Cj:Stmt:=bE 30
noncomputable abbrev vM:Stmt:=bE 31
noncomputable abbrev Ay:Stmt:=bE 36
noncomputable abbrev A9:Stmt:=bE 37
noncomputable abbrev vG:Stmt:=bE 38
noncomputable abbrev xX:Stmt:=bE 39
noncomputable abbrev vN:Stmt:=bE 40
noncomputable abbrev yC:Stmt:=bE 42
noncomputable abbrev wV:Stmt:=bE 43
noncomputable abbrev uZ:Stmt:=bE 44
noncomputable abbrev Fs:Stmt:=bE 46
noncomputable abbrev AR:Stmt:=bE 48
noncomputable abbrev AL:Stmt:=cO (bE 49) 0
noncomputable abbrev Bb:Stmt:=cO (bE 49) 1
noncomputable abbrev vd:Stmt:=cO (bE 49) 2
noncomputable abbrev yX:Stmt:=cO (bE 49) 3
noncomputable abbrev u5:Stmt:=cO (bE 49) 5
noncomputable abbrev x_:Stmt:=cO (bE 49) 6
noncomputable abbrev xg:Stmt:=cO (bE 49) 7
noncomputable abbrev xw:Stmt:=cO (bE 49) 8
noncomputable abbrev Bz:Stmt:=cO (bE 49) 9
noncomputable abbrev y_:Stmt:=bE 62
noncomputable abbrev Am:Stmt:=bE 63
noncomputable abbrev xG:Stmt:=bE 64
noncomputable abbrev yQ:Stmt:=bE 65
noncomputable abbrev Aj:Stmt:=bE 66
noncomputable abbrev F9:Stmt:=bE 68
noncomputable abbrev yh:Stmt:=bE 70
noncomputable abbrev An:Stmt:=bE 71
noncomputable abbrev yO:Stmt:=bE 72
noncomputable abbrev BC:Stmt:=cO (bE 74) 0
noncomputable abbrev wJ:Stmt:=cO (bE 74) 1
noncomputable abbrev u4:Stmt:=cO (bE 74) 2
noncomputable abbrev Cc:Stmt:=cO (bE 74) 3
noncomputable abbrev zT:Stmt:=cO (bE 74) 4
noncomputable abbrev E4:Stmt:=cO (bE 74) 5
noncomputable abbrev AD:Stmt:=cO (bE 74) 6
noncomputable abbrev vT:Stmt:=bE 76
noncomputable abbrev yL:Stmt:=bE 77
noncomputable abbrev yU:Stmt:=bE 78
noncomputable abbrev v3:Stmt:=bE 79
noncomputable abbrev Bc:Stmt:=bE 80
noncomputable abbrev wZ:Stmt:=bE 81
noncomputable abbrev Ad:Stmt:=bE 82
noncomputable abbrev xJ:Stmt:=bE 83
noncomputable abbrev AM:Stmt:=bE 84
noncomputable abbrev vp:Stmt:=bE 85
noncomputable abbrev BB:Stmt:=bE 86
noncomputable abbrev u0:Stmt:=bE 87
noncomputable abbrev nN:Stmt:=bE 88
theorem Ba:FnScope ["self"] ["self"] (bj Ci):=aH
theorem yK:FnScope ["self"] ["self"] (bj u3):=aH
theorem AJ:FnScope ["self"] ["self"] (bj yY):=aH
theorem AB:FnScope ["self"] ["self"] (bj zE):=aH
theorem Bv:FnScope ["self","bar"] ["self","bar"] (bj BE):=aH
theorem AF:FnScope ["self"] ["self"] (bj yx):=aH
theorem Ae:FnScope ["self","bar"] ["self","bar"] (bj zN):=aH
theorem xK:FnScope ["self"] ["self"] (bj xR):=aH
theorem BO:FnScope ["self","one","other"] ["self","one","other"] (bj yJ):=aH
theorem Bh:FnScope ["self"] ["self"] (bj xV):=aH
theorem vb:FnScope ["self","one","other"] ["self","one","other"] (bj BF):=aH
theorem Ce:FnScope ["self"] ["self"] (bj xS):=aH
theorem va:FnScope ["self"] ["self"] (bj Al):=aH
theorem nV:FnScope ["switch","kind"] ["switch"] (bj yS):=aH
theorem rB:FnScope ["some","number"] ["some","number"] (bj nA):=aH
theorem B8:FnScope ["self","yard"] ["self","yard"] (bj Cg):=aH
theorem vJ:FnScope ["self","standing"] ["self","standing"] (bj Bf):=aH
theorem sD:FnScope ["self","standing","some","pairs","reached","ahead","pair"] ["self","standing","some"] (bj A6):=aH
theorem Dr:FnScope ["self","standing","fed","switch"] ["self","standing"] (bj zO):=aH
theorem C_:FnScope ["self","standing","led","switch"] ["self","standing"] (bj zB):=aH
theorem yi:FnScope ["self","standing"] ["self","standing"] (bj vo):=aH
theorem wO:FnScope ["self","standing"] ["self","standing"] (bj AZ):=aH
theorem xF:FnScope ["yard","standing"] ["yard","standing"] (bj AE):=aH
theorem ym:FnScope ["yard","standing"] ["yard","standing"] (bj zL):=aH
theorem Ab:FnScope ["some"] ["some"] (bj Cj):=aH
theorem Bn:FnScope ["some"] ["some"] (bj vM):=aH
theorem wW:FnScope ["yard","number"] ["yard","number"] (bj Ay):=aH
theorem Cn:FnScope ["standing","number"] ["standing","number"] (bj A9):=aH
theorem C1:FnScope ["net","standing","number","switch","apart","ends"] ["net","standing","number"] (bj vG):=aH
theorem xi:FnScope ["net","standing","number"] ["net","standing","number"] (bj xX):=aH
theorem nT:FnScope ["yard","standing","number","net"] ["yard","standing","number"] (bj vN):=aH
theorem zR:FnScope ["switch"] ["switch"] (bj yC):=aH
theorem Cs:FnScope ["yard"] ["yard"] (bj wV):=aH
theorem zA:FnScope ["yard","place","locks"] ["yard","place","locks"] (bj uZ):=aH
theorem nO:FnScope ["net","standing","place","numbers"] ["net","standing","place"] (bj AR):=aH
theorem yq:FnScope ["self","yard"] ["self","yard"] (bj AL):=aH
theorem xy:FnScope ["self"] ["self"] (bj Bb):=aH
theorem Bx:FnScope ["self"] ["self"] (bj vd):=aH
theorem CJ:FnScope ["self","some","given"] ["self"] (bj yX):=aH
theorem yr:FnScope ["self","number"] ["self","number"] (bj u5):=aH
theorem Bm:FnScope ["self","number"] ["self","number"] (bj x_):=aH
theorem Cd:FnScope ["self","number"] ["self","number"] (bj xg):=aH
theorem BJ:FnScope ["self","place"] ["self","place"] (bj xw):=aH
theorem AO:FnScope ["self","number"] ["self","number"] (bj Bz):=aH
theorem u9:FnScope ["word"] ["word"] (bj y_):=aH
theorem wY:FnScope ["words"] ["words"] (bj Am):=aH
theorem Gv:FnScope ["row","words","kind"] ["row"] (bj xG):=aH
theorem mT:FnScope ["row","told"] ["row"] (bj yQ):=aH
theorem nk:FnScope ["row","bars","switches_ahead","switch"] ["row","bars","switches_ahead"] (bj Aj):=aH
theorem Co:FnScope ["numbers"] ["numbers"] (bj yh):=aH
theorem BG:FnScope ["words"] ["words"] (bj An):=aH
theorem nz:FnScope ["words","bars","numbers"] ["words","bars"] (bj yO):=aH
theorem yT:FnScope ["self"] ["self"] (bj BC):=aH
theorem D3:FnScope ["self","row","words","kind","number"] ["self","row"] (bj wJ):=aH
theorem w_:FnScope ["self","yard"] ["self","yard"] (bj u4):=aH
theorem Gd:FnScope ["self","row","bars","switches"] ["self","row"] (bj Cc):=aH
theorem AW:FnScope ["self","kind","number"] ["self","kind","number"] (bj zT):=aH
theorem Ai:FnScope ["self","kind"] ["self","kind"] (bj AD):=aH
theorem yo:FnScope ["script","k","step","found","cell"] ["script","k"] (bj vT):=aH
theorem He:FnScope ["cell","bars","one","other"] ["cell","bars"] (bj yL):=aH
theorem Hf:FnScope ["script","bars","many"] ["script"] (bj yU):=aH
theorem CN:FnScope ["e","told"] ["e"] (bj v3):=aH
theorem uQ:FnScope ["desk","row","caught","told","e"] ["desk","row"] (bj Bc):=aH
theorem vF:FnScope ["board","word","number"] ["board","word","number"] (bj wZ):=aH
theorem uB:FnScope ["board","word","number","caught","told","e"] ["board","word","number"] (bj Ad):=aH
theorem yM:FnScope ["desk","board","word","number","row","due","found"] ["desk","board","word","number"] (bj xJ):=aH
theorem oM:FnScope ["some","found"] ["some"] (bj AM):=aH
theorem nD:FnScope ["desk","board","yard","kind","some"] ["desk","board","yard","kind"] (bj vp):=aH
theorem Gr:FnScope ["cell","yard","word","rest"] ["cell","yard"] (bj BB):=aH
theorem mO:FnScope ["cell","yard","standing","bar","some","word","k","earths"] ["cell","yard","standing"] (bj u0):=aH
theorem jb:FnScope ["script","yard","desk","rows","board","left","cell","some","word","number"] ["script"] (bj nN):=aH
set_option genInjectivity false in
structure Txt (P:Program) (w:World) (K:W.Frag) (mg:Str->Option Value)where
 c_Yb:Addr
 C_Yb:ClsT K mg "Switch" c_Yb
 f_Qo:Addr
 fd_Qo:FuncData
 mt_Qo:Meth K c_Yb "feeds" f_Qo
 H_Qo:FnM K "feeds" "Switch.feeds" Ci f_Qo fd_Qo ["self"]
 f_Qd:Addr
 fd_Qd:FuncData
 mt_Qd:Meth K c_Yb "earths" f_Qd
 H_Qd:FnM K "earths" "Switch.earths" u3 f_Qd fd_Qd ["self"]
 f_Qq:Addr
 fd_Qq:FuncData
 mt_Qq:Meth K c_Yb "joins" f_Qq
 H_Qq:FnM K "joins" "Switch.joins" yY f_Qq fd_Qq ["self"]
 f_Qf:Addr
 fd_Qf:FuncData
 mt_Qf:Meth K c_Yb "gentle" f_Qf
 H_Qf:FnM K "gentle" "Switch.gentle" zE f_Qf fd_Qf ["self"]
 c_Ym:Addr
 C_Ym:ClsT K mg "Feed" c_Ym
 f_Qh:Addr
 fd_Qh:FuncData
 mt_Qh:Meth K c_Ym "__init__" f_Qh
 H_Qh:FnM K "__init__" "Feed.__init__" BE f_Qh fd_Qh ["self","bar"]
 f_X7:Addr
 fd_X7:FuncData
 mt_X7:Meth K c_Ym "feeds" f_X7
 H_X7:FnM K "feeds" "Feed.feeds" yx f_X7 fd_X7 ["self"]
 mt_Feed_earths:Meth K c_Ym "earths" f_Qd
 mt_Feed_joins:Meth K c_Ym "joins" f_Qq
 mt_Feed_gentle:Meth K c_Ym "gentle" f_Qf
 na_Feed_bar:jbw K c_Ym "bar"
 c_Ye:Addr
 C_Ye:ClsT K mg "Earth" c_Ye
 f_Q8:Addr
 fd_Q8:FuncData
 mt_Q8:Meth K c_Ye "__init__" f_Q8
 H_Q8:FnM K "__init__" "Earth.__init__" zN f_Q8 fd_Q8 ["self","bar"]
 f_Qs:Addr
 fd_Qs:FuncData
 mt_Qs:Meth K c_Ye "earths" f_Qs
 H_Qs:FnM K "earths" "Earth.earths" xR f_Qs fd_Qs ["self"]
 mt_Earth_feeds:Meth K c_Ye "feeds" f_Qo
 mt_Earth_joins:Meth K c_Ye "joins" f_Qq
 mt_Earth_gentle:Meth K c_Ye "gentle" f_Qf
 na_Earth_bar:jbw K c_Ye "bar"
 c_Y3:Addr
 C_Y3:ClsT K mg "Breaker" c_Y3
 f_Q1:Addr
 fd_Q1:FuncData
 mt_Q1:Meth K c_Y3 "__init__" f_Q1
 H_Q1:FnM K "__init__" "Breaker.__init__" yJ f_Q1 fd_Q1 ["self","one","other"]
 f_Qi:Addr
 fd_Qi:FuncData
 mt_Qi:Meth K c_Y3 "joins" f_Qi
 H_Qi:FnM K "joins" "Breaker.joins" xV f_Qi fd_Qi ["self"]
 mt_Breaker_feeds:Meth K c_Y3 "feeds" f_Qo
 mt_Breaker_earths:Meth K c_Y3 "earths" f_Qd
 mt_Breaker_gentle:Meth K c_Y3 "gentle" f_Qf
 na_Breaker_one:jbw K c_Y3 "one"
 na_Breaker_other:jbw K c_Y3 "other"
 c_Xy:Addr
 C_Xy:ClsT K mg "Splitter" c_Xy
 f_Q0:Addr
 fd_Q0:FuncData
 mt_Q0:Meth K c_Xy "__init__" f_Q0
 H_Q0:FnM K "__init__" "Splitter.__init__" BF f_Q0 fd_Q0 ["self","one","other"]
 f_Q9:Addr
 fd_Q9:FuncData
 mt_Q9:Meth K c_Xy "joins" f_Q9
 H_Q9:FnM K "joins" "Splitter.joins" xS f_Q9 fd_Q9 ["self"]
 f_Q7:Addr
 fd_Q7:FuncData
 mt_Q7:Meth K c_Xy "gentle" f_Q7
 H_Q7:FnM K "gentle" "Splitter.gentle" Al f_Q7 fd_Q7 ["self"]
 mt_Splitter_feeds:Meth K c_Xy "feeds" f_Qo
 mt_Splitter_earths:Meth K c_Xy "earths" f_Qd
 na_Splitter_one:jbw K c_Xy "one"
 na_Splitter_other:jbw K c_Xy "other"
 c_Net:Addr
 C_Net:ClsT K mg "Net" c_Net
 f_Qn:Addr
 fd_Qn:FuncData
 mt_Qn:Meth K c_Net "__init__" f_Qn
 H_Qn:FnM K "__init__" "Net.__init__" Cg f_Qn fd_Qn ["self","yard"]
 f_Qe:Addr
 fd_Qe:FuncData
 mt_Qe:Meth K c_Net "shut_ones" f_Qe
 H_Qe:FnM K "shut_ones" "Net.shut_ones" Bf f_Qe fd_Qe ["self","standing"]
 f_Q5:Addr
 fd_Q5:FuncData
 mt_Q5:Meth K c_Net "joined_bars" f_Q5
 H_Q5:FnM K "joined_bars" "Net.joined_bars" A6 f_Q5 fd_Q5 ["self","standing","some"]
 f_Qj:Addr
 fd_Qj:FuncData
 mt_Qj:Meth K c_Net "live_bars" f_Qj
 H_Qj:FnM K "live_bars" "Net.live_bars" zO f_Qj fd_Qj ["self","standing"]
 f_Qv:Addr
 fd_Qv:FuncData
 mt_Qv:Meth K c_Net "led_bars" f_Qv
 H_Qv:FnM K "led_bars" "Net.led_bars" zB f_Qv fd_Qv ["self","standing"]
 f_Q3:Addr
 fd_Q3:FuncData
 mt_Q3:Meth K c_Net "earthed_bars" f_Q3
 H_Q3:FnM K "earthed_bars" "Net.earthed_bars" vo f_Q3 fd_Q3 ["self","standing"]
 f_X0:Addr
 fd_X0:FuncData
 mt_X0:Meth K c_Net "is_safe" f_X0
 H_X0:FnM K "is_safe" "Net.is_safe" AZ f_X0 fd_X0 ["self","standing"]
 na_Net_switches:jbw K c_Net "switches"
 c_Y5:Addr
 C_Y5:ClsT K mg "Bundle" c_Y5
 na_Bundle_common:jbw K c_Y5 "common"
 na_Bundle_goals:jbw K c_Y5 "goals"
 na_Bundle_net:jbw K c_Y5 "net"
 na_Bundle_pairs:jbw K c_Y5 "pairs"
 na_Bundle_place:jbw K c_Y5 "place"
 na_Bundle_power:jbw K c_Y5 "power"
 na_Bundle_yard:jbw K c_Y5 "yard"
 c_Yg:Addr
 C_Yg:ClsT K mg "Board" c_Yg
 f_Qb:Addr
 fd_Qb:FuncData
 mt_Qb:Meth K c_Yg "__init__" f_Qb
 H_Qb:FnM K "__init__" "Board.__init__" AL f_Qb fd_Qb ["self","yard"]
 f_Qa:Addr
 fd_Qa:FuncData
 mt_Qa:Meth K c_Yg "standing" f_Qa
 H_Qa:FnM K "standing" "Board.standing" Bb f_Qa fd_Qa ["self"]
 f_Ql:Addr
 fd_Ql:FuncData
 mt_Ql:Meth K c_Yg "locked" f_Ql
 H_Ql:FnM K "locked" "Board.locked" vd f_Ql fd_Ql ["self"]
 f_X2:Addr
 fd_X2:FuncData
 mt_X2:Meth K c_Yg "held" f_X2
 H_X2:FnM K "held" "Board.held" yX f_X2 fd_X2 ["self"]
 f_Xd:Addr
 fd_Xd:FuncData
 mt_Xd:Meth K c_Yg "turn" f_Xd
 H_Xd:FnM K "turn" "Board.turn" u5 f_Xd fd_Xd ["self","number"]
 f_X8:Addr
 fd_X8:FuncData
 mt_X8:Meth K c_Yg "lock" f_X8
 H_X8:FnM K "lock" "Board.lock" x_ f_X8 fd_X8 ["self","number"]
 f_Qm:Addr
 fd_Qm:FuncData
 mt_Qm:Meth K c_Yg "unlock" f_Qm
 H_Qm:FnM K "unlock" "Board.unlock" xg f_Qm fd_Qm ["self","number"]
 f_Qx:Addr
 fd_Qx:FuncData
 mt_Qx:Meth K c_Yg "permit" f_Qx
 H_Qx:FnM K "permit" "Board.permit" xw f_Qx fd_Qx ["self","place"]
 f_Q6:Addr
 fd_Q6:FuncData
 mt_Q6:Meth K c_Yg "give_back" f_Q6
 H_Q6:FnM K "give_back" "Board.give_back" Bz f_Q6 fd_Q6 ["self","number"]
 na_Board_given:jbw K c_Yg "given"
 na_Board_last_number:jbw K c_Yg "last_number"
 na_Board_locks:jbw K c_Yg "locks"
 na_Board_net:jbw K c_Yg "net"
 na_Board_shut:jbw K c_Yg "shut"
 na_Board_yard:jbw K c_Yg "yard"
 c_Yn:Addr
 C_Yn:ClsT K mg "Desk" c_Yn
 f_Qc:Addr
 fd_Qc:FuncData
 mt_Qc:Meth K c_Yn "__init__" f_Qc
 H_Qc:FnM K "__init__" "Desk.__init__" BC f_Qc fd_Qc ["self"]
 f_Xw:Addr
 fd_Xw:FuncData
 mt_Xw:Meth K c_Yn "say" f_Xw
 H_Xw:FnM K "say" "Desk.say" wJ f_Xw fd_Xw ["self","row"]
 f_X1:Addr
 fd_X1:FuncData
 mt_X1:Meth K c_Yn "begin" f_X1
 H_X1:FnM K "begin" "Desk.begin" u4 f_X1 fd_X1 ["self","yard"]
 f_Q4:Addr
 fd_Q4:FuncData
 mt_Q4:Meth K c_Yn "add_switch" f_Q4
 H_Q4:FnM K "add_switch" "Desk.add_switch" Cc f_Q4 fd_Q4 ["self","row"]
 f_Xf:Addr
 fd_Xf:FuncData
 mt_Xf:Meth K c_Yn "done" f_Xf
 H_Xf:FnM K "done" "Desk.done" zT f_Xf fd_Xf ["self","kind","number"]
 f_X6:Addr
 fd_X6:FuncData
 mt_X6:Meth K c_Yn "reach" f_X6
 H_X6:FnM K "reach" "Desk.reach" E4 f_X6 fd_X6 ["self","words"]
 f_Xp:Addr
 fd_Xp:FuncData
 mt_Xp:Meth K c_Yn "tell" f_Xp
 H_Xp:FnM K "tell" "Desk.tell" AD f_Xp fd_Xp ["self","kind"]
 na_Desk_board:jbw K c_Yn "board"
 na_Desk_yard:jbw K c_Yn "yard"
 c_Yj:Addr
 ac_Yj:W.nsIn K mainGlobals "Held"=some (some (.ref c_Yj))
 xq_Yj:W.excIn K c_Yj [.type "ValueError",.type "Exception",.type "BaseException",.type "object"] "ValueError.__new__"=true
 xm_Yj:mg "Held"=some (.ref c_Yj)
 c_Ya:Addr
 ac_Ya:W.nsIn K mainGlobals "Loaded"=some (some (.ref c_Ya))
 xq_Ya:W.excIn K c_Ya [.type "ValueError",.type "Exception",.type "BaseException",.type "object"] "ValueError.__new__"=true
 xm_Ya:mg "Loaded"=some (.ref c_Ya)
 c_Y8:Addr
 ac_Y8:W.nsIn K mainGlobals "Locked"=some (some (.ref c_Y8))
 xq_Y8:W.excIn K c_Y8 [.type "ValueError",.type "Exception",.type "BaseException",.type "object"] "ValueError.__new__"=true
 xm_Y8:mg "Locked"=some (.ref c_Y8)
 c_Yi:Addr
 ac_Yi:W.nsIn K mainGlobals "NoBar"=some (some (.ref c_Yi))
 xq_Yi:W.excIn K c_Yi [.type "ValueError",.type "Exception",.type "BaseException",.type "object"] "ValueError.__new__"=true
 xm_Yi:mg "NoBar"=some (.ref c_Yi)
 c_Y9:Addr
 ac_Y9:W.nsIn K mainGlobals "NoLock"=some (some (.ref c_Y9))
 xq_Y9:W.excIn K c_Y9 [.type "ValueError",.type "Exception",.type "BaseException",.type "object"] "ValueError.__new__"=true
 xm_Y9:mg "NoLock"=some (.ref c_Y9)
 c_Xn:Addr
 ac_Xn:W.nsIn K mainGlobals "NoMeasure"=some (some (.ref c_Xn))
 xq_Xn:W.excIn K c_Xn [.type "ValueError",.type "Exception",.type "BaseException",.type "object"] "ValueError.__new__"=true
 xm_Xn:mg "NoMeasure"=some (.ref c_Xn)
 c_Xv:Addr
 ac_Xv:W.nsIn K mainGlobals "NoPermit"=some (some (.ref c_Xv))
 xq_Xv:W.excIn K c_Xv [.type "ValueError",.type "Exception",.type "BaseException",.type "object"] "ValueError.__new__"=true
 xm_Xv:mg "NoPermit"=some (.ref c_Xv)
 c_Yh:Addr
 ac_Yh:W.nsIn K mainGlobals "NoRow"=some (some (.ref c_Yh))
 xq_Yh:W.excIn K c_Yh [.type "ValueError",.type "Exception",.type "BaseException",.type "object"] "ValueError.__new__"=true
 xm_Yh:mg "NoRow"=some (.ref c_Yh)
 c_Xu:Addr
 ac_Xu:W.nsIn K mainGlobals "NoSwitch"=some (some (.ref c_Xu))
 xq_Xu:W.excIn K c_Xu [.type "ValueError",.type "Exception",.type "BaseException",.type "object"] "ValueError.__new__"=true
 xm_Xu:mg "NoSwitch"=some (.ref c_Xu)
 c_Y1:Addr
 ac_Y1:W.nsIn K mainGlobals "NotDead"=some (some (.ref c_Y1))
 xq_Y1:W.excIn K c_Y1 [.type "ValueError",.type "Exception",.type "BaseException",.type "object"] "ValueError.__new__"=true
 xm_Y1:mg "NotDead"=some (.ref c_Y1)
 c_X3:Addr
 ac_X3:W.nsIn K mainGlobals "NotEarthed"=some (some (.ref c_X3))
 xq_X3:W.excIn K c_X3 [.type "ValueError",.type "Exception",.type "BaseException",.type "object"] "ValueError.__new__"=true
 xm_X3:mg "NotEarthed"=some (.ref c_X3)
 c_Xi:Addr
 ac_Xi:W.nsIn K mainGlobals "NotLocked"=some (some (.ref c_Xi))
 xq_Xi:W.excIn K c_Xi [.type "ValueError",.type "Exception",.type "BaseException",.type "object"] "ValueError.__new__"=true
 xm_Xi:mg "NotLocked"=some (.ref c_Xi)
 c_Y0:Addr
 ac_Y0:W.nsIn K mainGlobals "NotOpen"=some (some (.ref c_Y0))
 xq_Y0:W.excIn K c_Y0 [.type "ValueError",.type "Exception",.type "BaseException",.type "object"] "ValueError.__new__"=true
 xm_Y0:mg "NotOpen"=some (.ref c_Y0)
 c_Yk:Addr
 ac_Yk:W.nsIn K mainGlobals "Same"=some (some (.ref c_Yk))
 xq_Yk:W.excIn K c_Yk [.type "ValueError",.type "Exception",.type "BaseException",.type "object"] "ValueError.__new__"=true
 xm_Yk:mg "Same"=some (.ref c_Yk)
 c_Xz:Addr
 ac_Xz:W.nsIn K mainGlobals "Shorted"=some (some (.ref c_Xz))
 xq_Xz:W.excIn K c_Xz [.type "ValueError",.type "Exception",.type "BaseException",.type "object"] "ValueError.__new__"=true
 xm_Xz:mg "Shorted"=some (.ref c_Xz)
 c_Xm:Addr
 ac_Xm:W.nsIn K mainGlobals "WardError"=some (some (.ref c_Xm))
 xq_Xm:W.excIn K c_Xm [.type "ValueError",.type "Exception",.type "BaseException",.type "object"] "ValueError.__new__"=true
 xm_Xm:mg "WardError"=some (.ref c_Xm)
 nv:List Value
 nve:nv=[.ref c_Xu,.ref c_Ya,.ref c_Xz,.ref c_Y8,.ref c_Yj,.ref c_Y9,.ref c_Y0,.ref c_Xi,.ref c_X3,.ref c_Y1,.ref c_Xv,.ref c_Yh,.ref c_Xn,.ref c_Yi,.ref c_Yk]
 f_Xj:Addr
 fd_Xj:FuncData
 H_Xj:FnT K mg "switch_of" "switch_of" yS f_Xj fd_Xj ["switch"]
 f_has:Addr
 fd_has:FuncData
 H_has:FnT K mg "has" "has" nA f_has fd_has ["some","number"]
 f_Yl:Addr
 fd_Yl:FuncData
 H_Yl:FnT K mg "live" "live" AE f_Yl fd_Yl ["yard","standing"]
 f_Y2:Addr
 fd_Y2:FuncData
 H_Y2:FnT K mg "earthed" "earthed" zL f_Y2 fd_Y2 ["yard","standing"]
 f_Yc:Addr
 fd_Yc:FuncData
 H_Yc:FnT K mg "lowest" "lowest" Cj f_Yc fd_Yc ["some"]
 f_X9:Addr
 fd_X9:FuncData
 H_X9:FnT K mg "numbers_in" "numbers_in" vM f_X9 fd_X9 ["some"]
 f_Qt:Addr
 fd_Qt:FuncData
 H_Qt:FnT K mg "check_switch" "check_switch" Ay f_Qt fd_Qt ["yard","number"]
 f_X4:Addr
 fd_X4:FuncData
 H_X4:FnT K mg "after_turn" "after_turn" A9 f_X4 fd_X4 ["standing","number"]
 f_Yd:Addr
 fd_Yd:FuncData
 H_Yd:FnT K mg "loads" "loads" vG f_Yd fd_Yd ["net","standing","number"]
 f_Y7:Addr
 fd_Y7:FuncData
 H_Y7:FnT K mg "shorts" "shorts" xX f_Y7 fd_Y7 ["net","standing","number"]
 f_Y6:Addr
 fd_Y6:FuncData
 H_Y6:FnT K mg "turned" "turned" vN f_Y6 fd_Y6 ["yard","standing","number"]
 f_Xs:Addr
 fd_Xs:FuncData
 H_Xs:FnT K mg "can_lock" "can_lock" yC f_Xs fd_Xs ["switch"]
 f_Qr:Addr
 fd_Qr:FuncData
 H_Qr:FnT K mg "all_switches" "all_switches" wV f_Qr fd_Qr ["yard"]
 f_Xc:Addr
 fd_Xc:FuncData
 H_Xc:FnT K mg "keeps_dead" "keeps_dead" uZ f_Xc fd_Xc ["yard","place","locks"]
 f_Qw:Addr
 fd_Qw:FuncData
 H_Qw:FnT K mg "fewest_locks" "fewest_locks" Fs f_Qw fd_Qw ["yard","place"]
 f_Xa:Addr
 fd_Xa:FuncData
 H_Xa:FnT K mg "own_earths" "own_earths" AR f_Xa fd_Xa ["net","standing","place"]
 f_Xl:Addr
 fd_Xl:FuncData
 H_Xl:FnT K mg "is_number" "is_number" y_ f_Xl fd_Xl ["word"]
 f_Qy:Addr
 fd_Qy:FuncData
 H_Qy:FnT K mg "numbers_told" "numbers_told" Am f_Qy fd_Qy ["words"]
 f_Y4:Addr
 fd_Y4:FuncData
 H_Y4:FnT K mg "parted" "parted" xG f_Y4 fd_Y4 ["row"]
 f_Xx:Addr
 fd_Xx:FuncData
 H_Xx:FnT K mg "count_in" "count_in" yQ f_Xx fd_Xx ["row"]
 f_Xq:Addr
 fd_Xq:FuncData
 H_Xq:FnT K mg "switch_in" "switch_in" Aj f_Xq fd_Xq ["row","bars","switches_ahead"]
 f_Yf:Addr
 fd_Yf:FuncData
 H_Yf:FnT K mg "shown" "shown" F9 f_Yf fd_Yf ["yard"]
 f_Q2:Addr
 fd_Q2:FuncData
 H_Q2:FnT K mg "joined_by_blanks" "joined_by_blanks" yh f_Q2 fd_Q2 ["numbers"]
 f_Xb:Addr
 fd_Xb:FuncData
 H_Xb:FnT K mg "one_number" "one_number" An f_Xb fd_Xb ["words"]
 f_X5:Addr
 fd_X5:FuncData
 H_X5:FnT K mg "place_told" "place_told" yO f_X5 fd_X5 ["words","bars"]
 f_Xr:Addr
 fd_Xr:FuncData
 H_Xr:FnT K mg "_law_draw" "_law_draw" vT f_Xr fd_Xr ["script","k"]
 f_Qz:Addr
 fd_Qz:FuncData
 H_Qz:FnT K mg "_law_switch" "_law_switch" yL f_Qz fd_Qz ["cell","bars"]
 f_Xg:Addr
 fd_Xg:FuncData
 H_Xg:FnT K mg "_law_yard" "_law_yard" yU f_Xg fd_Xg ["script"]
 f_Qp:Addr
 fd_Qp:FuncData
 H_Qp:FnT K mg "_law_classes" "_law_classes" v3 f_Qp fd_Qp ["e"]
 f_Xo:Addr
 fd_Xo:FuncData
 H_Xo:FnT K mg "_law_said" "_law_said" Bc f_Xo fd_Xo ["desk","row"]
 f_Xe:Addr
 fd_Xe:FuncData
 H_Xe:FnT K mg "_law_deed" "_law_deed" wZ f_Xe fd_Xe ["board","word","number"]
 f_Xt:Addr
 fd_Xt:FuncData
 H_Xt:FnT K mg "_law_due" "_law_due" Ad f_Xt fd_Xt ["board","word","number"]
 f_Xh:Addr
 fd_Xh:FuncData
 H_Xh:FnT K mg "_law_same" "_law_same" xJ f_Xh fd_Xh ["desk","board","word","number"]
 f_Qu:Addr
 fd_Qu:FuncData
 H_Qu:FnT K mg "_law_numbers" "_law_numbers" AM f_Qu fd_Qu ["some"]
 f_Xk:Addr
 fd_Xk:FuncData
 H_Xk:FnT K mg "_law_look" "_law_look" vp f_Xk fd_Xk ["desk","board","yard","kind"]
 f_Qk:Addr
 fd_Qk:FuncData
 H_Qk:FnT K mg "_law_numbered" "_law_numbered" BB f_Qk fd_Qk ["cell","yard"]
 f_Qg:Addr
 fd_Qg:FuncData
 H_Qg:FnT K mg "_law_prepared" "_law_prepared" u0 f_Qg fd_Qg ["cell","yard","standing"]
 f_law:Addr
 fd_law:FuncData
 H_law:FnT K mg "law" "law" nN f_law fd_law ["script"]
 b_len:mg "len"=none
 b_sum:mg "sum"=none
 b_all:mg "all"=none
 b_any:mg "any"=none
 b_isinstance:mg "isinstance"=none
 b_max:mg "max"=none
 b_sorted:mg "sorted"=none
 b_int:mg "int"=none
 b_str:mg "str"=none
 b_list:mg "list"=none
 b_tuple:mg "tuple"=none
 b_range:mg "range"=none
 b_reversed:mg "reversed"=none
 b_enumerate:mg "enumerate"=none
 b_dict:mg "dict"=none
 b_ValueError:mg "ValueError"=none
 b_zip:mg "zip"=none
 a_NUMBERS_BEHIND:Addr
 c_NUMBERS_BEHIND:GV mg "NUMBERS_BEHIND" (.ref a_NUMBERS_BEHIND)
 c_MOST_BARS:GV mg "MOST_BARS" (.int 10)
 c_MOST_SWITCHES:GV mg "MOST_SWITCHES" (.int 12)
 c_MOST_FIGURES:GV mg "MOST_FIGURES" (.int 9)
 c_FIGURES:GV mg "FIGURES" (.str "0123456789")
 w_Xm:Clause K c_Xm
 su_Held_WardError:W.mroIn K c_Yj (.ref c_Xm)=some true
 su_Loaded_WardError:W.mroIn K c_Ya (.ref c_Xm)=some true
 su_Locked_WardError:W.mroIn K c_Y8 (.ref c_Xm)=some true
 su_NoBar_WardError:W.mroIn K c_Yi (.ref c_Xm)=some true
 su_NoLock_WardError:W.mroIn K c_Y9 (.ref c_Xm)=some true
 su_NoMeasure_WardError:W.mroIn K c_Xn (.ref c_Xm)=some true
 su_NoPermit_WardError:W.mroIn K c_Xv (.ref c_Xm)=some true
 su_NoRow_WardError:W.mroIn K c_Yh (.ref c_Xm)=some true
 su_NoSwitch_WardError:W.mroIn K c_Xu (.ref c_Xm)=some true
 su_NotDead_WardError:W.mroIn K c_Y1 (.ref c_Xm)=some true
 su_NotEarthed_WardError:W.mroIn K c_X3 (.ref c_Xm)=some true
 su_NotLocked_WardError:W.mroIn K c_Xi (.ref c_Xm)=some true
 su_NotOpen_WardError:W.mroIn K c_Y0 (.ref c_Xm)=some true
 su_Same_WardError:W.mroIn K c_Yk (.ref c_Xm)=some true
 su_Shorted_WardError:W.mroIn K c_Xz (.ref c_Xm)=some true
 ic_Yj:IsiC K c_Yj
 io_Yj:IoL K c_Yj nv [false,false,false,false,true,false,false,false,false,false,false,false,false,false,false]
 ic_Ya:IsiC K c_Ya
 io_Ya:IoL K c_Ya nv [false,true,false,false,false,false,false,false,false,false,false,false,false,false,false]
 ic_Y8:IsiC K c_Y8
 io_Y8:IoL K c_Y8 nv [false,false,false,true,false,false,false,false,false,false,false,false,false,false,false]
 ic_Yi:IsiC K c_Yi
 io_Yi:IoL K c_Yi nv [false,false,false,false,false,false,false,false,false,false,false,false,false,true,false]
 ic_Y9:IsiC K c_Y9
 io_Y9:IoL K c_Y9 nv [false,false,false,false,false,true,false,false,false,false,false,false,false,false,false]
 ic_Xn:IsiC K c_Xn
 io_Xn:IoL K c_Xn nv [false,false,false,false,false,false,false,false,false,false,false,false,true,false,false]
 ic_Xv:IsiC K c_Xv
 io_Xv:IoL K c_Xv nv [false,false,false,false,false,false,false,false,false,false,true,false,false,false,false]
 ic_Yh:IsiC K c_Yh
 io_Yh:IoL K c_Yh nv [false,false,false,false,false,false,false,false,false,false,false,true,false,false,false]
 ic_Xu:IsiC K c_Xu
 io_Xu:IoL K c_Xu nv [true,false,false,false,false,false,false,false,false,false,false,false,false,false,false]
 ic_Y1:IsiC K c_Y1
 io_Y1:IoL K c_Y1 nv [false,false,false,false,false,false,false,false,false,true,false,false,false,false,false]
 ic_X3:IsiC K c_X3
 io_X3:IoL K c_X3 nv [false,false,false,false,false,false,false,false,true,false,false,false,false,false,false]
 ic_Xi:IsiC K c_Xi
 io_Xi:IoL K c_Xi nv [false,false,false,false,false,false,false,true,false,false,false,false,false,false,false]
 ic_Y0:IsiC K c_Y0
 io_Y0:IoL K c_Y0 nv [false,false,false,false,false,false,true,false,false,false,false,false,false,false,false]
 ic_Yk:IsiC K c_Yk
 io_Yk:IoL K c_Yk nv [false,false,false,false,false,false,false,false,false,false,false,false,false,false,true]
 ic_Xz:IsiC K c_Xz
 io_Xz:IoL K c_Xz nv [false,false,true,false,false,false,false,false,false,false,false,false,false,false,false]
 d_NUMBERS_BEHIND:DO P w K a_NUMBERS_BEHIND [(.inr "bars",(.int 1)),(.inr "feed",(.int 1)),(.inr "earth",(.int 1)),(.inr "breaker",(.int 2)),(.inr "splitter",(.int 2))]
 Bl:∀(s:Shared) (u:Value),BindsTo s fd_law ⟨[u],[]⟩ [("script",u)]
section
variable {P : Program} {w : World} {K : W.Frag} {mg : Str -> Option Value} (T : Txt P w K mg)
theorem Txt.x_Yj:Exc K mg "Held" T.c_Yj:=⟨T.ac_Yj,⟨_,_,_,_,T.xq_Yj,PySem.F.excBase_ValueError⟩,T.xm_Yj⟩
theorem Txt.k_Yj:GV mg "Held" (.ref T.c_Yj):=⟨_,T.xm_Yj,rfl⟩
theorem Txt.x_Ya:Exc K mg "Loaded" T.c_Ya:=⟨T.ac_Ya,⟨_,_,_,_,T.xq_Ya,PySem.F.excBase_ValueError⟩,T.xm_Ya⟩
theorem Txt.k_Ya:GV mg "Loaded" (.ref T.c_Ya):=⟨_,T.xm_Ya,rfl⟩
theorem Txt.x_Y8:Exc K mg "Locked" T.c_Y8:=⟨T.ac_Y8,⟨_,_,_,_,T.xq_Y8,PySem.F.excBase_ValueError⟩,T.xm_Y8⟩
theorem Txt.k_Y8:GV mg "Locked" (.ref T.c_Y8):=⟨_,T.xm_Y8,rfl⟩
theorem Txt.x_Yi:Exc K mg "NoBar" T.c_Yi:=⟨T.ac_Yi,⟨_,_,_,_,T.xq_Yi,PySem.F.excBase_ValueError⟩,T.xm_Yi⟩
theorem Txt.k_Yi:GV mg "NoBar" (.ref T.c_Yi):=⟨_,T.xm_Yi,rfl⟩
theorem Txt.x_Y9:Exc K mg "NoLock" T.c_Y9:=⟨T.ac_Y9,⟨_,_,_,_,T.xq_Y9,PySem.F.excBase_ValueError⟩,T.xm_Y9⟩
theorem Txt.k_Y9:GV mg "NoLock" (.ref T.c_Y9):=⟨_,T.xm_Y9,rfl⟩
theorem Txt.x_Xn:Exc K mg "NoMeasure" T.c_Xn:=⟨T.ac_Xn,⟨_,_,_,_,T.xq_Xn,PySem.F.excBase_ValueError⟩,T.xm_Xn⟩
theorem Txt.k_Xn:GV mg "NoMeasure" (.ref T.c_Xn):=⟨_,T.xm_Xn,rfl⟩
theorem Txt.x_Xv:Exc K mg "NoPermit" T.c_Xv:=⟨T.ac_Xv,⟨_,_,_,_,T.xq_Xv,PySem.F.excBase_ValueError⟩,T.xm_Xv⟩
theorem Txt.k_Xv:GV mg "NoPermit" (.ref T.c_Xv):=⟨_,T.xm_Xv,rfl⟩
theorem Txt.x_Yh:Exc K mg "NoRow" T.c_Yh:=⟨T.ac_Yh,⟨_,_,_,_,T.xq_Yh,PySem.F.excBase_ValueError⟩,T.xm_Yh⟩
theorem Txt.k_Yh:GV mg "NoRow" (.ref T.c_Yh):=⟨_,T.xm_Yh,rfl⟩
theorem Txt.x_Xu:Exc K mg "NoSwitch" T.c_Xu:=⟨T.ac_Xu,⟨_,_,_,_,T.xq_Xu,PySem.F.excBase_ValueError⟩,T.xm_Xu⟩
theorem Txt.k_Xu:GV mg "NoSwitch" (.ref T.c_Xu):=⟨_,T.xm_Xu,rfl⟩
theorem Txt.x_Y1:Exc K mg "NotDead" T.c_Y1:=⟨T.ac_Y1,⟨_,_,_,_,T.xq_Y1,PySem.F.excBase_ValueError⟩,T.xm_Y1⟩
theorem Txt.k_Y1:GV mg "NotDead" (.ref T.c_Y1):=⟨_,T.xm_Y1,rfl⟩
theorem Txt.x_X3:Exc K mg "NotEarthed" T.c_X3:=⟨T.ac_X3,⟨_,_,_,_,T.xq_X3,PySem.F.excBase_ValueError⟩,T.xm_X3⟩
theorem Txt.k_X3:GV mg "NotEarthed" (.ref T.c_X3):=⟨_,T.xm_X3,rfl⟩
theorem Txt.x_Xi:Exc K mg "NotLocked" T.c_Xi:=⟨T.ac_Xi,⟨_,_,_,_,T.xq_Xi,PySem.F.excBase_ValueError⟩,T.xm_Xi⟩
theorem Txt.k_Xi:GV mg "NotLocked" (.ref T.c_Xi):=⟨_,T.xm_Xi,rfl⟩
theorem Txt.x_Y0:Exc K mg "NotOpen" T.c_Y0:=⟨T.ac_Y0,⟨_,_,_,_,T.xq_Y0,PySem.F.excBase_ValueError⟩,T.xm_Y0⟩
theorem Txt.k_Y0:GV mg "NotOpen" (.ref T.c_Y0):=⟨_,T.xm_Y0,rfl⟩
theorem Txt.x_Yk:Exc K mg "Same" T.c_Yk:=⟨T.ac_Yk,⟨_,_,_,_,T.xq_Yk,PySem.F.excBase_ValueError⟩,T.xm_Yk⟩
theorem Txt.k_Yk:GV mg "Same" (.ref T.c_Yk):=⟨_,T.xm_Yk,rfl⟩
theorem Txt.x_Xz:Exc K mg "Shorted" T.c_Xz:=⟨T.ac_Xz,⟨_,_,_,_,T.xq_Xz,PySem.F.excBase_ValueError⟩,T.xm_Xz⟩
theorem Txt.k_Xz:GV mg "Shorted" (.ref T.c_Xz):=⟨_,T.xm_Xz,rfl⟩
theorem Txt.x_Xm:Exc K mg "WardError" T.c_Xm:=⟨T.ac_Xm,⟨_,_,_,_,T.xq_Xm,PySem.F.excBase_ValueError⟩,T.xm_Xm⟩
theorem Txt.k_Ym:GV mg "Feed" (.ref T.c_Ym):=T.C_Ym.k
theorem Txt.k_Ye:GV mg "Earth" (.ref T.c_Ye):=T.C_Ye.k
theorem Txt.k_Y3:GV mg "Breaker" (.ref T.c_Y3):=T.C_Y3.k
theorem Txt.k_Xy:GV mg "Splitter" (.ref T.c_Xy):=T.C_Xy.k
theorem Txt.k_Net:GV mg "Net" (.ref T.c_Net):=T.C_Net.k
theorem Txt.k_Y5:GV mg "Bundle" (.ref T.c_Y5):=T.C_Y5.k
theorem Txt.k_Yg:GV mg "Board" (.ref T.c_Yg):=T.C_Yg.k
theorem Txt.k_Yn:GV mg "Desk" (.ref T.c_Yn):=T.C_Yn.k
end
noncomputable def aX{P:Program}{w:World}{K:W.Frag}{mg:Str->Option Value}(T:Txt P w K mg)(n:String):Addr:=
 if n="Held"then T.c_Yj else
 if n="Loaded"then T.c_Ya else
 if n="Locked"then T.c_Y8 else
 if n="NoBar"then T.c_Yi else
 if n="NoLock"then T.c_Y9 else
 if n="NoMeasure"then T.c_Xn else
 if n="NoPermit"then T.c_Xv else
 if n="NoRow"then T.c_Yh else
 if n="NoSwitch"then T.c_Xu else
 if n="NotDead"then T.c_Y1 else
 if n="NotEarthed"then T.c_X3 else
 if n="NotLocked"then T.c_Xi else
 if n="NotOpen"then T.c_Y0 else
 if n="Same"then T.c_Yk else
 if n="Shorted"then T.c_Xz else
 if n="WardError"then T.c_Xm else
 if n="Switch"then T.c_Yb else
 if n="Feed"then T.c_Ym else
 if n="Earth"then T.c_Ye else
 if n="Breaker"then T.c_Y3 else
 if n="Splitter"then T.c_Xy else
 if n="Net"then T.c_Net else
 if n="Bundle"then T.c_Y5 else
 if n="Board"then T.c_Yg else
 if n="Desk"then T.c_Yn else
 0
noncomputable abbrev ct{P:Program}{w:World}{K:W.Frag}{mg:Str->Option Value}(T:Txt P w K mg):Ct:=⟨P,w,K,aX T⟩
section
variable {P : Program} {w : World} {K : W.Frag} {mg : Str -> Option Value} {base : Heap} (T : Txt P w K mg)
theorem uj:aX T "Held"=T.c_Yj:=by simp[aX]
theorem xC:aX T "Loaded"=T.c_Ya:=by simp[aX]
theorem uq:aX T "Locked"=T.c_Y8:=by simp[aX]
theorem qQ:aX T "NoBar"=T.c_Yi:=by simp[aX]
theorem wF:aX T "NoLock"=T.c_Y9:=by simp[aX]
theorem vP:aX T "NoMeasure"=T.c_Xn:=by simp[aX]
theorem yf:aX T "NoPermit"=T.c_Xv:=by simp[aX]
theorem ir:aX T "NoRow"=T.c_Yh:=by simp[aX]
theorem Bs:aX T "NoSwitch"=T.c_Xu:=by simp[aX]
theorem vm:aX T "NotDead"=T.c_Y1:=by simp[aX]
theorem A_:aX T "NotEarthed"=T.c_X3:=by simp[aX]
theorem Av:aX T "NotLocked"=T.c_Xi:=by simp[aX]
theorem AV:aX T "NotOpen"=T.c_Y0:=by simp[aX]
theorem wN:aX T "Same"=T.c_Yk:=by simp[aX]
theorem Ap:aX T "Shorted"=T.c_Xz:=by simp[aX]
theorem CK:aX T "Switch"=T.c_Yb:=by simp[aX]
theorem uA:aX T "Feed"=T.c_Ym:=by simp[aX]
theorem uK:aX T "Earth"=T.c_Ye:=by simp[aX]
theorem p7:aX T "Breaker"=T.c_Y3:=by simp[aX]
theorem rL:aX T "Splitter"=T.c_Xy:=by simp[aX]
theorem i8:aX T "Net"=T.c_Net:=by simp[aX]
theorem oo:aX T "Bundle"=T.c_Y5:=by simp[aX]
theorem gH:aX T "Board"=T.c_Yg:=by simp[aX]
theorem lA:aX T "Desk"=T.c_Yn:=by simp[aX]
theorem D_:fG (ct T) "bar" oI:=(cQ (uA T) T.C_Ym.cl T.na_Feed_bar (cQ (uK T) T.C_Ye.cl T.na_Earth_bar jr))
theorem kA:fG (ct T) "board" eF:=(cQ (lA T) T.C_Yn.cl T.na_Desk_board jr)
theorem vf:fG (ct T) "given" rp:=(cQ (gH T) T.C_Yg.cl T.na_Board_given jr)
theorem Ah:fG (ct T) "last_number" tE:=(cQ (gH T) T.C_Yg.cl T.na_Board_last_number jr)
theorem iQ:fG (ct T) "locks" fS:=(cQ (gH T) T.C_Yg.cl T.na_Board_locks jr)
theorem Eo:fG (ct T) "net" m4:=(cQ (oo T) T.C_Y5.cl T.na_Bundle_net (cQ (gH T) T.C_Yg.cl T.na_Board_net jr))
theorem CQ:fG (ct T) "one" nR:=(cQ (p7 T) T.C_Y3.cl T.na_Breaker_one (cQ (rL T) T.C_Xy.cl T.na_Splitter_one jr))
theorem Ek:fG (ct T) "other" nX:=(cQ (p7 T) T.C_Y3.cl T.na_Breaker_other (cQ (rL T) T.C_Xy.cl T.na_Splitter_other jr))
theorem mR:fG (ct T) "shut" kG:=(cQ (gH T) T.C_Yg.cl T.na_Board_shut jr)
theorem BL:fG (ct T) "switches" gI:=(cQ (i8 T) T.C_Net.cl T.na_Net_switches jr)
theorem fj:fG (ct T) "yard" c5:=(cQ (oo T) T.C_Y5.cl T.na_Bundle_yard (cQ (gH T) T.C_Yg.cl T.na_Board_yard (cQ (lA T) T.C_Yn.cl T.na_Desk_yard jr)))
theorem Ka:tL (ct T) T.c_Xm w_Xm:=(cY (uj T) T.su_Held_WardError (cY (xC T) T.su_Loaded_WardError (cY (uq T) T.su_Locked_WardError (cY (qQ T) T.su_NoBar_WardError (cY (wF T) T.su_NoLock_WardError (cY (vP T) T.su_NoMeasure_WardError (cY (yf T) T.su_NoPermit_WardError (cY (ir T) T.su_NoRow_WardError (cY (Bs T) T.su_NoSwitch_WardError (cY (vm T) T.su_NotDead_WardError (cY (A_ T) T.su_NotEarthed_WardError (cY (Av T) T.su_NotLocked_WardError (cY (AV T) T.su_NotOpen_WardError (cY (wN T) T.su_Same_WardError (cY (Ap T) T.su_Shorted_WardError PU)))))))))))))))
theorem sU:DY (ct T) zI T.nv:=by rw[T.nve];exact⟨congrArg Value.ref (Bs T),congrArg Value.ref (xC T),congrArg Value.ref (Ap T),congrArg Value.ref (uq T),congrArg Value.ref (uj T),congrArg Value.ref (wF T),congrArg Value.ref (AV T),congrArg Value.ref (Av T),congrArg Value.ref (A_ T),congrArg Value.ref (vm T),congrArg Value.ref (yf T),congrArg Value.ref (ir T),congrArg Value.ref (vP T),congrArg Value.ref (qQ T),congrArg Value.ref (wN T),trivial⟩
theorem ik:nP (ct T) fN:=Bu (sU T) (gQ (uj T) T.ic_Yj T.io_Yj (gQ (xC T) T.ic_Ya T.io_Ya (gQ (uq T) T.ic_Y8 T.io_Y8 (gQ (qQ T) T.ic_Yi T.io_Yi (gQ (wF T) T.ic_Y9 T.io_Y9 (gQ (vP T) T.ic_Xn T.io_Xn (gQ (yf T) T.ic_Xv T.io_Xv (gQ (ir T) T.ic_Yh T.io_Yh (gQ (Bs T) T.ic_Xu T.io_Xu (gQ (vm T) T.ic_Y1 T.io_Y1 (gQ (A_ T) T.ic_X3 T.io_X3 (gQ (Av T) T.ic_Xi T.io_Xi (gQ (AV T) T.ic_Y0 T.io_Y0 (gQ (wN T) T.ic_Yk T.io_Yk (gQ (Ap T) T.ic_Xz T.io_Xz trivial)))))))))))))))
seal PE PA PS PSs
local macro_rules | `(tactic| trivial) => `(tactic| first | exact Or.inl rfl | exact Or.inr rfl)
theorem Hl:FnOk P w K mg base (CXE P w) 1 T.f_Xr T.fd_Xr ["script","k"] (bq (ct T) fi):=by
 refine aG (b:=tF) T.H_Xr.F yo λcdv A outer s H E hr=> ?_;have hu:=hr.units;refine⟨_,(aD (bX (i:=2) yo.nd rfl (by trivial) (aK (c8 (K:=K) rfl) aB (aK hX (cG (iy (P:=P) (w:=w) (K:=K) rfl rfl rfl) (by rfl) T.b_len iz (ak (pv 0) av)) aB)))
   (aD (bX (i:=3) yo.nd rfl (by trivial) (aK (c8 (K:=K) rfl) (aK vI aB (pv 1)) aB))
   (aD (mI eR rfl (cx (K:=K) rfl (JQ (K:=K) rfl (pv 0) (gZ (aK dD (pv 1) (pv 2))) jh (gZ (pv 2)))) (cP (i:=4) yo.nd rfl (by trivial)) (aC (bX (i:=3) yo.nd rfl (by trivial) (aK dD (aK (c8 (K:=K) rfl) (aK vI (pv 3) (aK (c8 (K:=K) rfl) (aK vI aB (pv 1)) aB)) (pv 4)) aB))))
   (aC (aZ (aK dD (aK vI (pv 3) (aK (c8 (K:=K) rfl) (aK (c8 (K:=K) rfl) (aK dD (aK hX (pv 3) aB) aB) (aK vI aB (pv 1))) aB)) aB)))))),?_⟩
 exact(aE (bU (ai dj aA (ai h9 (aR iw (ao ah ar)) aA)) bf)
   (aE (bU (ai dj (ai xq aA ah) aA) bf)
   (aE (nC (cz (m7 ah (ig (ai dG ah ah)) j8 (ig ah))) bf (bU (ai dG (ai dj (ai xq ah (ai dj (ai xq aA ah) aA)) ah) aA) bf))
   (aY (ai dG (ai xq ah (ai dj (ai dj (ai dG (ai h9 ah aA) aA) (ai xq aA ah)) aA)) aA)))))
theorem Br:FnOk P w K mg base (CXE P w) 1 T.f_Qz T.fd_Qz ["cell","bars"] (bq (ct T) e_):=by
 refine aG (b:=fO) T.H_Qz.F He λcdv A outer s H E hr=> ?_;have hu:=hr.units;refine⟨_,(aD (bX (i:=2) He.nd rfl (by trivial) (aK dD (aK hX (pv 0) aB) (pv 1)))
   (aD (bH (b7 (DI) (aK dD (pv 0) aB) aB (bK _)) (aC (aZ (dX (ak (b8 P w K hu (dM (ak aO (ak aO (ak aO av)))) (aK dD (pv 0) aB)) (ak (pv 2) av))))) bM)
   (aD (bX (i:=3) He.nd rfl (by trivial) (aK dD (aK (c8 (K:=K) rfl) (aK (c8 (K:=K) rfl) (pv 2) aB) (aK dD (aK hX (pv 0) aB) (aK BQ (pv 1) aB))) (pv 1)))
   (aC (aZ (dX (ak (b8 P w K hu (dM (ak aO (ak aO (ak aO av)))) (aK BQ (aK dD (pv 0) aB) aB)) (ak (pv 2) (ak (pv 3) av))))))))),?_⟩
 exact(aE (bU (ai dG (ai h9 ah aA) ah) bf)
   (aE (bG (bT (ai CB (ai dG ah aA) aA)) (aY (dW (ao (aM (cf (dN (ao aN (ao aN (ao aN ar))))) (ai dG ah aA)) (ao ah ar)))) bO)
   (aE (bU (ai dG (ai dj (ai dj ah aA) (ai dG (ai h9 ah aA) (ai Aw ah aA))) ah) bf)
   (aY (dW (ao (aM (cf (dN (ao aN (ao aN (ao aN ar))))) (ai Aw (ai dG ah aA) aA)) (ao ah (ao ah ar))))))))
theorem yp:FnOk P w K mg base (CXE P w) 2 T.f_Xg T.fd_Xg ["script"] (bq (ct T) jN):=by
 refine aG (b:=tw) T.H_Xg.F Hf λcdv A outer s H E hr=> ?_;have hu:=hr.units;refine⟨_,(aD (bX (i:=1) Hf.nd rfl (by trivial) (aK (c8 (K:=K) rfl) aB (aK dD (aJ (bJ T.H_Xr (Hl T)) (hm hr) aL (ak (pv 0) (ak aB av))) aB)))
   (aD (bX (i:=2) Hf.nd rfl (by trivial) (aK dD (aJ (bJ T.H_Xr (Hl T)) (hm hr) aL (ak (pv 0) (ak aB av))) aB))
   (aC (aZ (dX (ak (pv 1) (ak (fe (CompOk.mk (tgs:=["k"]) (cap:=["bars","script"]) (idx:=[1,0]) rfl rfl (by decide+kernel) (by decide+kernel) (qy.mpr ⟨rfl,(qy.mpr ⟨rfl,(qm _)⟩)⟩) rfl (.cons rfl (by trivial) (by trivial) rfl rfl (.cons rfl (by trivial) (by trivial) rfl rfl .nil))) rfl (ox rfl T.b_range (ak (pv 2) av)) (eh (by decide)) (λ_ _ _ _=>(cP (i:=0) (show List.Nodup (α:=PySem.Str) ["k","bars","script"] by decide+kernel) rfl (by trivial))) (λ_ _ _ _=>iu) (λ_ _ _ _=>(aJ (bJ T.H_Qz (Br T)) (hm hr) kR (ak (aK (c8 (K:=K) rfl) (cG (Er (K:=K) rfl rfl) (by rfl) T.b_sum CC (ak (JQ (K:=K) rfl (pv 2) (gZ (pv 0)) (gZ aB) (gZ aB)) av)) (aJ (bJ T.H_Xr (Hl T)) (hm hr) kR (ak (pv 2) (ak (aK (c8 (K:=K) rfl) aB (pv 0)) av)))) (ak (pv 1) av))))) av))))))),?_⟩
 exact(aE (bU (ai dj aA (ai dG (bI (ao ah (ao aA ar))) aA)) bf)
   (aE (bU (ai dG (bI (ao ah (ao aA ar))) aA) bf)
   (aY (dW (ao ah (ao (cf (dR (ot (ao ah ar)) bf iv (bI (ao (ai dj (aR Ex (ao (m7 ah (ig ah) (ig aA) (ig aA)) ar)) (bI (ao ah (ao (ai dj aA ah) ar)))) (ao ah ar))))) ar))))))
theorem yn:FnOk P w K mg base (CXE P w) 1 T.f_Qk T.fd_Qk ["cell","yard"] (bq (ct T) h8):=by
 refine aG (b:=jX) T.H_Qk.F Gr λcdv A outer s H E hr=> ?_;have hu:=hr.units;refine⟨_,(aD (bX (i:=2) Gr.nd rfl (by trivial) (b8 P w K hu (dM (ak aO (ak aO (ak aO (ak aO (ak aO (ak aO (ak aO (ak aO av))))))))) (aK dD (pv 0) aB)))
   (aD (bX (i:=3) Gr.nd rfl (by trivial) (aK hX (pv 0) aB))
   (aD (bH (b7 (ck hu) (pv 2) aO (bK _)) (aC (aZ (dM (ak (dX (ak (pv 2) (ak (aK ly (aK gG aB (aK dD (pv 3) (b8 P w K hu (pv 1) aB))) (aK gG (aK dD (aK hX (pv 3) aB) aB) (aK dD (aK hX (pv 3) aB) (b8 P w K hu (pv 1) aB)))) av))) av)))) bM)
   (aD (bH (b7 (ck hu) (pv 2) aO (bK _)) (aC (aZ (dM (ak (dX (ak (pv 2) (ak (aK dD (pv 3) aB) av))) av)))) bM)
   (aD (bH (b7 (ck hu) (aK dD (pv 3) aB) aB (bK _)) (aC (aZ (dM (ak (dX (ak (pv 2) (ak (aK BQ aB (aK dD (aK hX (pv 3) aB) (aK rW aB aB))) av))) av)))) bM)
   (aC (aZ (dM (ak (dX (ak (pv 2) (ak (aK dD (aK hX (pv 3) aB) (aK (c8 (K:=K) rfl) (cG (iy (P:=P) (w:=w) (K:=K) rfl rfl rfl) (by rfl) T.b_len iz (ak (b8 P w K hu (pv 1) aB) av)) aB)) av))) av))))))))),?_⟩
 exact(aE (bU (aM (cf (dN (ao aN (ao aN (ao aN (ao aN (ao aN (ao aN (ao aN (ao aN ar)))))))))) (ai dG ah aA)) bf)
   (aE (bU (ai h9 ah aA) bf)
   (aE (bG (bT (ai cj ah aN)) (aY (cf (dN (ao (dW (ao ah (ao (ai mL (ai gy aA (ai dG ah (aM ah aA))) (ai gy (ai dG (ai h9 ah aA) aA) (ai dG (ai h9 ah aA) (aM ah aA)))) ar))) ar)))) bO)
   (aE (bG (bT (ai cj ah aN)) (aY (cf (dN (ao (dW (ao ah (ao (ai dG ah aA) ar))) ar)))) bO)
   (aE (bG (bT (ai cj (ai dG ah aA) aA)) (aY (cf (dN (ao (dW (ao ah (ao (ai Aw aA (ai dG (ai h9 ah aA) (ai sO aA aA))) ar))) ar)))) bO)
   (aY (cf (dN (ao (dW (ao ah (ao (ai dG (ai h9 ah aA) (ai dj (aR iw (ao (aM ah aA) ar)) aA)) ar))) ar)))))))))
theorem xI:FnOk P w K mg base (CXE P w) 1 T.f_Qg T.fd_Qg ["cell","yard","standing"] (bq (ct T) lB):=by
 refine aG (b:=kB) T.H_Qg.F mO λcdv A outer s H E hr=> ?_;have hu:=hr.units;refine⟨_,(aD (bX (i:=3) mO.nd rfl (by trivial) (aK dD (aK hX (pv 0) aB) (b8 P w K hu (pv 1) aB)))
   (aD (bX (i:=4) mO.nd rfl (by trivial) (dM av))
   (aD (mI eR rfl (cx (K:=K) rfl (dM (ak aO (ak aO (ak aO av))))) (cP (i:=5) mO.nd rfl (by trivial)) (aC (mI eR rfl (ox rfl T.b_range (ak (cG (iy (P:=P) (w:=w) (K:=K) rfl rfl rfl) (by rfl) T.b_len iz (ak (b8 P w K hu (pv 1) aB) av)) av)) (cP (i:=6) mO.nd rfl (by trivial)) (aC (bH (PW.pt (C5 (b7 (ck hu) (b8 P w K hu (b8 P w K hu (b8 P w K hu (pv 1) aB) (pv 6)) aB) (pv 5) (bK _)) (C6 (b7 (ck hu) (aK fX (aK ub (pv 2) (pv 6)) aB) aB (bK _))))) (aC (jd (pd (K:=K) rfl (rM PySem.F.plainAttrs_list PySem.F.slot_list_append PySem.F.type_list_append KQ (pv 4) (ak (dX (ak aO (ak (pv 6) av))) av))))) bM)))))
   (aD (bX (i:=4) mO.nd rfl (by trivial) (aK (c8 (K:=K) rfl) (pv 4) (fe (CompOk.mk (tgs:=["k"]) (cap:=["yard"]) (idx:=[1]) rfl rfl (by decide+kernel) (by decide+kernel) (qy.mpr ⟨rfl,(qm _)⟩) rfl (.cons rfl (by trivial) (by trivial) rfl rfl .nil)) rfl (ox rfl T.b_range (ak (cG (iy (P:=P) (w:=w) (K:=K) rfl rfl rfl) (by rfl) T.b_len iz (ak (b8 P w K hu (pv 1) aB) av)) av)) (eh (by decide)) (λ_ _ _ _=>(cP (i:=0) (show List.Nodup (α:=PySem.Str) ["k","yard"] by decide+kernel) rfl (by trivial))) (λ_ _ _ _=>(kI (b7 (CG (P:=P) (w:=w) (K:=K) rfl rfl rfl hu) (b8 P w K hu (b8 P w K hu (b8 P w K hu (pv 1) aB) (pv 0)) aB) (dX (ak aO (ak aO av))) (by with_unfolding_all rfl)))) (λ_ _ _ _=>(dX (ak aO (ak (pv 0) av)))))))
   (aD (Dc (i:=7) mO.nd rfl (by trivial) (CompOk.mk (tgs:=["k"]) (cap:=["bar","yard"]) (idx:=[3,1]) rfl rfl (by decide+kernel) (by decide+kernel) (qy.mpr ⟨rfl,(qy.mpr ⟨rfl,(qm _)⟩)⟩) rfl (.cons rfl (by trivial) (by trivial) rfl rfl (.cons rfl (by trivial) (by trivial) rfl rfl .nil))) rfl (ox rfl T.b_range (ak (cG (iy (P:=P) (w:=w) (K:=K) rfl rfl rfl) (by rfl) T.b_len iz (ak (b8 P w K hu (pv 1) aB) av)) av)) (eh (by decide)) (λ_ _ _ _=>(cP (i:=0) (show List.Nodup (α:=PySem.Str) ["k","bar","yard"] by decide+kernel) rfl (by trivial))) (λ_ _ _ _=>(kI (b7 (ck hu) (b8 P w K hu (b8 P w K hu (pv 2) aB) (pv 0)) (dX (ak aO (ak (pv 1) av))) (bK _)))) (λ_ _ _ _=>(pv 0)))
   (aD (bX (i:=4) mO.nd rfl (by trivial) (aK (c8 (K:=K) rfl) (pv 4) (fe (CompOk.mk (tgs:=["k"]) (cap:=["standing"]) (idx:=[2]) rfl rfl (by decide+kernel) (by decide+kernel) (qy.mpr ⟨rfl,(qm _)⟩) rfl (.cons rfl (by trivial) (by trivial) rfl rfl .nil)) rfl (cx (K:=K) rfl (kK (eV (K:=K) rfl) (pv 7) jh (gZ aB))) (eh (by decide)) (λ_ _ _ _=>(cP (i:=0) (show List.Nodup (α:=PySem.Str) ["k","standing"] by decide+kernel) rfl (by trivial))) (λ_ _ _ _=>(kI (b7 (ck hu) (aK fX (aK ub (pv 1) (pv 0)) aB) aB (bK _)))) (λ_ _ _ _=>(dX (ak aO (ak (pv 0) av)))))))
   (aD (bX (i:=4) mO.nd rfl (by trivial) (aK (c8 (K:=K) rfl) (aK (c8 (K:=K) rfl) (pv 4) (dM (ak (dX (ak aO (ak (aK gG aB (pv 3)) av))) av))) (fe (CompOk.mk (tgs:=["k"]) (cap:=[]) (idx:=[]) rfl rfl (by decide+kernel) (by decide+kernel) (qm _) rfl .nil) rfl (cx (K:=K) rfl (kK (eV (K:=K) rfl) (pv 7) jh (gZ aB))) (eh (by decide)) (λ_ _ _ _=>(cP (i:=0) (show List.Nodup (α:=PySem.Str) ["k"] by decide+kernel) rfl (by trivial))) (λ_ _ _ _=>iu) (λ_ _ _ _=>(dX (ak aO (ak (pv 0) av)))))))
   (aC (aZ (aK (c8 (K:=K) rfl) (pv 4) (dM (ak (dX (ak aO (ak (aK dD (aK hX (pv 0) aB) aB) av))) (ak (dX (ak aO (ak (aK dD (aK hX (pv 0) aB) aB) av))) av))))))))))))),?_⟩
 exact(aE (bU (ai dG (ai h9 ah aA) (aM ah aA)) bf)
   (aE (bU (Ey (dN ar)) bf)
   (aE (nC (cz (cf (dN (ao aN (ao aN (ao aN ar)))))) bf (nC (ot (ao (aR iw (ao (aM ah aA) ar)) ar)) bf (bG (Dt (bT (ai cj (aM (aM (aM ah aA) ah) aA) ah)) (bT (ai cj (ai fV (ai uW ah ah) aA) aA))) (Mz ah (dW (ao aN (ao ah ar)))) bO)))
   (Ml (i:=4) (aE (bU (Ey (Hv ah (cf (dR (ot (ao (aR iw (ao (aM ah aA) ar)) ar)) bf (bT (ai ur (aM (aM (aM ah aA) ah) aA) (dW (ao aN (ao aN ar))))) (dW (ao aN (ao ah ar))))))) bf)
   (aE (xM (cf (dR (ot (ao (aR iw (ao (aM ah aA) ar)) ar)) bf (bT (ai cj (aM (aM ah aA) ah) (dW (ao aN (ao ah ar))))) ah)))
   (aE (bU (Ey (Hv ah (cf (dR (cz (fc ah j8 (ig aA))) bf (bT (ai cj (ai fV (ai uW ah ah) aA) aA)) (dW (ao aN (ao ah ar))))))) bf)
   (aE (bU (Ey (Hv (ai dj ah (cf (dN (ao (dW (ao aN (ao (ai gy aA ah) ar))) ar)))) (cf (dR (cz (fc ah j8 (ig aA))) bf iv (dW (ao aN (ao ah ar))))))) bf)
   (aY (ai dj ah (cf (dN (ao (dW (ao aN (ao (ai dG (ai h9 ah aA) aA) ar))) (ao (dW (ao aN (ao (ai dG (ai h9 ah aA) aA) ar))) ar))))))))))))))
theorem DW:FnOk P w K mg base (CXE P w) 1 T.f_Qu T.fd_Qu ["some"] (bq (ct T) iD):=by
 refine aG (b:=jt) T.H_Qu.F oM λcdv A outer s H E hr=> ?_;have hu:=hr.units;refine⟨_,(aD (Dc (i:=1) oM.nd rfl (by trivial) (CompOk.mk (tgs:=["k"]) (cap:=["some"]) (idx:=[0]) rfl rfl (by decide+kernel) (by decide+kernel) (qy.mpr ⟨rfl,(qm _)⟩) rfl (.cons rfl (by trivial) (by trivial) rfl rfl .nil)) rfl (ox rfl T.b_range (ak aB av)) (eh (by decide)) (λ_ _ _ _=>(cP (i:=0) (show List.Nodup (α:=PySem.Str) ["k","some"] by decide+kernel) rfl (by trivial))) (λ_ _ _ _=>(kI (b7 (ck hu) (aK fX (aK ub (pv 1) (pv 0)) aB) aB (bK _)))) (λ_ _ _ _=>(iG (uF) (by rfl) T.b_str nG (ak (pv 0) av))))
   (aC (aZ (b8 P w K hu (dM (ak (pd (K:=K) rfl (rM PySem.F.plainAttrs_str PySem.F.slot_str_join PySem.F.type_str_join (DZ (K:=K) rfl) aO (ak (pv 1) av))) (ak aO av))) (iG (F5) (by rfl) T.b_int Fd (ak (gJ (ck hu) (pv 1) (dM av) (bK _)) av)))))),?_⟩
 exact(aE (xM (cf (dR (ot (ao aA ar)) bf (bT (ai cj (ai fV (ai uW ah ah) aA) aA)) (aR t9 (ao ah ar)))))
   (aY (aM (cf (dN (ao (kY D9 aN (ao ah ar)) (ao aN ar)))) (aR Hi (ao (ai cj ah (cf (dN ar))) ar)))))
theorem v7:FnOk P w K mg base (CXE P w) 1 T.f_Q1 T.fd_Q1 ["self","one","other"] (bq (ct T) r_):=by
 refine aG (b:=tU) T.H_Q1.F BO λcdv A outer s H E hr=> ?_;have hu:=hr.units;refine⟨_,(aD (eW (K:=K) rfl (eM (pv 0) (pv 1) rfl))
   (aC (eW (K:=K) rfl (eM (pv 0) (pv 2) rfl)))),?_⟩
 exact(aE (e8 (CQ T) ah ah)
   (e8 (Ek T) ah ah))
theorem vL:FnOk P w K mg base (CXE P w) 1 T.f_Q8 T.fd_Q8 ["self","bar"] (bq (ct T) sA):=by
 refine aG (b:=tT) T.H_Q8.F Ae λcdv A outer s H E hr=> ?_;have hu:=hr.units;refine⟨_,(aC (eW (K:=K) rfl (eM (pv 0) (pv 1) rfl))),?_⟩;exact(e8 (D_ T) ah ah)
theorem vq:FnOk P w K mg base (CXE P w) 1 T.f_Qh T.fd_Qh ["self","bar"] (bq (ct T) tZ):=by
 refine aG (b:=tQ) T.H_Qh.F Bv λcdv A outer s H E hr=> ?_;have hu:=hr.units;refine⟨_,(aC (eW (K:=K) rfl (eM (pv 0) (pv 1) rfl))),?_⟩;exact(e8 (D_ T) ah ah)
theorem Cw:FnOk P w K mg base (CXE P w) 1 T.f_Q0 T.fd_Q0 ["self","one","other"] (bq (ct T) tW):=by
 refine aG (b:=tq) T.H_Q0.F vb λcdv A outer s H E hr=> ?_;have hu:=hr.units;refine⟨_,(aD (eW (K:=K) rfl (eM (pv 0) (pv 1) rfl))
   (aC (eW (K:=K) rfl (eM (pv 0) (pv 2) rfl)))),?_⟩
 exact(aE (e8 (CQ T) ah ah)
   (e8 (Ek T) ah ah))
theorem zK:FnOk P w K mg base (CXE P w) 3 T.f_Xj T.fd_Xj ["switch"] (bq (ct T) iM):=by
 refine aG (b:=p6) T.H_Xj.F nV λcdv A outer s H E hr=> ?_;have hu:=hr.units;refine⟨_,(aD (bX (i:=1) nV.nd rfl (by trivial) (b8 P w K hu (pv 0) aB))
   (aD (bH (b7 (ck hu) (pv 1) aO (bK _)) (aC (aZ (kD (iY T.C_Ym T.mt_Qh T.H_Qh (vq T)) (hm hr) aL (ak (b8 P w K hu (pv 0) aB) av)))) bM)
   (aD (bH (b7 (ck hu) (pv 1) aO (bK _)) (aC (aZ (kD (iY T.C_Ye T.mt_Q8 T.H_Q8 (vL T)) (hm hr) aL (ak (b8 P w K hu (pv 0) aB) av)))) bM)
   (aD (bH (b7 (ck hu) (pv 1) aO (bK _)) (aC (aZ (kD (iY T.C_Y3 T.mt_Q1 T.H_Q1 (v7 T)) (hm hr) aL (ak (b8 P w K hu (pv 0) aB) (ak (b8 P w K hu (pv 0) aB) av))))) bM)
   (aC (aZ (kD (iY T.C_Xy T.mt_Q0 T.H_Q0 (Cw T)) (hm hr) aL (ak (b8 P w K hu (pv 0) aB) (ak (b8 P w K hu (pv 0) aB) av))))))))),?_⟩
 exact(aE (bU (aM ah aA) bf)
   (aE (bG (bT (ai cj ah aN)) (aY (mB (uA T) (ao (aM ah aA) ar))) bO)
   (aE (bG (bT (ai cj ah aN)) (aY (mB (uK T) (ao (aM ah aA) ar))) bO)
   (aE (bG (bT (ai cj ah aN)) (aY (mB (p7 T) (ao (aM ah aA) (ao (aM ah aA) ar)))) bO)
   (aY (mB (rL T) (ao (aM ah aA) (ao (aM ah aA) ar))))))))
theorem xY:FnOk P w K mg base (CXE P w) 4 T.f_Qn T.fd_Qn ["self","yard"] (bq (ct T) eY):=by
 refine aG (b:=tJ) T.H_Qn.F B8 λcdv A outer s H E hr=> ?_;have hu:=hr.units;refine⟨_,(aC (eW (K:=K) rfl (eM (pv 0) (fe (CompOk.mk (tgs:=["switch"]) (cap:=[]) (idx:=[]) rfl rfl (by decide+kernel) (by decide+kernel) (qm _) rfl .nil) rfl (cx (K:=K) rfl (b8 P w K hu (pv 1) aB)) (eh (by decide)) (λ_ _ _ _=>(cP (i:=0) (show List.Nodup (α:=PySem.Str) ["switch"] by decide+kernel) rfl (by trivial))) (λ_ _ _ _=>iu) (λ_ _ _ _=>(aJ (bJ T.H_Xj (zK T)) (hm hr) kR (ak (pv 0) av)))) rfl))),?_⟩;exact(e8 (BL T) ah (cf (dR (cz (aM ah aA)) bf iv (bI (ao ah ar)))))
theorem CF:FnOk P w K mg base (CXE P w) 1 T.f_Qo T.fd_Qo ["self"] (bq (ct T) gw):=by
 refine aG (b:=j0) T.H_Qo.F Ba λcdv A outer s H E hr=> ?_;have hu:=hr.units;refine⟨_,(aC (aZ aB)),?_⟩;exact(aY aA)
theorem vC:FnOk P w K mg base (CXE P w) 1 T.f_X7 T.fd_X7 ["self"] (bq (ct T) pH):=by
 refine aG (b:=tH) T.H_X7.F AF λcdv A outer s H E hr=> ?_;have hu:=hr.units;refine⟨_,(aC (aZ (aK gG aB (bW (K:=K) rfl (bV (pv 0) rfl))))),?_⟩;exact(aY (ai gy aA (bY (D_ T) ah)))
theorem FW:FnOk P w K mg base (CXE P w) 1 T.f_Qq T.fd_Qq ["self"] (bq (ct T) iT):=by
 refine aG (b:=lC) T.H_Qq.F AJ λcdv A outer s H E hr=> ?_;have hu:=hr.units;refine⟨_,(aC (aZ aB)),?_⟩;exact(aY aA)
theorem zY:FnOk P w K mg base (CXE P w) 1 T.f_Qi T.fd_Qi ["self"] (bq (ct T) pO):=by
 refine aG (b:=sW) T.H_Qi.F Bh λcdv A outer s H E hr=> ?_;have hu:=hr.units;refine⟨_,(aC (aZ (aK ly (aK gG aB (bW (K:=K) rfl (bV (pv 0) rfl))) (aK gG aB (bW (K:=K) rfl (bV (pv 0) rfl)))))),?_⟩;exact(aY (ai mL (ai gy aA (bY (CQ T) ah)) (ai gy aA (bY (Ek T) ah))))
theorem u_:FnOk P w K mg base (CXE P w) 1 T.f_Q9 T.fd_Q9 ["self"] (bq (ct T) rK):=by
 refine aG (b:=sM) T.H_Q9.F Ce λcdv A outer s H E hr=> ?_;have hu:=hr.units;refine⟨_,(aC (aZ (aK ly (aK gG aB (bW (K:=K) rfl (bV (pv 0) rfl))) (aK gG aB (bW (K:=K) rfl (bV (pv 0) rfl)))))),?_⟩;exact(aY (ai mL (ai gy aA (bY (CQ T) ah)) (ai gy aA (bY (Ek T) ah))))
theorem lM:FnOk P w K mg base (CXE P w) 1 T.f_has T.fd_has ["some","number"] (bq (ct T) gP):=by
 refine aG (b:=F7) T.H_has.F rB λcdv A outer s H E hr=> ?_;have hu:=hr.units;refine⟨_,(aC (aZ (gJ (ck hu) (aK fX (aK ub (pv 0) (pv 1)) aB) aB (bK _)))),?_⟩;exact(aY (ai cj (ai fV (ai uW ah ah) aA) aA))
theorem A0:FnOk P w K mg base (CXE P w) 2 T.f_Qe T.fd_Qe ["self","standing"] (bq (ct T) mJ):=by
 refine aG (b:=rA) T.H_Qe.F vJ λcdv A outer s H E hr=> ?_;have hu:=hr.units;refine⟨_,(aC (aZ (fe (CompOk.mk (tgs:=["number","switch"]) (cap:=["standing"]) (idx:=[1]) rfl rfl (by decide+kernel) (by decide+kernel) (qy.mpr ⟨rfl,(qm _)⟩) rfl (.cons rfl (by trivial) (by trivial) rfl rfl .nil)) rfl (LN (K:=K) rfl (Nj rfl T.b_enumerate (ak (bW (K:=K) rfl (bV (pv 0) rfl)) av))) (Ku (DV (by decide) (DV (by decide) Js))) (λ_ _ _ _=>(EH (K:=K) rfl (E6 (n:=2) rfl (uO (cP (i:=0) (show List.Nodup (α:=PySem.Str) ["number","switch","standing"] by decide+kernel) rfl (by trivial)) (uO (cP (i:=1) (show List.Nodup (α:=PySem.Str) ["number","switch","standing"] by decide+kernel) rfl (by trivial)) GD))))) (λ_ _ _ _=>(kI (dC (K:=K) rfl (aJ (bJ T.H_has (lM T)) (hm hr) kR (ak (pv 2) (ak (pv 0) av))) (λ_=>rfl)))) (λ_ _ _ _=>(pv 1))))),?_⟩;exact(aY (cf (dR (LZ (ao (bY (BL T) ah) ar)) (EJ rfl (uL (uL Ga))) (dA (bI (ao ah (ao ah ar)))) ah)))
theorem Ig:cX (ct T) mg base 1 "joins" iP:=by
 exact(cF (CK T) T.C_Yb.cl T.mt_Qq (FW T) (by decide) T.H_Qq.B (cF (uA T) T.C_Ym.cl T.mt_Feed_joins (FW T) (by decide) T.H_Qq.B (cF (uK T) T.C_Ye.cl T.mt_Earth_joins (FW T) (by decide) T.H_Qq.B (cF (p7 T) T.C_Y3.cl T.mt_Qi (zY T) (by decide) T.H_Qi.B (cF (rL T) T.C_Xy.cl T.mt_Q9 (u_ T) (by decide) T.H_Q9.B dP)))))
theorem Fz:cX (ct T) mg base 2 "shut_ones" l7:=by
 exact(cF (i8 T) T.C_Net.cl T.mt_Qe (A0 T) (by decide) T.H_Qe.B dP)
theorem BY:FnOk P w K mg base (CXE P w) 3 T.f_Q5 T.fd_Q5 ["self","standing","some"] (bq (ct T) mH):=by
 refine aG (b:=pK) T.H_Q5.F sD λcdv A outer s H E hr=> ?_;have hu:=hr.units;refine⟨_,(aD (Dc (i:=3) sD.nd rfl (by trivial) (CompOk.mk (tgs:=["switch"]) (cap:=[]) (idx:=[]) rfl rfl (by decide+kernel) (by decide+kernel) (qm _) rfl .nil) rfl (cx (K:=K) rfl (cb P w K mg base 2 (cN (pv 0) (hm hr) aL (ak (pv 1) av)))) (eh (by decide)) (λ_ _ _ _=>(cP (i:=0) (show List.Nodup (α:=PySem.Str) ["switch"] by decide+kernel) rfl (by trivial))) (λ_ _ _ _=>iu) (λ_ _ _ _=>(cb P w K mg base 1 (fK (pv 0) (hm hr) kR))))
   (aD (bX (i:=4) sD.nd rfl (by trivial) (pv 2))
   (aD (bX (i:=5) sD.nd rfl (by trivial) kL)
   (aD (OH eR (b7 (lZ hu) (pv 4) (pv 5) (bK _)) (aD (bX (i:=5) sD.nd rfl (by trivial) (pv 4))
   (aC (mI eR rfl (cx (K:=K) rfl (pv 3)) (cP (i:=6) sD.nd rfl (by trivial)) (aC (bH (dC (K:=K) rfl (aK fX (pv 6) (pv 4)) (λ_=>rfl)) (aC (bX (i:=4) sD.nd rfl (by trivial) (aK ly (pv 4) (pv 6)))) bM))))))
   (aC (aZ (pv 4))))))),?_⟩
 exact(aE (xM (cf (dR (cz (b9 (Fz T) ah (ao ah ar))) bf iv (b9 (Ig T) ah ar))))
   (aE (bU ah bf)
   (aE (bU kW bf)
   (aE (Oh (bT (ai l8 ah ah)) (aE (bU ah bf)
   (nC (cz ah) bf (bG (dA (ai fV ah ah)) (bU (ai mL ah ah) bf) bO))))
   (aY ah)))))
theorem HZ:cX (ct T) mg base 1 "feeds" kH:=by
 exact(cF (CK T) T.C_Yb.cl T.mt_Qo (CF T) (by decide) T.H_Qo.B (cF (uA T) T.C_Ym.cl T.mt_X7 (vC T) (by decide) T.H_X7.B (cF (uK T) T.C_Ye.cl T.mt_Earth_feeds (CF T) (by decide) T.H_Qo.B (cF (p7 T) T.C_Y3.cl T.mt_Breaker_feeds (CF T) (by decide) T.H_Qo.B (cF (rL T) T.C_Xy.cl T.mt_Splitter_feeds (CF T) (by decide) T.H_Qo.B dP)))))
theorem Fk:cX (ct T) mg base 3 "joined_bars" p9:=by
 exact(cF (i8 T) T.C_Net.cl T.mt_Q5 (BY T) (by decide) T.H_Q5.B dP)
theorem vO:FnOk P w K mg base (CXE P w) 4 T.f_Qj T.fd_Qj ["self","standing"] (bq (ct T) mF):=by
 refine aG (b:=pT) T.H_Qj.F Dr λcdv A outer s H E hr=> ?_;have hu:=hr.units;refine⟨_,(aD (bX (i:=2) Dr.nd rfl (by trivial) aB)
   (aD (mI eR rfl (cx (K:=K) rfl (cb P w K mg base 2 (cN (pv 0) (hm hr) aL (ak (pv 1) av)))) (cP (i:=3) Dr.nd rfl (by trivial)) (aC (bX (i:=2) Dr.nd rfl (by trivial) (aK ly (pv 2) (cb P w K mg base 1 (fK (pv 3) (hm hr) aL))))))
   (aC (aZ (cb P w K mg base 3 (cN (pv 0) (hm hr) aL (ak (pv 1) (ak (pv 2) av)))))))),?_⟩
 exact(aE (bU aA bf)
   (aE (nC (cz (b9 (Fz T) ah (ao ah ar))) bf (bU (ai mL ah (b9 (HZ T) ah ar)) bf))
   (aY (b9 (Fk T) ah (ao ah (ao ah ar))))))
theorem En:cX (ct T) mg base 4 "live_bars" oW:=by
 exact(cF (i8 T) T.C_Net.cl T.mt_Qj (vO T) (by decide) T.H_Qj.B dP)
theorem oX:FnOk P w K mg base (CXE P w) 6 T.f_Yl T.fd_Yl ["yard","standing"] (bq (ct T) jg):=by
 refine aG (b:=sX) T.H_Yl.F xF λcdv A outer s H E hr=> ?_;have hu:=hr.units;refine⟨_,(aC (aZ (cb P w K mg base 4 (cN (kD (iY T.C_Net T.mt_Qn T.H_Qn (xY T)) (hm hr) aL (ak (pv 0) av)) (hm hr) aL (ak (pv 1) av))))),?_⟩;exact(aY (b9 (En T) (mB (i8 T) (ao ah ar)) (ao ah ar)))
theorem D6:FnOk P w K mg base (CXE P w) 1 T.f_Qd T.fd_Qd ["self"] (bq (ct T) fT):=by
 refine aG (b:=j7) T.H_Qd.F yK λcdv A outer s H E hr=> ?_;have hu:=hr.units;refine⟨_,(aC (aZ aB)),?_⟩;exact(aY aA)
theorem xb:FnOk P w K mg base (CXE P w) 1 T.f_Qs T.fd_Qs ["self"] (bq (ct T) qH):=by
 refine aG (b:=ri) T.H_Qs.F xK λcdv A outer s H E hr=> ?_;have hu:=hr.units;refine⟨_,(aC (aZ (aK gG aB (bW (K:=K) rfl (bV (pv 0) rfl))))),?_⟩;exact(aY (ai gy aA (bY (D_ T) ah)))
theorem Kd:cX (ct T) mg base 1 "earths" kN:=by
 exact(cF (CK T) T.C_Yb.cl T.mt_Qd (D6 T) (by decide) T.H_Qd.B (cF (uA T) T.C_Ym.cl T.mt_Feed_earths (D6 T) (by decide) T.H_Qd.B (cF (uK T) T.C_Ye.cl T.mt_Qs (xb T) (by decide) T.H_Qs.B (cF (p7 T) T.C_Y3.cl T.mt_Breaker_earths (D6 T) (by decide) T.H_Qd.B (cF (rL T) T.C_Xy.cl T.mt_Splitter_earths (D6 T) (by decide) T.H_Qd.B dP)))))
theorem yv:FnOk P w K mg base (CXE P w) 3 T.f_Qv T.fd_Qv ["self","standing"] (bq (ct T) lY):=by
 refine aG (b:=qB) T.H_Qv.F C_ λcdv A outer s H E hr=> ?_;have hu:=hr.units;refine⟨_,(aD (bX (i:=2) C_.nd rfl (by trivial) aB)
   (aD (mI eR rfl (cx (K:=K) rfl (cb P w K mg base 2 (cN (pv 0) (hm hr) aL (ak (pv 1) av)))) (cP (i:=3) C_.nd rfl (by trivial)) (aC (bX (i:=2) C_.nd rfl (by trivial) (aK ly (pv 2) (cb P w K mg base 1 (fK (pv 3) (hm hr) aL))))))
   (aC (aZ (pv 2))))),?_⟩
 exact(aE (bU aA bf)
   (aE (nC (cz (b9 (Fz T) ah (ao ah ar))) bf (bU (ai mL ah (b9 (Kd T) ah ar)) bf))
   (aY ah)))
theorem KW:cX (ct T) mg base 3 "led_bars" ux:=by
 exact(cF (i8 T) T.C_Net.cl T.mt_Qv (yv T) (by decide) T.H_Qv.B dP)
theorem Cb:FnOk P w K mg base (CXE P w) 4 T.f_Q3 T.fd_Q3 ["self","standing"] (bq (ct T) lI):=by
 refine aG (b:=p_) T.H_Q3.F yi λcdv A outer s H E hr=> ?_;have hu:=hr.units;refine⟨_,(aC (aZ (cb P w K mg base 3 (cN (pv 0) (hm hr) aL (ak (pv 1) (ak (cb P w K mg base 3 (cN (pv 0) (hm hr) aL (ak (pv 1) av))) av)))))),?_⟩;exact(aY (b9 (Fk T) ah (ao ah (ao (b9 (KW T) ah (ao ah ar)) ar))))
theorem Ko:cX (ct T) mg base 4 "earthed_bars" vH:=by
 exact(cF (i8 T) T.C_Net.cl T.mt_Q3 (Cb T) (by decide) T.H_Q3.B dP)
theorem mV:FnOk P w K mg base (CXE P w) 6 T.f_Y2 T.fd_Y2 ["yard","standing"] (bq (ct T) ju):=by
 refine aG (b:=qV) T.H_Y2.F ym λcdv A outer s H E hr=> ?_;have hu:=hr.units;refine⟨_,(aC (aZ (cb P w K mg base 4 (cN (kD (iY T.C_Net T.mt_Qn T.H_Qn (xY T)) (hm hr) aL (ak (pv 0) av)) (hm hr) aL (ak (pv 1) av))))),?_⟩;exact(aY (b9 (Ko T) (mB (i8 T) (ao ah ar)) (ao ah ar)))
theorem zM:FnOk P w K mg base (CXE P w) 1 T.f_Ql T.fd_Ql ["self"] (bq (ct T) iF):=by
 refine aG (b:=sC) T.H_Ql.F Bx λcdv A outer s H E hr=> ?_;have hu:=hr.units;refine⟨_,(aC (aZ (bW (K:=K) rfl (bV (pv 0) rfl)))),?_⟩;exact(aY (bY (iQ T) ah))
theorem A1:FnOk P w K mg base (CXE P w) 1 T.f_Q2 T.fd_Q2 ["numbers"] (bq (ct T) c_):=by
 refine aG (b:=lq) T.H_Q2.F Co λcdv A outer s H E hr=> ?_;have hu:=hr.units;refine⟨_,(aD (bH (ip (dC (K:=K) rfl (pv 0) (λ_=>rfl))) (aC (aZ aO)) bM)
   (aC (aZ (pd (K:=K) rfl (rM PySem.F.plainAttrs_str PySem.F.slot_str_join PySem.F.type_str_join (DZ (K:=K) rfl) aO (ak (fe (CompOk.mk (tgs:=["number"]) (cap:=[]) (idx:=[]) rfl rfl (by decide+kernel) (by decide+kernel) (qm _) rfl .nil) rfl (cx (K:=K) rfl (pv 0)) (eh (by decide)) (λ_ _ _ _=>(cP (i:=0) (show List.Nodup (α:=PySem.Str) ["number"] by decide+kernel) rfl (by trivial))) (λ_ _ _ _=>iu) (λ_ _ _ _=>(iG (uF) (by rfl) T.b_str nG (ak (pv 0) av)))) av)))))),?_⟩
 exact(aE (bG (gR (dA ah)) (aY aN) bO)
   (aY (kY D9 aN (ao (cf (dR (cz ah) bf iv (aR t9 (ao ah ar)))) ar))))
theorem yZ:FnOk P w K mg base (CXE P w) 1 T.f_Xl T.fd_Xl ["word"] (bq (ct T) iU):=by
 refine aG (b:=qI) T.H_Xl.F u9 λcdv A outer s H E hr=> ?_;have hu:=hr.units;refine⟨_,(aD (bH (ip (Cz (xE) (xE) aB (cG (iy (P:=P) (w:=w) (K:=K) rfl rfl rfl) (by rfl) T.b_len iz (ak (pv 0) av)) (eI T.c_MOST_FIGURES))) (aC (aZ lS)) bM)
   (aD (bH (PW.pt (C5 (b7 (ck hu) (b8 P w K hu (pv 0) aB) aO (bK _)) (C6 (b7 (nM) (cG (iy (P:=P) (w:=w) (K:=K) rfl rfl rfl) (by rfl) T.b_len iz (ak (pv 0) av)) aB (bK _))))) (aC (aZ lS)) bM)
   (aC (aZ (cG (JO (K:=K) rfl rfl) (by rfl) T.b_all IW (ak (fe (CompOk.mk (tgs:=["sign"]) (cap:=[]) (idx:=[]) rfl rfl (by decide+kernel) (by decide+kernel) (qm _) rfl .nil) rfl (cx (K:=K) rfl (pv 0)) (eh (by decide)) (λ_ _ _ _=>(cP (i:=0) (show List.Nodup (α:=PySem.Str) ["sign"] by decide+kernel) rfl (by trivial))) (λ_ _ _ _=>iu) (λ_ _ _ _=>(gJ (CG (P:=P) (w:=w) (K:=K) rfl rfl rfl hu) (pv 0) (eI T.c_FIGURES) (by with_unfolding_all rfl)))) av)))))),?_⟩
 exact(aE (bG (gR (bT (CZ Bg Bg aA (aR iw (ao ah ar)) aA))) (aY fA) bO)
   (aE (bG (Dt (bT (ai cj (aM ah aA) aN)) (bT (ai nH (aR iw (ao ah ar)) aA))) (aY fA) bO)
   (aY (aR K8 (ao (cf (dR (cz ah) bf iv (ai ur ah aN))) ar)))))
theorem F4:FnOk P w K mg base (CXE P w) 2 T.f_Qy T.fd_Qy ["words"] (bq (ct T) fP):=by
 refine aG (b:=lQ) T.H_Qy.F wY λcdv A outer s H E hr=> ?_;have hu:=hr.units;refine⟨_,(aD (bH (ip (dC (K:=K) rfl (cG (JO (K:=K) rfl rfl) (by rfl) T.b_all IW (ak (fe (CompOk.mk (tgs:=["word"]) (cap:=[]) (idx:=[]) rfl rfl (by decide+kernel) (by decide+kernel) (qm _) rfl .nil) rfl (cx (K:=K) rfl (pv 0)) (eh (by decide)) (λ_ _ _ _=>(cP (i:=0) (show List.Nodup (α:=PySem.Str) ["word"] by decide+kernel) rfl (by trivial))) (λ_ _ _ _=>iu) (λ_ _ _ _=>(aJ (bJ T.H_Xl (yZ T)) (hm hr) kR (ak (pv 0) av)))) av)) (λ_=>rfl))) (aC (dh T.x_Yh aO (hr.mono (qx _)))) bM)
   (aC (aZ (fe (CompOk.mk (tgs:=["word"]) (cap:=[]) (idx:=[]) rfl rfl (by decide+kernel) (by decide+kernel) (qm _) rfl .nil) rfl (cx (K:=K) rfl (pv 0)) (eh (by decide)) (λ_ _ _ _=>(cP (i:=0) (show List.Nodup (α:=PySem.Str) ["word"] by decide+kernel) rfl (by trivial))) (λ_ _ _ _=>iu) (λ_ _ _ _=>(iG (F5) (by rfl) T.b_int Fd (ak (pv 0) av))))))),?_⟩
 exact(aE (bG (gR (dA (aR K8 (ao (cf (dR (cz ah) bf iv (bI (ao ah ar)))) ar)))) (dg (ir T) aN) bO)
   (aY (cf (dR (cz ah) bf iv (aR Hi (ao ah ar))))))
theorem BZ:FnOk P w K mg base (CXE P w) 3 T.f_Xb T.fd_Xb ["words"] (bq (ct T) jU):=by
 refine aG (b:=sF) T.H_Xb.F BG λcdv A outer s H E hr=> ?_;have hu:=hr.units;refine⟨_,(aD (bH (b7 (lZ hu) (cG (iy (P:=P) (w:=w) (K:=K) rfl rfl rfl) (by rfl) T.b_len iz (ak (pv 0) av)) aB (bK _)) (aC (dh T.x_Yh aO (hr.mono (qx _)))) bM)
   (aC (aZ (b8 P w K hu (aJ (bJ T.H_Qy (F4 T)) (hm hr) aL (ak (pv 0) av)) aB)))),?_⟩
 exact(aE (bG (bT (ai l8 (aR iw (ao ah ar)) aA)) (dg (ir T) aN) bO)
   (aY (aM (bI (ao ah ar)) aA)))
theorem m6:FnOk P w K mg base (CXE P w) 3 T.f_X5 T.fd_X5 ["words","bars"] (bq (ct T) jF):=by
 refine aG (b:=jx) T.H_X5.F nz λcdv A outer s H E hr=> ?_;have hu:=hr.units;refine⟨_,(aD (bX (i:=2) nz.nd rfl (by trivial) (aJ (bJ T.H_Qy (F4 T)) (hm hr) aL (ak (pv 0) av)))
   (aD (bH (PW.pt (nS (ip (dC (K:=K) rfl (pv 2) (λ_=>rfl))) (JG (dC (K:=K) rfl (cG (Mu (K:=K) rfl rfl) (by rfl) T.b_any rY (ak (fe (CompOk.mk (tgs:=["one","other"]) (cap:=[]) (idx:=[]) rfl rfl (by decide+kernel) (by decide+kernel) (qm _) rfl .nil) rfl (NT (K:=K) rfl (tI rfl T.b_zip (ak (pv 2) (ak (kK (eV (K:=K) rfl) (pv 2) (gZ aB) jh) av)))) (Ku (DV (by decide) (DV (by decide) Js))) (λ_ _ _ _=>(EH (K:=K) rfl (E6 (n:=2) rfl (uO (cP (i:=0) (show List.Nodup (α:=PySem.Str) ["one","other"] by decide+kernel) rfl (by trivial)) (uO (cP (i:=1) (show List.Nodup (α:=PySem.Str) ["one","other"] by decide+kernel) rfl (by trivial)) GD))))) (λ_ _ _ _=>iu) (λ_ _ _ _=>(gJ (D8) (pv 0) (pv 1) (bK _)))) av)) (λ_=>rfl))))) (aC (dh T.x_Yh aO (hr.mono (qx _)))) bM)
   (aD (bH (b7 (D8) (b8 P w K hu (pv 2) (qE J6 aB)) (pv 1) (bK _)) (aC (dh T.x_Yi aO (hr.mono (qx _)))) bM)
   (aC (aZ (cG (Er (K:=K) rfl rfl) (by rfl) T.b_sum CC (ak (fe (CompOk.mk (tgs:=["number"]) (cap:=[]) (idx:=[]) rfl rfl (by decide+kernel) (by decide+kernel) (qm _) rfl .nil) rfl (cx (K:=K) rfl (pv 2)) (eh (by decide)) (λ_ _ _ _=>(cP (i:=0) (show List.Nodup (α:=PySem.Str) ["number"] by decide+kernel) rfl (by trivial))) (λ_ _ _ _=>iu) (λ_ _ _ _=>(aK gG aB (pv 0)))) av))))))),?_⟩
 exact(aE (bU (bI (ao ah ar)) bf)
   (aE (bG (oF (gR (dA ah)) (dA (aR sP (ao (cf (dR (rR (ao ah (ao (fc ah (ig aA) j8) ar))) (EJ rfl (uL (uL Ga))) iv (ai DN ah ah))) ar)))) (dg (ir T) aN) bO)
   (aE (bG (bT (ai DN (aM ah (gV Ib aA)) ah)) (dg (qQ T) aN) bO)
   (aY (aR Ex (ao (cf (dR (cz ah) bf iv (ai gy aA ah))) ar))))))
theorem mU:FnOk P w K mg base (CXE P w) 3 T.f_Y4 T.fd_Y4 ["row"] (bq (ct T) f_):=by
 refine aG (b:=rg) T.H_Y4.F Gv λcdv A outer s H E hr=> ?_;have hu:=hr.units;refine⟨_,(aD (bX (i:=1) Gv.nd rfl (by trivial) (pd (K:=K) rfl (rM PySem.F.plainAttrs_str PySem.F.slot_str_split PySem.F.type_str_split JB (pv 0) (ak aO av))))
   (aD (bX (i:=2) Gv.nd rfl (by trivial) (b8 P w K hu (pv 1) aB))
   (aD (bH (PW.pt (nS (b7 (Hz (P:=P) (w:=w) (K:=K) rfl rfl rfl hu) (pv 2) (eI T.c_NUMBERS_BEHIND) (by with_unfolding_all rfl)) (JG (b7 (lZ hu) (cG (iy (P:=P) (w:=w) (K:=K) rfl rfl rfl) (by rfl) T.b_len iz (ak (pv 1) av)) (aK (c8 (K:=K) rfl) aB (b8 P w K hu (eI T.c_NUMBERS_BEHIND) (pv 2))) (bK _))))) (aC (dh T.x_Yh aO (hr.mono (qx _)))) bM)
   (aC (aZ (iG (Nw (K:=K) rfl) (by rfl) T.b_tuple Oj (ak (aK (c8 (K:=K) rfl) (dM (ak (pv 2) av)) (aJ (bJ T.H_Qy (F4 T)) (hm hr) aL (ak (kK (eV (K:=K) rfl) (pv 1) (gZ aB) jh) av))) av))))))),?_⟩
 exact(aE (bU (cf (IG ah (ao aN ar))) bf)
   (aE (bU (aM ah aA) bf)
   (aE (bG (oF (bT (ai ur ah (eu λ_ _=>by unfold xl;simp only[RV];exact⟨_,_,rfl,T.d_NUMBERS_BEHIND,rfl⟩))) (bT (ai l8 (aR iw (ao ah ar)) (ai dj aA (aM (eu λ_ _=>by unfold xl;simp only[RV];exact⟨_,_,rfl,T.d_NUMBERS_BEHIND,rfl⟩) ah))))) (dg (ir T) aN) bO)
   (aY (aR Nq (ao (ai dj (cf (dN (ao ah ar))) (bI (ao (fc ah (ig aA) j8) ar))) ar))))))
theorem vB:FnOk P w K mg base (CXE P w) 4 T.f_Xx T.fd_Xx ["row"] (bq (ct T) jw):=by
 refine aG (b:=o_) T.H_Xx.F mT λcdv A outer s H E hr=> ?_;have hu:=hr.units;refine⟨_,(aD (bX (i:=1) mT.nd rfl (by trivial) (aJ (bJ T.H_Y4 (mU T)) (hm hr) aL (ak (pv 0) av)))
   (aD (bH (b7 (lZ hu) (b8 P w K hu (pv 1) aB) aO (bK _)) (aC (dh T.x_Yh aO (hr.mono (qx _)))) bM)
   (aD (bH (ip (Cz (xE) (xE) aB (b8 P w K hu (pv 1) aB) (eI T.c_MOST_BARS))) (aC (dh T.x_Xn aO (hr.mono (qx _)))) bM)
   (aC (aZ (b8 P w K hu (pv 1) aB)))))),?_⟩
 exact(aE (bU (bI (ao ah ar)) bf)
   (aE (bG (bT (ai l8 (aM ah aA) aN)) (dg (ir T) aN) bO)
   (aE (bG (gR (bT (CZ Bg Bg aA (aM ah aA) aA))) (dg (vP T) aN) bO)
   (aY (aM ah aA)))))
theorem xx:FnOk P w K mg base (CXE P w) 1 T.f_Qw T.fd_Qw ["yard","place"] (bq (ct T) Bt):=by
 exact FD
theorem xN:FnOk P w K mg base (CXE P w) 4 T.f_Xq T.fd_Xq ["row","bars","switches_ahead"] (bq (ct T) ft):=by
 refine aG (b:=iB) T.H_Xq.F nk λcdv A outer s H E hr=> ?_;have hu:=hr.units;refine⟨_,(aD (bX (i:=3) nk.nd rfl (by trivial) (aJ (bJ T.H_Y4 (mU T)) (hm hr) aL (ak (pv 0) av)))
   (aD (bH (b7 (ck hu) (b8 P w K hu (pv 3) aB) aO (bK _)) (aC (dh T.x_Yh aO (hr.mono (qx _)))) bM)
   (aD (bH (b7 (D8) (pv 2) (eI T.c_MOST_SWITCHES) (bK _)) (aC (dh T.x_Yh aO (hr.mono (qx _)))) bM)
   (aD (bH (b7 (D8) (cG (M8 (K:=K) rfl rfl) (by rfl) T.b_max qU (ak (kK (eV (K:=K) rfl) (pv 3) (gZ aB) jh) av)) (pv 1) (bK _)) (aC (dh T.x_Yi aO (hr.mono (qx _)))) bM)
   (aD (bH (PW.pt (C5 (b7 (ck hu) (cG (iy (P:=P) (w:=w) (K:=K) rfl rfl rfl) (by rfl) T.b_len iz (ak (pv 3) av)) aB (bK _)) (C6 (b7 (ck hu) (b8 P w K hu (pv 3) aB) (b8 P w K hu (pv 3) aB) (bK _))))) (aC (dh T.x_Yk aO (hr.mono (qx _)))) bM)
   (aC (aZ (pv 3)))))))),?_⟩
 exact(aE (bU (bI (ao ah ar)) bf)
   (aE (bG (bT (ai cj (aM ah aA) aN)) (dg (ir T) aN) bO)
   (aE (bG (bT (ai DN ah aA)) (dg (ir T) aN) bO)
   (aE (bG (bT (ai DN (aR sT (ao (fc ah (ig aA) j8) ar)) ah)) (dg (qQ T) aN) bO)
   (aE (bG (Dt (bT (ai cj (aR iw (ao ah ar)) aA)) (bT (ai cj (aM ah aA) (aM ah aA)))) (dg (wN T) aN) bO)
   (aY ah))))))
theorem nj:FnOk P w K mg base (CXE P w) 6 T.f_Qb T.fd_Qb ["self","yard"] (bq (ct T) hZ):=by
 refine aG (b:=j5) T.H_Qb.F yq λcdv A outer s H E hr=> ?_;have hu:=hr.units;refine⟨_,(aD (eW (K:=K) rfl (eM (pv 0) (dX (ak (b8 P w K hu (pv 1) aB) (ak (iG (HJ (K:=K) rfl) (by rfl) T.b_list CI (ak (b8 P w K hu (pv 1) aB) av)) av))) rfl))
   (aD (eW (K:=K) rfl (eM (pv 0) (kD (iY T.C_Net T.mt_Qn T.H_Qn (xY T)) (hm hr) aL (ak (bW (K:=K) rfl (bV (pv 0) rfl)) av)) rfl))
   (aD (eW (K:=K) rfl (eM (pv 0) aB rfl))
   (aD (eW (K:=K) rfl (eM (pv 0) aB rfl))
   (aD (eW (K:=K) rfl (eM (pv 0) L8 rfl))
   (aC (eW (K:=K) rfl (eM (pv 0) aB rfl)))))))),?_⟩
 exact(aE (e8 (fj T) ah (dW (ao (aM ah aA) (ao (cf (KO (ao (aM ah aA) ar))) ar))))
   (aE (e8 (Eo T) ah (mB (i8 T) (ao (bY (fj T) ah) ar)))
   (aE (e8 (mR T) ah aA)
   (aE (e8 (iQ T) ah aA)
   (aE (e8 (vf T) ah rj)
   (e8 (Ah T) ah aA))))))
theorem Cm:FnOk P w K mg base (CXE P w) 8 T.f_X1 T.fd_X1 ["self","yard"] (bq (ct T) fm):=by
 refine aG (b:=jk) T.H_X1.F w_ λcdv A outer s H E hr=> ?_;have hu:=hr.units;refine⟨_,(aD (eW (K:=K) rfl (eM (pv 0) (pv 1) rfl))
   (aD (eW (K:=K) rfl (eM (pv 0) (kD (iY T.C_Yg T.mt_Qb T.H_Qb (nj T)) (hm hr) aL (ak (pv 1) av)) rfl))
   (aC (aZ aO)))),?_⟩
 exact(aE (e8 (fj T) ah ah)
   (aE (e8 (kA T) ah (E5 (gH T) (ao ah ar)))
   (aY aN)))
theorem K_:cX (ct T) mg base 8 "begin" vX:=by
 exact(cF (lA T) T.C_Yn.cl T.mt_X1 (Cm T) (by decide) T.H_X1.B dP)
theorem vc:FnOk P w K mg base (CXE P w) 9 T.f_Q4 T.fd_Q4 ["self","row"] (bq (ct T) jq):=by
 refine aG (b:=kC) T.H_Q4.F Gd λcdv A outer s H E hr=> ?_;have hu:=hr.units;refine⟨_,(aD (bX (i:=2) Gd.nd rfl (by trivial) (b8 P w K hu (bW (K:=K) rfl (bV (pv 0) rfl)) aB))
   (aD (bX (i:=3) Gd.nd rfl (by trivial) (b8 P w K hu (bW (K:=K) rfl (bV (pv 0) rfl)) aB))
   (aC (aZ (cb P w K mg base 8 (cN (pv 0) (hm hr) aL (ak (dX (ak (pv 2) (ak (aK (c8 (K:=K) rfl) (pv 3) (dM (ak (aJ (bJ T.H_Xq (xN T)) (hm hr) aL (ak (pv 1) (ak (pv 2) (ak (cG (iy (P:=P) (w:=w) (K:=K) rfl rfl rfl) (by rfl) T.b_len iz (ak (pv 3) av)) av)))) av))) av))) av))))))),?_⟩
 exact(aE (bU (aM (bY (fj T) ah) aA) bf)
   (aE (bU (aM (bY (fj T) ah) aA) bf)
   (aY (b9 (K_ T) ah (ao (dW (ao ah (ao (ai dj ah (cf (dN (ao (bI (ao ah (ao ah (ao (aR iw (ao ah ar)) ar)))) ar)))) ar))) ar)))))
theorem ya:FnOk P w K mg base (CXE P w) 1 T.f_X2 T.fd_X2 ["self"] (bq (ct T) gX):=by
 refine aG (b:=tX) T.H_X2.F CJ λcdv A outer s H E hr=> ?_;have hu:=hr.units;refine⟨_,(aD (bX (i:=1) CJ.nd rfl (by trivial) aB)
   (aD (Od eR rfl (bW (K:=K) rfl (bV (pv 0) rfl)) (cP (i:=2) CJ.nd rfl (by trivial)) (aC (bX (i:=1) CJ.nd rfl (by trivial) (aK ly (pv 1) (b8 P w K hu (pv 2) aB)))))
   (aC (aZ (pv 1))))),?_⟩
 exact(aE (bU aA bf)
   (aE (NB (bY (vf T) ah) bf (bU (ai mL ah (aM ah aA)) bf))
   (aY ah)))
theorem G6:cX (ct T) mg base 1 "held" su:=by
 exact(cF (gH T) T.C_Yg.cl T.mt_X2 (ya T) (by decide) T.H_X2.B dP)
theorem vK:FnOk P w K mg base (CXE P w) 2 T.f_Q6 T.fd_Q6 ["self","number"] (bq (ct T) fu):=by
 refine aG (b:=mK) T.H_Q6.F AO λcdv A outer s H E hr=> ?_;have hu:=hr.units;refine⟨_,(aD (bH (b7 (Hz (P:=P) (w:=w) (K:=K) rfl rfl rfl hu) (pv 1) (bW (K:=K) rfl (bV (pv 0) rfl)) (by with_unfolding_all rfl)) (aC (dh T.x_Xv aO (hr.mono (qx _)))) bM)
   (aD (jd (L6 (bW (K:=K) rfl (bV (pv 0) rfl)) (pv 1) ⟨rfl,rfl,rfl,rfl⟩))
   (aC (aZ (cb P w K mg base 1 (fK (pv 0) (hm hr) aL)))))),?_⟩
 exact(aE (bG (bT (ai ur ah (bY (vf T) ah))) (dg (yf T) aN) bO)
   (aE (jy (MM (bY (vf T) ah) ah))
   (aY (b9 (G6 T) ah ar))))
theorem Et:FnOk P w K mg base (CXE P w) 1 T.f_Qt T.fd_Qt ["yard","number"] (bq (ct T) eK):=by
 refine aG (b:=jv) T.H_Qt.F wW λcdv A outer s H E hr=> ?_;have hu:=hr.units;refine⟨_,(aC (bH (ip (Cz (xE) (DI) aB (pv 1) (cG (iy (P:=P) (w:=w) (K:=K) rfl rfl rfl) (by rfl) T.b_len iz (ak (b8 P w K hu (pv 0) aB) av)))) (aC (dh T.x_Xu aO (hr.mono (qx _)))) bM)),?_⟩;exact(bG (gR (bT (CZ Bg CB aA ah (aR iw (ao (aM ah aA) ar))))) (dg (Bs T) aN) bO)
theorem C3:FnOk P w K mg base (CXE P w) 1 T.f_Qf T.fd_Qf ["self"] (bq (ct T) fW):=by
 refine aG (b:=jl) T.H_Qf.F AB λcdv A outer s H E hr=> ?_;have hu:=hr.units;refine⟨_,(aC (aZ lS)),?_⟩;exact(aY fA)
theorem zH:FnOk P w K mg base (CXE P w) 1 T.f_Q7 T.fd_Q7 ["self"] (bq (ct T) rC):=by
 refine aG (b:=tR) T.H_Q7.F va λcdv A outer s H E hr=> ?_;have hu:=hr.units;refine⟨_,(aC (aZ lS)),?_⟩;exact(aY fA)
theorem Iu:cX (ct T) mg base 1 "gentle" kS:=by
 exact(cF (CK T) T.C_Yb.cl T.mt_Qf (C3 T) (by decide) T.H_Qf.B (cF (uA T) T.C_Ym.cl T.mt_Feed_gentle (C3 T) (by decide) T.H_Qf.B (cF (uK T) T.C_Ye.cl T.mt_Earth_gentle (C3 T) (by decide) T.H_Qf.B (cF (p7 T) T.C_Y3.cl T.mt_Breaker_gentle (C3 T) (by decide) T.H_Qf.B (cF (rL T) T.C_Xy.cl T.mt_Q7 (zH T) (by decide) T.H_Q7.B dP)))))
theorem xm:FnOk P w K mg base (CXE P w) 2 T.f_Xs T.fd_Xs ["switch"] (bq (ct T) iC):=by
 refine aG (b:=mz) T.H_Xs.F zR λcdv A outer s H E hr=> ?_;have hu:=hr.units;refine⟨_,(aC (aZ (BW (gJ (lZ hu) (cb P w K mg base 1 (fK (pv 0) (hm hr) aL)) aB (bK _)) (Fb (cb P w K mg base 1 (fK (pv 0) (hm hr) aL)))))),?_⟩;exact(aY (wD (ai l8 (b9 (HZ T) ah ar) aA) (b9 (Iu T) ah ar)))
theorem zU:FnOk P w K mg base (CXE P w) 3 T.f_X8 T.fd_X8 ["self","number"] (bq (ct T) dJ):=by
 refine aG (b:=gY) T.H_X8.F Bm λcdv A outer s H E hr=> ?_;have hu:=hr.units;refine⟨_,(aD (jd (aJ (bJ T.H_Qt (Et T)) (hm hr) aL (ak (bW (K:=K) rfl (bV (pv 0) rfl)) (ak (pv 1) av))))
   (aD (bH (ip (dC (K:=K) rfl (aJ (bJ T.H_Xs (xm T)) (hm hr) aL (ak (b8 P w K hu (bW (K:=K) rfl (bV (bW (K:=K) rfl (bV (pv 0) rfl)) rfl)) (pv 1)) av)) (λ_=>rfl))) (aC (dh T.x_Y9 aO (hr.mono (qx _)))) bM)
   (aD (bH (dC (K:=K) rfl (aJ (bJ T.H_has (lM T)) (hm hr) aL (ak (bW (K:=K) rfl (bV (pv 0) rfl)) (ak (pv 1) av))) (λ_=>rfl)) (aC (dh T.x_Y0 aO (hr.mono (qx _)))) bM)
   (aD (bH (dC (K:=K) rfl (aJ (bJ T.H_has (lM T)) (hm hr) aL (ak (bW (K:=K) rfl (bV (pv 0) rfl)) (ak (pv 1) av))) (λ_=>rfl)) (aC (dh T.x_Y8 aO (hr.mono (qx _)))) bM)
   (aD (eW (K:=K) rfl (eM (pv 0) (aK ly (bW (K:=K) rfl (bV (pv 0) rfl)) (aK gG aB (pv 1))) rfl))
   (aC (aZ (bW (K:=K) rfl (bV (pv 0) rfl))))))))),?_⟩
 exact(aE (jy (bI (ao (bY (fj T) ah) (ao ah ar))))
   (aE (bG (gR (dA (bI (ao (aM (bY (BL T) (bY (Eo T) ah)) ah) ar)))) (dg (wF T) aN) bO)
   (aE (bG (dA (bI (ao (bY (mR T) ah) (ao ah ar)))) (dg (AV T) aN) bO)
   (aE (bG (dA (bI (ao (bY (iQ T) ah) (ao ah ar)))) (dg (uq T) aN) bO)
   (aE (e8 (iQ T) ah (ai mL (bY (iQ T) ah) (ai gy aA ah)))
   (aY (bY (iQ T) ah)))))))
theorem vi:FnOk P w K mg base (CXE P w) 1 T.f_Yc T.fd_Yc ["some"] (bq (ct T) hU):=by
 refine aG (b:=p5) T.H_Yc.F Ab λcdv A outer s H E hr=> ?_;have hu:=hr.units;refine⟨_,(aC (aZ (aK fX (pv 0) (qE J6 (pv 0))))),?_⟩;exact(aY (ai fV ah (gV Ib ah)))
theorem vZ:FnOk P w K mg base (CXE P w) 5 T.f_Yd T.fd_Yd ["net","standing","number"] (bq (ct T) jJ):=by
 refine aG (b:=pF) T.H_Yd.F C1 λcdv A outer s H E hr=> ?_;have hu:=hr.units;refine⟨_,(aD (bX (i:=3) C1.nd rfl (by trivial) (b8 P w K hu (bW (K:=K) rfl (bV (pv 0) rfl)) (pv 2)))
   (aD (bH (ip (dC (K:=K) rfl (cb P w K mg base 1 (fK (pv 3) (hm hr) aL)) (λ_=>rfl))) (aC (aZ lS)) bM)
   (aD (bX (i:=4) C1.nd rfl (by trivial) (aK fX (pv 1) (qE vx (aK gG aB (pv 2)))))
   (aD (bX (i:=5) C1.nd rfl (by trivial) (cb P w K mg base 1 (fK (pv 3) (hm hr) aL)))
   (aD (bH (ip (dC (K:=K) rfl (aK fX (pv 5) (cb P w K mg base 4 (cN (pv 0) (hm hr) aL (ak (pv 4) av)))) (λ_=>rfl))) (aC (aZ lS)) bM)
   (aC (aZ (gJ (lZ hu) (aK fX (pv 5) (qE vx (cb P w K mg base 3 (cN (pv 0) (hm hr) aL (ak (pv 4) (ak (aJ (bJ T.H_Yc (vi T)) (hm hr) aL (ak (pv 5) av)) av)))))) aB (bK _))))))))),?_⟩
 exact(aE (bU (aM (bY (BL T) ah) ah) bf)
   (aE (bG (gR (dA (b9 (Iu T) ah ar))) (aY fA) bO)
   (aE (bU (ai fV ah (gV zZ (ai gy aA ah))) bf)
   (aE (bU (b9 (Ig T) ah ar) bf)
   (aE (bG (gR (dA (ai fV ah (b9 (En T) ah (ao ah ar))))) (aY fA) bO)
   (aY (ai l8 (ai fV ah (gV zZ (b9 (Fk T) ah (ao ah (ao (bI (ao ah ar)) ar))))) aA)))))))
theorem oh:FnOk P w K mg base (CXE P w) 1 T.f_X4 T.fd_X4 ["standing","number"] (bq (ct T) kE):=by
 refine aG (b:=tV) T.H_X4.F Cn λcdv A outer s H E hr=> ?_;have hu:=hr.units;refine⟨_,(aC (aZ (aK pz (pv 0) (aK gG aB (pv 1))))),?_⟩;exact(aY (ai pD ah (ai gy aA ah)))
theorem BS:FnOk P w K mg base (CXE P w) 5 T.f_X0 T.fd_X0 ["self","standing"] (bq (ct T) lP):=by
 refine aG (b:=pN) T.H_X0.F wO λcdv A outer s H E hr=> ?_;have hu:=hr.units;refine⟨_,(aC (aZ (gJ (ck hu) (aK fX (cb P w K mg base 4 (cN (pv 0) (hm hr) aL (ak (pv 1) av))) (cb P w K mg base 4 (cN (pv 0) (hm hr) aL (ak (pv 1) av)))) aB (bK _)))),?_⟩;exact(aY (ai cj (ai fV (b9 (En T) ah (ao ah ar)) (b9 (Ko T) ah (ao ah ar))) aA))
theorem Nm:cX (ct T) mg base 5 "is_safe" Fg:=by
 exact(cF (i8 T) T.C_Net.cl T.mt_X0 (BS T) (by decide) T.H_X0.B dP)
theorem xW:FnOk P w K mg base (CXE P w) 6 T.f_Y7 T.fd_Y7 ["net","standing","number"] (bq (ct T) mM):=by
 refine aG (b:=pP) T.H_Y7.F xi λcdv A outer s H E hr=> ?_;have hu:=hr.units;refine⟨_,(aC (aZ (MV (K:=K) rfl (cb P w K mg base 5 (cN (pv 0) (hm hr) aL (ak (aJ (bJ T.H_X4 (oh T)) (hm hr) aL (ak (pv 1) (ak (pv 2) av))) av)))))),?_⟩;exact(aY (qY (b9 (Nm T) ah (ao (bI (ao ah (ao ah ar))) ar))))
theorem A7:FnOk P w K mg base (CXE P w) 7 T.f_Y6 T.fd_Y6 ["yard","standing","number"] (bq (ct T) iX):=by
 refine aG (b:=jz) T.H_Y6.F nT λcdv A outer s H E hr=> ?_;have hu:=hr.units;refine⟨_,(aD (jd (aJ (bJ T.H_Qt (Et T)) (hm hr) aL (ak (pv 0) (ak (pv 2) av))))
   (aD (bX (i:=3) nT.nd rfl (by trivial) (kD (iY T.C_Net T.mt_Qn T.H_Qn (xY T)) (hm hr) aL (ak (pv 0) av)))
   (aD (bH (dC (K:=K) rfl (aJ (bJ T.H_Yd (vZ T)) (hm hr) aL (ak (pv 3) (ak (pv 1) (ak (pv 2) av)))) (λ_=>rfl)) (aC (dh T.x_Ya aO (hr.mono (qx _)))) bM)
   (aD (bH (dC (K:=K) rfl (aJ (bJ T.H_Y7 (xW T)) (hm hr) aL (ak (pv 3) (ak (pv 1) (ak (pv 2) av)))) (λ_=>rfl)) (aC (dh T.x_Xz aO (hr.mono (qx _)))) bM)
   (aC (aZ (aJ (bJ T.H_X4 (oh T)) (hm hr) aL (ak (pv 1) (ak (pv 2) av))))))))),?_⟩
 exact(aE (jy (bI (ao ah (ao ah ar))))
   (aE (bU (mB (i8 T) (ao ah ar)) bf)
   (aE (bG (dA (bI (ao ah (ao ah (ao ah ar))))) (dg (xC T) aN) bO)
   (aE (bG (dA (bI (ao ah (ao ah (ao ah ar))))) (dg (Ap T) aN) bO)
   (aY (bI (ao ah (ao ah ar))))))))
theorem xD:FnOk P w K mg base (CXE P w) 8 T.f_Xd T.fd_Xd ["self","number"] (bq (ct T) cS):=by
 refine aG (b:=fR) T.H_Xd.F yr λcdv A outer s H E hr=> ?_;have hu:=hr.units;refine⟨_,(aD (jd (aJ (bJ T.H_Qt (Et T)) (hm hr) aL (ak (bW (K:=K) rfl (bV (pv 0) rfl)) (ak (pv 1) av))))
   (aD (bH (dC (K:=K) rfl (aJ (bJ T.H_has (lM T)) (hm hr) aL (ak (bW (K:=K) rfl (bV (pv 0) rfl)) (ak (pv 1) av))) (λ_=>rfl)) (aC (dh T.x_Y8 aO (hr.mono (qx _)))) bM)
   (aD (bH (dC (K:=K) rfl (aJ (bJ T.H_has (lM T)) (hm hr) aL (ak (cb P w K mg base 1 (fK (pv 0) (hm hr) aL)) (ak (pv 1) av))) (λ_=>rfl)) (aC (dh T.x_Yj aO (hr.mono (qx _)))) bM)
   (aD (eW (K:=K) rfl (eM (pv 0) (aJ (bJ T.H_Y6 (A7 T)) (hm hr) aL (ak (bW (K:=K) rfl (bV (pv 0) rfl)) (ak (bW (K:=K) rfl (bV (pv 0) rfl)) (ak (pv 1) av)))) rfl))
   (aC (aZ (bW (K:=K) rfl (bV (pv 0) rfl)))))))),?_⟩
 exact(aE (jy (bI (ao (bY (fj T) ah) (ao ah ar))))
   (aE (bG (dA (bI (ao (bY (iQ T) ah) (ao ah ar)))) (dg (uq T) aN) bO)
   (aE (bG (dA (bI (ao (b9 (G6 T) ah ar) (ao ah ar)))) (dg (uj T) aN) bO)
   (aE (e8 (mR T) ah (bI (ao (bY (fj T) ah) (ao (bY (mR T) ah) (ao ah ar)))))
   (aY (bY (mR T) ah))))))
theorem Ax:FnOk P w K mg base (CXE P w) 2 T.f_Qm T.fd_Qm ["self","number"] (bq (ct T) d_):=by
 refine aG (b:=iN) T.H_Qm.F Cd λcdv A outer s H E hr=> ?_;have hu:=hr.units;refine⟨_,(aD (jd (aJ (bJ T.H_Qt (Et T)) (hm hr) aL (ak (bW (K:=K) rfl (bV (pv 0) rfl)) (ak (pv 1) av))))
   (aD (bH (ip (dC (K:=K) rfl (aJ (bJ T.H_has (lM T)) (hm hr) aL (ak (bW (K:=K) rfl (bV (pv 0) rfl)) (ak (pv 1) av))) (λ_=>rfl))) (aC (dh T.x_Xi aO (hr.mono (qx _)))) bM)
   (aD (bH (dC (K:=K) rfl (aJ (bJ T.H_has (lM T)) (hm hr) aL (ak (cb P w K mg base 1 (fK (pv 0) (hm hr) aL)) (ak (pv 1) av))) (λ_=>rfl)) (aC (dh T.x_Yj aO (hr.mono (qx _)))) bM)
   (aD (eW (K:=K) rfl (eM (pv 0) (aK fX (bW (K:=K) rfl (bV (pv 0) rfl)) (qE vx (aK gG aB (pv 1)))) rfl))
   (aC (aZ (bW (K:=K) rfl (bV (pv 0) rfl)))))))),?_⟩
 exact(aE (jy (bI (ao (bY (fj T) ah) (ao ah ar))))
   (aE (bG (gR (dA (bI (ao (bY (iQ T) ah) (ao ah ar))))) (dg (Av T) aN) bO)
   (aE (bG (dA (bI (ao (b9 (G6 T) ah ar) (ao ah ar)))) (dg (uj T) aN) bO)
   (aE (e8 (iQ T) ah (ai fV (bY (iQ T) ah) (gV zZ (ai gy aA ah))))
   (aY (bY (iQ T) ah))))))
theorem KD:cX (ct T) mg base 2 "give_back" jm:=by
 exact(cF (gH T) T.C_Yg.cl T.mt_Q6 (vK T) (by decide) T.H_Q6.B dP)
theorem HY:cX (ct T) mg base 3 "lock" jS:=by
 exact(cF (gH T) T.C_Yg.cl T.mt_X8 (zU T) (by decide) T.H_X8.B dP)
theorem Kc:cX (ct T) mg base 8 "turn" lK:=by
 exact(cF (gH T) T.C_Yg.cl T.mt_Xd (xD T) (by decide) T.H_Xd.B dP)
theorem Lm:cX (ct T) mg base 2 "unlock" j_:=by
 exact(cF (gH T) T.C_Yg.cl T.mt_Qm (Ax T) (by decide) T.H_Qm.B dP)
theorem Cp:FnOk P w K mg base (CXE P w) 9 T.f_Xf T.fd_Xf ["self","kind","number"] (bq (ct T) eO):=by
 refine aG (b:=dZ) T.H_Xf.F AW λcdv A outer s H E hr=> ?_;have hu:=hr.units;refine⟨_,(aD (bH (b7 (ck hu) (pv 1) aO (bK _)) (aC (aZ (Nl (dC (K:=K) rfl (aJ (bJ T.H_has (lM T)) (hm hr) aL (ak (cb P w K mg base 8 (cN (bW (K:=K) rfl (bV (pv 0) rfl)) (hm hr) aL (ak (pv 2) av))) (ak (pv 2) av))) (λ_=>rfl)) aO aO))) bM)
   (aD (bH (b7 (ck hu) (pv 1) aO (bK _)) (aC (jd (cb P w K mg base 3 (cN (bW (K:=K) rfl (bV (pv 0) rfl)) (hm hr) aL (ak (pv 2) av))))) bM)
   (aD (bH (b7 (ck hu) (pv 1) aO (bK _)) (aC (jd (cb P w K mg base 2 (cN (bW (K:=K) rfl (bV (pv 0) rfl)) (hm hr) aL (ak (pv 2) av))))) bM)
   (aD (bH (b7 (ck hu) (pv 1) aO (bK _)) (aC (jd (cb P w K mg base 2 (cN (bW (K:=K) rfl (bV (pv 0) rfl)) (hm hr) aL (ak (pv 2) av))))) bM)
   (aC (aZ aO)))))),?_⟩
 exact(aE (bG (bT (ai cj ah aN)) (aY (Fp (dA (bI (ao (b9 (Kc T) (bY (kA T) ah) (ao ah ar)) (ao ah ar)))) aN aN)) bO)
   (aE (bG (bT (ai cj ah aN)) (jy (b9 (HY T) (bY (kA T) ah) (ao ah ar))) bO)
   (aE (bG (bT (ai cj ah aN)) (jy (b9 (Lm T) (bY (kA T) ah) (ao ah ar))) bO)
   (aE (bG (bT (ai cj ah aN)) (jy (b9 (KD T) (bY (kA T) ah) (ao ah ar))) bO)
   (aY aN)))))
theorem zV:FnOk P w K mg base (CXE P w) 1 T.f_Qr T.fd_Qr ["yard"] (bq (ct T) jA):=by
 refine aG (b:=pJ) T.H_Qr.F Cs λcdv A outer s H E hr=> ?_;have hu:=hr.units;refine⟨_,(aC (aZ (aK BQ (aK gG aB (cG (iy (P:=P) (w:=w) (K:=K) rfl rfl rfl) (by rfl) T.b_len iz (ak (b8 P w K hu (pv 0) aB) av))) aB))),?_⟩;exact(aY (ai Aw (ai gy aA (aR iw (ao (aM ah aA) ar))) aA))
theorem BD:FnOk P w K mg base (CXE P w) 6 T.f_Xc T.fd_Xc ["yard","place","locks"] (bq (ct T) iS):=by
 refine aG (b:=l9) T.H_Xc.F zA λcdv A outer s H E hr=> ?_;have hu:=hr.units;refine⟨_,(aC (aZ (gJ (ck hu) (aK fX (cb P w K mg base 4 (cN (kD (iY T.C_Net T.mt_Qn T.H_Qn (xY T)) (hm hr) aL (ak (pv 0) av)) (hm hr) aL (ak (aK fX (aJ (bJ T.H_Qr (zV T)) (hm hr) aL (ak (pv 0) av)) (qE vx (pv 2))) av))) (pv 1)) aB (bK _)))),?_⟩;exact(aY (ai cj (ai fV (b9 (En T) (mB (i8 T) (ao ah ar)) (ao (ai fV (bI (ao ah ar)) (gV zZ ah)) ar)) ah) aA))
theorem vS:FnOk P w K mg base (CXE P w) 2 T.f_X9 T.fd_X9 ["some"] (bq (ct T) fU):=by
 refine aG (b:=rE) T.H_X9.F Bn λcdv A outer s H E hr=> ?_;have hu:=hr.units;refine⟨_,(aC (aZ (fe (CompOk.mk (tgs:=["number"]) (cap:=["some"]) (idx:=[0]) rfl rfl (by decide+kernel) (by decide+kernel) (qy.mpr ⟨rfl,(qm _)⟩) rfl (.cons rfl (by trivial) (by trivial) rfl rfl .nil)) rfl (ox rfl T.b_range (ak (NV (K:=K) rfl (tM PySem.F.plainAttrs_int PySem.F.slot_int_bit_length PySem.F.type_int_bit_length L7 (pv 0))) av)) (eh (by decide)) (λ_ _ _ _=>(cP (i:=0) (show List.Nodup (α:=PySem.Str) ["number","some"] by decide+kernel) rfl (by trivial))) (λ_ _ _ _=>(kI (dC (K:=K) rfl (aJ (bJ T.H_has (lM T)) (hm hr) kR (ak (pv 1) (ak (pv 0) av))) (λ_=>rfl)))) (λ_ _ _ _=>(pv 0))))),?_⟩;exact(aY (cf (dR (ot (ao (ph ah) ar)) bf (dA (bI (ao ah (ao ah ar)))) ah)))
theorem xp:FnOk P w K mg base (CXE P w) 3 T.f_Xa T.fd_Xa ["net","standing","place"] (bq (ct T) jE):=by
 refine aG (b:=qL) T.H_Xa.F nO λcdv A outer s H E hr=> ?_;have hu:=hr.units;refine⟨_,(aD (Dc (i:=3) nO.nd rfl (by trivial) (CompOk.mk (tgs:=["number"]) (cap:=["place","net"]) (idx:=[2,0]) rfl rfl (by decide+kernel) (by decide+kernel) (qy.mpr ⟨rfl,(qy.mpr ⟨rfl,(qm _)⟩)⟩) rfl (.cons rfl (by trivial) (by trivial) rfl rfl (.cons rfl (by trivial) (by trivial) rfl rfl .nil))) rfl (cx (K:=K) rfl (aJ (bJ T.H_X9 (vS T)) (hm hr) aL (ak (pv 1) av))) (eh (by decide)) (λ_ _ _ _=>(cP (i:=0) (show List.Nodup (α:=PySem.Str) ["number","place","net"] by decide+kernel) rfl (by trivial))) (λ_ _ _ _=>(kI (dC (K:=K) rfl (aK fX (cb P w K mg base 1 (fK (b8 P w K hu (bW (K:=K) rfl (bV (pv 2) rfl)) (pv 0)) (hm hr) kR)) (pv 1)) (λ_=>rfl)))) (λ_ _ _ _=>(pv 0)))
   (aC (aZ (cG (Er (K:=K) rfl rfl) (by rfl) T.b_sum CC (ak (fe (CompOk.mk (tgs:=["number"]) (cap:=[]) (idx:=[]) rfl rfl (by decide+kernel) (by decide+kernel) (qm _) rfl .nil) rfl (cx (K:=K) rfl (pv 3)) (eh (by decide)) (λ_ _ _ _=>(cP (i:=0) (show List.Nodup (α:=PySem.Str) ["number"] by decide+kernel) rfl (by trivial))) (λ_ _ _ _=>iu) (λ_ _ _ _=>(aK gG aB (pv 0)))) av))))),?_⟩
 exact(aE (xM (cf (dR (cz (bI (ao ah ar))) bf (dA (ai fV (b9 (Kd T) (aM (bY (BL T) ah) ah) ar) ah)) ah)))
   (aY (aR Ex (ao (cf (dR (cz ah) bf iv (ai gy aA ah))) ar))))
theorem AS:FnOk P w K mg base (CXE P w) 7 T.f_Qx T.fd_Qx ["self","place"] (bq (ct T) di):=by
 refine aG (b:=j6) T.H_Qx.F BJ λcdv A outer s H E hr=> ?_;have hu:=hr.units;refine⟨_,(aD (bH (ip (Cz (DI) (DI) aB (pv 1) (aK gG aB (b8 P w K hu (bW (K:=K) rfl (bV (pv 0) rfl)) aB)))) (aC (dh T.x_Yi aO (hr.mono (qx _)))) bM)
   (aD (bH (dC (K:=K) rfl (aK fX (pv 1) (qE vx (cb P w K mg base 3 (cN (bW (K:=K) rfl (bV (pv 0) rfl)) (hm hr) aL (ak (bW (K:=K) rfl (bV (pv 0) rfl)) av))))) (λ_=>rfl)) (aC (dh T.x_X3 aO (hr.mono (qx _)))) bM)
   (aD (bH (ip (dC (K:=K) rfl (aJ (bJ T.H_Xc (BD T)) (hm hr) aL (ak (bW (K:=K) rfl (bV (pv 0) rfl)) (ak (pv 1) (ak (bW (K:=K) rfl (bV (pv 0) rfl)) av)))) (λ_=>rfl))) (aC (dh T.x_Y1 aO (hr.mono (qx _)))) bM)
   (aD (eW (K:=K) rfl (eM (pv 0) (aK (c8 (K:=K) rfl) (bW (K:=K) rfl (bV (pv 0) rfl)) aB) rfl))
   (aD (Mr (By hr) (bW (K:=K) rfl (bV (pv 0) rfl)) (bW (K:=K) rfl (bV (pv 0) rfl)) (dX (ak (pv 1) (ak (aK ly (aJ (bJ T.H_Xa (xp T)) (hm hr) aL (ak (bW (K:=K) rfl (bV (pv 0) rfl)) (ak (bW (K:=K) rfl (bV (pv 0) rfl)) (ak (pv 1) av)))) (bW (K:=K) rfl (bV (pv 0) rfl))) av))) rfl)
   (aC (aZ (bW (K:=K) rfl (bV (pv 0) rfl))))))))),?_⟩
 exact(aE (bG (gR (bT (CZ CB CB aA ah (ai gy aA (aM (bY (fj T) ah) aA))))) (dg (qQ T) aN) bO)
   (aE (bG (dA (ai fV ah (gV zZ (b9 (KW T) (bY (Eo T) ah) (ao (bY (mR T) ah) ar))))) (dg (A_ T) aN) bO)
   (aE (bG (gR (dA (bI (ao (bY (fj T) ah) (ao ah (ao (bY (iQ T) ah) ar)))))) (dg (vm T) aN) bO)
   (aE (e8 (Ah T) ah (ai dj (bY (Ah T) ah) aA))
   (aE (M9 (bY (vf T) ah) (bY (Ah T) ah) (dW (ao ah (ao (ai mL (bI (ao (bY (Eo T) ah) (ao (bY (mR T) ah) (ao ah ar)))) (bY (iQ T) ah)) ar))))
   (aY (bY (Ah T) ah)))))))
theorem Az:FnOk P w K mg base (CXE P w) 1 T.f_X6 T.fd_X6 ["self","words"] (bq (ct T) Cf):=by
 exact FD
theorem v5:FnOk P w K mg base (CXE P w) 1 T.f_Yf T.fd_Yf ["yard"] (bq (ct T) uY):=by
 exact FD
theorem wG:FnOk P w K mg base (CXE P w) 1 T.f_Qa T.fd_Qa ["self"] (bq (ct T) fC):=by
 refine aG (b:=ro) T.H_Qa.F xy λcdv A outer s H E hr=> ?_;have hu:=hr.units;refine⟨_,(aC (aZ (bW (K:=K) rfl (bV (pv 0) rfl)))),?_⟩;exact(aY (bY (mR T) ah))
theorem KC:cX (ct T) mg base 1 "locked" zS:=by
 exact(cF (gH T) T.C_Yg.cl T.mt_Ql (zM T) (by decide) T.H_Ql.B dP)
theorem vn:cX (ct T) mg base 1 "standing" iZ:=by
 exact(cF (gH T) T.C_Yg.cl T.mt_Qa (wG T) (by decide) T.H_Qa.B dP)
theorem yA:FnOk P w K mg base (CXE P w) 7 T.f_Xp T.fd_Xp ["self","kind"] (bq (ct T) mQ):=by
 refine aG (b:=c9) T.H_Xp.F Ai λcdv A outer s H E hr=> ?_;have hu:=hr.units;refine⟨_,(aD (bH (b7 (ck hu) (pv 1) aO (bK _)) (aC (aZ (aJ (bJ T.H_Q2 (A1 T)) (hm hr) aL (ak (aJ (bJ T.H_X9 (vS T)) (hm hr) aL (ak (aJ (bJ T.H_Yl (oX T)) (hm hr) aL (ak (bW (K:=K) rfl (bV (pv 0) rfl)) (ak (cb P w K mg base 1 (fK (bW (K:=K) rfl (bV (pv 0) rfl)) (hm hr) aL)) av))) av)) av)))) bM)
   (aD (bH (b7 (ck hu) (pv 1) aO (bK _)) (aC (aZ (aJ (bJ T.H_Q2 (A1 T)) (hm hr) aL (ak (aJ (bJ T.H_X9 (vS T)) (hm hr) aL (ak (aJ (bJ T.H_Y2 (mV T)) (hm hr) aL (ak (bW (K:=K) rfl (bV (pv 0) rfl)) (ak (cb P w K mg base 1 (fK (bW (K:=K) rfl (bV (pv 0) rfl)) (hm hr) aL)) av))) av)) av)))) bM)
   (aD (bH (b7 (ck hu) (pv 1) aO (bK _)) (aC (aZ (aJ (bJ T.H_Q2 (A1 T)) (hm hr) aL (ak (aJ (bJ T.H_X9 (vS T)) (hm hr) aL (ak (cb P w K mg base 1 (fK (bW (K:=K) rfl (bV (pv 0) rfl)) (hm hr) aL)) av)) av)))) bM)
   (aD (bH (b7 (ck hu) (pv 1) aO (bK _)) (aC (aZ (aJ (bJ T.H_Q2 (A1 T)) (hm hr) aL (ak (aJ (bJ T.H_X9 (vS T)) (hm hr) aL (ak (cb P w K mg base 1 (fK (bW (K:=K) rfl (bV (pv 0) rfl)) (hm hr) aL)) av)) av)))) bM)
   (aD (bH (b7 (ck hu) (pv 1) aO (bK _)) (aC (aZ (aJ (bJ T.H_Yf (v5 T)) (hm hr) aL (ak (bW (K:=K) rfl (bV (pv 0) rfl)) av)))) bM)
   (aC (dh T.x_Yh aO (hr.mono (qx _))))))))),?_⟩
 exact(aE (bG (bT (ai cj ah aN)) (aY (bI (ao (bI (ao (bI (ao (bY (fj T) ah) (ao (b9 (vn T) (bY (kA T) ah) ar) ar))) ar)) ar))) bO)
   (aE (bG (bT (ai cj ah aN)) (aY (bI (ao (bI (ao (bI (ao (bY (fj T) ah) (ao (b9 (vn T) (bY (kA T) ah) ar) ar))) ar)) ar))) bO)
   (aE (bG (bT (ai cj ah aN)) (aY (bI (ao (bI (ao (b9 (KC T) (bY (kA T) ah) ar) ar)) ar))) bO)
   (aE (bG (bT (ai cj ah aN)) (aY (bI (ao (bI (ao (b9 (vn T) (bY (kA T) ah) ar) ar)) ar))) bO)
   (aE (bG (bT (ai cj ah aN)) (aY (bI (ao (bY (fj T) ah) ar))) bO)
   (dg (ir T) aN))))))
theorem PY:cX (ct T) mg base 9 "add_switch" E_:=by
 exact(cF (lA T) T.C_Yn.cl T.mt_Q4 (vc T) (by decide) T.H_Q4.B dP)
theorem MN:cX (ct T) mg base 9 "done" Hq:=by
 exact(cF (lA T) T.C_Yn.cl T.mt_Xf (Cp T) (by decide) T.H_Xf.B dP)
theorem Lg:cX (ct T) mg base 7 "permit" sv:=by
 exact(cF (gH T) T.C_Yg.cl T.mt_Qx (AS T) (by decide) T.H_Qx.B dP)
theorem Nk:cX (ct T) mg base 1 "reach" JI:=by
 exact(cF (lA T) T.C_Yn.cl T.mt_X6 (Az T) (by decide) T.H_X6.B dP)
theorem Ob:cX (ct T) mg base 7 "tell" Hh:=by
 exact(cF (lA T) T.C_Yn.cl T.mt_Xp (yA T) (by decide) T.H_Xp.B dP)
theorem BP:FnOk P w K mg base (CXE P w) 10 T.f_Xw T.fd_Xw ["self","row"] (bq (ct T) cy):=by
 refine aG (b:=cH) T.H_Xw.F D3 λcdv A outer s H E hr=> ?_;have hu:=hr.units;refine⟨_,(aD (bX (i:=2) D3.nd rfl (by trivial) (pd (K:=K) rfl (rM PySem.F.plainAttrs_str PySem.F.slot_str_split PySem.F.type_str_split JB (pv 1) (ak aO av))))
   (aD (bX (i:=3) D3.nd rfl (by trivial) (b8 P w K hu (pv 2) aB))
   (aD (bH (b7 (ck hu) (pv 3) aO (bK _)) (aC (aZ (cb P w K mg base 8 (cN (pv 0) (hm hr) aL (ak (dX (ak (aJ (bJ T.H_Xx (vB T)) (hm hr) aL (ak (pv 1) av)) (ak (dM av) av))) av))))) bM)
   (aD (bH (b7 (rQ) (bW (K:=K) rfl (bV (pv 0) rfl)) kL (bK _)) (aC (dh T.x_Yh aO (hr.mono (qx _)))) bM)
   (aD (bH (b7 (CG (P:=P) (w:=w) (K:=K) rfl rfl rfl hu) (pv 3) (dX (ak aO (ak aO (ak aO (ak aO av))))) (by with_unfolding_all rfl)) (aC (aZ (cb P w K mg base 9 (cN (pv 0) (hm hr) aL (ak (pv 1) av))))) bM)
   (aD (bH (b7 (CG (P:=P) (w:=w) (K:=K) rfl rfl rfl hu) (pv 3) (dX (ak aO (ak aO (ak aO (ak aO av))))) (by with_unfolding_all rfl)) (aC (aZ (cb P w K mg base 9 (cN (pv 0) (hm hr) aL (ak (pv 3) (ak (aJ (bJ T.H_Xb (BZ T)) (hm hr) aL (ak (kK (eV (K:=K) rfl) (pv 2) (gZ aB) jh) av)) av)))))) bM)
   (aD (bH (b7 (ck hu) (pv 3) aO (bK _)) (aD (bX (i:=4) D3.nd rfl (by trivial) (cb P w K mg base 7 (cN (bW (K:=K) rfl (bV (pv 0) rfl)) (hm hr) aL (ak (aJ (bJ T.H_X5 (m6 T)) (hm hr) aL (ak (kK (eV (K:=K) rfl) (pv 2) (gZ aB) jh) (ak (b8 P w K hu (bW (K:=K) rfl (bV (pv 0) rfl)) aB) av))) av))))
   (aC (aZ (vt (Kl aO (Kl (p8 (pv 4)) rG)))))) bM)
   (aD (bH (b7 (ck hu) (pv 3) aO (bK _)) (aC (aZ (aJ (bJ T.H_Q2 (A1 T)) (hm hr) aL (ak (b8 P w K hu (aJ (bJ T.H_Qw (xx T)) (hm hr) aL (ak (bW (K:=K) rfl (bV (pv 0) rfl)) (ak (aJ (bJ T.H_X5 (m6 T)) (hm hr) aL (ak (kK (eV (K:=K) rfl) (pv 2) (gZ aB) jh) (ak (b8 P w K hu (bW (K:=K) rfl (bV (pv 0) rfl)) aB) av))) av))) aB) av)))) bM)
   (aD (bH (b7 (ck hu) (pv 3) aO (bK _)) (aC (aZ (cb P w K mg base 1 (cN (pv 0) (hm hr) aL (ak (kK (eV (K:=K) rfl) (pv 2) (gZ aB) jh) av))))) bM)
   (aD (bH (b7 (lZ hu) (cG (iy (P:=P) (w:=w) (K:=K) rfl rfl rfl) (by rfl) T.b_len iz (ak (pv 2) av)) aB (bK _)) (aC (dh T.x_Yh aO (hr.mono (qx _)))) bM)
   (aC (aZ (cb P w K mg base 7 (cN (pv 0) (hm hr) aL (ak (pv 3) av))))))))))))))),?_⟩
 exact(aE (bU (cf (IG ah (ao aN ar))) bf)
   (aE (bU (aM ah aA) bf)
   (aE (bG (bT (ai cj ah aN)) (aY (b9 (K_ T) ah (ao (dW (ao (bI (ao ah ar)) (ao (cf (dN ar)) ar))) ar))) bO)
   (aE (bG (bT (ai yz (bY (fj T) ah) kW)) (dg (ir T) aN) bO)
   (aE (bG (bT (ai ur ah (dW (ao aN (ao aN (ao aN (ao aN ar))))))) (aY (b9 (PY T) ah (ao ah ar))) bO)
   (aE (bG (bT (ai ur ah (dW (ao aN (ao aN (ao aN (ao aN ar))))))) (aY (b9 (MN T) ah (ao ah (ao (bI (ao (fc ah (ig aA) j8) ar)) ar)))) bO)
   (aE (bG (bT (ai cj ah aN)) (aE (bU (b9 (Lg T) (bY (kA T) ah) (ao (bI (ao (fc ah (ig aA) j8) (ao (aM (bY (fj T) ah) aA) ar))) ar)) bf)
   (aY (Gq (IL aN (IL (B7 ah) rP))))) bO)
   (aE (bG (bT (ai cj ah aN)) (aY (bI (ao (aM (bI (ao (bY (fj T) ah) (ao (bI (ao (fc ah (ig aA) j8) (ao (aM (bY (fj T) ah) aA) ar))) ar))) aA) ar))) bO)
   (aE (bG (bT (ai cj ah aN)) (aY (b9 (Nk T) ah (ao (fc ah (ig aA) j8) ar))) bO)
   (aE (bG (bT (ai l8 (aR iw (ao ah ar)) aA)) (dg (ir T) aN) bO)
   (aY (b9 (Ob T) ah (ao ah ar)))))))))))))
theorem uR:cX (ct T) mg base 10 "say" jo:=by
 exact(cF (lA T) T.C_Yn.cl T.mt_Xw (BP T) (by decide) T.H_Xw.B dP)
theorem oJ:FnOk P w K mg base (CXE P w) 11 T.f_Xk T.fd_Xk ["desk","board","yard","kind"] (bq (ct T) d7):=by
 refine aG (b:=jQ) T.H_Xk.F nD λcdv A outer s H E hr=> ?_;have hu:=hr.units;refine⟨_,(aD (bX (i:=4) nD.nd rfl (by trivial) (cb P w K mg base 1 (fK (pv 1) (hm hr) aL)))
   (aD (bH (b7 (ck hu) (pv 3) aB (bK _)) (aC (aZ (gJ (ck hu) (cb P w K mg base 10 (cN (pv 0) (hm hr) aL (ak aO av))) (aJ (bJ T.H_Qu (DW T)) (hm hr) aL (ak (aJ (bJ T.H_Yl (oX T)) (hm hr) aL (ak (pv 2) (ak (pv 4) av))) av)) (bK _)))) bM)
   (aD (bH (b7 (ck hu) (pv 3) aB (bK _)) (aC (aZ (gJ (ck hu) (cb P w K mg base 10 (cN (pv 0) (hm hr) aL (ak aO av))) (aJ (bJ T.H_Qu (DW T)) (hm hr) aL (ak (aJ (bJ T.H_Y2 (mV T)) (hm hr) aL (ak (pv 2) (ak (pv 4) av))) av)) (bK _)))) bM)
   (aD (bH (b7 (ck hu) (pv 3) aB (bK _)) (aC (aZ (gJ (ck hu) (cb P w K mg base 10 (cN (pv 0) (hm hr) aL (ak aO av))) (aJ (bJ T.H_Qu (DW T)) (hm hr) aL (ak (cb P w K mg base 1 (fK (pv 1) (hm hr) aL)) av)) (bK _)))) bM)
   (aC (aZ (gJ (ck hu) (cb P w K mg base 10 (cN (pv 0) (hm hr) aL (ak aO av))) (aJ (bJ T.H_Qu (DW T)) (hm hr) aL (ak (pv 4) av)) (bK _)))))))),?_⟩
 exact(aE (bU (b9 (vn T) ah ar) bf)
   (aE (bG (bT (ai cj ah aA)) (aY (ai cj (b9 (uR T) ah (ao aN ar)) (bI (ao (bI (ao ah (ao ah ar))) ar)))) bO)
   (aE (bG (bT (ai cj ah aA)) (aY (ai cj (b9 (uR T) ah (ao aN ar)) (bI (ao (bI (ao ah (ao ah ar))) ar)))) bO)
   (aE (bG (bT (ai cj ah aA)) (aY (ai cj (b9 (uR T) ah (ao aN ar)) (bI (ao (b9 (KC T) ah ar) ar)))) bO)
   (aY (ai cj (b9 (uR T) ah (ao aN ar)) (bI (ao ah ar))))))))
theorem Ca:FnOk P w K mg base (CXE P w) 9 T.f_Xe T.fd_Xe ["board","word","number"] (bq (ct T) eG):=by
 refine aG (b:=dc) T.H_Xe.F vF λcdv A outer s H E hr=> ?_;have hu:=hr.units;refine⟨_,(aD (bH (b7 (ck hu) (pv 1) aO (bK _)) (aC (aZ (b8 P w K hu (dM (ak aO (ak aO av))) (aK fX (aK ub (cb P w K mg base 8 (cN (pv 0) (hm hr) aL (ak (pv 2) av))) (pv 2)) aB)))) bM)
   (aD (bH (b7 (ck hu) (pv 1) aO (bK _)) (aC (aZ (aK (c8 (K:=K) rfl) aO (iG (uF) (by rfl) T.b_str nG (ak (cb P w K mg base 7 (cN (pv 0) (hm hr) aL (ak (pv 2) av))) av))))) bM)
   (aD (bH (b7 (ck hu) (pv 1) aO (bK _)) (aC (jd (cb P w K mg base 3 (cN (pv 0) (hm hr) aL (ak (pv 2) av))))) (aC (bH (b7 (ck hu) (pv 1) aO (bK _)) (aC (jd (cb P w K mg base 2 (cN (pv 0) (hm hr) aL (ak (pv 2) av))))) (aC (jd (cb P w K mg base 2 (cN (pv 0) (hm hr) aL (ak (pv 2) av))))))))
   (aC (aZ aO))))),?_⟩
 exact(aE (bG (bT (ai cj ah aN)) (aY (aM (cf (dN (ao aN (ao aN ar)))) (ai fV (ai uW (b9 (Kc T) ah (ao ah ar)) ah) aA))) bO)
   (aE (bG (bT (ai cj ah aN)) (aY (ai dj aN (aR t9 (ao (b9 (Lg T) ah (ao ah ar)) ar)))) bO)
   (aE (bG (bT (ai cj ah aN)) (jy (b9 (HY T) ah (ao ah ar))) (bG (bT (ai cj ah aN)) (jy (b9 (Lm T) ah (ao ah ar))) (jy (b9 (KD T) ah (ao ah ar)))))
   (aY aN))))
theorem oy:FnOk P w K mg base (CXE P w) 1 T.f_Qp T.fd_Qp ["e"] (bq (ct T) jK):=by
 refine aG (b:=tN) T.H_Qp.F CN λcdv A outer s H E hr=> ?_;have hu:=hr.units;refine⟨_,(aD (bX (i:=1) CN.nd rfl (by trivial) (dM (ak (cG (h_ (K:=K) rfl) (by rfl) T.b_isinstance fL (ak (pv 0) (ak (eI T.k_Xu) av))) (ak (cG (h_ (K:=K) rfl) (by rfl) T.b_isinstance fL (ak (pv 0) (ak (eI T.k_Ya) av))) (ak (cG (h_ (K:=K) rfl) (by rfl) T.b_isinstance fL (ak (pv 0) (ak (eI T.k_Xz) av))) (ak (cG (h_ (K:=K) rfl) (by rfl) T.b_isinstance fL (ak (pv 0) (ak (eI T.k_Y8) av))) av))))))
   (aD (bX (i:=1) CN.nd rfl (by trivial) (aK (c8 (K:=K) rfl) (pv 1) (dM (ak (cG (h_ (K:=K) rfl) (by rfl) T.b_isinstance fL (ak (pv 0) (ak (eI T.k_Yj) av))) (ak (cG (h_ (K:=K) rfl) (by rfl) T.b_isinstance fL (ak (pv 0) (ak (eI T.k_Y9) av))) (ak (cG (h_ (K:=K) rfl) (by rfl) T.b_isinstance fL (ak (pv 0) (ak (eI T.k_Y0) av))) (ak (cG (h_ (K:=K) rfl) (by rfl) T.b_isinstance fL (ak (pv 0) (ak (eI T.k_Xi) av))) av)))))))
   (aD (bX (i:=1) CN.nd rfl (by trivial) (aK (c8 (K:=K) rfl) (pv 1) (dM (ak (cG (h_ (K:=K) rfl) (by rfl) T.b_isinstance fL (ak (pv 0) (ak (eI T.k_X3) av))) (ak (cG (h_ (K:=K) rfl) (by rfl) T.b_isinstance fL (ak (pv 0) (ak (eI T.k_Y1) av))) (ak (cG (h_ (K:=K) rfl) (by rfl) T.b_isinstance fL (ak (pv 0) (ak (eI T.k_Xv) av))) av))))))
   (aC (aZ (aK (c8 (K:=K) rfl) (pv 1) (dM (ak (cG (h_ (K:=K) rfl) (by rfl) T.b_isinstance fL (ak (pv 0) (ak (eI T.k_Yh) av))) (ak (cG (h_ (K:=K) rfl) (by rfl) T.b_isinstance fL (ak (pv 0) (ak (eI T.k_Xn) av))) (ak (cG (h_ (K:=K) rfl) (by rfl) T.b_isinstance fL (ak (pv 0) (ak (eI T.k_Yi) av))) (ak (cG (h_ (K:=K) rfl) (by rfl) T.b_isinstance fL (ak (pv 0) (ak (eI T.k_Yk) av))) av))))))))))),?_⟩
 exact(aE (bU (cf (dN (ao (aR (ia (ik T)) (ao ah (ao (eu λ_ _=>by simp only[RV];exact(congrArg V.ref (Bs T)).symm) ar))) (ao (aR (ia (ik T)) (ao ah (ao (eu λ_ _=>by simp only[RV];exact(congrArg V.ref (xC T)).symm) ar))) (ao (aR (ia (ik T)) (ao ah (ao (eu λ_ _=>by simp only[RV];exact(congrArg V.ref (Ap T)).symm) ar))) (ao (aR (ia (ik T)) (ao ah (ao (eu λ_ _=>by simp only[RV];exact(congrArg V.ref (uq T)).symm) ar))) ar)))))) bf)
   (aE (bU (ai dj ah (cf (dN (ao (aR (ia (ik T)) (ao ah (ao (eu λ_ _=>by simp only[RV];exact(congrArg V.ref (uj T)).symm) ar))) (ao (aR (ia (ik T)) (ao ah (ao (eu λ_ _=>by simp only[RV];exact(congrArg V.ref (wF T)).symm) ar))) (ao (aR (ia (ik T)) (ao ah (ao (eu λ_ _=>by simp only[RV];exact(congrArg V.ref (AV T)).symm) ar))) (ao (aR (ia (ik T)) (ao ah (ao (eu λ_ _=>by simp only[RV];exact(congrArg V.ref (Av T)).symm) ar))) ar))))))) bf)
   (aE (bU (ai dj ah (cf (dN (ao (aR (ia (ik T)) (ao ah (ao (eu λ_ _=>by simp only[RV];exact(congrArg V.ref (A_ T)).symm) ar))) (ao (aR (ia (ik T)) (ao ah (ao (eu λ_ _=>by simp only[RV];exact(congrArg V.ref (vm T)).symm) ar))) (ao (aR (ia (ik T)) (ao ah (ao (eu λ_ _=>by simp only[RV];exact(congrArg V.ref (yf T)).symm) ar))) ar)))))) bf)
   (aY (ai dj ah (cf (dN (ao (aR (ia (ik T)) (ao ah (ao (eu λ_ _=>by simp only[RV];exact(congrArg V.ref (ir T)).symm) ar))) (ao (aR (ia (ik T)) (ao ah (ao (eu λ_ _=>by simp only[RV];exact(congrArg V.ref (vP T)).symm) ar))) (ao (aR (ia (ik T)) (ao ah (ao (eu λ_ _=>by simp only[RV];exact(congrArg V.ref (qQ T)).symm) ar))) (ao (aR (ia (ik T)) (ao ah (ao (eu λ_ _=>by simp only[RV];exact(congrArg V.ref (wN T)).symm) ar))) ar)))))))))))
theorem Bo:FnOk P w K mg base (CXE P w) 10 T.f_Xt T.fd_Xt ["board","word","number"] (bq (ct T) jH):=by
 refine aG (b:=gE) T.H_Xt.F uB λcdv A outer s H E hr=> ?_;have hu:=hr.units;refine⟨_,(aD (bX (i:=3) uB.nd rfl (by trivial) kL)
   (aD (bX (i:=4) uB.nd rfl (by trivial) kL)
   (aD (HK rfl rfl (Kv (Im (i:=4) uB.nd rfl (by trivial) (Bi (bJ T.H_Xe (Ca T)) (hm hr) (ak (pv 0) (ak (pv 1) (ak (pv 2) av))))) KU) (Ke (K:=K) rfl (oi (i:=5) rfl uB.nd rfl rfl rfl T.x_Xm.mg_ T.w_Xm (λea=>(aC (bX (i:=3) uB.nd rfl (by trivial) (pv 5)))) ID)))
   (aD (bH (b7 (K9) (pv 3) kL (bK _)) (aC (aZ (aJ (bJ T.H_Qp (oy T)) (hm hr) aL (ak (pv 3) av)))) bM)
   (aC (aZ (pv 4))))))),?_⟩
 exact(aE (bU kW bf)
   (aE (bU kW bf)
   (aE (JF (IA (Je (i:=4) (Mc (ao ah (ao ah (ao ah ar)))))) (oS (i:=5) (Ka T) (bU ah bf) (λc=>Kw)))
   (aE (bG (bT (ai Jc ah kW)) (aY (bI (ao ah ar))) bO)
   (aY ah)))))
theorem vE:FnOk P w K mg base (CXE P w) 11 T.f_Xo T.fd_Xo ["desk","row"] (bq (ct T) jB):=by
 refine aG (b:=gC) T.H_Xo.F uQ λcdv A outer s H E hr=> ?_;have hu:=hr.units;refine⟨_,(aD (bX (i:=2) uQ.nd rfl (by trivial) kL)
   (aD (bX (i:=3) uQ.nd rfl (by trivial) kL)
   (aD (HK rfl rfl (Kv (Im (i:=3) uQ.nd rfl (by trivial) (Nt (P:=P) (w:=w) (K:=K) (mg:=mg) (base:=base) rfl rfl rfl rfl rfl (qW (k:=10) (pv 0) (hm hr) (ak (pv 1) av)))) KU) (Ke (K:=K) rfl (oi (i:=4) rfl uQ.nd rfl rfl rfl T.x_Xm.mg_ T.w_Xm (λea=>(aC (bX (i:=2) uQ.nd rfl (by trivial) (pv 4)))) ID)))
   (aD (bH (b7 (K9) (pv 2) kL (bK _)) (aC (aZ (aJ (bJ T.H_Qp (oy T)) (hm hr) aL (ak (pv 2) av)))) bM)
   (aC (aZ (pv 3))))))),?_⟩
 exact(aE (bU kW bf)
   (aE (bU kW bf)
   (aE (JF (IA (Je (i:=3) (MB (uR T) (λ_=>ah) (ao ah ar)))) (oS (i:=4) (Ka T) (bU ah bf) (λc=>Kw)))
   (aE (bG (bT (ai Jc ah kW)) (aY (bI (ao ah ar))) bO)
   (aY ah)))))
theorem yP:FnOk P w K mg base (CXE P w) 12 T.f_Xh T.fd_Xh ["desk","board","word","number"] (bq (ct T) lT):=by
 refine aG (b:=jR) T.H_Xh.F yM λcdv A outer s H E hr=> ?_;have hu:=hr.units;refine⟨_,(aD (bX (i:=4) yM.nd rfl (by trivial) (aK (c8 (K:=K) rfl) (aK (c8 (K:=K) rfl) (pv 2) aO) (iG (uF) (by rfl) T.b_str nG (ak (pv 3) av))))
   (aD (bH (b7 (ck hu) (pv 2) aO (bK _)) (aC (bX (i:=4) yM.nd rfl (by trivial) (pd (K:=K) rfl (rM PySem.F.plainAttrs_str PySem.F.slot_str_join PySem.F.type_str_join (DZ (K:=K) rfl) aO (ak (aK (c8 (K:=K) rfl) (dM (ak (pv 2) av)) (fe (CompOk.mk (tgs:=["bar"]) (cap:=["number"]) (idx:=[3]) rfl rfl (by decide+kernel) (by decide+kernel) (qy.mpr ⟨rfl,(qm _)⟩) rfl (.cons rfl (by trivial) (by trivial) rfl rfl .nil)) rfl (ox rfl T.b_range (ak aB av)) (eh (by decide)) (λ_ _ _ _=>(cP (i:=0) (show List.Nodup (α:=PySem.Str) ["bar","number"] by decide+kernel) rfl (by trivial))) (λ_ _ _ _=>(kI (b7 (ck hu) (aK fX (aK ub (pv 1) (pv 0)) aB) aB (bK _)))) (λ_ _ _ _=>(iG (uF) (by rfl) T.b_str nG (ak (pv 0) av))))) av))))) bM)
   (aD (bX (i:=5) yM.nd rfl (by trivial) (aJ (bJ T.H_Xt (Bo T)) (hm hr) aL (ak (pv 1) (ak (pv 2) (ak (pv 3) av)))))
   (aD (bX (i:=6) yM.nd rfl (by trivial) (aJ (bJ T.H_Xo (vE T)) (hm hr) aL (ak (pv 0) (ak (pv 4) av))))
   (aD (bH (dC (K:=K) rfl (cG (Ft (K:=K) rfl) (by rfl) T.b_isinstance fL (ak (pv 5) (ak (EV T.b_list CI) av))) (λ_=>rfl)) (aC (aZ (Gh (cG (Ft (K:=K) rfl) (by rfl) T.b_isinstance fL (ak (pv 6) (ak (EV T.b_list CI) av))) (Gh (gJ (ck hu) (pv 6) (pv 5) (bK _)) (Fb (gJ (ck hu) (cG (Er (K:=K) rfl rfl) (by rfl) T.b_sum CC (ak (fe (CompOk.mk (tgs:=["one"]) (cap:=[]) (idx:=[]) rfl rfl (by decide+kernel) (by decide+kernel) (qm _) rfl .nil) rfl (cx (K:=K) rfl (pv 5)) (eh (by decide)) (λ_ _ _ _=>(cP (i:=0) (show List.Nodup (α:=PySem.Str) ["one"] by decide+kernel) rfl (by trivial))) (λ_ _ _ _=>iu) (λ_ _ _ _=>(iG (F5) (by rfl) T.b_int Fd (ak (pv 0) av)))) av)) aB (bK _))))))) bM)
   (aC (aZ (Gh (cG (Ft (K:=K) rfl) (by rfl) T.b_isinstance fL (ak (pv 6) (ak (EV T.b_str nG) av))) (Fb (gJ (ck hu) (pv 6) (pv 5) (bK _))))))))))),?_⟩
 exact(aE (bU (ai dj (ai dj ah aN) (aR t9 (ao ah ar))) bf)
   (aE (bG (bT (ai cj ah aN)) (bU (kY D9 aN (ao (ai dj (cf (dN (ao ah ar))) (cf (dR (ot (ao aA ar)) bf (bT (ai cj (ai fV (ai uW ah ah) aA) aA)) (aR t9 (ao ah ar))))) ar)) bf) bO)
   (aE (bU (bI (ao ah (ao ah (ao ah ar)))) bf)
   (aE (bU (bI (ao ah (ao ah ar))) bf)
   (aE (bG (dA (aR FV (ao ah (ao qC ar)))) (aY (G3 (aR FV (ao ah (ao qC ar))) (G3 (ai cj ah ah) (ai cj (aR Ex (ao (cf (dR (cz ah) bf iv (aR Hi (ao ah ar)))) ar)) aA)))) bO)
   (aY (G3 (aR FV (ao ah (ao qC ar))) (ai cj ah ah))))))))
theorem wU:FnOk P w K mg base (CXE P w) 1 T.f_Qc T.fd_Qc ["self"] (bq (ct T) iO):=by
 refine aG (b:=jW) T.H_Qc.F yT λcdv A outer s H E hr=> ?_;have hu:=hr.units;refine⟨_,(aD (eW (K:=K) rfl (eM (pv 0) kL rfl))
   (aC (eW (K:=K) rfl (eM (pv 0) kL rfl)))),?_⟩
 exact(aE (e8 (fj T) ah kW)
   (e8 (kA T) ah kW))
theorem ok_law:FnOk P w K mg base (CXE P w) 13 T.f_law T.fd_law ["script"] (bq (ct T) FH):=by
 refine aG (b:=BI) T.H_law.F jb λcdv A outer s H E hr=> ?_;have hu:=hr.units;refine⟨_,(aD (bX (i:=1) jb.nd rfl (by trivial) (aJ (bJ T.H_Xg (yp T)) (hm hr) aL (ak (pv 0) av)))
   (aD (bX (i:=2) jb.nd rfl (by trivial) (qT (iY T.C_Yn T.mt_Qc T.H_Qc (wU T)) (hm hr) aL))
   (aD (bX (i:=3) jb.nd rfl (by trivial) (aK (c8 (K:=K) rfl) (dM (ak (aK (c8 (K:=K) rfl) aO (iG (Ip) (by rfl) T.b_str nG (ak (b8 P w K hu (pv 1) aB) av))) av)) (fe (CompOk.mk (tgs:=["switch"]) (cap:=[]) (idx:=[]) rfl rfl (by decide+kernel) (by decide+kernel) (qm _) rfl .nil) rfl (cx (K:=K) rfl (b8 P w K hu (pv 1) aB)) (eh (by decide)) (λ_ _ _ _=>(cP (i:=0) (show List.Nodup (α:=PySem.Str) ["switch"] by decide+kernel) rfl (by trivial))) (λ_ _ _ _=>iu) (λ_ _ _ _=>(pd (K:=K) rfl (rM PySem.F.plainAttrs_str PySem.F.slot_str_join PySem.F.type_str_join (DZ (K:=K) rfl) aO (ak (fe (CompOk.mk (tgs:=["part"]) (cap:=[]) (idx:=[]) rfl rfl (by decide+kernel) (by decide+kernel) (qm _) rfl .nil) rfl (cx (K:=K) rfl (pv 0)) (eh (by decide)) (λ_ _ _ _=>(cP (i:=0) (show List.Nodup (α:=PySem.Str) ["part"] by decide+kernel) rfl (by trivial))) (λ_ _ _ _=>iu) (λ_ _ _ _=>(iG (Ip) (by rfl) T.b_str nG (ak (pv 0) av)))) av)))))))
   (aD (bH (b7 (lZ hu) (fe (CompOk.mk (tgs:=["row"]) (cap:=["desk"]) (idx:=[2]) rfl rfl (by decide+kernel) (by decide+kernel) (qy.mpr ⟨rfl,(qm _)⟩) rfl (.cons rfl (by trivial) (by trivial) rfl rfl .nil)) rfl (cx (K:=K) rfl (pv 3)) (eh (by decide)) (λ_ _ _ _=>(cP (i:=0) (show List.Nodup (α:=PySem.Str) ["row","desk"] by decide+kernel) rfl (by trivial))) (λ_ _ _ _=>(kI (b7 (lZ hu) (cb P w K mg base 10 (cN (pv 1) (hm hr) kR (ak (pv 0) av))) aO (bK _)))) (λ_ _ _ _=>(pv 0))) (dM av) (bK _)) (aC (aZ lS)) bM)
   (aD (bX (i:=4) jb.nd rfl (by trivial) (kD (iY T.C_Yg T.mt_Qb T.H_Qb (nj T)) (hm hr) aL (ak (dX (ak (b8 P w K hu (pv 1) aB) (ak (iG (HJ (K:=K) rfl) (by rfl) T.b_list CI (ak (b8 P w K hu (pv 1) aB) av)) av))) av)))
   (aD (bX (i:=5) jb.nd rfl (by trivial) aB)
   (aD (mI eR rfl (cx (K:=K) rfl (kK (eV (K:=K) rfl) (pv 0) jh (gZ aB))) (cP (i:=6) jb.nd rfl (by trivial)) (aD (bX (i:=7) jb.nd rfl (by trivial) (aJ (bJ T.H_Qk (yn T)) (hm hr) aL (ak (aK hX (pv 6) aB) (ak (pv 1) av))))
   (aD (bH (PW.pt (C5 (b7 (nM) (pv 5) aB (bK _)) (C6 (b7 (ck hu) (aK dD (pv 6) aB) aB (bK _))))) (aD (bX (i:=5) jb.nd rfl (by trivial) (aK BQ (pv 5) aB))
   (aC (bX (i:=7) jb.nd rfl (by trivial) (aJ (bJ T.H_Qg (xI T)) (hm hr) aL (ak (aK hX (pv 6) aB) (ak (pv 1) (ak (cb P w K mg base 1 (fK (pv 4) (hm hr) aL)) av))))))) bM)
   (aD (mI eR rfl (cx (K:=K) rfl (pv 7)) (EH (K:=K) rfl (E6 (n:=2) rfl (uO (cP (i:=8) jb.nd rfl (by trivial)) (uO (cP (i:=9) jb.nd rfl (by trivial)) GD)))) (aC (bH (ip (dC (K:=K) rfl (aJ (bJ T.H_Xh (yP T)) (hm hr) aL (ak (pv 2) (ak (pv 4) (ak (pv 8) (ak (pv 9) av))))) (λ_=>rfl))) (aC (aZ lS)) bM)))
   (aC (bH (ip (dC (K:=K) rfl (aJ (bJ T.H_Xk (oJ T)) (hm hr) aL (ak (pv 2) (ak (pv 4) (ak (pv 1) (ak (aK dD (aK hX (pv 6) aB) aB) av))))) (λ_=>rfl))) (aC (aZ lS)) bM))))))
   (aC (aZ (gJ (ck hu) (fe (CompOk.mk (tgs:=["kind"]) (cap:=["desk","board","yard"]) (idx:=[2,4,1]) rfl rfl (by decide+kernel) (by decide+kernel) (qy.mpr ⟨rfl,(qy.mpr ⟨rfl,(qy.mpr ⟨rfl,(qm _)⟩)⟩)⟩) rfl (.cons rfl (by trivial) (by trivial) rfl rfl (.cons rfl (by trivial) (by trivial) rfl rfl (.cons rfl (by trivial) (by trivial) rfl rfl .nil)))) rfl (ox rfl T.b_range (ak aB av)) (eh (by decide)) (λ_ _ _ _=>(cP (i:=0) (show List.Nodup (α:=PySem.Str) ["kind","desk","board","yard"] by decide+kernel) rfl (by trivial))) (λ_ _ _ _=>(kI (ip (dC (K:=K) rfl (aJ (bJ T.H_Xk (oJ T)) (hm hr) kR (ak (pv 1) (ak (pv 2) (ak (pv 3) (ak (pv 0) av))))) (λ_=>rfl))))) (λ_ _ _ _=>(pv 0))) (dM av) (bK _))))))))))),?_⟩
 exact(aE (bU (bI (ao ah ar)) bf)
   (aE (bU (E5 (lA T) ar) bf)
   (aE (bU (ai dj (cf (dN (ao (ai dj aN (aR La (ao (aM ah aA) ar))) ar))) (cf (dR (cz (aM ah aA)) bf iv (kY D9 aN (ao (cf (dR (cz ah) bf iv (aR La (ao ah ar)))) ar))))) bf)
   (aE (bG (bT (ai l8 (cf (dR (cz ah) bf (bT (ai l8 (b9 (uR T) ah (ao ah ar)) aN)) ah)) (cf (dN ar)))) (aY fA) bO)
   (aE (bU (E5 (gH T) (ao (dW (ao (aM ah aA) (ao (cf (KO (ao (aM ah aA) ar))) ar))) ar)) bf)
   (aE (bU aA bf)
   (aE (nC (cz (fc ah j8 (ig aA))) bf (aE (bU (bI (ao (ai h9 ah aA) (ao ah ar))) bf)
   (aE (bG (Dt (bT (ai nH ah aA)) (bT (ai cj (ai dG ah aA) aA))) (aE (bU (ai Aw ah aA) bf)
   (bU (bI (ao (ai h9 ah aA) (ao ah (ao (b9 (vn T) ah ar) ar)))) bf)) bO)
   (aE (nC (cz ah) (EJ rfl (uL (uL Ga))) (bG (gR (dA (bI (ao ah (ao ah (ao ah (ao ah ar))))))) (aY fA) bO))
   (bG (gR (dA (bI (ao ah (ao ah (ao ah (ao (ai dG (ai h9 ah aA) aA) ar))))))) (aY fA) bO)))))
   (aY (ai cj (cf (dR (ot (ao aA ar)) bf (gR (dA (bI (ao ah (ao ah (ao ah (ao ah ar))))))) ah)) (cf (dN ar)))))))))))
end
end My
local macro_rules | `(tactic| k_head) => do
 let hw:=Lean.mkIdent `hw;let hc:=Lean.mkIdent `hc
 `(tactic| refine PySem.W.holds_open (q:=My.vw) (loose:=[(PySem.Str.ofString "NUMBERS_BEHIND")]) (Xt:=(λs=>PySem.W.xlAt My.vw [] s&&PySem.W.recOk (PySem.Challenge.rw_earthward_k38_the_board_by_rows).row.records s)) (XP:=PySem.W.XL My.vw []) (Yf:=PySem.W.Hook.obs (PySem.W.kHook My.pre.heap_39 My.wAl My.wHk)) (Ya:=PySem.W.Hook.val (PySem.W.kHook My.pre.heap_39 My.wAl My.wHk)) (YP:=PySem.W.Hook.says (PySem.W.kHook My.pre.heap_39 My.wAl My.wHk)) (N:=9524) My.left (PySem.W.Hook.of (PySem.W.kHook My.pre.heap_39 My.wAl My.wHk)) (PySem.W.Hook.keeps (PySem.W.kHook My.pre.heap_39 My.wAl My.wHk)) (λs e=>PySem.W.xl_of s (wz.mp e).1) PySem.W.XL.keeps (by rfl) (by rfl) (by rfl) (λs e=>PySem.W.recFacts_of (wz.mp e).2) (by rfl) (by first | assumption | decide+kernel) (by decide+kernel) ⟨rfl,rfl,rfl,rfl,rfl,by decide+kernel⟩ ?$hw ?$hc)
set_option maxRecDepth 100000 in
set_option maxHeartbeats 0 in
theorem PySem.Challenge.cw_earthward_k38_the_board_by_rows_holds : PySem.Challenge.rw_earthward_k38_the_board_by_rows.Holds := by
 w_on;o_law;k_head;(case hw=>w_witness2)
 k_fill
 refine L2.walk_ofE (l:=PySem.Challenge.rw_earthward_k38_the_board_by_rows) (n:=63) (k:=13) (x:="script") (CX:=λw=>L2.CXE (PySem.Challenge.rw_earthward_k38_the_board_by_rows).prog w) (sp:=L2.spL) rfl (by decide) rfl ⟨rfl,by decide,by decide⟩ (λw h Y=>PySem.W.kIn_of Y) ?F ?S ?C
 case F=>
  intro w mg fa h KX G hmg
  have T:Nonempty (My.Txt (PySem.Challenge.rw_earthward_k38_the_board_by_rows).prog w (L2.KOf KX) mg):=by
   dsimp only[L2.KOf]
   open L2 in refine' ⟨⟨_,clm KX G ?_ ?_ ?_ ?_ ?_ ?_ ?_,_,_,⟨?_,?_,?_⟩,fnm ?_ ?_ ?_,_,_,⟨?_,?_,?_⟩,fnm ?_ ?_ ?_,_,_,⟨?_,?_,?_⟩,fnm ?_ ?_ ?_,_,_,⟨?_,?_,?_⟩,fnm ?_ ?_ ?_,_,clm KX G ?_ ?_ ?_ ?_ ?_ ?_ ?_,_,_,⟨?_,?_,?_⟩,fnm ?_ ?_ ?_,_,_,⟨?_,?_,?_⟩,fnm ?_ ?_ ?_,⟨?_,?_,?_⟩,⟨?_,?_,?_⟩,⟨?_,?_,?_⟩,naOf ?_,_,clm KX G ?_ ?_ ?_ ?_ ?_ ?_ ?_,_,_,⟨?_,?_,?_⟩,fnm ?_ ?_ ?_,_,_,⟨?_,?_,?_⟩,fnm ?_ ?_ ?_,⟨?_,?_,?_⟩,⟨?_,?_,?_⟩,⟨?_,?_,?_⟩,naOf ?_,_,clm KX G ?_ ?_ ?_ ?_ ?_ ?_ ?_,_,_,⟨?_,?_,?_⟩,fnm ?_ ?_ ?_,_,_,⟨?_,?_,?_⟩,fnm ?_ ?_ ?_,⟨?_,?_,?_⟩,⟨?_,?_,?_⟩,⟨?_,?_,?_⟩,naOf ?_,naOf ?_,_,clm KX G ?_ ?_ ?_ ?_ ?_ ?_ ?_,_,_,⟨?_,?_,?_⟩,fnm ?_ ?_ ?_,_,_,⟨?_,?_,?_⟩,fnm ?_ ?_ ?_,_,_,⟨?_,?_,?_⟩,fnm ?_ ?_ ?_,⟨?_,?_,?_⟩,⟨?_,?_,?_⟩,naOf ?_,naOf ?_,_,clm KX G ?_ ?_ ?_ ?_ ?_ ?_ ?_,_,_,⟨?_,?_,?_⟩,fnm ?_ ?_ ?_,_,_,⟨?_,?_,?_⟩,fnm ?_ ?_ ?_,_,_,⟨?_,?_,?_⟩,fnm ?_ ?_ ?_,_,_,⟨?_,?_,?_⟩,fnm ?_ ?_ ?_,_,_,⟨?_,?_,?_⟩,fnm ?_ ?_ ?_,_,_,⟨?_,?_,?_⟩,fnm ?_ ?_ ?_,_,_,⟨?_,?_,?_⟩,fnm ?_ ?_ ?_,naOf ?_,_,clm KX G ?_ ?_ ?_ ?_ ?_ ?_ ?_,naOf ?_,naOf ?_,naOf ?_,naOf ?_,naOf ?_,naOf ?_,naOf ?_,_,clm KX G ?_ ?_ ?_ ?_ ?_ ?_ ?_,_,_,⟨?_,?_,?_⟩,fnm ?_ ?_ ?_,_,_,⟨?_,?_,?_⟩,fnm ?_ ?_ ?_,_,_,⟨?_,?_,?_⟩,fnm ?_ ?_ ?_,_,_,⟨?_,?_,?_⟩,fnm ?_ ?_ ?_,_,_,⟨?_,?_,?_⟩,fnm ?_ ?_ ?_,_,_,⟨?_,?_,?_⟩,fnm ?_ ?_ ?_,_,_,⟨?_,?_,?_⟩,fnm ?_ ?_ ?_,_,_,⟨?_,?_,?_⟩,fnm ?_ ?_ ?_,_,_,⟨?_,?_,?_⟩,fnm ?_ ?_ ?_,naOf ?_,naOf ?_,naOf ?_,naOf ?_,naOf ?_,naOf ?_,_,clm KX G ?_ ?_ ?_ ?_ ?_ ?_ ?_,_,_,⟨?_,?_,?_⟩,fnm ?_ ?_ ?_,_,_,⟨?_,?_,?_⟩,fnm ?_ ?_ ?_,_,_,⟨?_,?_,?_⟩,fnm ?_ ?_ ?_,_,_,⟨?_,?_,?_⟩,fnm ?_ ?_ ?_,_,_,⟨?_,?_,?_⟩,fnm ?_ ?_ ?_,_,_,⟨?_,?_,?_⟩,fnm ?_ ?_ ?_,_,_,⟨?_,?_,?_⟩,fnm ?_ ?_ ?_,naOf ?_,naOf ?_,_,?_,?_,PySem.W.mg_of KX G ?_,_,?_,?_,PySem.W.mg_of KX G ?_,_,?_,?_,PySem.W.mg_of KX G ?_,_,?_,?_,PySem.W.mg_of KX G ?_,_,?_,?_,PySem.W.mg_of KX G ?_,_,?_,?_,PySem.W.mg_of KX G ?_,_,?_,?_,PySem.W.mg_of KX G ?_,_,?_,?_,PySem.W.mg_of KX G ?_,_,?_,?_,PySem.W.mg_of KX G ?_,_,?_,?_,PySem.W.mg_of KX G ?_,_,?_,?_,PySem.W.mg_of KX G ?_,_,?_,?_,PySem.W.mg_of KX G ?_,_,?_,?_,PySem.W.mg_of KX G ?_,_,?_,?_,PySem.W.mg_of KX G ?_,_,?_,?_,PySem.W.mg_of KX G ?_,_,?_,?_,PySem.W.mg_of KX G ?_,_,rfl,_,_,fnt KX G ?_ (fnm ?_ ?_ ?_),_,_,fnt KX G ?_ (fnm ?_ ?_ ?_),_,_,fnt KX G ?_ (fnm ?_ ?_ ?_),_,_,fnt KX G ?_ (fnm ?_ ?_ ?_),_,_,fnt KX G ?_ (fnm ?_ ?_ ?_),_,_,fnt KX G ?_ (fnm ?_ ?_ ?_),_,_,fnt KX G ?_ (fnm ?_ ?_ ?_),_,_,fnt KX G ?_ (fnm ?_ ?_ ?_),_,_,fnt KX G ?_ (fnm ?_ ?_ ?_),_,_,fnt KX G ?_ (fnm ?_ ?_ ?_),_,_,fnt KX G ?_ (fnm ?_ ?_ ?_),_,_,fnt KX G ?_ (fnm ?_ ?_ ?_),_,_,fnt KX G ?_ (fnm ?_ ?_ ?_),_,_,fnt KX G ?_ (fnm ?_ ?_ ?_),_,_,fnt KX G ?_ (fnm ?_ ?_ ?_),_,_,fnt KX G ?_ (fnm ?_ ?_ ?_),_,_,fnt KX G ?_ (fnm ?_ ?_ ?_),_,_,fnt KX G ?_ (fnm ?_ ?_ ?_),_,_,fnt KX G ?_ (fnm ?_ ?_ ?_),_,_,fnt KX G ?_ (fnm ?_ ?_ ?_),_,_,fnt KX G ?_ (fnm ?_ ?_ ?_),_,_,fnt KX G ?_ (fnm ?_ ?_ ?_),_,_,fnt KX G ?_ (fnm ?_ ?_ ?_),_,_,fnt KX G ?_ (fnm ?_ ?_ ?_),_,_,fnt KX G ?_ (fnm ?_ ?_ ?_),_,_,fnt KX G ?_ (fnm ?_ ?_ ?_),_,_,fnt KX G ?_ (fnm ?_ ?_ ?_),_,_,fnt KX G ?_ (fnm ?_ ?_ ?_),_,_,fnt KX G ?_ (fnm ?_ ?_ ?_),_,_,fnt KX G ?_ (fnm ?_ ?_ ?_),_,_,fnt KX G ?_ (fnm ?_ ?_ ?_),_,_,fnt KX G ?_ (fnm ?_ ?_ ?_),_,_,fnt KX G ?_ (fnm ?_ ?_ ?_),_,_,fnt KX G ?_ (fnm ?_ ?_ ?_),_,_,fnt KX G ?_ (fnm ?_ ?_ ?_),_,_,fnt KX G ?_ (fnm ?_ ?_ ?_),_,_,fnt KX G ?_ (fnm ?_ ?_ ?_),_,_,fnt KX G ?_ (fnm ?_ ?_ ?_),PySem.W.mg_none_of KX G ?_,PySem.W.mg_none_of KX G ?_,PySem.W.mg_none_of KX G ?_,PySem.W.mg_none_of KX G ?_,PySem.W.mg_none_of KX G ?_,PySem.W.mg_none_of KX G ?_,PySem.W.mg_none_of KX G ?_,PySem.W.mg_none_of KX G ?_,PySem.W.mg_none_of KX G ?_,PySem.W.mg_none_of KX G ?_,PySem.W.mg_none_of KX G ?_,PySem.W.mg_none_of KX G ?_,PySem.W.mg_none_of KX G ?_,PySem.W.mg_none_of KX G ?_,PySem.W.mg_none_of KX G ?_,PySem.W.mg_none_of KX G ?_,PySem.W.mg_none_of KX G ?_,_,⟨_,PySem.W.mg_of KX G ?_,rfl⟩,⟨_,PySem.W.mg_of KX G ?_,_,rfl⟩,⟨_,PySem.W.mg_of KX G ?_,_,rfl⟩,⟨_,PySem.W.mg_of KX G ?_,_,rfl⟩,⟨_,PySem.W.mg_of KX G ?_,_,rfl⟩,⟨?_,?_,?_⟩,?_,?_,?_,?_,?_,?_,?_,?_,?_,?_,?_,?_,?_,?_,?_,⟨?_,?_,?_,?_,?_,?_⟩,?_,⟨?_,?_,?_,?_,?_,?_⟩,?_,⟨?_,?_,?_,?_,?_,?_⟩,?_,⟨?_,?_,?_,?_,?_,?_⟩,?_,⟨?_,?_,?_,?_,?_,?_⟩,?_,⟨?_,?_,?_,?_,?_,?_⟩,?_,⟨?_,?_,?_,?_,?_,?_⟩,?_,⟨?_,?_,?_,?_,?_,?_⟩,?_,⟨?_,?_,?_,?_,?_,?_⟩,?_,⟨?_,?_,?_,?_,?_,?_⟩,?_,⟨?_,?_,?_,?_,?_,?_⟩,?_,⟨?_,?_,?_,?_,?_,?_⟩,?_,⟨?_,?_,?_,?_,?_,?_⟩,?_,⟨?_,?_,?_,?_,?_,?_⟩,?_,⟨?_,?_,?_,?_,?_,?_⟩,?_,kdict_of ?_ ?_ ?_ ?_ (by decide+kernel),?_⟩⟩
   all_goals try first|(k_is;done)|(k_exc;done)|((dsimp only[L2.IoL];repeat' first|exact True.intro|refine And.intro ?_ ?_|kit_is);done)|(rfl;done)|(k_keys;done)|((repeat (first|exact True.intro|refine And.intro ⟨_,_,rfl,rfl⟩ (And.intro ⟨_,rfl⟩ ?_)));done)|(intro s u;exact .of_eq rfl;done)
  obtain⟨T⟩:=T
  have e0:=hmg.symm.trans T.H_law.m
  cases e0
  exact⟨_,T.Bl,λbase kb nb=>L2.law_ok (C:=My.ct T) (My.ok_law T) My.law_true⟩
 case S=>exact L2.spL_of
 case C=>exact λ_ _ _ _ _ z=>L2.cxe_out z
#print axioms PySem.Challenge.cw_earthward_k38_the_board_by_rows_holds
