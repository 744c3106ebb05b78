import PyProof.Rows.All
import Wide.All
import OpenK.AllK
import Wide.FinOn
import Lean
import PyProof.EqAt
import PyProof.EqKinds
import PyProof.TupleCall
import PyProof.StrBlockL
import PyProof.Lay0
import KE.IntText
import PyProof.SliceList
import PyProof.StrLawsReplace
import PyProof.StrLawsIn
import KE.IntTextLaws
import KE.KIntText
import KE.KPairComp
import PyProof.Rows.StrMul
import PyProof.Rows.BitMore
import PyProof.ZipIter
import PySem.Challenge.RW_earthward_k39_rows_refused
set_option Elab.async false
set_option linter.all false
set_option bootstrap.genMatcherCode false
set_option genSizeOf false
set_option compiler.extract_closed false
set_option maxRecDepth 100000
def PySem.W.Fast.tw5448739974255243366:=0
noncomputable section
set_option genSizeOf false
set_option maxHeartbeats 4000000
section
local macro_rules | `(tactic| o_head $H) => `(tactic| exact False.elim (by assumption))
set_option maxHeartbeats 0 in
theorem My.pre(hF:False):PySem.Challenge.rw_earthward_k39_rows_refused.Holds:=by
 w_on;o_law;k_head
end
abbrev qb:=@List.getElem?_eq_some_iff
abbrev qd:=@List.length_map
abbrev qe:=@PySem.Heap.get?_push_of_some
abbrev qf:=@Nat.lt_of_lt_of_le
abbrev qg:=@List.mem_cons_of_mem
abbrev qh:=@PySem.Heap.lt_size
abbrev qi:=@Nat.le_refl
abbrev qj:=@List.mem_cons_self
abbrev qk:=@Option.map_eq_some_iff
abbrev ql:=@Bool.false_ne_true
abbrev qm:=@List.getElem?_set_ne
abbrev qo:=@List.size_toArray
abbrev qq:=@List.getElem?_set_self
abbrev qr:=@List.mem_cons
abbrev qt:=@List.mem_of_getElem?
abbrev qu:=@Bool.and_eq_true
abbrev qv:=@Nat.ne_of_lt
abbrev qw:=@PySem.Heap.get?_push_size
abbrev qx:=@List.forall_mem_nil
abbrev qy:=@List.mem_map
abbrev qz:=@Nat.zero_le
abbrev z4:=@Option.bind_eq_some_iff
abbrev z5:=@List.getElem?_map
abbrev z6:=@List.getElem?_eq_getElem
abbrev z7:=@List.length_cons
abbrev z8:=@List.getElem?_append_left
abbrev z9:=@Nat.le_trans
abbrev za:=@List.mem_append_right
abbrev zb:=@List.mem_append
abbrev zd:=@List.length_append
abbrev ze:=@List.getElem?_append_right
abbrev zf:=@List.mem_singleton
abbrev zg:=@List.forall_mem_cons
abbrev zh:=@List.take_of_length_le
abbrev zi:=@List.not_mem_nil
abbrev zj:=@Nat.lt_succ_of_lt
abbrev zk:=@List.map_nil
abbrev zm:=@List.find?_cons
abbrev zn:=@Bool.false_eq_true
abbrev zo:=@Nat.lt_of_le_of_lt
abbrev zp:=@Nat.lt_succ_self
abbrev zq:=@List.replicate_succ
abbrev zr:=@List.append_nil
abbrev zt:=@List.length_set
abbrev zu:=@List.drop_eq_getElem_cons
abbrev zv:=@Int.emod_lt_of_pos
abbrev zw:=@Nat.lt_irrefl
abbrev zx:=@Option.isSome_iff_exists
abbrev zy:=@List.getElem?_replicate
abbrev zz:=@List.getElem?_cons_zero
abbrev w4:=@Int.emod_nonneg
abbrev w5:=@Nat.log2_le_self
abbrev w6:=@List.mem_range
abbrev w9:=@List.flatten_cons
abbrev wa:=@Nat.eq_of_testBit_eq
abbrev wb:=@List.all_cons
abbrev wc:=@List.filterMap_cons
abbrev wd:=@List.filter_cons
abbrev we:=@List.getElem_mem
abbrev wf:=@Nat.testBit_or
abbrev wg:=@List.getElem?_cons_succ
abbrev wj:=@Bool.eq_iff_iff
abbrev wk:=@Nat.testBit_and
abbrev wl:=@List.any_cons
abbrev wm:=@List.getElem?_eq_none
abbrev wo:=@List.mem_append_left
abbrev wp:=@Bool.and_eq_true_iff
abbrev wq:=@Nat.ne_of_gt
abbrev wr:=@Nat.le_of_eq
abbrev wt:=@List.length_take
abbrev wu:=@Option.isNone_iff_eq_none
abbrev wv:=@List.map_congr_left
abbrev ww:=@List.getElem?_take_of_lt
abbrev wx:=@List.sum_cons
abbrev wy:=@List.mem_filter
abbrev wz:=@Option.map_some
abbrev ka:=@Nat.testBit_xor
abbrev ke:=@List.length_nil
abbrev kg:=@PySem.Heap.size_push
abbrev kh:=@List.length_replicate
abbrev ki:=@List.lookup_cons
abbrev kj:=@Nat.le_add_right
abbrev km:=@Bool.and_true
abbrev ko:=@List.mem_of_mem_take
abbrev kq:=@List.eq_nil_of_length_eq_zero
abbrev kt:=@List.pairwise_append
abbrev ku:=@List.nodup_cons
abbrev ky:=@Array.length_toList
abbrev kz:=@List.getElem_of_mem
abbrev g6:=@Int.toNat_of_nonneg
abbrev g7:=@List.map_eq_nil_iff
abbrev g8:=@List.mem_filterMap
abbrev gc:=@Nat.le_succ
abbrev gf:=@Bool.not_eq_true'
abbrev gg:=@Bool.true_and
abbrev gi:=@List.length_drop
abbrev gj:=@List.cons_append
abbrev gk:=@Nat.le_of_lt
abbrev gm:=@List.of_mem_zip
abbrev gn:=@List.all_append
abbrev gp:=@Nat.log2_lt
namespace My
section
open PySem PySem.W
theorem left_split{Xt:Shared->Bool}{α:Type}{Yf:Shared->α}{Ya:World->α}{N:Nat}(row:String)(e:opening p=plainProg p.main.scope.names)(hN:Nat.ble 600 N=true)(f:∀s,fenceModules? p s=some s)
  (h1:∀(w:World) (os:OsState),(topFrom treeTable p (w.withFollow row false) N ⟨boot_heap (w.withFollow row false).params,Array.mk [],boot_drawn,boot_toks,os⟩).map (λs=>(openSeen q loose (importedModules p.main.body) Xt g0 s,Yf s))=some (openGood q loose,Ya (w.withFollow row false)))
  (h2:∀(w:World) (os:OsState),(topFrom treeTable p (w.withFollow row true) N ⟨boot_heap (w.withFollow row true).params,Array.mk [],boot_drawn,boot_toks,os⟩).map (λs=>(openSeen q loose (importedModules p.main.body) Xt g0 s,Yf s))=some (openGood q loose,Ya (w.withFollow row true))):LeftO p q loose Xt Yf Ya N g0:=by
 refine LeftO.of_split row λw=> ?_;obtain⟨⟨hh,gs,d,k,os⟩,e1,e2⟩:=qk.mp (boot_open e hN f w);simp only[Prod.mk.injEq]at e2;obtain⟨rfl,rfl,rfl,rfl⟩:=e2;rw[e1];exact congrArg some (Prod.ext (h1 w os) (h2 w os))
abbrev RunA{β:Type}(p:Program)(w:World)(m₀:Nat)(ann:Option Value)(env:Env)(qp pb pf:Pos)(n3 n4:Nat)(Sb:SharedT)(l:List Stmt)(F:Shared->β)(v:β):Prop:=
  (segRunT treeTable p w m₀ ann 1 n3 Sb (piecesOf l env (.body (behindTheImports p) env) pb [topFrame qp])).bind (λr=>(topRun treeTable p w m₀ ann n4 r.2.1.abs ⟨doneF .next,.body (behindTheImports p) env,pf,[topFrame qp]⟩).bind λs₁=>some ((r.1,r.2.2.1,r.2.2.2),F s₁))=some ((.next,.body (behindTheImports p) env,pf),v)
noncomputable abbrev chkA(p:Program)(w:World){α:Type}(Yf:Shared->α)(s₁:Shared):Bool×α:=(staticsOk (importedModules p.main.body) (boot_heap w.params) s₁.heap&&namesBound p s₁.heap&&gensDone s₁&&laidKept (boot_heap w.params) s₁.heap,Yf s₁)
def Ends(p q:Program)(loose:List Str)(Xt:Shared->Bool){α:Type}(Yf:Shared->α)(Ya:World->α)(g0:Bool)(w:World)(m₀:Nat)(ann:Option Value)(env:Env)(qp pb:Pos)(n:Nat)(Sb:SharedT)(l:List Stmt):Prop:=
  ∃s₁,topRun treeTable p w m₀ ann n Sb.abs (restOf l env (.body (behindTheImports p) env) pb [topFrame qp])=some s₁/\(staticsOk (importedModules p.main.body) (boot_heap w.params) s₁.heap&&namesBound p s₁.heap&&gensDone s₁&&laidKept (boot_heap w.params) s₁.heap)=true/\openSeen q loose (importedModules p.main.body) Xt g0 s₁=openGood q loose/\Yf s₁=Ya w
section
variable {p q : Program} {loose : List Str} {Xt : Shared -> Bool} {α : Type} {Yf : Shared -> α} {Ya : World -> α} {g0 : Bool} {w : World} {m₀ : Nat} {ann : Option Value} {env : Env} {qp pb : Pos} {Sb : SharedT} {l : List Stmt}
theorem ends_two(r1:RunA p w m₀ ann env qp pb pf n3 n4 Sb l (chkA p w Yf) (true,Ya w))(r2:RunA p w m₀ ann env qp pb pf n3 n4 Sb l (λs=>(openSeen q loose (importedModules p.main.body) Xt g0 s).1) (openGood q loose).1)(r5:RunA p w m₀ ann env qp pb pf n3 n4 Sb l (λs=>(openSeen q loose (importedModules p.main.body) Xt g0 s).2.1) (openGood q loose).2.1)(r4:RunA p w m₀ ann env qp pb pf n3 n4 Sb l (λs=>(openSeen q loose (importedModules p.main.body) Xt g0 s).2.2.1) (openGood q loose).2.2.1)(r3:RunA p w m₀ ann env qp pb pf n3 n4 Sb l (λs=>(openSeen q loose (importedModules p.main.body) Xt g0 s).2.2.2) (openGood q loose).2.2.2):Ends p q loose Xt Yf Ya g0 w m₀ ann env qp pb (n3+n4) Sb l:=by
 obtain⟨⟨f,s2,c2,p2⟩,hr,h⟩:=z4.mp r1;obtain⟨s₁,hs,h⟩:=z4.mp h;simp only[Option.some.injEq,Prod.mk.injEq]at h;obtain⟨⟨rfl,rfl,rfl⟩,l1,l3⟩:=h;obtain⟨r',hr',h'⟩:=z4.mp r2;rw[hr]at hr';cases hr';obtain⟨s₂,hs',h'⟩:=z4.mp h';rw[hs]at hs';cases hs';obtain⟨r',hr',h3⟩:=z4.mp r3;rw[hr]at hr';cases hr';obtain⟨s₂,hs',h3⟩:=z4.mp h3;rw[hs]at hs';cases hs';obtain⟨r',hr',h4⟩:=z4.mp r4;rw[hr]at hr';cases hr';obtain⟨s₂,hs',h4⟩:=z4.mp h4;rw[hs]at hs';cases hs';obtain⟨r',hr',h5⟩:=z4.mp r5;rw[hr]at hr';cases hr';obtain⟨s₂,hs',h5⟩:=z4.mp h5;rw[hs]at hs';cases hs';simp only[Option.some.injEq,Prod.mk.injEq]at h' h3 h4 h5;have k3:=piece_app (rest:=[]) (segRun_of hr) (piece_nil hs);rw[zr]at k3;exact⟨s₁,k3,l1,Prod.ext h'.2 (Prod.ext h5.2 (Prod.ext h4.2 h3.2)),l3⟩
theorem ends_cut(run:segRunT treeTable p w m₀ ann 1 na Sb (piecesOf (l.take j) env (.body (behindTheImports p) env) pb [topFrame qp])=some (.next,Sm,.body (behindTheImports p) env,pm))(h:Ends p q loose Xt Yf Ya g0 w m₀ ann env qp pm n Sm (l.drop j)):Ends p q loose Xt Yf Ya g0 w m₀ ann env qp pb (na+n) Sb l:=by
 obtain⟨s₁,k,r⟩:=h;have:=piece_app (segRun_of run) k;rw[List.take_append_drop]at this;exact⟨s₁,this,r⟩
end
theorem top_tree{Xt:Shared->Bool}{α:Type}{Yf:Shared->α}{Ya:World->α}{N:Nat}{os:OsState}
  (size:((boot_heap w.params).isNs mainGlobals&&(Array.mk []:Array GenState).size==0,(boot_heap w.params).objs.size,(boot_heap w.params).nsMap mainGlobals "__annotations__")=(true,m₀,ann))
  (pre:topGo treeTable p w m₀ ann n1 ⟨boot_heap w.params,Array.mk [],boot_drawn,boot_toks,os⟩ (topStub p)=some (Sa,⟨denote treeTable (.body (behindTheImports p) env),.body (behindTheImports p) env,pp,[topFrame qp]⟩))
  (block:segRun treeTable p w m₀ ann 1 n2 Sa (blockOf (behindTheImports p) env (.body (behindTheImports p) env) pp [topFrame qp])=some (.next,Sb.abs,.body (behindTheImports p) env,pb))
  (run:Ends p q loose Xt Yf Ya g0 w m₀ ann env qp pb n3 Sb (behindTheImports p))
  (le:Nat.ble (n1+(n2+n3)) N=true):
  (topFrom treeTable p w N ⟨boot_heap w.params,Array.mk [],boot_drawn,boot_toks,os⟩).map (λs=>(openSeen q loose (importedModules p.main.body) Xt g0 s,Yf s))=some (openGood q loose,Ya w):=by
 obtain⟨s₁,k3,l1,l2,l3⟩:=run;have k1:=go_top pre (piece_block block k3);have r:=topRun_mono (N - (n1+(n2+n3))) _ _ _ _ k1;rw[show n1+(n2+n3)+(N - (n1+(n2+n3)))=N by have:=Nat.le_of_ble_eq_true le;omega]at r;obtain⟨z1,z2,z3⟩:_/\_/\_:=by simpa only[Prod.mk.injEq]using size
 have t:topFrom treeTable p w N ⟨boot_heap w.params,Array.mk [],boot_drawn,boot_toks,os⟩=some s₁:=by
  unfold topFrom;dsimp only;rw[z1,z2,z3,r];show(match staticsOk (importedModules p.main.body) (boot_heap w.params) s₁.heap&&namesBound p s₁.heap&&gensDone s₁&&laidKept (boot_heap w.params) s₁.heap with|true=>_|false=>_)=_;rw[l1]
 rw[t];exact congrArg some (Prod.ext l2 l3)
end
noncomputable def o0:=PySem.W.boot_o_0
noncomputable def o1:=PySem.W.boot_o_1
noncomputable def o2:=PySem.W.boot_o_2
noncomputable def o3:=PySem.W.boot_o_3
noncomputable def o4:=PySem.W.boot_o_4
noncomputable def o5:=PySem.W.boot_o_5
noncomputable def o6:=PySem.W.boot_o_6
noncomputable def o7:=PySem.W.boot_o_7
noncomputable def o8:=PySem.W.boot_o_8
noncomputable def o9:=PySem.W.boot_o_9
noncomputable def o10:=PySem.W.boot_o_10
noncomputable def o11(_:PySem.Params):PySem.Obj:=.mk (.type "tuple") none (.seq #[]) #[]
noncomputable def o12(_:PySem.Params):PySem.Obj:=.mk .none none (.fields #[]) #[]
noncomputable def o13(_:PySem.Params):PySem.Obj:=.mk (.type "code") none (.fields #[.str (PySem.Str.ofString "<module>") 182,.str (PySem.Str.ofString "<module>") 183,.str (PySem.Str.ofString "/claim/cut.py") 184,.int 1 0,.int 0 0,.int 0 0,.int 0 0,.int 0 0,.ref 11,.bool false,.int 181 0,.ref 12,.none,.none,.none,.none,.int 185 0,.int 1 0,.str (PySem.Str.ofString "/claim/cut.py") 186]) #[]
noncomputable def o14(_:PySem.Params):PySem.Obj:=.mk (.type "frame") none .plain #[some (.ref 13),some (.ref 3),some (.ref 3),none,some (.str (PySem.Str.ofString "__main__") 164),none,some (.ref 0)]
noncomputable def Sa(w:PySem.World)(os:PySem.OsState):PySem.Shared:=let P:=w.params;⟨⟨⟨[o0 P,o1 P,o2 P,o3 P,o4 P,o5 P,o6 P,o7 P,o8 P,o9 P,o10 P,o11 P,o12 P,o13 P,o14 P]⟩,{}⟩,Array.mk [],{},187,os⟩
noncomputable def bt(P:PySem.Params):PySem.W.BT:=(.node (o0 P) (.node (o1 P) (.node (o3 P) (.node (o7 P) .nil .nil) (.node (o11 P) .nil .nil)) (.node (o5 P) (.node (o9 P) .nil .nil) (.node (o13 P) .nil .nil))) (.node (o2 P) (.node (o4 P) (.node (o8 P) .nil .nil) (.node (o12 P) .nil .nil)) (.node (o6 P) (.node (o10 P) .nil .nil) (.node (o14 P) .nil .nil))))
noncomputable def Sb(w:PySem.World)(os:PySem.OsState):PySem.W.SharedT:=⟨bt w.params,15,{},Array.mk [],{},187,os⟩
noncomputable def tenv:PySem.Env:={scope:=PySem.Challenge.pw_earthward_k39_rows_refused.main.scope,locals:=PySem.mainNs,globals:=PySem.mainNs,cells:=[],code:=.ref 13,frame:=some 14}
noncomputable def vw:PySem.Program:={PySem.Challenge.pw_earthward_k39_rows_refused with main:={PySem.Challenge.pw_earthward_k39_rows_refused.main with body:=[0,2,3,4,5,6,7,8,9,10,11,12,13,14,15,16,17,19,20,21,22,23,24,26,27,28,29,30,31,32,33,34,36,37,38,39,40,42,43,44,45,46,48,49,51,52,53,54,55,57,58,59,60,61,62,63,64,65,66,67,68,70,71,72,73,74,76,77,78,79,80,81,82,83,84,85,86].filterMap λi=>PySem.Challenge.pw_earthward_k39_rows_refused.main.body[i]?}}
end My
set_option maxRecDepth 100000
set_option maxHeartbeats 0
namespace My
noncomputable abbrev wAl:List PySem.Addr:=[2,3,15,17,18,20,21,22,29,30,31,32,35,42,43,44,47,54,55,56,59,66,67,68,71,78,79,80,83,90,91,92,95,102,103,104,107,114,115,116,119,126,127,128,131,138,139,140,143,150,151,152,155,162,163,164,167,174,175,176,179,186,187,188,191,198,199,200,203,210,211,212,222,224,225,227,228,229,231,232,234,235,236,238,239,241,242,243,245,246,248,249,250,251,252,253,254,257,264,266,267,269,270,271,273,274,276,277,278,279,280,283,290,292,293,295,296,297,299,300,302,303,304,305,306,309,316,318,319,321,322,323,325,326,328,329,330,331,332,335,342,344,345,347,348,349,351,352,354,355,356,358,359,361,362,363,364,365,368,370,371,373,374,375,377,378,380,381,389,392,393,394,397,398,399,402,403,404,406,407,409,410,411,413,414,416,417,418,420,421,423,424,425,427,428,430,431,432,433,434,435,436,439,441,442,444,445,446,448,449,451,452,453,455,456,458,459,460,463,464,465,467,468,470,471,472,474,475,477,478,479,481,482,484,485,486,488,489,491,492,493,495,496,498,499,500,502,503,505,506,507,509,510,512,513,514,516,517,519,520,521,523,524,526,527,528,530,531,533,534,535,537,538,540,541,549,551,552,554,555,556,558,559,561,562,563,565,566,568,569,570,572,573,575,576,577,579,580,582,583,584,586,587,589,590,591,593,594,596,597,598,601,602,603,605,606,608,609,610,612,613,615,616,617,619,620,622,623,624,625,626,627,628,631,634,635,636,639,640,648,650,651,653,654,655,657,658,660,661,662,664,665,667,668,669,671,672,674,675,676,678,679,681,682,683,685,686,688,689,690,692,693,695,696,697,699,700,702,703,704,706,707,709,710,711,713,714,716,717,718,719,720,721,722,725,728,729,730,732,733,735,736,737,739,740,742,743,744,746,747,749,750,751,753,754,756,757,758,759,762,763,764,767,768,769,771,772,774,775,776,778,779,781,782,783,785,786,788,789,790,793,794,795,798,799,800,803,804,805,807,808,810,811,812,815,816,817,819,820,822,823,831,833,834,836,837,838,840,841,843,844,845,847,848,850,851,852,854,855,857,858,859,861,862,864,865,866,869,870,871,873,874,876,877,878,879,880,881,882,885,887,888,890,891,892,894,895,897,898,899,902,903,904,906,907,909,910,911,914,915,916,918,919,921,922,923,925,926,928,929,930,932,933,935,936,937,939,940,942,943,944,946,947,949,950,951,954,955]
theorem wHk(P:PySem.Params):wAl=(My.pre.heap_39 P).map (·.1):=by kernel_rfl
noncomputable abbrev sS:=PySem.Str.ofString
noncomputable abbrev dE(P:PySem.Params)(x:String)(t:Nat)(v:PySem.Value):PySem.DictEntry:=.mk (PySem.PyData.keyHash P (sS x)) (.str (sS x) t) v
noncomputable def kO(P:PySem.Params)(j:Nat):PySem.Obj:=match(My.pre.heap_39 P).drop j with|x::_=>x.2|[]=>o0 P
noncomputable def wTb:List PySem.Stmt:=PySem.Challenge.pw_earthward_k39_rows_refused.main.body
noncomputable def wCb(k:Nat):List PySem.Stmt:=match wTb.drop k with|.ClassDef _ _ _ b _ _ _ _ _ _ _::_=>b|_=>[]
noncomputable def wFd(l:List PySem.Stmt)(k:Nat)(q:String):PySem.Obj:=match l.drop k with|.FunctionDef n a b _ _ _ c _ _ _::_=>.mk .none none (.func (.mk n (sS q) a (.stmts b) c 0 [] .none .none .none .none none .none .none 0)) #[]|_=>.mk .none none (.fields #[]) #[]
noncomputable def m3(P:PySem.Params):PySem.Obj:=.mk (.type "dict") none (.dict #[dE P "__name__" 165 (.str (sS "earthward.switches") 454),dE P "__doc__" 166 .none,dE P "__package__" 167 .none,dE P "__loader__" 168 (.builtin "__main__.__loader__#opaque"),dE P "__spec__" 169 .none,dE P "__annotations__" 170 (.ref 6),dE P "__builtins__" 171 (.ref 4),dE P "__file__" 173 (.str (sS "/claim/cut.py") 172),dE P "__cached__" 174 .none,dE P "_wall" 193 (.ref 21),dE P "WardError" 213 (.ref 31),dE P "NoRow" 229 (.ref 44),dE P "NoMeasure" 245 (.ref 56),dE P "NoBar" 261 (.ref 68),dE P "Same" 277 (.ref 80),dE P "NoSwitch" 293 (.ref 92),dE P "Loaded" 309 (.ref 104),dE P "Shorted" 325 (.ref 116),dE P "Locked" 341 (.ref 128),dE P "Held" 357 (.ref 140),dE P "NoLock" 373 (.ref 152),dE P "NotOpen" 389 (.ref 164),dE P "NotLocked" 405 (.ref 176),dE P "NotEarthed" 421 (.ref 188),dE P "NotDead" 437 (.ref 200),dE P "NoPermit" 453 (.ref 212),dE P "Switch" 503 (.ref 252),dE P "Feed" 535 (.ref 280),dE P "Earth" 567 (.ref 306)] 29) #[]
noncomputable def mk0:PySem.Obj:=.mk (.type "tuple") none (.seq #[]) #[]
noncomputable def m12:PySem.Obj:=.mk .none none (.fields #[.int 1 0,.int 0 0,.ref 20,.int 5 0,.int 0 0,.ref 27,.int 7 0,.int 0 0,.ref 40,.int 9 0,.int 0 0,.ref 52,.int 11 0,.int 0 0,.ref 64,.int 13 0,.int 0 0,.ref 76,.int 15 0,.int 0 0,.ref 88,.int 17 0,.int 0 0,.ref 100,.int 19 0,.int 0 0,.ref 112,.int 21 0,.int 0 0,.ref 124,.int 23 0,.int 0 0,.ref 136,.int 25 0,.int 0 0,.ref 148,.int 27 0,.int 0 0,.ref 160,.int 29 0,.int 0 0,.ref 172,.int 31 0,.int 0 0,.ref 184,.int 33 0,.int 0 0,.ref 196,.int 35 0,.int 0 0,.ref 208,.int 38 0,.int 0 0,.ref 220,.int 51 0,.int 0 0,.ref 262,.int 58 0,.int 0 0,.ref 288]) #[]
noncomputable def mk1(x0:String)(x1:Nat)(x2:Nat)(x3:Nat):PySem.Obj:=.mk (.type "code") none (.fields #[.str (sS x0) x1,.str (sS x0) (x1+1),.str (sS "/claim/cut.py") (x1+2),.int x2 0,.int 0 0,.int 0 0,.int 0 0,.int 0 0,.ref x3,.bool false,.int 181 0,.ref (x3+1),.none,.none,.none,.none,.int (x1+3) 0,.int x2 0,.str (sS "/claim/cut.py") (x1+4)]) #[]
noncomputable def mk2(x0:Nat)(x1:Nat)(x2:String)(x3:Nat):PySem.Obj:=.mk (.type "frame") none .plain #[some (.ref x0),some (.ref 3),some (.ref x1),none,some (.str (sS x2) x3),none,some (.ref 0)]
noncomputable def mk3:PySem.Obj:=.mk .none none (.fields #[]) #[]
noncomputable def mk4:PySem.Obj:=.mk (.type "builtin_function_or_method") none (.fields #[.builtin "type.__prepare__",.type "type"]) #[]
noncomputable def mk5(P:PySem.Params)(x0:Nat)(x1:String)(x2:Nat)(x3:Nat):PySem.Obj:=.mk (.type "dict") none (.dict #[dE P "__module__" x0 (.str (sS "earthward.errors") 194),dE P "__qualname__" (x0+2) (.str (sS x1) (x0+1)),dE P "__firstlineno__" (x0+4) (.int x2 (x0+3)),dE P "__static_attributes__" (x0+5) (.ref x3)] 4) #[]
noncomputable def mk6(x0:Nat):PySem.Obj:=.mk (.type "super") none (.fields #[.ref x0,.ref x0,.ref x0]) #[]
noncomputable def mk7(x0:Nat):PySem.Obj:=.mk (.type "builtin_function_or_method") none (.fields #[.builtin "object.__init_subclass__",.ref x0]) #[]
noncomputable def m217(P:PySem.Params):PySem.Obj:=.mk (.type "dict") none (.dict #[dE P "__module__" 463 (.str (sS "earthward.switches") 454),dE P "__qualname__" 465 (.str (sS "Switch") 464),dE P "__firstlineno__" 467 (.int 38 466),dE P "feeds" 474 (.ref 228),dE P "earths" 481 (.ref 235),dE P "joins" 488 (.ref 242),dE P "gentle" 495 (.ref 249),dE P "__static_attributes__" 496 (.ref 250)] 8) #[]
noncomputable def m219:PySem.Obj:=.mk .none none (.fields #[.int 40 0,.int 4 0,.ref 227,.int 43 0,.int 4 0,.ref 234,.int 46 0,.int 4 0,.ref 241,.int 49 0,.int 4 0,.ref 248]) #[]
noncomputable def m252:PySem.Obj:=.mk (.type "type") none (.cls (PySem.ClassData.mk (sS "Switch") [.type "object"] [.ref 252,.type "object"] 251 (sS "Switch") true [] [.ref 280,.ref 306] false none false)) #[none,none,some (.str (sS "Switch") 456),some (.str (sS "Switch") 464),some (.builtin "object.__new__"),some (.bool true)]
noncomputable def mk8(P:PySem.Params)(x0:Nat)(x1:String)(x2:Nat)(x3:Nat)(x4:String):PySem.Obj:=.mk (.type "dict") none (.dict #[dE P "__module__" x0 (.str (sS "earthward.switches") 454),dE P "__qualname__" (x0+2) (.str (sS x1) (x0+1)),dE P "__firstlineno__" (x0+4) (.int x2 (x0+3)),dE P "__init__" (x0+12) (.ref x3),dE P x4 (x0+19) (.ref (x3+7)),dE P "__static_attributes__" (x0+21) (.ref (x3+8))] 6) #[]
noncomputable def mk9(x0:Nat)(x1:Nat):PySem.Obj:=.mk .none none (.fields #[.int x0 0,.int 4 0,.ref x1,.int (x0+3) 0,.int 4 0,.ref (x1+7)]) #[]
noncomputable def wEv:List PySem.Obj->List PySem.Obj
 | []=>[]
 | [a]=>[a]
 | a::_::l=>a::wEv l
noncomputable def wTr:Nat->List PySem.Obj->PySem.W.BT
 | 0,_=>.nil
 | _,[]=>.nil
 | n+1,a::l=>.node a (wTr n (wEv l)) (wTr n (wEv (l.drop 1)))
noncomputable def mt(P:PySem.Params):PySem.W.BT:=wTr 12 [PySem.W.boot_o_0 P,PySem.W.boot_o_1 P,PySem.W.boot_o_2 P,m3 P,PySem.W.boot_o_4 P,PySem.W.boot_o_5 P,PySem.W.boot_o_6 P,PySem.W.boot_o_7 P,PySem.W.boot_o_8 P,PySem.W.boot_o_9 P,PySem.W.boot_o_10 P,mk0,m12,mk1 "<module>" 182 1 11,mk2 13 3 "__main__" 164,kO P 2,mk3,kO P 3,kO P 4,wFd wTb 0 "_wall",kO P 5,kO P 6,kO P 7,mk4,mk5 P 203 "WardError" 5 29,mk0,mk3,mk1 "WardError" 198 5 25,mk2 27 24 "earthward.errors" 194,kO P 8,kO P 9,kO P 10,kO P 11,mk6 31,mk7 31,kO P 12,mk4,mk5 P 221 "NoRow" 7 42,mk0,mk3,mk1 "NoRow" 216 7 38,mk2 40 37 "earthward.errors" 194,kO P 13,kO P 14,kO P 15,mk6 44,mk7 44,kO P 16,mk4,mk5 P 237 "NoMeasure" 9 54,mk0,mk3,mk1 "NoMeasure" 232 9 50,mk2 52 49 "earthward.errors" 194,kO P 17,kO P 18,kO P 19,mk6 56,mk7 56,kO P 20,mk4,mk5 P 253 "NoBar" 11 66,mk0,mk3,mk1 "NoBar" 248 11 62,mk2 64 61 "earthward.errors" 194,kO P 21,kO P 22,kO P 23,mk6 68,mk7 68,kO P 24,mk4,mk5 P 269 "Same" 13 78,mk0,mk3,mk1 "Same" 264 13 74,mk2 76 73 "earthward.errors" 194,kO P 25,kO P 26,kO P 27,mk6 80,mk7 80,kO P 28,mk4,mk5 P 285 "NoSwitch" 15 90,mk0,mk3,mk1 "NoSwitch" 280 15 86,mk2 88 85 "earthward.errors" 194,kO P 29,kO P 30,kO P 31,mk6 92,mk7 92,kO P 32,mk4,mk5 P 301 "Loaded" 17 102,mk0,mk3,mk1 "Loaded" 296 17 98,mk2 100 97 "earthward.errors" 194,kO P 33,kO P 34,kO P 35,mk6 104,mk7 104,kO P 36,mk4,mk5 P 317 "Shorted" 19 114,mk0,mk3,mk1 "Shorted" 312 19 110,mk2 112 109 "earthward.errors" 194,kO P 37,kO P 38,kO P 39,mk6 116,mk7 116,kO P 40,mk4,mk5 P 333 "Locked" 21 126,mk0,mk3,mk1 "Locked" 328 21 122,mk2 124 121 "earthward.errors" 194,kO P 41,kO P 42,kO P 43,mk6 128,mk7 128,kO P 44,mk4,mk5 P 349 "Held" 23 138,mk0,mk3,mk1 "Held" 344 23 134,mk2 136 133 "earthward.errors" 194,kO P 45,kO P 46,kO P 47,mk6 140,mk7 140,kO P 48,mk4,mk5 P 365 "NoLock" 25 150,mk0,mk3,mk1 "NoLock" 360 25 146,mk2 148 145 "earthward.errors" 194,kO P 49,kO P 50,kO P 51,mk6 152,mk7 152,kO P 52,mk4,mk5 P 381 "NotOpen" 27 162,mk0,mk3,mk1 "NotOpen" 376 27 158,mk2 160 157 "earthward.errors" 194,kO P 53,kO P 54,kO P 55,mk6 164,mk7 164,kO P 56,mk4,mk5 P 397 "NotLocked" 29 174,mk0,mk3,mk1 "NotLocked" 392 29 170,mk2 172 169 "earthward.errors" 194,kO P 57,kO P 58,kO P 59,mk6 176,mk7 176,kO P 60,mk4,mk5 P 413 "NotEarthed" 31 186,mk0,mk3,mk1 "NotEarthed" 408 31 182,mk2 184 181 "earthward.errors" 194,kO P 61,kO P 62,kO P 63,mk6 188,mk7 188,kO P 64,mk4,mk5 P 429 "NotDead" 33 198,mk0,mk3,mk1 "NotDead" 424 33 194,mk2 196 193 "earthward.errors" 194,kO P 65,kO P 66,kO P 67,mk6 200,mk7 200,kO P 68,mk4,mk5 P 445 "NoPermit" 35 210,mk0,mk3,mk1 "NoPermit" 440 35 206,mk2 208 205 "earthward.errors" 194,kO P 69,kO P 70,kO P 71,mk6 212,mk7 212,mk0,mk4,m217 P,mk0,m219,mk1 "Switch" 458 38 218,mk2 220 217 "earthward.switches" 454,kO P 72,mk3,kO P 73,kO P 74,wFd (wCb 19) 0 "Switch.feeds",kO P 75,kO P 76,kO P 77,mk3,kO P 78,kO P 79,wFd (wCb 19) 1 "Switch.earths",kO P 80,kO P 81,kO P 82,mk3,kO P 83,kO P 84,wFd (wCb 19) 2 "Switch.joins",kO P 85,kO P 86,kO P 87,mk3,kO P 88,kO P 89,wFd (wCb 19) 3 "Switch.gentle",kO P 90,kO P 91,kO P 92,kO P 93,m252,kO P 95,kO P 96,mk6 252,mk7 252,kO P 97,mk4,mk8 P 511 "Feed" 51 270 "feeds",mk0,mk9 53 269,mk1 "Feed" 506 51 260,mk2 262 259 "earthward.switches" 454,kO P 98,mk3,kO P 99,kO P 100,wFd (wCb 20) 0 "Feed.__init__",kO P 101,kO P 102,kO P 103,mk3,kO P 104,kO P 105,wFd (wCb 20) 1 "Feed.feeds",kO P 106,kO P 107,kO P 108,kO P 109,kO P 110,mk6 280,mk7 280,kO P 111,mk4,mk8 P 543 "Earth" 58 296 "earths",mk0,mk9 60 295,mk1 "Earth" 538 58 286,mk2 288 285 "earthward.switches" 454,kO P 112,mk3,kO P 113,kO P 114,wFd (wCb 21) 0 "Earth.__init__",kO P 115,kO P 116,kO P 117,mk3,kO P 118,kO P 119,wFd (wCb 21) 1 "Earth.earths",kO P 120,kO P 121,kO P 122,kO P 123,kO P 124,mk6 306,mk7 306]
noncomputable def Sm(w:PySem.World)(os:PySem.OsState):PySem.W.SharedT:=⟨mt w.params,309,PySem.Life.mk [] [] [] 0 [] [] false #[] [] 0 false false false 0 [2000,10,10] false 0 true [] [] 0 false,Array.mk [],PySem.Drawn.mk 0 0 0 0,568,os⟩
noncomputable def m3b(P:PySem.Params):PySem.Obj:=.mk (.type "dict") none (.dict #[dE P "__name__" 165 (.str (sS "law_earthward_k39_rows_refused") 1375),dE P "__doc__" 166 .none,dE P "__package__" 167 .none,dE P "__loader__" 168 (.builtin "__main__.__loader__#opaque"),dE P "__spec__" 169 .none,dE P "__annotations__" 170 (.ref 6),dE P "__builtins__" 171 (.ref 4),dE P "__file__" 173 (.str (sS "/claim/cut.py") 172),dE P "__cached__" 174 .none,dE P "_wall" 193 (.ref 21),dE P "WardError" 213 (.ref 31),dE P "NoRow" 229 (.ref 44),dE P "NoMeasure" 245 (.ref 56),dE P "NoBar" 261 (.ref 68),dE P "Same" 277 (.ref 80),dE P "NoSwitch" 293 (.ref 92),dE P "Loaded" 309 (.ref 104),dE P "Shorted" 325 (.ref 116),dE P "Locked" 341 (.ref 128),dE P "Held" 357 (.ref 140),dE P "NoLock" 373 (.ref 152),dE P "NotOpen" 389 (.ref 164),dE P "NotLocked" 405 (.ref 176),dE P "NotEarthed" 421 (.ref 188),dE P "NotDead" 437 (.ref 200),dE P "NoPermit" 453 (.ref 212),dE P "Switch" 503 (.ref 252),dE P "Feed" 535 (.ref 280),dE P "Earth" 567 (.ref 306),dE P "Breaker" 601 (.ref 332),dE P "Splitter" 642 (.ref 365),dE P "switch_of" 650 (.ref 374),dE P "has" 660 (.ref 381),dE P "Net" 735 (.ref 434),dE P "live" 743 (.ref 445),dE P "earthed" 751 (.ref 452),dE P "lowest" 758 (.ref 459),dE P "numbers_in" 764 (.ref 464),dE P "steps_from" 778 (.ref 471),dE P "numbers_back" 789 (.ref 478),dE P "way" 804 (.ref 485),dE P "check_switch" 814 (.ref 492),dE P "after_turn" 822 (.ref 499),dE P "loads" 834 (.ref 506),dE P "shorts" 843 (.ref 513),dE P "turned" 853 (.ref 520),dE P "can_lock" 862 (.ref 527),dE P "all_switches" 869 (.ref 534),dE P "keeps_dead" 878 (.ref 541),dE P "Bundle" 1011 (.ref 626),dE P "fewest_locks" 1017 (.ref 635),dE P "own_earths" 1025 (.ref 640),dE P "Board" 1129 (.ref 720),dE P "free_switches" 1137 (.ref 729),dE P "layer_behind" 1151 (.ref 736),dE P "meets" 1162 (.ref 743),dE P "deeds_to" 1172 (.ref 750),dE P "plan" 1187 (.ref 757),dE P "MOST_BARS" 1191 (.int 10 1190),dE P "MOST_SWITCHES" 1193 (.int 12 1192),dE P "MOST_FIGURES" 1195 (.int 9 1194),dE P "FIGURES" 1197 (.str (sS "0123456789") 1196),dE P "NUMBERS_BEHIND" 1213 (.ref 758),dE P "is_number" 1219 (.ref 763),dE P "numbers_told" 1225 (.ref 768),dE P "parted" 1234 (.ref 775),dE P "count_in" 1242 (.ref 782),dE P "switch_in" 1252 (.ref 789),dE P "row_of" 1258 (.ref 794),dE P "shown" 1264 (.ref 799),dE P "joined_by_blanks" 1272 (.ref 804),dE P "one_number" 1279 (.ref 811),dE P "place_told" 1285 (.ref 816),dE P "wish_for" 1293 (.ref 823),dE P "Desk" 1374 (.ref 880),dE P "_law_draw" 1387 (.ref 891),dE P "_law_switch_row" 1397 (.ref 898),dE P "_law_yard_rows" 1403 (.ref 903)] 78) #[]
noncomputable def mk0b:PySem.Obj:=.mk (.type "tuple") none (.seq #[]) #[]
noncomputable def m12b:PySem.Obj:=.mk .none none (.fields #[.int 1 0,.int 0 0,.ref 20,.int 5 0,.int 0 0,.ref 27,.int 7 0,.int 0 0,.ref 40,.int 9 0,.int 0 0,.ref 52,.int 11 0,.int 0 0,.ref 64,.int 13 0,.int 0 0,.ref 76,.int 15 0,.int 0 0,.ref 88,.int 17 0,.int 0 0,.ref 100,.int 19 0,.int 0 0,.ref 112,.int 21 0,.int 0 0,.ref 124,.int 23 0,.int 0 0,.ref 136,.int 25 0,.int 0 0,.ref 148,.int 27 0,.int 0 0,.ref 160,.int 29 0,.int 0 0,.ref 172,.int 31 0,.int 0 0,.ref 184,.int 33 0,.int 0 0,.ref 196,.int 35 0,.int 0 0,.ref 208,.int 38 0,.int 0 0,.ref 220,.int 51 0,.int 0 0,.ref 262,.int 58 0,.int 0 0,.ref 288,.int 65 0,.int 0 0,.ref 314,.int 73 0,.int 0 0,.ref 340,.int 84 0,.int 0 0,.ref 373,.int 94 0,.int 0 0,.ref 380,.int 96 0,.int 0 0,.ref 387,.int 132 0,.int 0 0,.ref 444,.int 134 0,.int 0 0,.ref 451,.int 136 0,.int 0 0,.ref 458,.int 138 0,.int 0 0,.ref 463,.int 140 0,.int 0 0,.ref 470,.int 147 0,.int 0 0,.ref 477,.int 154 0,.int 0 0,.ref 484,.int 168 0,.int 0 0,.ref 491,.int 171 0,.int 0 0,.ref 498,.int 173 0,.int 0 0,.ref 505,.int 182 0,.int 0 0,.ref 512,.int 184 0,.int 0 0,.ref 519,.int 193 0,.int 0 0,.ref 526,.int 195 0,.int 0 0,.ref 533,.int 197 0,.int 0 0,.ref 540,.int 199 0,.int 0 0,.ref 547,.int 287 0,.int 0 0,.ref 634,.int 295 0,.int 0 0,.ref 639,.int 298 0,.int 0 0,.ref 646,.int 369 0,.int 0 0,.ref 728,.int 371 0,.int 0 0,.ref 735,.int 380 0,.int 0 0,.ref 742,.int 384 0,.int 0 0,.ref 749,.int 391 0,.int 0 0,.ref 756,.int 408 0,.int 0 0,.ref 762,.int 414 0,.int 0 0,.ref 767,.int 418 0,.int 0 0,.ref 774,.int 424 0,.int 0 0,.ref 781,.int 431 0,.int 0 0,.ref 788,.int 442 0,.int 0 0,.ref 793,.int 444 0,.int 0 0,.ref 798,.int 448 0,.int 0 0,.ref 803,.int 452 0,.int 0 0,.ref 810,.int 456 0,.int 0 0,.ref 815,.int 463 0,.int 0 0,.ref 822,.int 469 0,.int 0 0,.ref 829,.int 540 0,.int 0 0,.ref 890,.int 546 0,.int 0 0,.ref 897,.int 552 0,.int 0 0,.ref 902]) #[]
noncomputable def mk1b(x0:String)(x1:Nat)(x2:Nat)(x3:Nat):PySem.Obj:=.mk (.type "code") none (.fields #[.str (sS x0) x1,.str (sS x0) (x1+1),.str (sS "/claim/cut.py") (x1+2),.int x2 0,.int 0 0,.int 0 0,.int 0 0,.int 0 0,.ref x3,.bool false,.int 181 0,.ref (x3+1),.none,.none,.none,.none,.int (x1+3) 0,.int x2 0,.str (sS "/claim/cut.py") (x1+4)]) #[]
noncomputable def mk2b(x0:Nat)(x1:Nat)(x2:String)(x3:Nat):PySem.Obj:=.mk (.type "frame") none .plain #[some (.ref x0),some (.ref 3),some (.ref x1),none,some (.str (sS x2) x3),none,some (.ref 0)]
noncomputable def mk3b:PySem.Obj:=.mk .none none (.fields #[]) #[]
noncomputable def mk4b:PySem.Obj:=.mk (.type "builtin_function_or_method") none (.fields #[.builtin "type.__prepare__",.type "type"]) #[]
noncomputable def mk5b(P:PySem.Params)(x0:Nat)(x1:String)(x2:Nat)(x3:Nat):PySem.Obj:=.mk (.type "dict") none (.dict #[dE P "__module__" x0 (.str (sS "earthward.errors") 194),dE P "__qualname__" (x0+2) (.str (sS x1) (x0+1)),dE P "__firstlineno__" (x0+4) (.int x2 (x0+3)),dE P "__static_attributes__" (x0+5) (.ref x3)] 4) #[]
noncomputable def mk6b(x0:Nat):PySem.Obj:=.mk (.type "super") none (.fields #[.ref x0,.ref x0,.ref x0]) #[]
noncomputable def mk7b(x0:Nat):PySem.Obj:=.mk (.type "builtin_function_or_method") none (.fields #[.builtin "object.__init_subclass__",.ref x0]) #[]
noncomputable def m217b(P:PySem.Params):PySem.Obj:=.mk (.type "dict") none (.dict #[dE P "__module__" 463 (.str (sS "earthward.switches") 454),dE P "__qualname__" 465 (.str (sS "Switch") 464),dE P "__firstlineno__" 467 (.int 38 466),dE P "feeds" 474 (.ref 228),dE P "earths" 481 (.ref 235),dE P "joins" 488 (.ref 242),dE P "gentle" 495 (.ref 249),dE P "__static_attributes__" 496 (.ref 250)] 8) #[]
noncomputable def m219b:PySem.Obj:=.mk .none none (.fields #[.int 40 0,.int 4 0,.ref 227,.int 43 0,.int 4 0,.ref 234,.int 46 0,.int 4 0,.ref 241,.int 49 0,.int 4 0,.ref 248]) #[]
noncomputable def mk8b(P:PySem.Params)(x0:Nat)(x1:String)(x2:Nat)(x3:Nat)(x4:Nat)(x5:String)(x6:Nat):PySem.Obj:=.mk (.type "dict") none (.dict #[dE P "__module__" x0 (.str (sS "earthward.switches") 454),dE P "__qualname__" (x0+2) (.str (sS x1) (x0+1)),dE P "__firstlineno__" (x0+4) (.int x2 (x0+3)),dE P "__init__" x3 (.ref x4),dE P x5 (x3+7) (.ref (x4+7)),dE P "__static_attributes__" x6 (.ref (x4+8))] 6) #[]
noncomputable def mk9b(x0:Nat)(x1:Nat)(x2:Nat):PySem.Obj:=.mk .none none (.fields #[.int x0 0,.int 4 0,.ref x1,.int x2 0,.int 4 0,.ref (x1+7)]) #[]
noncomputable def m337b(P:PySem.Params):PySem.Obj:=.mk (.type "dict") none (.dict #[dE P "__module__" 609 (.str (sS "earthward.switches") 454),dE P "__qualname__" 611 (.str (sS "Splitter") 610),dE P "__firstlineno__" 613 (.int 73 612),dE P "__init__" 622 (.ref 348),dE P "joins" 629 (.ref 355),dE P "gentle" 636 (.ref 362),dE P "__static_attributes__" 639 (.ref 363)] 7) #[]
noncomputable def m339b:PySem.Obj:=.mk .none none (.fields #[.int 75 0,.int 4 0,.ref 347,.int 79 0,.int 4 0,.ref 354,.int 82 0,.int 4 0,.ref 361]) #[]
noncomputable def mk10b(P:PySem.Params)(x0:Nat)(x1:String)(x2:Nat)(x3:String)(x4:Nat)(x5:Nat)(x6:Nat)(x7:String)(x8:Nat)(x9:Nat)(x10:String)(x11:Nat)(x12:Nat)(x13:String)(x14:String)(x15:Nat)(x16:String)(x17:Nat)(x18:String):PySem.Obj:=.mk (.type "dict") none (.dict #[dE P "__module__" x0 (.str (sS x1) x2),dE P "__qualname__" (x0+2) (.str (sS x3) (x0+1)),dE P "__firstlineno__" (x0+4) (.int x4 (x0+3)),dE P "__init__" x5 (.ref x6),dE P x7 x8 (.ref x9),dE P x10 x11 (.ref x12),dE P x13 (x11+10) (.ref (x12+7)),dE P x14 x15 (.ref (x12+14)),dE P x16 x17 (.ref (x9+26)),dE P x18 (x17+8) (.ref (x9+33)),dE P "__static_attributes__" (x8+44) (.ref (x9+34))] 11) #[]
noncomputable def mk11b(x0:Nat)(x1:Nat)(x2:Nat)(x3:Nat)(x4:Nat)(x5:Nat)(x6:Nat)(x7:Nat)(x8:Nat)(x9:Nat):PySem.Obj:=.mk .none none (.fields #[.int x0 0,.int 4 0,.ref x1,.int x2 0,.int 4 0,.ref x3,.int x4 0,.int 4 0,.ref x5,.int x6 0,.int 4 0,.ref (x5+7),.int x7 0,.int 4 0,.ref (x5+14),.int x8 0,.int 4 0,.ref (x3+26),.int x9 0,.int 4 0,.ref (x3+33)]) #[]
noncomputable def m544b(P:PySem.Params):PySem.Obj:=.mk (.type "dict") none (.dict #[dE P "__module__" 886 (.str (sS "earthward.locks") 854),dE P "__qualname__" 888 (.str (sS "Bundle") 887),dE P "__firstlineno__" 890 (.int 199 889),dE P "__init__" 902 (.ref 555),dE P "pair_of" 910 (.ref 562),dE P "joined_in_common" 918 (.ref 569),dE P "steps_by" 931 (.ref 576),dE P "row_in" 942 (.ref 583),dE P "steps_left" 950 (.ref 590),dE P "widen" 959 (.ref 597),dE P "rim" 965 (.ref 602),dE P "row_of_a_way" 975 (.ref 609),dE P "way_by" 986 (.ref 616),dE P "take_ways" 996 (.ref 623),dE P "__static_attributes__" 1004 (.ref 624)] 15) #[]
noncomputable def m546b:PySem.Obj:=.mk .none none (.fields #[.int 201 0,.int 4 0,.ref 554,.int 212 0,.int 4 0,.ref 561,.int 217 0,.int 4 0,.ref 568,.int 220 0,.int 4 0,.ref 575,.int 233 0,.int 4 0,.ref 582,.int 242 0,.int 4 0,.ref 589,.int 247 0,.int 4 0,.ref 596,.int 256 0,.int 4 0,.ref 601,.int 262 0,.int 4 0,.ref 608,.int 268 0,.int 4 0,.ref 615,.int 278 0,.int 4 0,.ref 622]) #[]
noncomputable def m643b(P:PySem.Params):PySem.Obj:=.mk (.type "dict") none (.dict #[dE P "__module__" 1033 (.str (sS "earthward.board") 1018),dE P "__qualname__" 1035 (.str (sS "Board") 1034),dE P "__firstlineno__" 1037 (.int 298 1036),dE P "__init__" 1045 (.ref 654),dE P "standing" 1052 (.ref 661),dE P "locked" 1059 (.ref 668),dE P "held" 1068 (.ref 675),dE P "permits" 1075 (.ref 682),dE P "turn" 1083 (.ref 689),dE P "lock" 1091 (.ref 696),dE P "unlock" 1099 (.ref 703),dE P "permit" 1107 (.ref 710),dE P "give_back" 1115 (.ref 717),dE P "__static_attributes__" 1122 (.ref 718)] 14) #[]
noncomputable def m645b:PySem.Obj:=.mk .none none (.fields #[.int 300 0,.int 4 0,.ref 653,.int 308 0,.int 4 0,.ref 660,.int 311 0,.int 4 0,.ref 667,.int 314 0,.int 4 0,.ref 674,.int 320 0,.int 4 0,.ref 681,.int 323 0,.int 4 0,.ref 688,.int 332 0,.int 4 0,.ref 695,.int 343 0,.int 4 0,.ref 702,.int 352 0,.int 4 0,.ref 709,.int 363 0,.int 4 0,.ref 716]) #[]
noncomputable def mtb(P:PySem.Params):PySem.W.BT:=wTr 12 [PySem.W.boot_o_0 P,PySem.W.boot_o_1 P,PySem.W.boot_o_2 P,m3b P,PySem.W.boot_o_4 P,PySem.W.boot_o_5 P,PySem.W.boot_o_6 P,PySem.W.boot_o_7 P,PySem.W.boot_o_8 P,PySem.W.boot_o_9 P,PySem.W.boot_o_10 P,mk0b,m12b,mk1b "<module>" 182 1 11,mk2b 13 3 "__main__" 164,kO P 2,mk3b,kO P 3,kO P 4,wFd wTb 0 "_wall",kO P 5,kO P 6,kO P 7,mk4b,mk5b P 203 "WardError" 5 29,mk0b,mk3b,mk1b "WardError" 198 5 25,mk2b 27 24 "earthward.errors" 194,kO P 8,kO P 9,kO P 10,kO P 11,mk6b 31,mk7b 31,kO P 12,mk4b,mk5b P 221 "NoRow" 7 42,mk0b,mk3b,mk1b "NoRow" 216 7 38,mk2b 40 37 "earthward.errors" 194,kO P 13,kO P 14,kO P 15,mk6b 44,mk7b 44,kO P 16,mk4b,mk5b P 237 "NoMeasure" 9 54,mk0b,mk3b,mk1b "NoMeasure" 232 9 50,mk2b 52 49 "earthward.errors" 194,kO P 17,kO P 18,kO P 19,mk6b 56,mk7b 56,kO P 20,mk4b,mk5b P 253 "NoBar" 11 66,mk0b,mk3b,mk1b "NoBar" 248 11 62,mk2b 64 61 "earthward.errors" 194,kO P 21,kO P 22,kO P 23,mk6b 68,mk7b 68,kO P 24,mk4b,mk5b P 269 "Same" 13 78,mk0b,mk3b,mk1b "Same" 264 13 74,mk2b 76 73 "earthward.errors" 194,kO P 25,kO P 26,kO P 27,mk6b 80,mk7b 80,kO P 28,mk4b,mk5b P 285 "NoSwitch" 15 90,mk0b,mk3b,mk1b "NoSwitch" 280 15 86,mk2b 88 85 "earthward.errors" 194,kO P 29,kO P 30,kO P 31,mk6b 92,mk7b 92,kO P 32,mk4b,mk5b P 301 "Loaded" 17 102,mk0b,mk3b,mk1b "Loaded" 296 17 98,mk2b 100 97 "earthward.errors" 194,kO P 33,kO P 34,kO P 35,mk6b 104,mk7b 104,kO P 36,mk4b,mk5b P 317 "Shorted" 19 114,mk0b,mk3b,mk1b "Shorted" 312 19 110,mk2b 112 109 "earthward.errors" 194,kO P 37,kO P 38,kO P 39,mk6b 116,mk7b 116,kO P 40,mk4b,mk5b P 333 "Locked" 21 126,mk0b,mk3b,mk1b "Locked" 328 21 122,mk2b 124 121 "earthward.errors" 194,kO P 41,kO P 42,kO P 43,mk6b 128,mk7b 128,kO P 44,mk4b,mk5b P 349 "Held" 23 138,mk0b,mk3b,mk1b "Held" 344 23 134,mk2b 136 133 "earthward.errors" 194,kO P 45,kO P 46,kO P 47,mk6b 140,mk7b 140,kO P 48,mk4b,mk5b P 365 "NoLock" 25 150,mk0b,mk3b,mk1b "NoLock" 360 25 146,mk2b 148 145 "earthward.errors" 194,kO P 49,kO P 50,kO P 51,mk6b 152,mk7b 152,kO P 52,mk4b,mk5b P 381 "NotOpen" 27 162,mk0b,mk3b,mk1b "NotOpen" 376 27 158,mk2b 160 157 "earthward.errors" 194,kO P 53,kO P 54,kO P 55,mk6b 164,mk7b 164,kO P 56,mk4b,mk5b P 397 "NotLocked" 29 174,mk0b,mk3b,mk1b "NotLocked" 392 29 170,mk2b 172 169 "earthward.errors" 194,kO P 57,kO P 58,kO P 59,mk6b 176,mk7b 176,kO P 60,mk4b,mk5b P 413 "NotEarthed" 31 186,mk0b,mk3b,mk1b "NotEarthed" 408 31 182,mk2b 184 181 "earthward.errors" 194,kO P 61,kO P 62,kO P 63,mk6b 188,mk7b 188,kO P 64,mk4b,mk5b P 429 "NotDead" 33 198,mk0b,mk3b,mk1b "NotDead" 424 33 194,mk2b 196 193 "earthward.errors" 194,kO P 65,kO P 66,kO P 67,mk6b 200,mk7b 200,kO P 68,mk4b,mk5b P 445 "NoPermit" 35 210,mk0b,mk3b,mk1b "NoPermit" 440 35 206,mk2b 208 205 "earthward.errors" 194,kO P 69,kO P 70,kO P 71,mk6b 212,mk7b 212,mk0b,mk4b,m217b P,mk0b,m219b,mk1b "Switch" 458 38 218,mk2b 220 217 "earthward.switches" 454,kO P 72,mk3b,kO P 73,kO P 74,wFd (wCb 19) 0 "Switch.feeds",kO P 75,kO P 76,kO P 77,mk3b,kO P 78,kO P 79,wFd (wCb 19) 1 "Switch.earths",kO P 80,kO P 81,kO P 82,mk3b,kO P 83,kO P 84,wFd (wCb 19) 2 "Switch.joins",kO P 85,kO P 86,kO P 87,mk3b,kO P 88,kO P 89,wFd (wCb 19) 3 "Switch.gentle",kO P 90,kO P 91,kO P 92,kO P 93,kO P 94,kO P 95,kO P 96,mk6b 252,mk7b 252,kO P 97,mk4b,mk8b P 511 "Feed" 51 523 270 "feeds" 532,mk0b,mk9b 53 269 56,mk1b "Feed" 506 51 260,mk2b 262 259 "earthward.switches" 454,kO P 98,mk3b,kO P 99,kO P 100,wFd (wCb 20) 0 "Feed.__init__",kO P 101,kO P 102,kO P 103,mk3b,kO P 104,kO P 105,wFd (wCb 20) 1 "Feed.feeds",kO P 106,kO P 107,kO P 108,kO P 109,kO P 110,mk6b 280,mk7b 280,kO P 111,mk4b,mk8b P 543 "Earth" 58 555 296 "earths" 564,mk0b,mk9b 60 295 63,mk1b "Earth" 538 58 286,mk2b 288 285 "earthward.switches" 454,kO P 112,mk3b,kO P 113,kO P 114,wFd (wCb 21) 0 "Earth.__init__",kO P 115,kO P 116,kO P 117,mk3b,kO P 118,kO P 119,wFd (wCb 21) 1 "Earth.earths",kO P 120,kO P 121,kO P 122,kO P 123,kO P 124,mk6b 306,mk7b 306,kO P 125,mk4b,mk8b P 575 "Breaker" 65 588 322 "joins" 598,mk0b,mk9b 67 321 71,mk1b "Breaker" 570 65 312,mk2b 314 311 "earthward.switches" 454,kO P 126,mk3b,kO P 127,kO P 128,wFd (wCb 22) 0 "Breaker.__init__",kO P 129,kO P 130,kO P 131,mk3b,kO P 132,kO P 133,wFd (wCb 22) 1 "Breaker.joins",kO P 134,kO P 135,kO P 136,kO P 137,kO P 138,mk6b 332,mk7b 332,kO P 139,mk4b,m337b P,mk0b,m339b,mk1b "Splitter" 604 73 338,mk2b 340 337 "earthward.switches" 454,kO P 140,mk3b,kO P 141,kO P 142,wFd (wCb 23) 0 "Splitter.__init__",kO P 143,kO P 144,kO P 145,mk3b,kO P 146,kO P 147,wFd (wCb 23) 1 "Splitter.joins",kO P 148,kO P 149,kO P 150,mk3b,kO P 151,kO P 152,wFd (wCb 23) 2 "Splitter.gentle",kO P 153,kO P 154,kO P 155,kO P 156,kO P 157,mk6b 365,mk7b 365,kO P 158,mk3b,kO P 159,kO P 160,wFd wTb 24 "switch_of",kO P 161,kO P 162,kO P 163,mk3b,kO P 164,kO P 165,wFd wTb 26 "has",kO P 166,kO P 167,mk0b,mk4b,mk10b P 668 "earthward.reach" 651 "Net" 96 678 393 "shut_ones" 684 398 "joined_bars" 690 403 "live_bars" "led_bars" 710 "earthed_bars" 718 "is_safe",mk0b,mk11b 98 392 101 397 104 402 115 121 127 130,mk1b "Net" 663 96 385,mk2b 387 384 "earthward.reach" 651,kO P 168,mk3b,wFd (wCb 27) 0 "Net.__init__",kO P 169,kO P 170,kO P 171,mk3b,wFd (wCb 27) 1 "Net.shut_ones",kO P 172,kO P 173,kO P 174,mk3b,wFd (wCb 27) 2 "Net.joined_bars",kO P 175,kO P 176,kO P 177,mk3b,kO P 178,kO P 179,wFd (wCb 27) 3 "Net.live_bars",kO P 180,kO P 181,kO P 182,mk3b,kO P 183,kO P 184,wFd (wCb 27) 4 "Net.led_bars",kO P 185,kO P 186,kO P 187,mk3b,kO P 188,kO P 189,wFd (wCb 27) 5 "Net.earthed_bars",kO P 190,kO P 191,kO P 192,mk3b,kO P 193,kO P 194,wFd (wCb 27) 6 "Net.is_safe",kO P 195,kO P 196,kO P 197,kO P 198,kO P 199,kO P 200,kO P 201,mk6b 434,mk7b 434,kO P 202,mk3b,kO P 203,kO P 204,wFd wTb 28 "live",kO P 205,kO P 206,kO P 207,mk3b,kO P 208,kO P 209,wFd wTb 29 "earthed",kO P 210,kO P 211,kO P 212,mk3b,kO P 213,kO P 214,wFd wTb 30 "lowest",kO P 215,kO P 216,kO P 217,mk3b,wFd wTb 31 "numbers_in",kO P 218,kO P 219,kO P 220,mk3b,kO P 221,kO P 222,wFd wTb 32 "steps_from",kO P 223,kO P 224,kO P 225,mk3b,kO P 226,kO P 227,wFd wTb 33 "numbers_back",kO P 228,kO P 229,kO P 230,mk3b,kO P 231,kO P 232,wFd wTb 34 "way",kO P 233,kO P 234,kO P 235,mk3b,kO P 236,kO P 237,wFd wTb 36 "check_switch",kO P 238,kO P 239,kO P 240,mk3b,kO P 241,kO P 242,wFd wTb 37 "after_turn",kO P 243,kO P 244,kO P 245,mk3b,kO P 246,kO P 247,wFd wTb 38 "loads",kO P 248,kO P 249,kO P 250,mk3b,kO P 251,kO P 252,wFd wTb 39 "shorts",kO P 253,kO P 254,kO P 255,mk3b,kO P 256,kO P 257,wFd wTb 40 "turned",kO P 258,kO P 259,kO P 260,mk3b,kO P 261,kO P 262,wFd wTb 42 "can_lock",kO P 263,kO P 264,kO P 265,mk3b,kO P 266,kO P 267,wFd wTb 43 "all_switches",kO P 268,kO P 269,kO P 270,mk3b,kO P 271,kO P 272,wFd wTb 44 "keeps_dead",kO P 273,kO P 274,mk0b,mk4b,m544b P,mk0b,m546b,mk1b "Bundle" 881 199 545,mk2b 547 544 "earthward.locks" 854,kO P 275,mk3b,kO P 276,kO P 277,wFd (wCb 45) 0 "Bundle.__init__",kO P 278,kO P 279,kO P 280,mk3b,kO P 281,kO P 282,wFd (wCb 45) 1 "Bundle.pair_of",kO P 283,kO P 284,kO P 285,mk3b,kO P 286,kO P 287,wFd (wCb 45) 2 "Bundle.joined_in_common",kO P 288,kO P 289,kO P 290,mk3b,kO P 291,kO P 292,wFd (wCb 45) 3 "Bundle.steps_by",kO P 293,kO P 294,kO P 295,mk3b,kO P 296,kO P 297,wFd (wCb 45) 4 "Bundle.row_in",kO P 298,kO P 299,kO P 300,mk3b,kO P 301,kO P 302,wFd (wCb 45) 5 "Bundle.steps_left",kO P 303,kO P 304,kO P 305,mk3b,kO P 306,kO P 307,wFd (wCb 45) 6 "Bundle.widen",kO P 308,kO P 309,kO P 310,mk3b,wFd (wCb 45) 7 "Bundle.rim",kO P 311,kO P 312,kO P 313,mk3b,kO P 314,kO P 315,wFd (wCb 45) 8 "Bundle.row_of_a_way",kO P 316,kO P 317,kO P 318,mk3b,kO P 319,kO P 320,wFd (wCb 45) 9 "Bundle.way_by",kO P 321,kO P 322,kO P 323,mk3b,kO P 324,kO P 325,wFd (wCb 45) 10 "Bundle.take_ways",kO P 326,kO P 327,kO P 328,kO P 329,kO P 330,kO P 331,kO P 332,mk6b 626,mk7b 626,kO P 333,mk3b,wFd wTb 46 "fewest_locks",kO P 334,kO P 335,kO P 336,mk3b,wFd wTb 48 "own_earths",kO P 337,kO P 338,mk0b,mk4b,m643b P,mk0b,m645b,mk1b "Board" 1028 298 644,mk2b 646 643 "earthward.board" 1018,kO P 339,mk3b,kO P 340,kO P 341,wFd (wCb 49) 0 "Board.__init__",kO P 342,kO P 343,kO P 344,mk3b,kO P 345,kO P 346,wFd (wCb 49) 1 "Board.standing",kO P 347,kO P 348,kO P 349,mk3b,kO P 350,kO P 351,wFd (wCb 49) 2 "Board.locked",kO P 352,kO P 353,kO P 354,mk3b,kO P 355,kO P 356,wFd (wCb 49) 3 "Board.held",kO P 357,kO P 358,kO P 359,mk3b,kO P 360,kO P 361,wFd (wCb 49) 4 "Board.permits",kO P 362,kO P 363,kO P 364,mk3b,kO P 365,kO P 366,wFd (wCb 49) 5 "Board.turn",kO P 367,kO P 368,kO P 369,mk3b,kO P 370,kO P 371,wFd (wCb 49) 6 "Board.lock",kO P 372,kO P 373,kO P 374,mk3b,kO P 375,kO P 376,wFd (wCb 49) 7 "Board.unlock",kO P 377,kO P 378,kO P 379,mk3b,kO P 380,kO P 381,wFd (wCb 49) 8 "Board.permit",kO P 382,kO P 383,kO P 384,mk3b,kO P 385,kO P 386,wFd (wCb 49) 9 "Board.give_back",kO P 387,kO P 388,kO P 389,kO P 390,kO P 391,kO P 392,kO P 393,mk6b 720,mk7b 720,kO P 394,mk3b,wFd wTb 51 "free_switches",kO P 395,kO P 396,kO P 397,mk3b,kO P 398,kO P 399,wFd wTb 52 "layer_behind",kO P 400,kO P 401,kO P 402,mk3b,kO P 403,kO P 404,wFd wTb 53 "meets",kO P 405,kO P 406,kO P 407,mk3b,kO P 408,kO P 409,wFd wTb 54 "deeds_to",kO P 410,kO P 411,kO P 412,mk3b,kO P 413,kO P 414,wFd wTb 55 "plan",kO P 415,kO P 416,kO P 417,kO P 418,mk3b,wFd wTb 62 "is_number",kO P 419,kO P 420,kO P 421,mk3b,wFd wTb 63 "numbers_told",kO P 422,kO P 423,kO P 424,mk3b,kO P 425,kO P 426,wFd wTb 64 "parted",kO P 427,kO P 428,kO P 429,mk3b,kO P 430,kO P 431,wFd wTb 65 "count_in",kO P 432,kO P 433,kO P 434,mk3b,kO P 435,kO P 436,wFd wTb 66 "switch_in",kO P 437,kO P 438,kO P 439,mk3b,wFd wTb 67 "row_of",kO P 440,kO P 441,kO P 442,mk3b,wFd wTb 68 "shown",kO P 443,kO P 444,kO P 445,mk3b,wFd wTb 70 "joined_by_blanks",kO P 446,kO P 447,kO P 448,mk3b,kO P 449,kO P 450,wFd wTb 71 "one_number",kO P 451,kO P 452,kO P 453,mk3b,wFd wTb 72 "place_told",kO P 454,kO P 455,kO P 456,mk3b,kO P 457,kO P 458,wFd wTb 73 "wish_for",kO P 459,kO P 460,mk0b,mk4b,mk10b P 1301 "earthward.desk" 1265 "Desk" 469 1312 837 "say" 1323 844 "begin" 1331 851 "add_switch" "done" 1350 "reach" 1356 "tell",mk0b,mk11b 471 836 475 843 497 850 502 507 518 527,mk1b "Desk" 1296 469 827,mk2b 829 826 "earthward.desk" 1265,kO P 461,mk3b,kO P 462,kO P 463,wFd (wCb 74) 0 "Desk.__init__",kO P 464,kO P 465,kO P 466,mk3b,kO P 467,kO P 468,wFd (wCb 74) 1 "Desk.say",kO P 469,kO P 470,kO P 471,mk3b,kO P 472,kO P 473,wFd (wCb 74) 2 "Desk.begin",kO P 474,kO P 475,kO P 476,mk3b,kO P 477,kO P 478,wFd (wCb 74) 3 "Desk.add_switch",kO P 479,kO P 480,kO P 481,mk3b,kO P 482,kO P 483,wFd (wCb 74) 4 "Desk.done",kO P 484,kO P 485,kO P 486,mk3b,wFd (wCb 74) 5 "Desk.reach",kO P 487,kO P 488,kO P 489,mk3b,kO P 490,kO P 491,wFd (wCb 74) 6 "Desk.tell",kO P 492,kO P 493,kO P 494,kO P 495,kO P 496,kO P 497,kO P 498,mk6b 880,mk7b 880,kO P 499,mk3b,kO P 500,kO P 501,wFd wTb 76 "_law_draw",kO P 502,kO P 503,kO P 504,mk3b,kO P 505,kO P 506,wFd wTb 77 "_law_switch_row",kO P 507,kO P 508,kO P 509,mk3b,wFd wTb 78 "_law_yard_rows",kO P 510,kO P 511]
noncomputable def Smb(w:PySem.World)(os:PySem.OsState):PySem.W.SharedT:=⟨mtb w.params,904,PySem.Life.mk [] [] [] 0 [] [] false #[] [] 0 false false false 0 [2000,10,10] false 0 true [] [] 0 false,Array.mk [],PySem.Drawn.mk 0 0 0 0,1404,os⟩
abbrev wS(w:PySem.World)(n:Nat)(S:PySem.W.SharedT)(l:List PySem.Stmt)(p:PySem.Pos)(S1:PySem.W.SharedT)(q:PySem.Pos):Prop:=PySem.W.segRunT PySem.treeTable PySem.Challenge.pw_earthward_k39_rows_refused w 11 (some (.ref 6)) 1 n S (PySem.W.piecesOf l My.tenv (.body (PySem.W.behindTheImports PySem.Challenge.pw_earthward_k39_rows_refused) My.tenv) p [PySem.W.topFrame ⟨0,0,0,0⟩])=some (.next,S1,.body (PySem.W.behindTheImports PySem.Challenge.pw_earthward_k39_rows_refused) My.tenv,q)
abbrev wS0(w:PySem.World)(os:PySem.OsState):Prop:=wS w 4353 (My.Sb w os) ((PySem.W.behindTheImports PySem.Challenge.pw_earthward_k39_rows_refused).take 22) ⟨0,0,0,0⟩ (My.Sm w os) ⟨58,0,64,28⟩
theorem run0a(w:PySem.World)(os:PySem.OsState):wS0 (PySem.World.withFollow w "special-get-raises" false) os:=by kernel_rfl
abbrev wS1(w:PySem.World)(os:PySem.OsState):Prop:=wS w 3881 (My.Sm w os) (((PySem.W.behindTheImports PySem.Challenge.pw_earthward_k39_rows_refused).drop 22).take 57) ⟨58,0,64,28⟩ (My.Smb w os) ⟨552,0,556,39⟩
theorem run0b(w:PySem.World)(os:PySem.OsState):wS1 (PySem.World.withFollow w "special-get-raises" false) os:=by kernel_rfl
abbrev wR(w:PySem.World)(os:PySem.OsState){β:Type}(F:PySem.Shared->β)(v:β):Prop:=RunA PySem.Challenge.pw_earthward_k39_rows_refused w 11 (some (.ref 6)) My.tenv ⟨0,0,0,0⟩ ⟨552,0,556,39⟩ ⟨643,0,666,86⟩ 660 5 (My.Smb w os) (((PySem.W.behindTheImports PySem.Challenge.pw_earthward_k39_rows_refused).drop 22).drop 57) F v
abbrev wRx(w:PySem.World)(os:PySem.OsState):Prop:=wR w os (chkA PySem.Challenge.pw_earthward_k39_rows_refused w (PySem.W.Hook.obs (PySem.W.kHook My.pre.heap_39 My.wAl My.wHk))) (true,PySem.W.Hook.val (PySem.W.kHook My.pre.heap_39 My.wAl My.wHk) w)
noncomputable abbrev wSn(s:PySem.Shared):=PySem.W.openSeen My.vw [(PySem.Str.ofString "NUMBERS_BEHIND")] (PySem.importedModules PySem.Challenge.pw_earthward_k39_rows_refused.main.body) (λs=>PySem.W.xlAt My.vw [] s&&PySem.W.recOk (PySem.Challenge.rw_earthward_k39_rows_refused).row.records s) true s
noncomputable abbrev wGd:=PySem.W.openGood My.vw [(PySem.Str.ofString "NUMBERS_BEHIND")]
theorem run0x(w:PySem.World)(os:PySem.OsState):wRx (PySem.World.withFollow w "special-get-raises" false) os:=by kernel_rfl
theorem run0y(w:PySem.World)(os:PySem.OsState):wR (PySem.World.withFollow w "special-get-raises" false) os (λs=>(wSn s).1) wGd.1:=by kernel_rfl
theorem run0u(w:PySem.World)(os:PySem.OsState):wR (PySem.World.withFollow w "special-get-raises" false) os (λs=>(wSn s).2.1) wGd.2.1:=by kernel_rfl
theorem run0v(w:PySem.World)(os:PySem.OsState):wR (PySem.World.withFollow w "special-get-raises" false) os (λs=>(wSn s).2.2.1) wGd.2.2.1:=by kernel_rfl
theorem run0z(w:PySem.World)(os:PySem.OsState):wR (PySem.World.withFollow w "special-get-raises" false) os (λs=>(wSn s).2.2.2) wGd.2.2.2:=by kernel_rfl
theorem run1a(w:PySem.World)(os:PySem.OsState):wS0 (PySem.World.withFollow w "special-get-raises" true) os:=by kernel_rfl
theorem run1b(w:PySem.World)(os:PySem.OsState):wS1 (PySem.World.withFollow w "special-get-raises" true) os:=by kernel_rfl
theorem run1x(w:PySem.World)(os:PySem.OsState):wRx (PySem.World.withFollow w "special-get-raises" true) os:=by kernel_rfl
theorem run1y(w:PySem.World)(os:PySem.OsState):wR (PySem.World.withFollow w "special-get-raises" true) os (λs=>(wSn s).1) wGd.1:=by kernel_rfl
theorem run1u(w:PySem.World)(os:PySem.OsState):wR (PySem.World.withFollow w "special-get-raises" true) os (λs=>(wSn s).2.1) wGd.2.1:=by kernel_rfl
theorem run1v(w:PySem.World)(os:PySem.OsState):wR (PySem.World.withFollow w "special-get-raises" true) os (λs=>(wSn s).2.2.1) wGd.2.2.1:=by kernel_rfl
theorem run1z(w:PySem.World)(os:PySem.OsState):wR (PySem.World.withFollow w "special-get-raises" true) os (λs=>(wSn s).2.2.2) wGd.2.2.2:=by kernel_rfl
theorem left:PySem.W.LeftO PySem.Challenge.pw_earthward_k39_rows_refused My.vw [(PySem.Str.ofString "NUMBERS_BEHIND")] (λs=>PySem.W.xlAt My.vw [] s&&PySem.W.recOk (PySem.Challenge.rw_earthward_k39_rows_refused).row.records s) (PySem.W.Hook.obs (PySem.W.kHook My.pre.heap_39 My.wAl My.wHk)) (PySem.W.Hook.val (PySem.W.kHook My.pre.heap_39 My.wAl My.wHk)) 9474 true:=My.left_split "special-get-raises" (by kernel_rfl) (by kernel_rfl) (λs=>rfl) (λw os=>My.top_tree (os:=os) (m₀:=11) (ann:=some (.ref 6)) (env:=My.tenv) (qp:=⟨0,0,0,0⟩) (pp:=⟨0,0,0,0⟩) (pb:=⟨0,0,0,0⟩) (n1:=12) (n2:=1) (n3:=8899) (Sa:=My.Sa (PySem.World.withFollow w "special-get-raises" false) os) (Sb:=My.Sb (PySem.World.withFollow w "special-get-raises" false) os) (by kernel_rfl) (by kernel_rfl) (by kernel_rfl) (My.ends_cut (j:=22) (My.run0a w os) (My.ends_cut (j:=57) (My.run0b w os) (My.ends_two (My.run0x w os) (My.run0y w os) (My.run0u w os) (My.run0v w os) (My.run0z w os)))) (by kernel_rfl)) (λw os=>My.top_tree (os:=os) (m₀:=11) (ann:=some (.ref 6)) (env:=My.tenv) (qp:=⟨0,0,0,0⟩) (pp:=⟨0,0,0,0⟩) (pb:=⟨0,0,0,0⟩) (n1:=12) (n2:=1) (n3:=8899) (Sa:=My.Sa (PySem.World.withFollow w "special-get-raises" true) os) (Sb:=My.Sb (PySem.World.withFollow w "special-get-raises" true) os) (by kernel_rfl) (by kernel_rfl) (by kernel_rfl) (My.ends_cut (j:=22) (My.run1a w os) (My.ends_cut (j:=57) (My.run1b w os) (My.ends_two (My.run1x w os) (My.run1y w os) (My.run1u w os) (My.run1v w os) (My.run1z w os)))) (by kernel_rfl))
end My
set_option maxHeartbeats 4000000
namespace L2
open PySem PySem.Spec PyProof.Rows
abbrev cH:=Sum Int Str
noncomputable def u7:cH->Value->Bool
 | .inl k,v=>Value.isInt k v
 | .inr x,v=>Value.isStrOf x v
noncomputable def Fz(w:World):cH->Int
 | .inl k=>hashInt k
 | .inr x=>hashStr w x
theorem mq:∀{k:cH} {v:Value},u7 k v=true->(∃i t,k=Sum.inl i/\v=Value.int i t)\/(∃x t,k=Sum.inr x/\v=Value.str x t)
 | .inl i,v,h=>by
  obtain⟨t,e⟩:=Value.isInt_shape (k:=i) (v:=v) h;exact .inl ⟨i,t,rfl,e⟩
 | .inr x,v,h=>by
  obtain⟨t,e⟩:=Value.isStrOf_shape (x:=x) (v:=v) h;exact .inr ⟨x,t,rfl,e⟩
theorem LU(i:Int)(t:Tok):u7 (.inl i) (.int i t)=true:=by simp[u7,Value.isInt]
theorem L8(x:Str)(t:Tok):u7 (.inr x) (.str x t)=true:=by simp[u7,Value.isStrOf]
theorem rj(a b:Int):decide ((Sum.inl a:cH)=Sum.inl b)=(a==b):=by
 by_cases e:a=b
 ·subst e;simp
 ·have h:¬(Sum.inl a:cH)=Sum.inl b:=λq=>e (Sum.inl.inj q)
  rw[decide_eq_false h];exact(beq_eq_false_iff_ne.mpr e).symm
theorem tE(a b:Str):decide ((Sum.inr a:cH)=Sum.inr b)=decide (a=b):=by
 by_cases e:a=b
 ·subst e;simp
 ·have h:¬(Sum.inr a:cH)=Sum.inr b:=λq=>e (Sum.inr.inj q)
  rw[decide_eq_false h,decide_eq_false e]
theorem sC(a:Int)(b:Str):decide ((Sum.inl a:cH)=Sum.inr b)=false:=decide_eq_false (λq=>nomatch q)
theorem qH(a:Str)(b:Int):decide ((Sum.inr a:cH)=Sum.inl b)=false:=decide_eq_false (λq=>nomatch q)
noncomputable def eY(prog:Program)(w:World):PySem.KeyKind prog w cH where
 is:=u7
 hash:=Fz w
 inj:=λv a b ha hb=>by
  rcases mq ha with⟨i,t,rfl,rfl⟩|⟨x,t,rfl,rfl⟩
  ·rcases mq hb with⟨j,u,rfl,e⟩|⟨y,u,rfl,e⟩
   ·injection e with e1 _;rw[e1]
   ·exact nomatch e
  ·rcases mq hb with⟨j,u,rfl,e⟩|⟨y,u,rfl,e⟩
   ·exact nomatch e
   ·injection e with e1 _;rw[e1]
 byValue:=λk v h=>by
  rcases mq h with⟨i,t,rfl,rfl⟩|⟨x,t,rfl,rfl⟩<;>rfl
 pyHash:=λhv h=>by
  rcases mq hv with⟨i,t,rfl,rfl⟩|⟨x,t,rfl,rfl⟩
  ·exact wpAny_pyHash_int h
  ·exact wpAny_pyHash_str h
 eqBool:=λhu hv h=>by
  rcases mq hu with⟨i,t,rfl,rfl⟩|⟨x,t,rfl,rfl⟩
  ·rcases mq hv with⟨j,u,rfl,rfl⟩|⟨y,u,rfl,rfl⟩
   ·rw[rj]at h;exact wpAny_eqBool_int h
   ·rw[sC]at h;exact SeqAt.EqAt.int_str i t y u _ _ _ _ h
  ·rcases mq hv with⟨j,u,rfl,rfl⟩|⟨y,u,rfl,rfl⟩
   ·rw[qH]at h;exact SeqAt.EqAt.str_int x t j u _ _ _ _ h
   ·rw[tE]at h;exact wpAny_eqBool_str h
 «strs»:=λk x t v h=>by
  rcases mq h with⟨i,u,rfl,e⟩|⟨y,u,rfl,e⟩
  ·exact nomatch e
  ·injection e with e1 _
   subst e1;cases v<;>rfl
theorem NC(prog:Program)(w:World)(i:Int)(t:Tok):(eY prog w).is (.inl i) (.int i t)=true:=LU i t
theorem F_(prog:Program)(w:World)(x:Str)(t:Tok):(eY prog w).is (.inr x) (.str x t)=true:=L8 x t
inductive V where
 | non|bl (b:Bool)|int (i:Int)|str (x:Str)|byt (b:Array UInt8)|flt (b:UInt64)|ref (a:Addr)|ty (n:String)
 deriving DecidableEq
def RelV:V->Value->Prop
 | .non,u=>u=Value.none
 | .bl b,u=>u=Value.bool b
 | .int i,u=>∃t,u=Value.int i t
 | .str x,u=>∃t,u=Value.str x t
 | .byt b,u=>∃t,u=Value.bytes b t
 | .flt b,u=>∃t,u=Value.float b t
 | .ref a,u=>u=Value.ref a
 | .ty n,u=>u=Value.type n
abbrev Vals:List V->List Value->Prop:=Paired RelV
theorem Vals.length(r:Vals xs us):xs.length=us.length:=Paired.length r
theorem Vals.get:∀{xs:List V} {us:List Value} {i:Nat} {x:V},Vals xs us->xs[i]?=some x->∃u,us[i]?=some u/\RelV x u
 | _,_,_,_,.nil,e=>by simp at e
 | _,_,0,_,.cons r _,e=>by simp at e;subst e;exact⟨_,rfl,r⟩
 | _,_,i+1,x,.cons _ t,e=>by
  obtain⟨u,h1,h2⟩:=Vals.get (i:=i) (x:=x) t (by simpa using e);exact⟨u,by simpa using h1,h2⟩
theorem Vals.append:∀{xs ys:List V} {us ws:List Value},Vals xs us->Vals ys ws->Vals (xs++ys) (us++ws)
 | _,_,_,_,.nil,s=>s
 | _,_,_,_,.cons r t,s=>.cons r (Vals.append t s)
theorem Vals.take:∀{xs:List V} {us:List Value} (n:Nat),Vals xs us->Vals (xs.take n) (us.take n)
 | _,_,0,_=>.nil
 | _,_,_+1,.nil=>.nil
 | _,_,n+1,.cons r t=>.cons r (Vals.take n t)
theorem Vals.drop:∀{xs:List V} {us:List Value} (n:Nat),Vals xs us->Vals (xs.drop n) (us.drop n)
 | _,_,0,r=>r
 | _,_,_+1,.nil=>.nil
 | _,_,n+1,.cons _ t=>Vals.drop n t
def RelO:Option V->Option Value->Prop
 | some v,some u=>RelV v u
 | none,none=>True
 | _,_=>False
def KV{κ:Type}:List (κ×V)->List (κ×Value)->Prop:=Paired λ(p:κ×V) (q:κ×Value)=>p.1=q.1/\RelV p.2 q.2
noncomputable def kV:cH->V
 | .inl i=>.int i
 | .inr x=>.str x
inductive HO where
 | lst (xs:List V)
 | tup (xs:List V)
 | dK (kvs:List (cH×V))|dT (kvs:List (List cH×V))
 | set (S:Int->Bool) (n:Nat)
 | ins (C dx:Addr) (fs:List (Str×V))
 | own (x:Addr)
 | xd (fs:List (Str×V))
 | met (f x:Addr)
 | rng (lo hi:Int)
 | frz (o:Obj) (u:HO)
 | tbl (ps:Array Value)
 | ext (φ:Heap->Prop)
abbrev Hp:=Addr->Option HO
noncomputable def a9(H:Hp)(a:Addr)(o:HO):Hp:=λb=>if b=a then some o else H b
theorem dG:a9 H a o a=some o:=by unfold a9;rw[if_pos rfl]
theorem br(h:b≠a):a9 H a o b=H b:=by unfold a9;rw[if_neg h]
theorem eD{H:Hp}(h:H a=some o)(h':H b=none):a≠b:=by
 intro e;subst e;rw[h]at h';cases h'
section
variable (P : Program) (w : World)
def jd0(H:Hp)(h:Heap)(a:Addr):HO->Prop
 | .lst xs=>xs.length<=sizeLine/\∃(its:List Value) (n:Nat),Vals xs its/\h.get? a=some {cls:=.type "list",data:=.seq its.toArray n}
 | .tup xs=>xs.length<=sizeLine/\∃its:List Value,Vals xs its/\IsTup h a its.toArray
 | .dK kvs=>kvs.length<=sizeLine/\(a==sysModules)=false/\∃vs,KV kvs vs/\h.DictOf (eY P w) a vs
 | .dT kvs=>kvs.length<=sizeLine/\(a==sysModules)=false/\∃xs:List (List cH×Addr×Value),
   Paired (λ(p:List cH×V) (q:List cH×Addr×Value)=>p.1=q.1/\H q.2.1=some (.tup (p.1.map kV))/\RelV p.2 q.2.2) kvs xs/\
   ∃o es ep,h.get? a=some o/\o.ExactDict/\o.data=.dict es ep/\es.toList=xs.map (entryOfKey (tupleKind (eY P w)))/\(xs.map (·.1)).Nodup
 | .set S n=>h.SetOf (intKind P w) a S n
 | .ins C dx fs=>H dx=some (.own a)/\fs.length<=1000/\dx≠a/\h.get? a=some (W.instObj C dx)/\
   ∃mA,h.Ns1 dx mA/\(∀f,RelO (fs.lookup f) (mA f))/\PySem.Within mA (fs.map (·.1))
 | .own _=>∃o,h.get? a=some o
 | .xd fs=>∃mA,h.Ns1 a mA/\∀f,RelO (fs.lookup f) (mA f)
 | .rng lo hi=>∃t u v,h.get? a=some {cls:=.type "range",data:=.fields #[.int lo t,.int hi u,.int 1 v]}
 | .frz o u=>h.get? a=some o/\jd0 H h a u
 | .tbl ps=>h.get? a=some {cls:=.none,data:=.fields ps}
 | .met f x=>h.get? a=some (W.methodObj (.ref f) (.ref x))
 | .ext φ=>φ h/\(∃o,h.get? a=some o)/\∀h1 h2:Heap,φ h1->(∀o,h1.get? a=some o->h2.get? a=some o)->φ h2
def HOk(H:Hp)(h:Heap):Prop:=∀a o,H a=some o->jd0 P w H h a o
end
section
variable {P : Program} {w : World} {H H' : Hp} {h h' : Heap} {a : Addr} {o : HO}
theorem jd0.lt(x:jd0 P w H h a o):a<h.objs.size:=by
 cases o with
 | lst xs=>obtain⟨_,_,_,_,e⟩:=x;exact qh e
 | tup xs=>obtain⟨_,_,_,p⟩:=x;exact p.lt
 | dK kvs=>obtain⟨_,_,_,_,o,_,_,e,_⟩:=x;exact qh e
 | dT kvs=>obtain⟨_,_,_,_,o,_,_,e,_⟩:=x;exact qh e
 | set S n=>obtain⟨o,_,_,_,e,_⟩:=x;exact qh e
 | ins C dx fs=>obtain⟨_,_,_,e,_⟩:=x;exact qh e
 | own y=>obtain⟨_,e⟩:=x;exact qh e
 | xd fs=>obtain⟨_,⟨_,_,_,e,_⟩,_⟩:=x;exact qh e
 | rng lo hi=>obtain⟨_,_,_,e⟩:=x;exact qh e
 | frz ob u=>obtain⟨e,_⟩:=x;exact qh e
 | tbl ps=>exact qh (show h.get? a=some _ from x)
 | met f y=>exact qh (show h.get? a=some _ from x)
 | ext φ=>obtain⟨_,⟨_,e⟩,_⟩:=x;exact qh e
theorem Paired.mapP{α β:Type}{F G:α->β->Prop}:∀{l₁:List α} {l₂:List β},Paired F l₁ l₂->(∀a b,F a b->G a b)->Paired G l₁ l₂
 | _,_,.nil,_=>.nil
 | _,_,.cons r t,f=>.cons (f _ _ r) (Paired.mapP t f)
theorem jd0.stay(x:jd0 P w H h a o)(k:∀b u,(b=a\/H b=some (.own a))->h.get? b=some u->h'.get? b=some u)
  (ho:∀b,H b=some (.own a)->H' b=some (.own a)) (ht:∀b xs,H b=some (.tup xs)->H' b=some (.tup xs)):jd0 P w H' h' a o:=by
 induction o with
 | lst xs=>obtain⟨z,its,n,r,e⟩:=x;exact⟨z,its,n,r,k _ _ (.inl rfl) e⟩
 | tup xs=>obtain⟨z,its,r,ob,e,c⟩:=x;exact⟨z,its,r,ob,k _ _ (.inl rfl) e,c⟩
 | dK kvs=>obtain⟨z,y,vs,r,ob,es,ep,e,c⟩:=x;exact⟨z,y,vs,r,ob,es,ep,k _ _ (.inl rfl) e,c⟩
 | dT kvs=>
  obtain⟨z,y,xs,r,ob,es,ep,e,c⟩:=x;exact⟨z,y,xs,Paired.mapP r λp q z=>⟨z.1,ht _ _ z.2.1,z.2.2⟩,ob,es,ep,k _ _ (.inl rfl) e,c⟩
 | set S n=>obtain⟨ob,es,ep,t,e,c⟩:=x;exact⟨ob,es,ep,t,k _ _ (.inl rfl) e,c⟩
 | ins C dx fs=>
  obtain⟨d,z,ne,e,mA,⟨od,es,ep,e2,c⟩,r⟩:=x;exact⟨ho _ d,z,ne,k _ _ (.inl rfl) e,mA,⟨od,es,ep,k _ _ (.inr d) e2,c⟩,r⟩
 | own y=>obtain⟨ob,e⟩:=x;exact⟨ob,k _ _ (.inl rfl) e⟩
 | xd fs=>obtain⟨mA,⟨od,es,ep,e,c⟩,r⟩:=x;exact⟨mA,⟨od,es,ep,k _ _ (.inl rfl) e,c⟩,r⟩
 | rng lo hi=>obtain⟨t,u,v,e⟩:=x;exact⟨t,u,v,k _ _ (.inl rfl) e⟩
 | frz ob u ih=>obtain⟨e,q⟩:=x;exact⟨k _ _ (.inl rfl) e,ih q⟩
 | tbl ps=>
  have e:h.get? a=some {cls:=.none,data:=.fields ps}:=x;show h'.get? a=some {cls:=.none,data:=.fields ps};exact k a _ (.inl rfl) e
 | met f y=>
  have e:h.get? a=some (W.methodObj (.ref f) (.ref y)):=x;show h'.get? a=some (W.methodObj (.ref f) (.ref y));exact k a _ (.inl rfl) e
 | ext φ=>obtain⟨p,⟨o,e⟩,st⟩:=x;exact⟨st _ _ p λo q=>k _ _ (.inl rfl) q,⟨o,k _ _ (.inl rfl) e⟩,st⟩
theorem HOk.lt(x:HOk P w H h)(e:H a=some o):a<h.objs.size:=(x a o e).lt
theorem HOk.fresh(x:HOk P w H h)(e:h.objs.size<=a):H a=none:=by
 cases q:H a with
 | none=>rfl
 | some u=>exact absurd (qf (x.lt q) e) (zw _)
theorem HOk.kept(x:HOk P w H h)(k:∀b u,h.get? b=some u->h'.get? b=some u):HOk P w H h':=λa o e=>
 (x a o e).stay (λb u _ q=>k b u q) (λ_ q=>q) λ_ _ q=>q
theorem HOk.laid(x:HOk P w H h)(k:∀b u,h.get? b=some u->h'.get? b=some u)(hp:h.objs.size<=a)(new:jd0 P w (a9 H a o) h' a o):HOk P w (a9 H a o) h':=λb u e=>by
 have hn:=x.fresh hp;by_cases hb:b=a
 ·subst hb;rw[dG]at e;cases e;exact new
 ·rw[br hb]at e
  exact(x b u e).stay (λc v _ q=>k c v q) (λc q=>by rw[br (eD q hn)];exact q) λc xs q=>by rw[br (eD q hn)];exact q
end
def Rd(H:Hp)(a:Addr)(u:HO):Prop:=H a=some u\/∃o,H a=some (.frz o u)
theorem Rd.ok(r:Rd H a u)(x:HOk P w H h):jd0 P w H h a u:=by
 rcases r with r|⟨o,r⟩
 ·exact x a u r
 ·obtain⟨_,q⟩:=x a _ r
  exact q
def xK:Option HO->Prop
 | some (.lst _)=>True
 | some (.dK _)=>True
 | some (.dT _)=>True
 | some (.set _ _)=>True
 | some (.ins _ _ _)=>True
 | some (.ext _)=>True
 | _=>False
section
variable {P : Program} {w : World} {H : Hp} {h h' : Heap} {x e : Addr} {o' : HO}
theorem HOk.write(ok:HOk P w H h)(mu:xK (H x))(he:e=x\/H e=some (.own x))(k:∀b u,b≠e->h.get? b=some u->h'.get? b=some u)(heo:∃u,h'.get? e=some u)
  (new:jd0 P w (a9 H x o') h' x o'):HOk P w (a9 H x o') h':=λb u q=>by
 have nown:∀c y,H c=some (.own y)->c≠x:=λc y r z=>by subst z;rw[r]at mu;exact mu
 have ntup:∀c xs,H c=some (.tup xs)->c≠x:=λc xs r z=>by subst z;rw[r]at mu;exact mu
 by_cases hb:b=x
 ·subst hb;rw[dG]at q;cases q;exact new
 ·rw[br hb]at q
  by_cases hbe:b=e
  ·have q':H b=some (.own x):=by
    rcases he with z|z
    ·exact absurd (hbe.trans z) hb
    ·rw[hbe];exact z
   rw[q]at q';cases q';obtain⟨v,hv⟩:=heo;exact⟨v,by rw[hbe];exact hv⟩
  ·refine(ok b u q).stay (λc v hc r=>k c v ?_ r) (λc r=>by rw[br (nown c b r)];exact r) λc xs r=>by rw[br (ntup c xs r)];exact r
   rcases hc with rfl|hc
   ·exact hbe
   ·rintro rfl
    rcases he with z|z
    ·exact nown c b hc z
    ·rw[hc]at z;cases z;exact hb rfl
end
structure Un (fs ex:List Addr) (H H':Hp) (h h':Heap):Prop where
 keep:∀b o,h.get? b=some o->H b=none->b∉fs->b∉ex->h'.get? b=some o
 slot:∀b o,h.get? b=some o->H b=none->b∈fs->b∉ex->∃sl,h'.get? b=some {o with slots:=sl}
 free:∀b o,h.get? b=some o->H b=none->b∉ex->H' b=none
 there:∀b o,h.get? b=some o->b∉ex->∃o',h'.get? b=some o'
 tups:∀b xs,H b=some (.tup xs)->H' b=some (.tup xs)
 frzs:∀b o u,H b=some (.frz o u)->H' b=some (.frz o u)
 tbls:∀b ps,H b=some (.tbl ps)->∃more,H' b=some (.tbl (ps++more))
section
variable {fs fs' ex ex' : List Addr} {H H1 H2 : Hp} {h h1 h2 h' : Heap} {a x e : Addr} {o : HO}
theorem Un.any(u:Un fs ex H H1 h h1)(q:h.get? b=some ob)(n:H b=none)(hx:b∉ex):∃sl,h1.get? b=some {ob with slots:=sl}:=by
 by_cases hb:b∈fs
 ·exact u.slot b ob q n hb hx
 ·exact⟨ob.slots,u.keep b ob q n hb hx⟩
theorem Un.kept(k:∀b u,h.get? b=some u->h'.get? b=some u):Un fs ex H H h h':=
 ⟨λb ob q _ _ _=>k b ob q,λb ob q _ _ _=>⟨ob.slots,k b ob q⟩,λ_ _ _ n _=>n,λb ob q _=>⟨ob,k b ob q⟩,λ_ _ q=>q,λ_ _ _ q=>q,λ_ ps q=>⟨#[],by rw[q];simp⟩⟩
theorem Un.refl:Un fs ex H H h h:=Un.kept λ_ _ q=>q
theorem Un.laid(k:∀b u,h.get? b=some u->h'.get? b=some u)(hp:h.objs.size<=a)(hn:H a=none):Un fs ex H (a9 H a o) h h' where
 keep:=λb u q _ _ _=>k b u q
 slot:=λb u q _ _ _=>⟨u.slots,k b u q⟩
 free:=λb u q n _=>by rw[br (qv (qf (qh q) hp))];exact n
 there:=λb u q _=>⟨u,k b u q⟩
 tups:=λb xs q=>by rw[br (eD q hn)];exact q
 frzs:=λb u xs q=>by rw[br (eD q hn)];exact q
 tbls:=λb ps q=>⟨#[],by rw[br (eD q hn),q];simp⟩
theorem Un.write(mu:xK (H x))(he:e=x\/H e=some (.own x))(k:∀b u,b≠e->h.get? b=some u->h'.get? b=some u)(heo:∃u,h'.get? e=some u):Un fs ex H (a9 H x o) h h':=by
 have hx:∀b,H b=none->b≠x:=λb n z=>by subst z;rw[n]at mu;exact mu
 have hb:∀b,H b=none->b≠e:=λb n z=>by
  subst z;rcases he with r|r
  ·exact hx b n r
  ·rw[n]at r;cases r
 have hm:∀b u,H b=some u->¬xK (some u)->b≠x:=λb u q nm z=>by subst z;rw[q]at mu;exact nm mu
 refine⟨λb u q n _ _=>k b u (hb b n) q,λb u q n _ _=>⟨u.slots,k b u (hb b n) q⟩,λb u q n _=>by rw[br (hx b n)];exact n,λb u q _=> ?_,
  λb xs q=>by rw[br (hm b _ q λz=>z)];exact q,λb u xs q=>by rw[br (hm b _ q λz=>z)];exact q,λb ps q=>⟨#[],by rw[br (hm b _ q λz=>z),q];simp⟩⟩
 by_cases hbe:b=e
 ·subst hbe;exact heo
 ·exact⟨u,k b u hbe q⟩
end
noncomputable def CP(h:Heap)(H:Hp):List Addr:=(List.range h.objs.size).filter λa=>(H a).isSome
noncomputable def fF(h:Heap)(H:Hp):Heap:=W.hideAll h (CP h H)
theorem LC(h:Heap)(H:Hp):(fF h H).objs.size=h.objs.size:=W.hideAll_size _ _
theorem OP(e:h.get? b=some o)(n:H b=none):(fF h H).get? b=some o:=
 W.hideAll_get _ e λhm=>by
  have q:(H b).isSome=true:=(wy.mp hm).2;rw[n]at q;simp at q
theorem N0(e:(fF h H).get? b=some o):h.get? b=some o/\H b=none:=by
 have e':h.get? b=some o:=W.of_hideAll (CP h H) e;refine⟨e',?_⟩;cases q:H b with
 | none=>rfl
 | some x=>
  have hm:b∈CP h H:=wy.mpr ⟨w6.mpr (qh e'),by simp[q]⟩;have z:(fF h H).get? b=none:=W.hideAll_none (CP h H) hm;rw[z]at e;cases e
structure Mod (K:W.Frag) (mg:Str->Option Value) (base:Heap):Prop where
 kin:K.In base
 glob:base.Ns mainGlobals mg
 blt:∃mb,base.Ns builtinsNs mb/\∀x:Str,x≠"__name__"->mb x=bootBuiltins x
 nolimit:base.NoLimit
structure Cx where
 prog:Program
 w:World
 K:W.Frag
 mg:Str->Option Value
 base:Heap
 A:Around
 N:List Str
 s₀:Shared
 H₀:Hp
 env:Env
 outer:List Env
 stack:List Env
 ex:List Addr
 fn:Str->Bool
 calm:Bool
 pn:List (Addr×Obj)
 xe:Value->Shared->Prop
noncomputable def cn(l:List Env):List Addr:=l.filterMap (·.frame)
noncomputable abbrev Cx.fs(X:Cx):List Addr:=cn X.outer
def GA(sc:Scope)(x:Str):Prop:=sc.names.lookup x=some .local\/sc.names.lookup x=some .cell\/sc.names.lookup x=some .free
def AF(sc:Scope)(x:Str):Prop:=sc.names.lookup x=some .local\/sc.names.lookup x=some .cell
def Ew(env:Env)(h:Heap)(m:Str->Option Value)(x:Str)(u:Value):Prop:=
 (env.kindOf x=some .local/\m x=some u)\/((env.kindOf x=some .cell\/env.kindOf x=some .free)/\∃c,env.cells.lookup x=some c/\h.IsCell c (some u))
structure Cx.Ok (X:Cx):Prop where
 mod:Mod X.K X.mg X.base
 kind:X.env.scope.kind=.function
 glob:X.env.globals=mainGlobals
 blt:X.env.builtins=builtinsNs
 above:X.s₀.heap.objs.size<=X.env.locals
 inj:∀x y c,X.env.cells.lookup x=some c->X.env.cells.lookup y=some c->x=y
 has:∀x,(X.env.kindOf x=some .cell\/X.env.kindOf x=some .free)->∃c,X.env.cells.lookup x=some c
 cab:∀x c,X.fn x=true->X.env.cells.lookup x=some c->X.s₀.heap.objs.size<=c
 hd:X.calm=true->X.A.handled=none
 frames:X.A.frames=some X.stack
 stk:X.stack=X.outer\/(X.stack=X.env::X.outer/\X.env.frame=some X.env.locals)
 exf:∀b∈X.ex,b≠X.env.locals/\∀x c,X.env.cells.lookup x=some c->c≠b
 bs:∀b o,X.base.get? b=some o->X.s₀.heap.get? b=some o/\X.H₀ b=none
 bsz:X.base.objs.size<=X.s₀.heap.objs.size
 noex:∀b o,X.base.get? b=some o->b∉X.ex
 exfs:∀b∈X.ex,b∉X.fs
 funs:X.s₀.heap.FunFrames X.base X.outer
 frf:∀b∈X.fs,X.H₀ b=none
structure Inv (X:Cx) (pins:List (Addr×Obj)) (σ:List (Option V)) (H:Hp) (s:Shared):Prop where
 ok:X.Ok
 os:s.os=X.s₀.os
 bare:AllBare s.gens
 base:Un X.fs X.ex X.H₀ H X.s₀.heap s.heap
 loc:∃m,s.heap.Ns X.env.locals m/\∀(i:Nat) (x:Str) (v:V),X.N[i]?=some x->σ[i]?=some (some v)->GA X.env.scope x->∃u,RelV v u/\Ew X.env s.heap m x u
 cell:∀x c,X.env.cells.lookup x=some c->∃v,s.heap.IsCell c v
 free:H X.env.locals=none
 freeC:∀x c,X.env.cells.lookup x=some c->H c=none
 pin:∀p∈X.pn++pins,s.heap.get? p.1=some p.2/\H p.1=none/\p.1≠X.env.locals/\p.1∉X.fs/\∀v,p.2.data≠ .cell v
 hok:HOk X.prog X.w H s.heap
 len:σ.length=X.N.length
section
variable {X : Cx} {pins : List (Addr × Obj)} {σ : List (Option V)} {H H' : Hp} {s : Shared} {h' : Heap}
theorem Cx.Ok.nofr(ok:X.Ok)(e:X.base.get? b=some o):b∉X.fs:=λhb=>by
 have:=(ok.funs.mem hb).1;rw[e]at this;cases this
theorem Inv.bs(I:Inv X pins σ H s):∀b o,X.base.get? b=some o->s.heap.get? b=some o/\H b=none:=λb o e=>
 ⟨I.base.keep b o (I.ok.bs b o e).1 (I.ok.bs b o e).2 (I.ok.nofr e) (I.ok.noex b o e),I.base.free b o (I.ok.bs b o e).1 (I.ok.bs b o e).2 (I.ok.noex b o e)⟩
theorem Inv.bk(I:Inv X pins σ H s):∀b o,X.base.get? b=some o->s.heap.get? b=some o:=λb o e=>(I.bs b o e).1
theorem Inv.mod(I:Inv X pins σ H s):Mod X.K X.mg X.base:=I.ok.mod
theorem Inv.kIn(I:Inv X pins σ H s):X.K.In s.heap:=I.ok.mod.kin.keeps I.bk
theorem Inv.lt(I:Inv X pins σ H s):X.env.locals<s.heap.objs.size:=let ⟨_,hn,_⟩:=I.loc;hn.lt
theorem Inv.sz(I:Inv X pins σ H s):X.s₀.heap.objs.size<=s.heap.objs.size:=z9 I.ok.above (gk I.lt)
theorem Inv.nofs(I:Inv X pins σ H s){a:Addr}(h:s.heap.objs.size<=a):a∉X.fs:=λhb=>by
 obtain⟨_,o,ho,_⟩:=I.ok.funs.mem hb;exact absurd (qf (qh ho) (z9 I.sz h)) (zw _)
theorem Inv.cne(I:Inv X pins σ H s):∀x c,X.env.cells.lookup x=some c->c≠X.env.locals:=λx c e z=>by
 obtain⟨v,o,ho,hd⟩:=I.cell x c e;obtain⟨m,⟨o',es,ep,ho',hd',_⟩,_⟩:=I.loc;rw[z,ho']at ho;cases ho;rw[hd']at hd;cases hd
theorem Inv.funs(I:Inv X pins σ H s):s.heap.FunFrames X.base X.outer:=by
 have all:∀(l:List Env),(∀b∈cn l,b∈X.fs)->X.s₀.heap.FunFrames X.base l->s.heap.FunFrames X.base l:=by
  intro l
  induction l with
  | nil=>intro _ _;trivial
  | cons env r ih=>
   intro hs hl;obtain⟨hk,⟨L,o,hf,hn,ho,hd⟩,hr⟩:=hl;have hL:L∈X.fs:=hs L (by unfold cn;rw[wc,hf];exact qj);obtain⟨sl,e⟩:=I.base.slot L o ho (I.ok.frf L hL) hL λz=>I.ok.exfs L z hL;exact⟨hk,⟨L,_,hf,hn,e,hd⟩,ih (λb hb=>hs b (by unfold cn;rw[wc,hf];exact qg _ hb)) hr⟩
 exact all X.outer (λ_ hb=>hb) I.ok.funs
theorem Inv.stack(I:Inv X pins σ H s):s.heap.FunFrames X.base X.stack:=by
 rcases I.ok.stk with e|⟨e,hf⟩
 ·rw[e];exact I.funs
 ·rw[e]
  obtain⟨m,hn,_⟩:=I.loc;refine .cons (by rw[I.ok.kind];decide) hf hn ?_ I.funs;exact Heap.get?_none_of_le (z9 I.ok.bsz I.ok.above)
theorem Inv.stkSub(I:Inv X pins σ H s):∀b∈cn X.stack,b∈X.env.locals::X.fs:=λb hb=>by
 rcases I.ok.stk with e|⟨e,hf⟩
 ·rw[e]at hb;exact qg _ hb
 ·rw[e]at hb
  unfold cn at hb;rw[wc,hf]at hb;exact hb
theorem Inv.stkFree(I:Inv X pins σ H s):∀b∈cn X.stack,H b=none:=λb hb=>by
 rcases qr.mp (I.stkSub b hb)with e|hb
 ·rw[e];exact I.free
 ·obtain⟨_,o,ho,_⟩:=I.ok.funs.mem hb
  exact I.base.free b o ho (I.ok.frf b hb) λz=>I.ok.exfs b z hb
theorem Inv.step{ch:List Addr}(I:Inv X pins σ H s)
  (hch:∀b∈ch,(b∈X.ex\/X.s₀.heap.objs.size<=b)/\b≠X.env.locals/\(∀x c,X.env.cells.lookup x=some c->c≠b)/\∀p∈X.pn++pins,p.1≠b)
  (keep:∀b o,b≠X.env.locals->b∉X.fs->b∉ch->s.heap.get? b=some o->H b=none->h'.get? b=some o)
  (slot:∀b o,b≠X.env.locals->b∈X.fs->b∉ch->s.heap.get? b=some o->H b=none->∃sl,h'.get? b=some {o with slots:=sl}) (free:∀b o,b∉ch->s.heap.get? b=some o->H b=none->H' b=none)
  (there:∀b o,b∉ch->s.heap.get? b=some o->∃o',h'.get? b=some o')
  (tups:∀b xs,H b=some (.tup xs)->H' b=some (.tup xs)) (frzs:∀b o u,H b=some (.frz o u)->H' b=some (.frz o u)) (tbls:∀b ps,H b=some (.tbl ps)->∃more,H' b=some (.tbl (ps++more)))
  (ns:∀m,s.heap.Ns X.env.locals m->h'.Ns X.env.locals m) (hok:HOk X.prog X.w H' h') (hg:AllBare g'):
  Inv X pins σ H' {s with heap:=h',gens:=g',drawn:=d',toks:=t'}:=by
 have neL:∀b o,X.s₀.heap.get? b=some o->b≠X.env.locals:=λb o e=>qv (qf (qh e) I.ok.above);have neC:∀b o,X.s₀.heap.get? b=some o->b∉X.ex->b∉ch:=λb o e hx hb=>by
  rcases(hch b hb).1 with z|z
  ·exact hx z
  ·exact absurd (qf (qh e) z) (zw _)
 have cellK:∀x c,X.env.cells.lookup x=some c->∀v,s.heap.IsCell c v->h'.IsCell c v:=λx c e v ⟨o,ho,hd⟩=>by
  have nch:c∉ch:=λz=>(hch c z).2.2.1 x c e rfl;by_cases hc:c∈X.fs
  ·obtain⟨sl,q⟩:=slot c o (I.cne x c e) hc nch ho (I.freeC x c e)
   exact⟨_,q,hd⟩
  ·exact⟨o,keep c o (I.cne x c e) hc nch ho (I.freeC x c e),hd⟩
 refine⟨I.ok,I.os,hg,⟨λb o e n hb hx=> ?_,λb o e n hb hx=> ?_,λb o e n hx=> ?_,λb o e hx=> ?_,λb xs e=>tups b xs (I.base.tups b xs e),λb o xs e=>frzs b o xs (I.base.frzs b o xs e),λb ps e=> ?_⟩,?_,λx c e=> ?_,?_,λx c e=> ?_,λp hp=> ?_,hok,I.len⟩
 ·exact keep b o (neL b o e) hb (neC b o e hx) (I.base.keep b o e n hb hx) (I.base.free b o e n hx)
 ·obtain⟨sl,e1⟩:=I.base.slot b o e n hb hx
  obtain⟨sl',e2⟩:=slot b _ (neL b o e) hb (neC b o e hx) e1 (I.base.free b o e n hx);exact⟨sl',e2⟩
 ·obtain⟨o',e1⟩:=I.base.there b o e hx
  exact free b o' (neC b o e hx) e1 (I.base.free b o e n hx)
 ·obtain⟨o',e1⟩:=I.base.there b o e hx
  exact there b o' (neC b o e hx) e1
 ·obtain⟨m1,e1⟩:=I.base.tbls b ps e
  obtain⟨m2,e2⟩:=tbls b _ e1;exact⟨m1++m2,by rw[e2,Array.append_assoc]⟩
 ·obtain⟨m,hn,hl⟩:=I.loc
  refine⟨m,ns m hn,λi x v e1 e2 e3=> ?_⟩;obtain⟨u,r,l⟩:=hl i x v e1 e2 e3;refine⟨u,r,?_⟩;rcases l with l|⟨k,c,e,z⟩
  ·exact .inl l
  ·exact .inr ⟨k,c,e,cellK x c e _ z⟩
 ·obtain⟨v,z⟩:=I.cell x c e
  exact⟨v,cellK x c e v z⟩
 ·obtain⟨m,⟨o,_,_,ho,_⟩,_⟩:=I.loc
  exact free _ o (λz=>(hch _ z).2.1 rfl) ho I.free
 ·obtain⟨v,o,ho,hd⟩:=I.cell x c e
  exact free c o (λz=>(hch c z).2.2.1 x c e rfl) ho (I.freeC x c e)
 ·obtain⟨e,n,ne,nf,d⟩:=I.pin p hp
  have nch:p.1∉ch:=λz=>(hch p.1 z).2.2.2 p hp rfl;exact⟨keep p.1 p.2 ne nf nch e n,free p.1 p.2 nch e n,ne,nf,d⟩
theorem Inv.un(I:Inv X pins σ H s)(u:Un X.fs [] H H' s.heap h')(hok:HOk X.prog X.w H' h'):Inv X pins σ H' {s with heap:=h',toks:=t'}:=by
 obtain⟨m,⟨o,es,ep,ho,r⟩,_⟩:=id I.loc;obtain⟨sl,hL⟩:=u.any ho I.free (by simp);exact I.step (g':=s.gens) (d':=s.drawn) (ch:=[]) (λ_ z=>nomatch z) (λb o _ hb _ e n=>u.keep b o e n hb (by simp)) (λb o _ hb _ e n=>u.slot b o e n hb (by simp)) (λb o _ e n=>u.free b o e n (by simp)) (λb o _ e=>u.there b o e (by simp)) u.tups u.frzs u.tbls (λm' hm=>by
  obtain⟨o',es',ep',ho',r'⟩:=hm;rw[ho]at ho';cases ho';exact⟨_,es',ep',hL,r'⟩) hok I.bare
theorem Inv.call(I:Inv X pins σ H s)(u:Un (cn X.stack) ch H H' s.heap h')(hok:HOk X.prog X.w H' h')(hg:AllBare g')
  (hch:∀b∈ch,(b∈X.ex\/X.s₀.heap.objs.size<=b)/\b≠X.env.locals/\(∀x c,X.env.cells.lookup x=some c->c≠b)/\∀p∈X.pn++pins,p.1≠b):
  Inv X pins σ H' {s with heap:=h',gens:=g',drawn:=d',toks:=t'}:=by
 obtain⟨m,⟨o,es,ep,ho,r⟩,_⟩:=id I.loc;obtain⟨sl,hL⟩:=u.any ho I.free λz=>(hch _ z).2.1 rfl;exact I.step (ch:=ch) hch (λb o hL hb hc e n=>u.keep b o e n (λz=>(qr.mp (I.stkSub b z)).elim hL hb) hc) (λb o _ _ hc e n=>u.any e n hc) (λb o hc e n=>u.free b o e n hc) (λb o hc e=>u.there b o e hc) u.tups u.frzs u.tbls (λm' hm=>by
  obtain⟨o',es',ep',ho',r'⟩:=hm;rw[ho]at ho';cases ho';exact⟨_,es',ep',hL,r'⟩) hok hg
theorem Inv.turned(I:Inv X pins σ H s)(k:∀b o,b≠it->s.heap.get? b=some o->h'.get? b=some o)(hn:H it=none)(hL:it≠X.env.locals)
  (h1:it∈X.ex\/X.s₀.heap.objs.size<=it) (h2:∀x c,X.env.cells.lookup x=some c->c≠it) (h3:∀p∈X.pn++pins,p.1≠it):Inv X pins σ H {s with heap:=h',toks:=t'}:=by
 have nit:∀b u,H b=some u->b≠it:=λb u e z=>by rw[z,hn]at e;cases e
 refine I.step (g':=s.gens) (d':=s.drawn) (ch:=[it]) (λb hb=> ?_) (λb o _ _ hc e _=>k b o (λz=>hc (by simp[z])) e) (λb o _ _ hc e _=>⟨o.slots,k b o (λz=>hc (by simp[z])) e⟩) (λ_ _ _ _ n=>n)
  (λb o hc e=>⟨o,k b o (λz=>hc (by simp[z])) e⟩) (λ_ _ e=>e) (λ_ _ _ e=>e) (λb ps e=>⟨#[],by rw[e];simp⟩) (λm hm=> ?_) (λb u e=> ?_) I.bare
 ·have e:b=it:=by simpa using hb
  subst e;exact⟨h1,hL,h2,h3⟩
 ·obtain⟨o,es,ep,ho,r⟩:=hm
  exact⟨o,es,ep,k _ o (Ne.symm hL) ho,r⟩
 ·refine(I.hok b u e).stay (λc v hc q=>k c v ?_ q) (λ_ q=>q) λ_ _ q=>q
  rcases hc with z|z
  ·rw[z];exact nit b u e
  ·exact nit c _ z
theorem Inv.tok(I:Inv X pins σ H s)(t:Nat):Inv X pins σ H {s with toks:=t}:=I.un (h':=s.heap) (t':=t) Un.refl I.hok
theorem Inv.kept(I:Inv X pins σ H s)(k:∀b u,s.heap.get? b=some u->h'.get? b=some u):Inv X pins σ H {s with heap:=h',toks:=t'}:=I.un (Un.kept k) (I.hok.kept k)
theorem Inv.laid{a:Addr}(I:Inv X pins σ H s)(k:∀b u,s.heap.get? b=some u->h'.get? b=some u)(hp:s.heap.objs.size<=a)(new:jd0 X.prog X.w (a9 H a o) h' a o):
  Inv X pins σ (a9 H a o) {s with heap:=h',toks:=t'}:=I.un (Un.laid k hp (I.hok.fresh hp)) (I.hok.laid k hp new)
theorem Inv.write(I:Inv X pins σ H s)(mu:xK (H x))(he:e=x\/H e=some (.own x))(k:∀b u,b≠e->s.heap.get? b=some u->h'.get? b=some u)(heo:∃u,h'.get? e=some u)
  (new:jd0 X.prog X.w (a9 H x o) h' x o):Inv X pins σ (a9 H x o) {s with heap:=h',toks:=t'}:=I.un (Un.write mu he k heo) (I.hok.write mu he k heo new)
theorem Inv.weak(I:Inv X pins σ H s)(hl:σ'.length=σ.length)(w:∀(i:Nat) v,σ'[i]?=some (some v)->σ[i]?=some (some v)):Inv X pins σ' H s:=
 ⟨I.ok,I.os,I.bare,I.base,let ⟨m,hn,hl'⟩:=I.loc;⟨m,hn,λi x v e1 e2 e3=>hl' i x v e1 (w i v e2) e3⟩,I.cell,I.free,I.freeC,I.pin,I.hok,hl.trans I.len⟩
theorem Inv.pins_of(I:Inv X pins σ H s)(h:∀p∈pins',s.heap.get? p.1=some p.2/\H p.1=none/\p.1≠X.env.locals/\p.1∉X.fs/\∀v,p.2.data≠ .cell v):Inv X pins' σ H s:=
 ⟨I.ok,I.os,I.bare,I.base,I.loc,I.cell,I.free,I.freeC,λp hp=>(zb.mp hp).elim (λz=>I.pin p (wo _ z)) (h p),I.hok,I.len⟩
theorem GS{N:List Str}(hN:N.Nodup){i j:Nat}(a:N[i]?=some x)(b:N[j]?=some x):i=j:=by
 obtain⟨h1,e1⟩:=qb.mp a;obtain⟨h2,e2⟩:=qb.mp b;exact(List.getElem_inj hN).mp (e1.trans e2.symm)
theorem Je{M:Model}{A:Around}{E:Value->Shared->Prop}{i:Nat}{x:Str}{v:V}{u:Value}{Q:Unit->Shared->Prop}(I:Inv X pins σ H s)(hN:X.N.Nodup)(hi:X.N[i]?=some x)(hx:AF X.env.scope x)(r:RelV v u)
  (h:∀s',Inv X pins (σ.set i (some v)) H s'->(∃a,Heap.SameBut a s.heap s'.heap/\(a=X.env.locals\/X.env.cells.lookup x=some a))->Q () s') (hf:X.fn x=true\/X.env.scope.names.lookup x=some .local:=by first|exact .inl rfl|exact .inr rfl|assumption):wpAny M A (storeName X.env x u) Q E s:=by
 obtain⟨m,hn,hl⟩:=id I.loc;have hcls:(X.env.scope.kind== .class||(X.env.scope.kind== .module&&X.env.locals !=X.env.globals))=false:=by rw[I.ok.kind];rfl
 have hiσ:i<σ.length:=by rw[I.len];exact(qb.mp hi).1
 have cne:=I.cne;have tracked:∀{a:Addr} {h':Heap},(∃o,s.heap.get? a=some o/\H a=none)->Heap.SameBut a s.heap h'->HOk X.prog X.w H h':=fun{a h'} ha hs b ob e=>by
  obtain⟨_,_,hfree⟩:=ha;refine(I.hok b ob e).stay (λc w' hc q=>(hs.2 c ?_).trans q) (λ_ q=>q) λ_ _ q=>q;rintro rfl;rcases hc with rfl|hc
  ·rw[hfree]at e;cases e
  ·rw[hfree]at hc;cases hc
 rcases hx with hk|hk
 ·refine wpAny_storeName_local hk hn (λh' hn' hs=> ?_) hcls
  obtain⟨oL,_,_,hoL,_⟩:=id hn;refine h _ ⟨I.ok,I.os,I.bare,⟨λb o e n hb hx=> ?_,λb o e n hb hx=> ?_,I.base.free,λb o e hx=> ?_,I.base.tups,I.base.frzs,I.base.tbls⟩,⟨_,hn',λj y v' e1 e2 e3=> ?_⟩,λy c e=> ?_,I.free,I.freeC,λp hp=> ?_,tracked ⟨oL,hoL,I.free⟩ hs,by simpa using I.len⟩ ⟨_,hs,.inl rfl⟩
  ·exact(hs.2 b (qv (qf (qh e) I.ok.above))).trans (I.base.keep b o e n hb hx)
  ·obtain⟨sl,e1⟩:=I.base.slot b o e n hb hx
   exact⟨sl,(hs.2 b (qv (qf (qh e) I.ok.above))).trans e1⟩
  ·obtain⟨o',e1⟩:=I.base.there b o e hx
   exact⟨o',(hs.2 b (qv (qf (qh e) I.ok.above))).trans e1⟩
  ·by_cases hj:j=i
   ·subst hj
    rw[hi]at e1;cases e1;rw[qq hiσ]at e2;cases e2;exact⟨u,r,.inl ⟨hk,by simp⟩⟩
   ·rw[qm (Ne.symm hj)]at e2
    obtain⟨u',r',q⟩:=hl j y v' e1 e2 e3;refine⟨u',r',?_⟩;rcases q with⟨k,e⟩|⟨k,c,e,z⟩
    ·refine .inl ⟨k,?_⟩
     have:y≠x:=λe=>hj (GS hN e1 (e▸hi));simp[this,e]
    ·exact .inr ⟨k,c,e,z.sameBut hs (cne y c e)⟩
  ·obtain⟨w',z⟩:=I.cell y c e
   exact⟨w',z.sameBut hs (cne y c e)⟩
  ·obtain⟨e,n,ne,nf,d⟩:=I.pin p hp
   exact⟨(hs.2 p.1 ne).trans e,n,ne,nf,d⟩
 ·have hfn:X.fn x=true:=by
   rcases hf with z|z
   ·exact z
   ·rw[z]at hk;cases hk
  obtain⟨c,hc⟩:=I.ok.has x (.inl hk);obtain⟨w',z⟩:=I.cell x c hc;refine wpAny_storeName_cell I.ok.kind hk hc z (λh' hc' hs=> ?_);obtain⟨oc,hoc,hocd⟩:=id z;refine h {s with heap:=h'} ⟨I.ok,I.os,I.bare,⟨λb o e n hb hx=> ?_,λb o e n hb hx=> ?_,I.base.free,λb o e hx=> ?_,I.base.tups,I.base.frzs,I.base.tbls⟩,⟨m,hn.sameBut hs (Ne.symm (cne x c hc)),λj y v' e1 e2 e3=> ?_⟩,λy c' e=> ?_,I.free,I.freeC,λp hp=> ?_,tracked ⟨oc,hoc,I.freeC x c hc⟩ hs,by simpa using I.len⟩ ⟨c,hs,.inr hc⟩
  ·exact(hs.2 b (qv (qf (qh e) (I.ok.cab x c hfn hc)))).trans (I.base.keep b o e n hb hx)
  ·obtain⟨sl,e1⟩:=I.base.slot b o e n hb hx
   exact⟨sl,(hs.2 b (qv (qf (qh e) (I.ok.cab x c hfn hc)))).trans e1⟩
  ·obtain⟨o',e1⟩:=I.base.there b o e hx
   exact⟨o',(hs.2 b (qv (qf (qh e) (I.ok.cab x c hfn hc)))).trans e1⟩
  ·by_cases hj:j=i
   ·subst hj
    rw[hi]at e1;cases e1;rw[qq hiσ]at e2;cases e2;exact⟨u,r,.inr ⟨.inl hk,c,hc,hc'⟩⟩
   ·rw[qm (Ne.symm hj)]at e2
    obtain⟨u',r',q⟩:=hl j y v' e1 e2 e3;refine⟨u',r',?_⟩;rcases q with q|⟨k,c',e,z'⟩
    ·exact .inl q
    ·refine .inr ⟨k,c',e,z'.sameBut hs ?_⟩
     rintro rfl;exact hj (GS hN e1 (I.ok.inj _ _ _ e hc▸hi))
  ·by_cases hcc:c'=c
   ·subst hcc;exact⟨_,hc'⟩
   ·obtain⟨w2,z2⟩:=I.cell y c' e
    exact⟨w2,z2.sameBut hs hcc⟩
  ·obtain⟨e,n,ne,nf,d⟩:=I.pin p hp
   refine⟨(hs.2 p.1 ?_).trans e,n,ne,nf,d⟩;intro q;rw[q,hoc]at e;have q':oc=p.2:=Option.some.inj e;exact d w' (by rw[<-q'];exact hocd)
theorem EL{M:Model}{A:Around}{E:Value->Shared->Prop}{i:Nat}{x:Str}{v:V}{u:Value}{Q:Unit->Shared->Prop}(I:Inv X pins σ H s)(hN:X.N.Nodup)(hi:X.N[i]?=some x)(hx:AF X.env.scope x)(r:RelV v u)
  (h:∀s',Inv X pins (σ.set i (some v)) H s'->Q () s') (hf:X.fn x=true\/X.env.scope.names.lookup x=some .local:=by first|exact .inl rfl|exact .inr rfl|assumption):wpAny M A (storeName X.env x u) Q E s:=
 Je I hN hi hx r (λs' I' _=>h s' I') hf
theorem Inv.call'(I:Inv X pins σ H s)(ho:s'.os=s.os)(u:Un (cn X.stack) ch H H' s.heap s'.heap)(hok:HOk X.prog X.w H' s'.heap)(hg:AllBare s'.gens)
  (hch:∀b∈ch,(b∈X.ex\/X.s₀.heap.objs.size<=b)/\b≠X.env.locals/\(∀x c,X.env.cells.lookup x=some c->c≠b)/\∀p∈X.pn++pins,p.1≠b):Inv X pins σ H' s':=by
 obtain⟨h',g',d',t',o'⟩:=s';have e:o'=s.os:=ho;subst e;exact I.call (g':=g') (t':=t') (d':=d') u hok hg hch
end
abbrev XK:=Value->Option Addr->Hp->Prop
noncomputable abbrev St:=List (Option V)
abbrev VK:=V->Hp->Prop
abbrev TE:=St->Hp->VK->Prop
abbrev TT:=St->Hp->(Bool->Hp->Prop)->Prop
abbrev TA:=St->Hp->(List V->Hp->Prop)->Prop
structure Ends where
 nx:St->Hp->Prop
 rt:VK
 bk:St->Hp->Prop:=λ_ _=>False
 ct:St->Hp->Prop:=λ_ _=>False
abbrev TS:=Ends->St->Hp->Prop
def EP(X:Cx)(pins:List (Addr×Obj))(σ:St)(Q:VK)(u:Value)(s':Shared):Prop:=∃v H',Inv X pins σ H' s'/\RelV v u/\Q v H'
def TP(X:Cx)(pins:List (Addr×Obj))(σ:St)(Q:Bool->Hp->Prop)(b:Bool)(s':Shared):Prop:=∃H',Inv X pins σ H' s'/\Q b H'
def AP(X:Cx)(pins:List (Addr×Obj))(σ:St)(Q:List V->Hp->Prop)(us:List Value)(s':Shared):Prop:=∃vs H',Inv X pins σ H' s'/\Vals vs us/\Q vs H'
def SP(X:Cx)(pins:List (Addr×Obj))(D:Ends)(f:Flow)(s':Shared):Prop:=
 match f with
 | .next=>∃σ' H',Inv X pins σ' H' s'/\D.nx σ' H'
 | .brk=>∃σ' H',Inv X pins σ' H' s'/\D.bk σ' H'
 | .cont=>∃σ' H',Inv X pins σ' H' s'/\D.ct σ' H'
 | .ret u=>∃v σ' H',Inv X pins σ' H' s'/\RelV v u/\D.rt v H'
def PE(X:Cx)(e:Expr)(t:TE):Prop:=
 ∀(pins:List (Addr×Obj)) (s:Shared) (σ:St) (H:Hp) (Q:VK),Inv X pins σ H s->t σ H Q->wpAny (model X.prog X.w) X.A (eval e X.env) (EP X pins σ Q) X.xe s
def PT(X:Cx)(e:Expr)(t:TT):Prop:=
 ∀(pins:List (Addr×Obj)) (s:Shared) (σ:St) (H:Hp) (Q:Bool->Hp->Prop),Inv X pins σ H s->t σ H Q->wpAny (model X.prog X.w) X.A (isTrue e X.env (eval e X.env)) (TP X pins σ Q) X.xe s
def PW(X:Cx)(e:Expr)(t:TT):Prop:=
 ∀(whole:Sem Value) (pins:List (Addr×Obj)) (s:Shared) (σ:St) (H:Hp) (Q:Bool->Hp->Prop),Inv X pins σ H s->t σ H Q->wpAny (model X.prog X.w) X.A (isTrue e X.env whole) (TP X pins σ Q) X.xe s
theorem PW.pt(h:PW X e t):PT X e t:=h _
def PA(X:Cx)(es:List Expr)(t:TA):Prop:=
 ∀(pos:Pos) (pins:List (Addr×Obj)) (s:Shared) (σ:St) (H:Hp) (Q:List V->Hp->Prop),Inv X pins σ H s->t σ H Q->wpAny (model X.prog X.w) X.A (spliced (backTo pos (starEach es X.env))) (AP X pins σ Q) X.xe s
def PS(X:Cx)(st:Stmt)(t:TS):Prop:=
 ∀(pins:List (Addr×Obj)) (s:Shared) (σ:St) (H:Hp) (D:Ends),Inv X pins σ H s->t D σ H->wpAny (model X.prog X.w) X.A (exec st X.env) (SP X pins D) X.xe s
def PSs(X:Cx)(st:List Stmt)(t:TS):Prop:=
 ∀(pins:List (Addr×Obj)) (s:Shared) (σ:St) (H:Hp) (D:Ends),Inv X pins σ H s->t D σ H->wpAny (model X.prog X.w) X.A (execs st X.env) (SP X pins D) X.xe s
theorem bE{α:Type}{t:Sem α}{Q Q':α->Shared->Prop}{E:Value->Shared->Prop}(h:wpAny M A t Q E s)(hQ:∀a s,Q a s->Q' a s):wpAny M A t Q' E s:=wpAny_mono h hQ λ_ _ x=>x
section
variable {X : Cx}
noncomputable def sP(i:Nat):TE:=λσ H Q=>∃v,σ[i]?=some (some v)/\Q v H
noncomputable def tC(v:V):TE:=λ_ H Q=>Q v H
theorem su{i:Nat}{x:Str}{pos:Pos}(hN:X.N[i]?=some x)(hv:GA X.env.scope x)(hd:(x==("__debug__":Str))=false:=by decide)(hcd:(x==("__classdict__":Str))=false:=by decide):PE X (.Name x pos) (sP i):=by
 intro pins s σ H Q I h;obtain⟨v,e,h⟩:=h;obtain⟨m,hn,hl⟩:=I.loc;obtain⟨u,r,l⟩:=hl i x v hN e hv;have fin:EP X pins σ Q u s:=⟨v,H,I,r,h⟩;rcases l with⟨hk,hm⟩|⟨hk,c,hc,hcell⟩
 ·exact wpAny_Name (wpAny_loadName_local I.ok.kind hk hn hm fin) hd
 ·rcases hk with hk|hk
  ·exact wpAny_Name (wpAny_loadName_cell I.ok.kind hk hc hcell fin) hd
  ·exact wpAny_Name (wpAny_loadName_free I.ok.kind hk hc hcell fin hcd) hd
theorem aC{i j pos}:PE X (.Constant (.int i) j pos) (tC (.int i)):=λ_ _ _ H _ I h=>wpAny_Constant_int ⟨.int i,H,I.tok _,⟨_,rfl⟩,h⟩
theorem fh{b j pos}:PE X (.Constant (.bool b) j pos) (tC (.bl b)):=λ_ _ _ H _ I h=>Constant_bool ⟨.bl b,H,I,rfl,h⟩
theorem CZ{j pos}:PE X (.Constant .none j pos) (tC .non):=λ_ _ _ H _ I h=>Constant_none ⟨.non,H,I,rfl,h⟩
theorem az{x j pos}:PE X (.Constant (.str x) j pos) (tC (.str x)):=λ_ _ _ H _ I h=>Calls.Constant_str ⟨.str x,H,I.tok _,⟨_,rfl⟩,h⟩
def Gl(X:Cx)(x:Str):Prop:=X.env.kindOf x=some .globalImplicit
theorem u5{E:Value->Shared->Prop}{pins:List (Addr×Obj)}{s:Shared}{σ:St}{H:Hp}{x:Str}{u:Value}{pos:Pos}{Q:Value->Shared->Prop}(I:Inv X pins σ H s)(hg:Gl X x)(hm:X.mg x=some u)(h:Q u s)
  (hd:(x==("__debug__":Str))=false:=by decide):wpAny (model X.prog X.w) X.A (eval (.Name x pos) X.env) Q E s:=
 Calls.Name_function_global I.ok.kind hg (Calls.loadGlobal_global (by rw[I.ok.glob];exact I.mod.glob.keeps I.bk) hm h) hd
theorem vc{E:Value->Shared->Prop}{pins:List (Addr×Obj)}{s:Shared}{σ:St}{H:Hp}{x:Str}{u:Value}{pos:Pos}{Q:Value->Shared->Prop}(I:Inv X pins σ H s)(hg:Gl X x)(hm:X.mg x=none)(hv:bootBuiltins x=some u)(h:Q u s)
  (hn:x≠"__name__":=by decide) (hd:(x==("__debug__":Str))=false:=by decide):wpAny (model X.prog X.w) X.A (eval (.Name x pos) X.env) Q E s:=by
 obtain⟨mb,h1,h2⟩:=I.mod.blt;exact Calls.Name_function_global I.ok.kind hg (Calls.loadGlobal_builtin (by rw[I.ok.glob];exact I.mod.glob.keeps I.bk) hm (by rw[I.ok.blt];exact h1.keeps I.bk) ((h2 x hn).trans hv) h) hd
theorem MU{x:Str}{v:V}{u:Value}{pos:Pos}(hg:Gl X x)(hm:X.mg x=some u)(r:RelV v u)(hd:(x==("__debug__":Str))=false:=by decide):PE X (.Name x pos) (tC v):=
 λ_ _ _ H _ I h=>u5 I hg hm ⟨v,H,I,r,h⟩ hd
theorem OQ{x:Str}{v:V}{u:Value}{pos:Pos}(hg:Gl X x)(hm:X.mg x=none)(hv:bootBuiltins x=some u)(r:RelV v u)(hn:x≠"__name__":=by decide)(hd:(x==("__debug__":Str))=false:=by decide):PE X (.Name x pos) (tC v):=
 λ_ _ _ H _ I h=>vc I hg hm hv ⟨v,H,I,r,h⟩ hn hd
variable {a b : Expr} {ta tb : TE} {pos : Pos}
noncomputable def tB(t:TE):TT:=λσ H Q=>t σ H λx H1=>∃c,x=.bl c/\Q c H1
variable {tA tB' : TT} {rest : List Expr}
noncomputable def cS(t u:TT):TT:=λσ H Q=>t σ H λc H1=>if c=true then u σ H1 Q else Q false H1
noncomputable def kA(t u:TT):TT:=λσ H Q=>t σ H λc H1=>if c=true then Q true H1 else u σ H1 Q
noncomputable def cX(t:TT):TT:=λσ H Q=>t σ H λc H1=>Q (!c) H1
theorem mr(ha:PT X a tA):PW X (.BoolOp .And [a] pos) tA:=by
 intro wh pins s σ H Q I h;refine isTrue_and (bE (ha pins s σ H Q I h) λc s1 e=> ?_);cases c with
 | true=>exact isTrue_and_nil e
 | false=>exact e
theorem u6(ha:PT X a tA):PW X (.BoolOp .Or [a] pos) tA:=by
 intro wh pins s σ H Q I h;refine isTrue_or (bE (ha pins s σ H Q I h) λc s1 e=> ?_);cases c with
 | false=>exact isTrue_or_nil e
 | true=>exact e
theorem lJ(ha:PT X a tA)(hb:PW X (.BoolOp .And (b::rest) pos) tB'):PW X (.BoolOp .And (a::b::rest) pos) (cS tA tB'):=by
 intro wh pins s σ H Q I h;refine isTrue_and (bE (ha pins s σ H _ I h) λc s1 ⟨H1,I1,q1⟩=> ?_);cases c with
 | true=>exact hb wh pins s1 σ H1 Q I1 q1
 | false=>exact⟨H1,I1,q1⟩
theorem u9(ha:PT X a tA)(hb:PW X (.BoolOp .Or (b::rest) pos) tB'):PW X (.BoolOp .Or (a::b::rest) pos) (kA tA tB'):=by
 intro wh pins s σ H Q I h;refine isTrue_or (bE (ha pins s σ H _ I h) λc s1 ⟨H1,I1,q1⟩=> ?_);cases c with
 | true=>exact⟨H1,I1,q1⟩
 | false=>exact hb wh pins s1 σ H1 Q I1 q1
theorem jK(ha:PT X a tA):PT X (.UnaryOp .Not a pos) (cX tA):=by
 intro pins s σ H Q I h;exact isTrue_not (ha pins s σ H (λc H1=>Q (!c) H1) I h)
noncomputable def oO(ta tb:TE):TE:=λσ H Q=>ta σ H λx H1=>∃c,x=.bl c/\if c=true then tb σ H1 Q else Q (.bl false) H1
noncomputable def vV(ta tb:TE):TE:=λσ H Q=>ta σ H λx H1=>∃c,x=.bl c/\if c=true then Q (.bl true) H1 else tb σ H1 Q
theorem Kj{op}(h:PE X a t):PE X (.BoolOp op [a] pos) t:=λpins s σ H Q I hw=>BoolOp_one (h pins s σ H Q I hw)
theorem sR(ha:PE X a ta)(hb:PE X (.BoolOp .And (b::rest) pos) tb):PE X (.BoolOp .And (a::b::rest) pos) (oO ta tb):=by
 intro pins s σ H Q I h;refine BoolOp_and (bE (ha pins s σ H _ I h) λv s1 ⟨x,H1,I1,r1,q1⟩=> ?_);obtain⟨c,rfl,q1⟩:=q1;cases r1;refine wpAny_truthy_bool ?_;cases c with
 | true=>exact hb pins s1 σ H1 Q I1 q1
 | false=>exact⟨.bl false,H1,I1,rfl,q1⟩
theorem yD(ha:PE X a ta)(hb:PE X (.BoolOp .Or (b::rest) pos) tb):PE X (.BoolOp .Or (a::b::rest) pos) (vV ta tb):=by
 intro pins s σ H Q I h;refine BoolOp_or (bE (ha pins s σ H _ I h) λv s1 ⟨x,H1,I1,r1,q1⟩=> ?_);obtain⟨c,rfl,q1⟩:=q1;cases r1;refine wpAny_truthy_bool ?_;cases c with
 | false=>exact hb pins s1 σ H1 Q I1 q1
 | true=>exact⟨.bl true,H1,I1,rfl,q1⟩
noncomputable def Kt(t:TT)(ta tb:TE):TE:=λσ H Q=>t σ H λc H1=>if c=true then ta σ H1 Q else tb σ H1 Q
theorem MR(hc:PT X c tA)(ha:PE X a ta)(hb:PE X b tb):PE X (.IfExp c a b pos) (Kt tA ta tb):=by
 intro pins s σ H Q I h;refine wpAny_IfExp (bE (hc pins s σ H _ I h) λd s1 ⟨H1,I1,q1⟩=> ?_);cases d with
 | true=>exact ha pins s1 σ H1 Q I1 q1
 | false=>exact hb pins s1 σ H1 Q I1 q1
end
def SqL(K:W.Frag)(H:Hp)(a:Addr)(xs:List V):Prop:=
 Rd H a (.lst xs)\/
  ∃(o:Obj) (its:Array Value) (n:Nat),K.lookup a=some o/\o.cls=.type "list"/\o.dict=none/\o.data=.seq its n/\its.size<=sizeLine/\Vals xs its.toList
def SqT(K:W.Frag)(H:Hp)(a:Addr)(xs:List V):Prop:=
 Rd H a (.tup xs)\/
  ∃(o:Obj) (its:Array Value) (n:Nat),K.lookup a=some o/\o.cls=.type "tuple"/\o.data=.seq its n/\its.size<=sizeLine/\Vals xs its.toList
noncomputable def GD:Value->Option V
 | .none=>some .non
 | .bool b=>some (.bl b)
 | .int i _=>some (.int i)
 | .str x _=>some (.str x)
 | .bytes b _=>some (.byt b)
 | .float b _=>some (.flt b)
 | .ref a=>some (.ref a)
 | .type n=>some (.ty n)
 | _=>none
theorem RelV.abs(r:RelV x u):GD u=some x:=by
 cases x with
 | non=>cases r;rfl
 | bl _=>cases r;rfl
 | int _=>obtain⟨t,rfl⟩:=r;rfl
 | str _=>obtain⟨t,rfl⟩:=r;rfl
 | byt _=>obtain⟨t,rfl⟩:=r;rfl
 | flt _=>obtain⟨t,rfl⟩:=r;rfl
 | ref _=>cases r;rfl
 | ty _=>cases r;rfl
theorem RelV.inj(r:RelV x u)(q:RelV y u):x=y:=Option.some.inj (r.abs.symm.trans q.abs)
theorem Vals.inj:∀{xs ys:List V} {us:List Value},Vals xs us->Vals ys us->xs=ys
 | _,_,_,.nil,.nil=>rfl
 | _,_,_,.cons r t,.cons r' t'=>by rw[r.inj r',Vals.inj t t']
section
variable {X : Cx} {pins : List (Addr × Obj)} {σ : St} {H : Hp} {s : Shared} {a : Addr} {xs ys : List V}
theorem SqL.of{K:W.Frag}(h:H a=some (.lst xs)):SqL K H a xs:=.inl (.inl h)
theorem SqT.of{K:W.Frag}(h:H a=some (.tup xs)):SqT K H a xs:=.inl (.inl h)
theorem Inv.list(I:Inv X pins σ H s)(h:SqL X.K H a xs):∃its:List Value,Vals xs its/\PlainL s.heap a its.toArray/\xs.length<=sizeLine:=by
 rcases h with h|⟨o,its,n,hk,hc,hd,hs,hz,r⟩
 ·obtain⟨z,its,n,r,e⟩:=h.ok I.hok
  exact⟨its,r,⟨_,n,e,rfl,rfl,rfl⟩,z⟩
 ·refine⟨its.toList,r,⟨o,n,I.kIn a o hk,hc,hd,by simpa using hs⟩,?_⟩
  have e:=r.length;simp only[ky]at e;omega
theorem Inv.tuple(I:Inv X pins σ H s)(h:SqT X.K H a xs):∃its:List Value,Vals xs its/\IsTup s.heap a its.toArray/\xs.length<=sizeLine:=by
 rcases h with h|⟨o,its,n,hk,hc,hs,hz,r⟩
 ·obtain⟨z,its,r,p⟩:=h.ok I.hok
  exact⟨its,r,p,z⟩
 ·refine⟨its.toList,r,⟨o,I.kIn a o hk,hc,n,by simpa using hs⟩,?_⟩
  have e:=r.length;simp only[ky]at e;omega
theorem Inv.list_inj(I:Inv X pins σ H s)(h:SqL X.K H a xs)(h':SqL X.K H a ys):xs=ys:=by
 obtain⟨its,r,⟨o,n,e,_,_,d⟩,_⟩:=I.list h;obtain⟨its',r',⟨o',n',e',_,_,d'⟩,_⟩:=I.list h';rw[e]at e';cases e';rw[d]at d';injection d' with d1 _;have:its=its':=by simpa using congrArg Array.toList d1
 subst this;exact r.inj r'
theorem Inv.tuple_inj(I:Inv X pins σ H s)(h:SqT X.K H a xs)(h':SqT X.K H a ys):xs=ys:=by
 obtain⟨its,r,⟨o,e,_,n,d⟩,_⟩:=I.tuple h;obtain⟨its',r',⟨o',e',_,n',d'⟩,_⟩:=I.tuple h';rw[e]at e';cases e';rw[d]at d';injection d' with d1 _;have:its=its':=by simpa using congrArg Array.toList d1
 subst this;exact r.inj r'
end
noncomputable abbrev Cx.wish(X:Cx)(E:Value->Shared->Prop):Cx:={X with xe:=E}
noncomputable abbrev Cx.nox(X:Cx):Cx:=X.wish λ_ _=>False
theorem Cx.Ok.wish{X:Cx}(ok:X.Ok)(E:Value->Shared->Prop):(X.wish E).Ok:=
 ⟨ok.mod,ok.kind,ok.glob,ok.blt,ok.above,ok.inj,ok.has,ok.cab,ok.hd,ok.frames,ok.stk,ok.exf,ok.bs,ok.bsz,ok.noex,ok.exfs,ok.funs,ok.frf⟩
theorem Cx.Ok.unwish{X:Cx}{E:Value->Shared->Prop}(ok:(X.wish E).Ok):X.Ok:=
 ⟨ok.mod,ok.kind,ok.glob,ok.blt,ok.above,ok.inj,ok.has,ok.cab,ok.hd,ok.frames,ok.stk,ok.exf,ok.bs,ok.bsz,ok.noex,ok.exfs,ok.funs,ok.frf⟩
section
variable {X : Cx} {pins : List (Addr × Obj)} {σ : St} {H : Hp} {s : Shared} {E : Value -> Shared -> Prop}
theorem Inv.wish(I:Inv X pins σ H s)(E:Value->Shared->Prop):Inv (X.wish E) pins σ H s:=⟨I.ok.wish E,I.os,I.bare,I.base,I.loc,I.cell,I.free,I.freeC,I.pin,I.hok,I.len⟩
theorem Inv.unwish(I:Inv (X.wish E) pins σ H s):Inv X pins σ H s:=⟨I.ok.unwish,I.os,I.bare,I.base,I.loc,I.cell,I.free,I.freeC,I.pin,I.hok,I.len⟩
end
section
variable {X : Cx} {st : Stmt} {rest : List Stmt} {t u : TS} {e : Expr} {te : TE} {pos : Pos}
noncomputable def Eg:TS:=λD σ H=>D.nx σ H
noncomputable def vH(t u:TS):TS:=λD σ H=>t {D with nx:=u D} σ H
theorem bU:PSs X [] Eg:=λ_ _ σ H _ I h=>wpAny_execs_nil ⟨σ,H,I,h⟩
theorem aJ(h1:PS X st t)(h2:PSs X rest u):PSs X (st::rest) (vH t u):=by
 intro pins s σ H D I h;refine wpAny_execs_cons (bE (h1 pins s σ H {D with nx:=u D} I h) λf s1 q=> ?_);cases f with
 | next=>
  obtain⟨σ',H',I',q⟩:=q;exact h2 pins s1 σ' H' D I' q
 | ret v=>exact q
 | brk=>exact q
 | cont=>exact q
theorem aK(h1:PS X st t):PSs X [st] t:=by
 intro pins s σ H D I h;refine wpAny_execs_cons (bE (h1 pins s σ H D I h) λf s1 q=> ?_);cases f with
 | next=>exact wpAny_execs_nil q
 | ret v=>exact q
 | brk=>exact q
 | cont=>exact q
theorem Inv.quiet{σ:St}(I:Inv X pins σ H s):interactive X.env=false:=by simp[interactive,I.ok.kind]
noncomputable def G9(te:TE):TS:=λD σ H=>te σ H λ_ H1=>D.nx σ H1
theorem ly(he:PE X e te)(hs:swapsWith e none pos.line X.env=pure false:=by rfl):PS X (.Expr e pos) (G9 te):=by
 intro pins s σ H D I h;exact wpAny_Expr_any (bE (he pins s σ H _ I h) λv s1 ⟨x,H1,I1,r1,q1⟩=>⟨σ,H1,I1,q1⟩) I.quiet hs
noncomputable def BC(te:TE):TS:=λD σ H=>te σ H D.rt
theorem bq(he:PE X e te):PS X (.Return (some e) pos) (BC te):=by
 intro pins s σ H D I h;exact wpAny_Return_some (bE (he pins s σ H _ I h) λv s1 ⟨x,H1,I1,r1,q1⟩=>⟨x,σ,H1,I1,r1,q1⟩)
noncomputable def A4(c:TT)(t u:TS):TS:=λD σ H=>c σ H λb H1=>if b=true then t D σ H1 else u D σ H1
theorem bN(hc:PT X c tc)(ha:PSs X a t)(hb:PSs X b u):PS X (.If c a b pos) (A4 tc t u):=by
 intro pins s σ H D I h;refine wpAny_If (bE (hc pins s σ H _ I h) λd s1 ⟨H1,I1,q1⟩=> ?_);cases d with
 | true=>exact ha pins s1 σ H1 D I1 q1
 | false=>exact hb pins s1 σ H1 D I1 q1
end
abbrev TG:=V->St->Hp->(St->Hp->Prop)->Prop
abbrev jA:=List V->St->Hp->(St->Hp->Prop)->Prop
def PG(X:Cx)(target:Expr)(t:TG):Prop:=
 ∀(pins:List (Addr×Obj)) (s:Shared) (σ:St) (H:Hp) (v:V) (u:Value) (Q:St->Hp->Prop),Inv X pins σ H s->RelV v u->t v σ H Q->
  wpAny (model X.prog X.w) X.A (assign target X.env u) (λ_ s'=>∃σ' H',Inv X pins σ' H' s'/\Q σ' H') X.xe s
def AH(X:Cx)(ts:List Expr)(t:jA):Prop:=
 ∀(pins:List (Addr×Obj)) (s:Shared) (σ:St) (H:Hp) (vs:List V) (us:List Value) (Q:St->Hp->Prop),Inv X pins σ H s->Vals vs us->t vs σ H Q->
  wpAny (model X.prog X.w) X.A (assignInOrder ((assignEach ts X.env).map (·.2)) us) (λ_ s'=>∃σ' H',Inv X pins σ' H' s'/\Q σ' H') X.xe s
section
variable {X : Cx} {pos : Pos}
noncomputable def aD(i:Nat):TG:=λv σ H Q=>Q (σ.set i (some v)) H
theorem dj{i:Nat}{x:Str}(hN:X.N.Nodup)(hi:X.N[i]?=some x)(hx:AF X.env.scope x)(hf:X.fn x=true\/X.env.scope.names.lookup x=some .local:=by first|exact .inl rfl|exact .inr rfl|assumption):PG X (.Name x pos) (aD i):=by
 intro pins s σ H v u Q I r h;exact wpAny_assign_Name (EL I hN hi hx r (λs' I'=>⟨_,H,I',h⟩) hf)
noncomputable def pF:jA:=λvs σ H Q=>vs=[]/\Q σ H
noncomputable def Fi(t:TG)(u:jA):jA:=λvs σ H Q=>∃v r,vs=v::r/\t v σ H λσ' H'=>u r σ' H' Q
theorem ED:AH X [] pF:=by
 intro pins s σ H vs us Q I r h;obtain⟨e,h⟩:=h;subst e;cases r;exact assignInOrder_nil ⟨σ,H,I,h⟩
theorem uT{e:Expr}{es:List Expr}{t:TG}{u:jA}(h1:PG X e t)(h2:AH X es u)
  (hs:(assignEach (e::es) X.env).map (·.2)=assign e X.env::(assignEach es X.env).map (·.2):=by rfl):AH X (e::es) (Fi t u):=by
 intro pins s σ H vs us Q I r h;obtain⟨v,vr,e1,h⟩:=h;subst e1;cases r with
 | cons r rr=>
  rw[hs];refine assignInOrder_cons (bE (h1 pins s σ H _ _ _ I r h) λ_ s1 ⟨σ1,H1,I1,q1⟩=> ?_);exact h2 pins s1 σ1 H1 _ _ Q I1 rr q1
noncomputable def dY(K:W.Frag)(n:Nat)(t:jA):TG:=λv σ H Q=>∃a xs,v=.ref a/\SqT K H a xs/\xs.length=n/\t xs σ H Q
theorem pA{es:List Expr}{k:Nat}{t:jA}{n:Nat}(hc:X.calm=true)(h:AH X es t)
  (hn:(assignEach es X.env).length=n:=by rfl) (hst:(assignEach es X.env).findIdx? (·.1)=none:=by rfl):PG X (.Tuple es k pos) (dY X.K n t):=by
 intro pins s σ H v u Q I r hw;obtain⟨a,xs,e1,hq,hl,hw⟩:=hw;subst e1;cases r;obtain⟨its,rv,ht,hz⟩:=I.tuple hq;refine assign_Tuple_tuple (I.ok.hd hc) ht (by simp[hn,<-hl,rv.length]) hst λh' hx=> ?_;have I1:Inv X pins σ H {s with heap:=h'}:=I.kept (t':=s.toks) λb o e=>hx b o (qv (qh e)) e;exact h pins _ σ H xs _ Q I1 (by simpa using rv) hw
noncomputable def sx(te:TE)(g:TG):TS:=λD σ H=>te σ H λx H1=>g x σ H1 D.nx
theorem ug{tg e:Expr}{te:TE}{g:TG}(he:PE X e te)(hg:PG X tg g)(hs:swapsWithSole [tg] e pos.line X.env=pure false:=by rfl)(hw:swappedStores [tg] e X.env=pure none:=by rfl)
  (h1:(assignEach [tg] X.env).map (·.2)=[assign tg X.env]:=by rfl):PS X (.Assign [tg] e pos) (sx te g):=by
 intro pins s σ H D I h;refine wpAny_Assign_stores (bE (he pins s σ H _ I h) λv s1 ⟨x,H1,I1,r1,q1⟩=> ?_) hs hw;rw[h1];exact bE (hg pins s1 σ H1 x v _ I1 r1 q1) λ_ s2 q=>q
theorem bK{i:Nat}{x:Str}{e:Expr}{te:TE}{pos':Pos}(hN:X.N.Nodup)(hi:X.N[i]?=some x)(hx:AF X.env.scope x)(he:PE X e te)(hs:swapsWith e (some (.Name x pos')) pos.line X.env=pure false:=by rfl)(hf:X.fn x=true\/X.env.scope.names.lookup x=some .local:=by first|exact .inl rfl|exact .inr rfl|assumption):
  PS X (.Assign [.Name x pos'] e pos) (sx te (aD i)):=by
 intro pins s σ H D I h;refine wpAny_Assign_Name (bE (he pins s σ H _ I h) λv s1 ⟨y,H1,I1,r1,q1⟩=> ?_) hs;exact EL I1 hN hi hx r1 (λs2 I2=>⟨_,H1,I2,q1⟩) hf
end
section
variable {X : Cx} {pos : Pos}
noncomputable def KI(c:TT)(tb:TS):TS:=λD σ H=>∃W:Nat->St->Hp->Prop,(∃m,W m σ H)/\∀m σ H,W m σ H->
 c σ H λb H1=>if b=true then ∃N:St->Hp->Prop,(∀σ' H',N σ' H'->∃m',m'<m/\W m' σ' H')/\tb {D with nx:=N,ct:=N,bk:=D.nx} σ H1 else D.nx σ H1
theorem OS(hp:PassesOwn (model X.prog X.w) X.A X.env X.xe)(hc:PT X c tc)(hb:PSs X body tb):PS X (.While c body [] pos) (KI tc tb):=by
 intro pins s σ H D I h;obtain⟨W,⟨m0,w0⟩,turn⟩:=h;refine wpAny_While (codeAny_whileLoop (λn s'=>∃σ' H',Inv X pins σ' H' s'/\W n σ' H') ?_ m0 ⟨σ,H,I,w0⟩);rintro n s1 ⟨σ1,H1,I1,w1⟩;refine wpAny_passesOwn hp (bE (hc pins s1 σ1 H1 _ I1 (turn n σ1 H1 w1)) λb s2 ⟨H2,I2,q2⟩=> ?_);cases b with
 | true=>
  obtain⟨N,hN,q2⟩:=q2;rw[if_pos rfl];refine wpAny_passesOwn hp (bE (hb pins s2 σ1 H2 _ I2 q2) λf s3 q3=> ?_);cases f with
  | next=>
   obtain⟨σ3,H3,I3,n3⟩:=q3;obtain⟨m',hm,w3⟩:=hN σ3 H3 n3;exact⟨m',hm,σ3,H3,I3,w3⟩
  | cont=>
   obtain⟨σ3,H3,I3,n3⟩:=q3;obtain⟨m',hm,w3⟩:=hN σ3 H3 n3;exact⟨m',hm,σ3,H3,I3,w3⟩
  | brk=>exact q3
  | ret v=>exact q3
 | false=>
  rw[if_neg ql];exact wpAny_execs_nil ⟨σ1,H2,I2,q2⟩
end
structure It where
 go:Nat->Hp->Prop
 yld:Nat->Hp->V->Hp->Prop
 stop:Nat->Hp->Prop
def eB(X:Cx)(pins:List (Addr×Obj))(H:Hp)(b:Addr):Prop:=
 H b=none/\b≠X.env.locals/\b∉X.fs/\(b∈X.ex\/X.s₀.heap.objs.size<=b)/\(∀x c,X.env.cells.lookup x=some c->c≠b)/\∀p∈X.pn++pins,p.1≠b
theorem Inv.fpOk{σ:St}{b:Addr}(I:Inv X pins σ H s)(hb:s.heap.objs.size<=b)(hn:H' b=none):eB X pins H' b:=by
 refine⟨hn,wq (qf I.lt hb),I.nofs hb,.inr (z9 I.sz hb),λx c e z=> ?_,λp hp z=> ?_⟩
 ·obtain⟨v,q⟩:=I.cell x c e
  exact absurd (qf q.lt (by rw[z];exact hb)) (zw _)
 ·exact absurd (qf (qh (I.pin p hp).1) (by rw[z];exact hb)) (zw _)
structure Turn (P:Program) (w:World) (K:W.Frag) (tg:Expr) (J:It) (fp:List Addr) (it:Addr) (tn:Nat->Heap->Prop):Prop where
 mem:it∈fp
 obj:∀i h,tn i h->∀b∈fp,∃o,h.get? b=some o/\∀v,o.data≠ .cell v
 keep:∀i h h',tn i h->(∀b∈fp,∀o,h.get? b=some o->h'.get? b=some o)->tn i h'
 item:∀(X:Cx),X.prog=P->X.w=w->X.K=K->X.calm=true->∀(i:Nat) (pins:List (Addr×Obj)) (s:Shared) (σ:St) (H:Hp) (E:Value->Shared->Prop),Inv X pins σ H s->(∀b∈fp,eB X pins H b)->tn i s.heap->J.go i H->
  wpAny (model P w) X.A (pyNext (.ref it)) (λr s1=>∃u,r=some u/\
   wpAny (model P w) X.A (letOwnedTupleGo tg (.ref it) u) (λ_ s2=>∃x H',Inv X pins σ H' s2/\RelV x u/\J.yld i H x H'/\tn (i+1) s2.heap/\∀b∈fp,H' b=none) E s1) E s
 done:∀(X:Cx),X.prog=P->X.w=w->X.K=K->X.calm=true->∀(i:Nat) (pins:List (Addr×Obj)) (s:Shared) (σ:St) (H:Hp) (E:Value->Shared->Prop),Inv X pins σ H s->(∀b∈fp,eB X pins H b)->tn i s.heap->J.stop i H->
  wpAny (model P w) X.A (pyNext (.ref it)) (λr s1=>r=none/\Inv X pins σ H s1) E s
 self:∀(A:Around) (i:Nat) (s:Shared) (Q:Value->Shared->Prop) (E:Value->Shared->Prop),tn i s.heap->Q (.ref it) s->wpAny (model P w) A (pyIter (.ref it)) Q E s
abbrev TI:=St->Hp->(It->Hp->Prop)->Prop
def G4(X:Cx)(pins:List (Addr×Obj))(σ:St)(tg:Expr)(R:It->Hp->Prop)(itv:Value)(s2:Shared):Prop:=
 ∃(it:Addr) (fp:List Addr) (tn:Nat->Heap->Prop) (J:It) (H':Hp),itv=.ref it/\Inv X pins σ H' s2/\Turn X.prog X.w X.K tg J fp it tn/\tn 0 s2.heap/\(∀b∈fp,eB X pins H' b)/\R J H'
def PI(X:Cx)(tg iter:Expr)(wi:TI):Prop:=
 ∀(pins:List (Addr×Obj)) (s:Shared) (σ:St) (H:Hp) (R:It->Hp->Prop),Inv X pins σ H s->wi σ H R->
  wpAny (model X.prog X.w) X.A (eval iter X.env) (λv s1=>wpAny (model X.prog X.w) X.A (pyIter v) (G4 X pins σ tg R) X.xe s1) X.xe s
theorem uF{E:Value->Shared->Prop}{Q:Unit->Shared->Prop}(ho:s.heap.get? it=some o)(hc:o.cls=.type n)(hd:o.data=.fields vs)
    (hn:["enumerate","zip","dict_itemiterator","dict_reverseitemiterator","odict_iterator","itertools.zip_longest","itertools.pairwise"].contains n=false) (hQ:Q () s):wpAny M A (letOwnedTupleGo tg (.ref it) u) Q E s:=by
  unfold letOwnedTupleGo;cases tg<;>first
    | exact wpAny_pure hQ
    | (cases u<;>first
        | exact wpAny_pure hQ
        | (refine wpAny_bind (wpAny_load ho ?_)
           rw[hc,hd];show wpAny M A (if(["enumerate","zip","dict_itemiterator","dict_reverseitemiterator","odict_iterator","itertools.zip_longest","itertools.pairwise"].contains n&&vs[0]?==some (rawInt _))=true then _ else _) Q E s;rw[if_neg (by intro h;rw[hn,Bool.false_and]at h;cases h)];exact wpAny_pure hQ))
noncomputable def Fg(K:W.Frag)(a:Addr):It:=
 ⟨λi H=>∃xs x,SqL K H a xs/\xs[i]?=some x,λi H x H'=>H'=H/\∀xs,SqL K H a xs->xs[i]?=some x,λi H=>∃xs,SqL K H a xs/\xs.length<=i⟩
noncomputable def Gy(K:W.Frag)(a:Addr):It:=
 ⟨λi H=>∃xs x,SqT K H a xs/\xs[i]?=some x,λi H x H'=>H'=H/\∀xs,SqT K H a xs->xs[i]?=some x,λi H=>∃xs,SqT K H a xs/\xs.length<=i⟩
noncomputable def Dq(lo:Int)(n:Nat):It:=⟨λi _=>i<n,λi H x H'=>H'=H/\x=.int (lo+i),λi _=>n<=i⟩
theorem P7{K:W.Frag}(a it:Addr):Turn P w K tg (Fg K a) [it] it (λi h=>h.IsListIter it a i)where
 mem:=by simp
 obj:=λi h st b hb=>by
  have e:b=it:=by simpa using hb
  subst e;obtain⟨o,e,c,d⟩:=st;exact⟨o,e,λv z=>by rw[d]at z;cases z⟩
 keep:=λi h h' st k=>st.at λo e=>k it (by simp) o e
 item:=by
  intro X hP hw hK hc i pins s σ H E I hf st hg;subst hP hw hK;obtain⟨xs,x,hq,hx⟩:=hg;obtain⟨its,rv,p,hz⟩:=I.list hq;obtain⟨u,hu,ru⟩:=rv.get hx;obtain⟨f0,f1,f2,f3,f4,f5⟩:=hf it (by simp);refine wpAny_pyNext_list_item st p.isList (x:=u) (by simpa using hu) λh' st' sb=> ?_;have I1:Inv X pins σ H {s with heap:=h'}:=I.turned (t':=s.toks) (λb o hb e=>(sb.2 b hb).trans e) f0 f1 f3 f4 f5;obtain⟨o,e,c,d⟩:=id st';exact⟨u,rfl,uF (s:={s with heap:=h'}) e c d (by decide) ⟨x,H,I1,ru,⟨rfl,λys hy=>by rw[I.list_inj hy hq];exact hx⟩,st',λb hb=>(hf b hb).1⟩⟩
 done:=by
  intro X hP hw hK hc i pins s σ H E I hf st hg;subst hP hw hK;obtain⟨xs,hq,hx⟩:=hg;obtain⟨its,rv,p,hz⟩:=I.list hq;obtain⟨f0,f1,f2,f3,f4,f5⟩:=hf it (by simp);have hl:=rv.length;exact wpAny_pyNext_list_end (I.ok.hd hc) st p.isList (by simp;omega) λh' eb=>⟨rfl,I.turned (t':=s.toks) (λb o hb e=>eb b o hb e) f0 f1 f3 f4 f5⟩
 self:=λ_ _ _ _ _ st h=>wpAny_pyIter_listiter st h
theorem OU{K:W.Frag}(a it:Addr):Turn P w K tg (Gy K a) [it] it (λi h=>h.IsTupleIter it a i)where
 mem:=by simp
 obj:=λi h st b hb=>by
  have e:b=it:=by simpa using hb
  subst e;obtain⟨o,e,c,d⟩:=st;exact⟨o,e,λv z=>by rw[d]at z;cases z⟩
 keep:=λi h h' st k=>st.at λo e=>k it (by simp) o e
 item:=by
  intro X hP hw hK hc i pins s σ H E I hf st hg;subst hP hw hK;obtain⟨xs,x,hq,hx⟩:=hg;obtain⟨its,rv,p,hz⟩:=I.tuple hq;obtain⟨u,hu,ru⟩:=rv.get hx;obtain⟨f0,f1,f2,f3,f4,f5⟩:=hf it (by simp);refine wpAny_pyNext_tuple_item st (show s.heap.IsTuple a its.toArray from p) (x:=u) (by simpa using hu) λh' st' sb=> ?_;have I1:Inv X pins σ H {s with heap:=h'}:=I.turned (t':=s.toks) (λb o hb e=>(sb.2 b hb).trans e) f0 f1 f3 f4 f5;obtain⟨o,e,c,d⟩:=id st';exact⟨u,rfl,uF (s:={s with heap:=h'}) e c d (by decide) ⟨x,H,I1,ru,⟨rfl,λys hy=>by rw[I.tuple_inj hy hq];exact hx⟩,st',λb hb=>(hf b hb).1⟩⟩
 done:=by
  intro X hP hw hK hc i pins s σ H E I hf st hg;subst hP hw hK;obtain⟨xs,hq,hx⟩:=hg;obtain⟨its,rv,p,hz⟩:=I.tuple hq;obtain⟨f0,f1,f2,f3,f4,f5⟩:=hf it (by simp);have hl:=rv.length;exact wpAny_pyNext_tuple_end (I.ok.hd hc) st (show s.heap.IsTuple a its.toArray from p) (by simp;omega) λh' eb=>⟨rfl,I.turned (t':=s.toks) (λb o hb e=>eb b o hb e) f0 f1 f3 f4 f5⟩
 self:=λ_ _ _ _ _ st h=>wpAny_pyIter_tupleiter st h
theorem Pn{K:PySem.W.Frag}(it:Addr)(lo:Int)(n:Nat):Turn P w K tg (Dq lo n) [it] it (λi h=>IsRangeIter h it (lo+(i:Nat)*1) ((n:Int) - (i:Nat)) 1)where
 mem:=by simp
 obj:=λi h st b hb=>by
  have e:b=it:=by simpa using hb
  subst e;exact⟨_,st,λv z=>by
   have z':Data.fields _=Data.cell v:=z;cases z'⟩
 keep:=λi h h' st k=>k it (by simp) _ st
 item:=by
  intro X hP hw hK hc i pins s σ H E I hf st hg;subst hP hw hK;obtain⟨f0,f1,f2,f3,f4,f5⟩:=hf it (by simp);have W:=Walks.range (prog:=X.prog) (w:=X.w) (I.ok.hd hc) it lo 1 n;refine W.item i s _ _ hg st λv h' tk hv st' kk=> ?_;obtain⟨t,rfl⟩:=hv;have I1:Inv X pins σ H {s with heap:=h',toks:=tk}:=I.turned (λb o hb e=>kk b o (by simpa using hb) e) f0 f1 f3 f4 f5;refine⟨_,rfl,uF (s:={s with heap:=h',toks:=tk}) (n:="range_iterator") st' rfl rfl (by decide) ⟨.int (lo+i),H,I1,⟨t,?_⟩,⟨rfl,rfl⟩,st',λb hb=>(hf b hb).1⟩⟩;rw[Int.mul_one]
 done:=by
  intro X hP hw hK hc i pins s σ H E I hf st hg;subst hP hw hK;obtain⟨f0,f1,f2,f3,f4,f5⟩:=hf it (by simp);exact wpAny_pyNext_range_end (I.ok.hd hc) st (by have:n<=i:=hg;omega) λh' eb=>⟨rfl,I.turned (t':=s.toks) (λb o hb e=>eb b o hb e) f0 f1 f3 f4 f5⟩
 self:=λ_ _ _ _ _ st h=>wpAny_pyIter_rangeiter st h
section
variable {X : Cx} {tg : Expr}
theorem Oq{σ:St}{R:It->Hp->Prop}{E:Value->Shared->Prop}{lo hi:Int}(I:Inv X pins σ H s)(h1: -(2^62)<=lo)(h2:lo<2^62)(h3: -(2^62)<=hi)(h4:hi<2^62)
  (q:R (Dq lo (hi - lo).toNat) H):wpAny (model X.prog X.w) X.A (pyIter (.ref s.heap.objs.size)) (G4 X pins σ tg R) E {s with heap:=s.heap.push {cls:=.type "range",data:=.fields #[.int lo t,.int hi u,.int 1 v]},toks:=tk}:=by
 refine wpAny_pyIter_range (IsRange.new ..) (small_one h1 h2 h3 h4) ?_;have I1:Inv X pins σ H {s with heap:=s.heap.push {cls:=.type "range",data:=.fields #[.int lo t,.int hi u,.int 1 v]},toks:=tk}:=I.kept λb o e=>qe _ e;refine⟨(s.heap.push {cls:=.type "range",data:=.fields #[.int lo t,.int hi u,.int 1 v]}).objs.size,[(s.heap.push {cls:=.type "range",data:=.fields #[.int lo t,.int hi u,.int 1 v]}).objs.size],_,_,H,rfl,
  I1.kept (t':=tk) λb o e=>qe _ e,Pn _ lo (hi - lo).toNat,?_,λb hb=> ?_,q⟩
 ·have e1:lo+((0:Nat):Int)*1=lo:=by simp
  have e2:(((hi - lo).toNat:Nat):Int) - ((0:Nat):Int)=Builtin.Range.rangeSize lo hi 1:=by rw[rangeSize_one];split<;>omega
  show IsRangeIter _ _ (lo+((0:Nat):Int)*1) ((((hi - lo).toNat:Nat):Int) - ((0:Nat):Int)) 1;rw[e1,e2];exact qw _ rfl
 ·have e:b=(s.heap.push {cls:=.type "range",data:=.fields #[.int lo t,.int hi u,.int 1 v]}).objs.size:=by simpa using hb
  subst e;exact I1.fpOk (qi _) (I1.hok.fresh (qi _))
noncomputable def oG(ta:TA):TI:=λσ H R=>ta σ H λvs H1=>∃j:Int,vs=[.int j]/\ -(2^62)<=j/\j<2^62/\R (Dq 0 j.toNat) H1
theorem zJ{a:Expr}{ta:TA}{p pos:Pos}(hg:Gl X "range")(hm:X.mg "range"=none)(ha:PA X [a] ta)(hs:starEach [a] X.env=[(false,eval a X.env)]:=by rfl):PI X tg (.Call (.Name "range" p) [a] [] pos) (oG ta):=by
 intro pins s σ H R I h;refine Call_ (vc I hg hm boot_range (PyProof.Rows.callWith_type1 (bE (ha pos pins s σ H _ I h) λus s1 ⟨vs,H1,I1,r1,q1⟩=> ?_) hs rfl));obtain⟨j,e,q1,q2,q⟩:=q1;subst e;cases r1 with
 | cons r rr=>
  cases rr
  obtain⟨t,rfl⟩:=r;exact call_range_1 (Oq I1 (by omega) (by omega) q1 q2 (by simpa using q))
noncomputable def qR(wi:TI)(g:TG)(tb:TS):TS:=λD σ H=>wi σ H λJ H1=>∃W:Nat->Nat->St->Hp->Prop,(∃m,W 0 m σ H1)/\∀i m σ H,W i m σ H->
 (J.stop i H/\D.nx σ H)\/(J.go i H/\∃N:St->Hp->Prop,(∀σ' H',N σ' H'->∃m',m'<m/\W (i+1) m' σ' H')/\∀x H',J.yld i H x H'->g x σ H' λσ2 H2=>tb {D with nx:=N,ct:=N,bk:=D.nx} σ2 H2)
noncomputable def xf(fp:List Addr)(h:Heap):List (Addr×Obj):=fp.filterMap λb=>(h.get? b).map λo=>(b,o)
theorem Dx(hb:b∈fp)(e:h.get? b=some o):(b,o)∈xf fp h:=g8.mpr ⟨b,hb,by rw[e];rfl⟩
theorem LG(hp:p∈xf fp h):p.1∈fp/\h.get? p.1=some p.2:=by
 obtain⟨b,hb,e⟩:=g8.mp hp;cases q:h.get? b with
 | none=>rw[q]at e;cases e
 | some o=>
  rw[q]at e;have e':(b,o)=p:=Option.some.inj e;subst e';exact⟨hb,q⟩
theorem Inv.pinned{σ:St}(I:Inv X pins σ H s)(hf:∀b∈fp,eB X pins H b)(ho:∀b∈fp,∃o,s.heap.get? b=some o/\∀v,o.data≠ .cell v):Inv X (pins++xf fp s.heap) σ H s:=
 I.pins_of λp hp=>(zb.mp hp).elim (λz=>I.pin p (za _ z)) λz=>by
  obtain⟨hb,e⟩:=LG z;obtain⟨f0,f1,f2,_⟩:=hf p.1 hb;obtain⟨o,e',d⟩:=ho p.1 hb;rw[e]at e';cases e';exact⟨e,f0,f1,f2,d⟩
theorem Inv.unpinned{σ:St}(I:Inv X (pins++pl) σ H s):Inv X pins σ H s:=I.pins_of λp hp=>I.pin p (za _ (wo _ hp))
theorem mn{iter:Expr}{body:List Stmt}{wi:TI}{g:TG}{tb:TS}{pos:Pos}(hp:PassesOwn (model X.prog X.w) X.A X.env X.xe)(hc:X.calm=true)(hi:PI X tg iter wi)(hg:PG X tg g)(hb:PSs X body tb)
  (hs:∀x,foldedSetIterable iter X.env x=pure x:=by intro _;rfl):PS X (.For tg iter body [] pos) (qR wi g tb):=by
 intro pins s σ H D I h;refine wpAny_For (bE (hi pins s σ H _ I h) λv s1 h1=>bE h1 λitv s2 h2=> ?_) hs;obtain⟨it,fp,tn,J,H2,e,I2,T,st2,f2,W,⟨m0,w0⟩,turn⟩:=h2;subst e;have stat:∀{H':Hp},(∀b∈fp,H' b=none)->∀b∈fp,eB X pins H' b:=λhn b hb=>⟨hn b hb,(f2 b hb).2⟩;refine codeAny_forLoop_any (λn s'=>∃i σ' H',Inv X pins σ' H' s'/\tn i s'.heap/\(∀b∈fp,H' b=none)/\W i n σ' H') ?_ m0 ⟨0,σ,H2,I2,st2,λb hb=>(f2 b hb).1,w0⟩;rintro n s3 ⟨i,σ3,H3,I3,st3,fr3,w3⟩;rcases turn i n σ3 H3 w3 with⟨stop,qn⟩|⟨go,N,hN,step⟩
 ·refine wpAny_passesOwn hp (bE (T.done X rfl rfl rfl hc i pins s3 σ3 H3 X.xe I3 (stat fr3) st3 stop) λr s4 ⟨hr,I4⟩=> ?_)
  subst hr;exact wpAny_execs_nil ⟨σ3,H3,I4,qn⟩
 ·refine wpAny_passesOwn hp (bE (T.item X rfl rfl rfl hc i pins s3 σ3 H3 X.xe I3 (stat fr3) st3 go) λr s4 ⟨u,hr,h4⟩=> ?_)
  subst hr;refine wpAny_passesOwn hp (bE h4 λ_ s5 ⟨x,H5,I5,r5,y5,st5,fr5⟩=> ?_);have I5':=I5.pinned (stat fr5) (T.obj _ _ st5);refine wpAny_passesOwn hp (bE (hg _ s5 σ3 H5 x u _ I5' r5 (step x H5 y5)) λ_ s6 ⟨σ6,H6,I6,q6⟩=> ?_);refine wpAny_passesOwn hp (bE (hb _ s6 σ6 H6 _ I6 q6) λf s7 q7=> ?_);have again:∀{σ7:St} {H7:Hp},Inv X (pins++xf fp s5.heap) σ7 H7 s7->N σ7 H7->∃m,m<n/\∃i σ' H',Inv X pins σ' H' s7/\tn i s7.heap/\(∀b∈fp,H' b=none)/\W i m σ' H':=fun{σ7 H7} I7 n7=>by
   obtain⟨m',hm,w7⟩:=hN σ7 H7 n7;refine⟨m',hm,i+1,σ7,H7,I7.unpinned,T.keep _ _ _ st5 λb hb o e=>(I7.pin (b,o) (za _ (za _ (Dx hb e)))).1,λb hb=> ?_,w7⟩;obtain⟨o,e,d⟩:=T.obj _ _ st5 b hb;exact(I7.pin (b,o) (za _ (za _ (Dx hb e)))).2.1
  cases f with
  | next=>obtain⟨σ7,H7,I7,n7⟩:=q7;exact again I7 n7
  | cont=>obtain⟨σ7,H7,I7,n7⟩:=q7;exact again I7 n7
  | brk=>obtain⟨σ7,H7,I7,q7⟩:=q7;exact⟨σ7,H7,I7.unpinned,q7⟩
  | ret v=>obtain⟨x7,σ7,H7,I7,r7,q7⟩:=q7;exact⟨x7,σ7,H7,I7.unpinned,r7,q7⟩
end
abbrev R2:=V->V->Hp->VK->Prop
def cG(X:Cx)(f:Value->Value->Sem Value)(r:R2):Prop:=
 ∀(pins:List (Addr×Obj)) (s:Shared) (σ:St) (H:Hp) (x y:V) (v u:Value) (Q:VK),Inv X pins σ H s->RelV x v->RelV y u->r x y H Q->
  wpAny (model X.prog X.w) X.A (f v u) (EP X pins σ Q) X.xe s
def Dj(X:Cx)(f:Value->Sem Value)(r:V->Hp->VK->Prop):Prop:=
 ∀(pins:List (Addr×Obj)) (s:Shared) (σ:St) (H:Hp) (x:V) (v:Value) (Q:VK),Inv X pins σ H s->RelV x v->r x H Q->
  wpAny (model X.prog X.w) X.A (f v) (EP X pins σ Q) X.xe s
def jcp(X:Cx)(f:Value)(r:List V->Hp->VK->Prop):Prop:=
 ∀(pins:List (Addr×Obj)) (s:Shared) (σ:St) (H:Hp) (xs:List V) (us:List Value) (Q:VK),Inv X pins σ H s->Vals xs us->r xs H Q->
  wpAny (model X.prog X.w) X.A (call f us) (EP X pins σ Q) X.xe s
def Hc(X:Cx)(r:V->Hp->(Bool->Hp->Prop)->Prop):Prop:=
 ∀(pins:List (Addr×Obj)) (s:Shared) (σ:St) (H:Hp) (x:V) (v:Value) (Q:Bool->Hp->Prop),Inv X pins σ H s->RelV x v->r x H Q->
  wpAny (model X.prog X.w) X.A (truthy v) (TP X pins σ Q) X.xe s
noncomputable def nc(r:R2)(ta tb:TE):TE:=λσ H Q=>ta σ H λx H1=>tb σ H1 λy H2=>r x y H2 Q
noncomputable def HK(r:V->Hp->VK->Prop)(ta:TE):TE:=λσ H Q=>ta σ H λx H1=>r x H1 Q
noncomputable def rI(C:Int->Int->Prop)(g:Int->Int->V):R2:=λx y H Q=>∃i j,x=.int i/\y=.int j/\C i j/\Q (g i j) H
noncomputable def eT(g:Int->Int->V):R2:=λx y H Q=>∃i j,x=.int i/\y=.int j/\Q (g i j) H
def rU(g:Int->V):V->Hp->VK->Prop:=λx H Q=>∃i,x=.int i/\Q (g i) H
section
variable {X : Cx} {a b c : Expr} {ta tb tc : TE} {pos : Pos}
theorem qC(ha:PE X a ta)(hb:PE X b tb){σ:St}{R:V->V->Hp->Prop}(I:Inv X pins σ H s)
  (h:ta σ H λx H1=>tb σ H1 λy H2=>R x y H2) {Q:Value->Shared->Prop} {f:Value->Value->Sem Value}
  (hf:∀v u s2 x y H2,Inv X pins σ H2 s2->RelV x v->RelV y u->R x y H2->wpAny (model X.prog X.w) X.A (f v u) Q X.xe s2):
  wpAny (model X.prog X.w) X.A (eval a X.env) (λv s₁=>wpAny (model X.prog X.w) X.A (eval b X.env) (λu s₂=>wpAny (model X.prog X.w) X.A (f v u) Q X.xe s₂) X.xe s₁) X.xe s:=by
 refine bE (ha pins s σ H _ I h) λv s1 ⟨x,H1,I1,r1,q1⟩=> ?_;refine bE (hb pins s1 σ H1 _ I1 q1) λu s2 ⟨y,H2,I2,r2,q2⟩=> ?_;exact hf v u s2 x y H2 I2 r1 r2 q2
theorem aE(ho:cG X (binaryOp op) r)(ha:PE X a ta)(hb:PE X b tb):PE X (.BinOp a op b pos) (nc r ta tb):=by
 intro pins s σ H Q I h;exact wpAny_BinOp (qC ha hb I h λv u s2 x y H2 I2 rx ry q=>ho pins s2 σ H2 x y v u Q I2 rx ry q)
theorem uJ{r:V->Hp->VK->Prop}(ho:Dj X (unaryOp op) r)(ha:PE X a ta):PE X (.UnaryOp op a pos) (HK r ta):=by
 intro pins s σ H Q I h;exact UnaryOp_ (bE (ha pins s σ H _ I h) λv s1 ⟨x,H1,I1,r1,q1⟩=>ho pins s1 σ H1 x v Q I1 r1 q1)
theorem uD{f:Value->Value->Sem Value}{C:Int->Int->Prop}{g:Int->Int->Int}
  (rule:∀(i j:Int) (t u:Tok) (s:Shared) (Q:Value->Shared->Prop) (E:Value->Shared->Prop),C i j->Q (.int (g i j) s.toks) {s with toks:=s.toks+1}->wpAny (model X.prog X.w) X.A (f (.int i t) (.int j u)) Q E s):
  cG X f (rI C λi j=>.int (g i j)):=by
 intro pins s σ H x y v u Q I rx ry h;obtain⟨i,j,rfl,rfl,hc,q⟩:=h;obtain⟨t,rfl⟩:=rx;obtain⟨t',rfl⟩:=ry;exact rule i j t t' s _ _ hc ⟨.int (g i j),H,I.tok _,⟨_,rfl⟩,q⟩
theorem kE{f:Value->Value->Sem Value}{g:Int->Int->Int}
  (rule:∀(i j:Int) (t u:Tok) (s:Shared) (Q:Value->Shared->Prop) (E:Value->Shared->Prop),Q (.int (g i j) s.toks) {s with toks:=s.toks+1}->wpAny (model X.prog X.w) X.A (f (.int i t) (.int j u)) Q E s):
  cG X f (eT λi j=>.int (g i j)):=by
 intro pins s σ H x y v u Q I rx ry h;obtain⟨i,j,rfl,rfl,q⟩:=h;obtain⟨t,rfl⟩:=rx;obtain⟨t',rfl⟩:=ry;exact rule i j t t' s _ _ ⟨.int (g i j),H,I.tok _,⟨_,rfl⟩,q⟩
theorem mS{f:Value->Value->Sem Value}{g:Int->Int->Bool}
  (rule:∀(i j:Int) (t u:Tok) (s:Shared) (Q:Value->Shared->Prop) (E:Value->Shared->Prop),Q (.bool (g i j)) s->wpAny (model X.prog X.w) X.A (f (.int i t) (.int j u)) Q E s):
  cG X f (eT λi j=>.bl (g i j)):=by
 intro pins s σ H x y v u Q I rx ry h;obtain⟨i,j,rfl,rfl,q⟩:=h;obtain⟨t,rfl⟩:=rx;obtain⟨t',rfl⟩:=ry;exact rule i j t t' s _ _ ⟨.bl (g i j),H,I,rfl,q⟩
def Ca(i j:Int):Prop:=0<j/\j<1073741824
def iQ(i j:Int):Prop:=0<=j/\j<=1000000/\i.natAbs<2^64
def CMul(i j:Int):Prop:=(-(2^64)<i/\i<2^64)\/(-(2^64)<j/\j<2^64)
theorem CMul.ok(h:CMul i j):IntMulOk i j:=by
 rcases h with⟨h1,h2⟩|⟨h1,h2⟩
 ·exact .of_left (intBits_le_64 h1 h2)
 ·exact .of_right (intBits_le_64 h1 h2)
theorem O0(k:Nat):(0:Int)<=2^k:=by
 rw[two_pow_cast];exact Int.natCast_nonneg _
theorem ux:cG X (binaryOp .Add) (eT λi j=>.int (i+j)):=kE λ_ _ _ _ _ _ _ q=>add_int q
theorem m4:cG X (binaryOp .Sub) (eT λi j=>.int (i - j)):=kE λ_ _ _ _ _ _ _ q=>sub_int q
theorem uq:cG X (binaryOp .Mult) (rI CMul λi j=>.int (i*j)):=uD λ_ _ _ _ _ _ _ hc q=>mul_int q hc.ok
theorem eP:cG X (binaryOp .FloorDiv) (rI Ca λi j=>.int (i / j)):=uD λi j _ _ _ _ _ hc q=>by
 have h1:(0:Int)<j:=hc.1;have h2:j<1073741824:=hc.2;exact floordiv_int (by omega) (by rw[Int.fdiv_eq_ediv_of_nonneg i (by omega)];exact q) (.inl (PyProof.noPylong_small (by omega)))
theorem cM:cG X (binaryOp .Mod) (rI (λ_ j=>0<j) λi j=>.int (i % j)):=uD λi j _ _ _ _ _ hc q=>by
 have h1:(0:Int)<j:=hc;exact mod_int' (by omega) (by rw[Int.fmod_eq_emod_of_nonneg i (by omega)];exact q)
theorem FN:cG X (binaryOp .Pow) (rI iQ λi j=>.int (i^j.toNat)):=uD λ_ _ _ _ _ _ _ hc q=>pow_int_small hc.1 hc.2.1 hc.2.2 q
theorem jI:cG X (binaryOp .LShift) (rI iQ λi j=>.int (i*2^j.toNat)):=uD λ_ _ _ _ _ _ _ hc q=>lshift_int_small hc.1 hc.2.1 hc.2.2 q
theorem rG:cG X (binaryOp .RShift) (rI (λ_ j=>0<=j) λi j=>.int (i / 2^j.toNat)):=uD λi j _ _ _ _ _ hc q=>
 rshift_int hc (by rw[Int.fdiv_eq_ediv_of_nonneg i (O0 _)];exact q)
theorem nP:cG X (binaryOp .BitAnd) (eT λi j=>.int (Builtin.bitAnd i j)):=kE λ_ _ _ _ _ _ _ q=>and_int q
theorem og:cG X (binaryOp .BitOr) (eT λi j=>.int (Builtin.bitOr i j)):=kE λ_ _ _ _ _ _ _ q=>or_int q
theorem rH:cG X (binaryOp .BitXor) (eT λi j=>.int (Builtin.bitXor i j)):=kE λ_ _ _ _ _ _ _ q=>xor_int q
theorem Jl{f:Value->Sem Value}{g:Int->Int}
  (rule:∀(i:Int) (t:Tok) (s:Shared) (Q:Value->Shared->Prop) (E:Value->Shared->Prop),Q (.int (g i) s.toks) {s with toks:=s.toks+1}->wpAny (model X.prog X.w) X.A (f (.int i t)) Q E s):
  Dj X f (rU λi=>.int (g i)):=by
 intro pins s σ H x v Q I rx h;obtain⟨i,rfl,q⟩:=h;obtain⟨t,rfl⟩:=rx;exact rule i t s _ _ ⟨.int (g i),H,I.tok _,⟨_,rfl⟩,q⟩
theorem EM:Dj X (unaryOp .USub) (rU λi=>.int (-i)):=Jl λ_ _ _ _ _ q=>neg_int q
theorem GW:Dj X (unaryOp .Invert) (rU λi=>.int (Builtin.bitNot i)):=Jl λ_ _ _ _ _ q=>invert_int q
end
noncomputable def jC:V->V->Bool
 | .non,.non=>true|.non,.int _=>true|.int _,.non=>true|.non,.bl _=>true|.bl _,.non=>true|.non,.str _=>true|.str _,.non=>true
 | .int _,.int _=>true|.bl _,.bl _=>true|.str _,.str _=>true|.byt _,.byt _=>true
 | .int _,.str _=>true|.str _,.int _=>true|.bl _,.str _=>true|.str _,.bl _=>true
 | _,_=>false
noncomputable def Qk:R2:=λx y H Q=>jC x y=true/\Q (.bl (decide (x=y))) H
noncomputable def Ot:R2:=λx y H Q=>jC x y=true/\Q (.bl (!decide (x=y))) H
theorem Ii:decide (V.int i=V.int j)=(i==j):=by
 rw[wj];simp
theorem FX:decide (V.bl i=V.bl j)=(i==j):=by
 rw[wj];simp
theorem Kc:decide (V.str i=V.str j)=(i==j):=by
 rw[wj];simp
theorem Lc:decide (V.byt i=V.byt j)=(i.toList==j.toList):=by
 rw[wj];cases i;cases j;simp
section
variable {X : Cx} {a b c : Expr} {ta tb tc : TE} {pos : Pos}
theorem dh{σ:St}(I:Inv X pins σ H s)(q:Q (.bl k) H)(e:k=k'):EP X pins σ Q (.bool k') s:=by
 subst e;exact⟨.bl k,H,I,rfl,q⟩
theorem A9:cG X (compareOp .Eq) Qk:=by
 intro pins s σ H x y v u Q I rx ry h;obtain⟨hs,q⟩:=h;cases x with
 | non=>
  cases rx
  cases y with
  | non=>cases ry;exact PySem.EqNone.eq_none_none (dh I q (by simp))
  | bl j=>cases ry;exact PySem.EqNone.eq_none_bool (dh I q (by simp))
  | int j=>obtain⟨t',rfl⟩:=ry;exact PySem.EqNone.eq_none_int (dh I q (by simp))
  | str j=>obtain⟨t',rfl⟩:=ry;exact PySem.EqNone.eq_none_str (dh I q (by simp))
  | _=>exact absurd (show false=true from hs) ql
 | bl i=>
  cases rx
  cases y with
  | non=>cases ry;exact PySem.EqNone.eq_bool_none (dh I q (by simp))
  | bl j=>cases ry;exact eq_bool (dh I q FX)
  | str j=>obtain⟨t',rfl⟩:=ry;exact PySem.EqMixed.eq_bool_str (dh I q (by simp))
  | _=>exact absurd (show false=true from hs) ql
 | int i=>
  obtain⟨t,rfl⟩:=rx;cases y with
  | non=>cases ry;exact PySem.EqNone.eq_int_none (dh I q (by simp))
  | int j=>obtain⟨t',rfl⟩:=ry;exact eq_int (dh I q Ii)
  | str j=>obtain⟨t',rfl⟩:=ry;exact PySem.EqMixed.eq_int_str (dh I q (by simp))
  | _=>exact absurd (show false=true from hs) ql
 | str i=>
  obtain⟨t,rfl⟩:=rx;cases y with
  | non=>cases ry;exact PySem.EqNone.eq_str_none (dh I q (by simp))
  | bl j=>cases ry;exact PySem.EqMixed.eq_str_bool (dh I q (by simp))
  | int j=>obtain⟨t',rfl⟩:=ry;exact PySem.EqMixed.eq_str_int (dh I q (by simp))
  | str j=>obtain⟨t',rfl⟩:=ry;exact eq_str (dh I q Kc)
  | _=>exact absurd (show false=true from hs) ql
 | byt i=>
  obtain⟨t,rfl⟩:=rx;cases y with
  | byt j=>obtain⟨t',rfl⟩:=ry;exact W.eq_bytes (dh I q Lc)
  | _=>exact absurd (show false=true from hs) ql
 | _=>cases y<;>exact absurd (show false=true from hs) ql
theorem zN:cG X (compareOp .NotEq) Ot:=by
 intro pins s σ H x y v u Q I rx ry h;obtain⟨hs,q⟩:=h;cases x with
 | non=>
  cases rx
  cases y with
  | non=>cases ry;exact PySem.EqNone.ne_none_none (dh I q (by simp))
  | bl j=>cases ry;exact PySem.EqNone.ne_none_bool (dh I q (by simp))
  | int j=>obtain⟨t',rfl⟩:=ry;exact PySem.EqNone.ne_none_int (dh I q (by simp))
  | str j=>obtain⟨t',rfl⟩:=ry;exact PySem.EqNone.ne_none_str (dh I q (by simp))
  | _=>exact absurd (show false=true from hs) ql
 | bl i=>
  cases rx
  cases y with
  | non=>cases ry;exact PySem.EqNone.ne_bool_none (dh I q (by simp))
  | bl j=>cases ry;exact ne_bool (dh I q (congrArg not FX))
  | str j=>obtain⟨t',rfl⟩:=ry;exact PySem.EqMixed.ne_bool_str (dh I q (by simp))
  | _=>exact absurd (show false=true from hs) ql
 | int i=>
  obtain⟨t,rfl⟩:=rx;cases y with
  | non=>cases ry;exact PySem.EqNone.ne_int_none (dh I q (by simp))
  | int j=>obtain⟨t',rfl⟩:=ry;exact ne_int (dh I q (congrArg not Ii))
  | str j=>obtain⟨t',rfl⟩:=ry;exact PySem.EqMixed.ne_int_str (dh I q (by simp))
  | _=>exact absurd (show false=true from hs) ql
 | str i=>
  obtain⟨t,rfl⟩:=rx;cases y with
  | non=>cases ry;exact PySem.EqNone.ne_str_none (dh I q (by simp))
  | bl j=>cases ry;exact PySem.EqMixed.ne_str_bool (dh I q (by simp))
  | int j=>obtain⟨t',rfl⟩:=ry;exact PySem.EqMixed.ne_str_int (dh I q (by simp))
  | str j=>obtain⟨t',rfl⟩:=ry;exact ne_str (dh I q (congrArg not Kc))
  | _=>exact absurd (show false=true from hs) ql
 | byt i=>
  obtain⟨t,rfl⟩:=rx;cases y with
  | byt j=>obtain⟨t',rfl⟩:=ry;exact W.ne_bytes (dh I q (congrArg not Lc))
  | _=>exact absurd (show false=true from hs) ql
 | _=>cases y<;>exact absurd (show false=true from hs) ql
theorem nr:cG X (compareOp .Lt) (eT λi j=>.bl (decide (i<j))):=mS λ_ _ _ _ _ _ _ q=>lt_int q
theorem wW:cG X (compareOp .LtE) (eT λi j=>.bl (decide (i<=j))):=mS λ_ _ _ _ _ _ _ q=>le_int q
theorem CQ:cG X (compareOp .Gt) (eT λi j=>.bl (decide (j<i))):=mS λ_ _ _ _ _ _ _ q=>gt_int q
theorem Ec:cG X (compareOp .GtE) (eT λi j=>.bl (decide (j<=i))):=mS λ_ _ _ _ _ _ _ q=>ge_int q
theorem NS:cG X (compareOp .In) (λx y H Q=>∃i j,x=.str i/\y=.str j/\Q (.bl (!(Builtin.Str.occurrences j i 0 j.length 1).isEmpty)) H):=by
 intro pins s σ H x y v u Q I rx ry h;obtain⟨i,j,rfl,rfl,q⟩:=h;obtain⟨t,rfl⟩:=rx;obtain⟨t',rfl⟩:=ry;exact in_str (dh I q rfl)
theorem tF:cG X (compareOp .Is) (λx y H Q=>y=.non/\Q (.bl (decide (x=.non))) H):=by
  intro pins s σ H x y v u Q I rx ry h;obtain⟨rfl,q⟩:=h;cases ry;refine is_none_gen (dh I q ?_);cases x<;>first
    | (cases rx;rfl)
    | (obtain⟨t,rfl⟩:=rx;rfl)
theorem bP(b:Expr){op:CmpOp}(h:op≠ .In:=by decide)(h2:op≠ .NotIn:=by decide):behindInMarks op b=false:=by
 have e1:(op==CmpOp.In)=false:=by cases op<;>first|rfl|exact absurd rfl h
 have e2:(op==CmpOp.NotIn)=false:=by cases op<;>first|rfl|exact absurd rfl h2
 cases b<;>simp[behindInMarks,e1,e2]
theorem mF(ho:cG X (compareOp op) r)(ha:PE X a ta)(hb:PE X b tb)(hm:behindInMarks op b=false):PE X (.Compare a [op] [b] pos) (nc r ta tb):=by
 intro pins s σ H Q I h;exact wpAny_Compare1 (qC ha hb I h λv u s2 x y H2 I2 rx ry q=>ho pins s2 σ H2 x y v u Q I2 rx ry q) hm
noncomputable def Gs(t:TE):TT:=λσ H Q=>t σ H λx H'=>∃k,x=.bl k/\Q k H'
theorem bV(ho:cG X (compareOp op) r)(ha:PE X a ta)(hb:PE X b tb)(hm:behindInMarks op b=false):PT X (.Compare a [op] [b] pos) (Gs (nc r ta tb)):=by
 intro pins s σ H Q I h;refine wpAny_isTrue_Compare1 (bE (ha pins s σ H _ I h) λv s1 ⟨x,H1,I1,r1,q1⟩=>bE (hb pins s1 σ H1 _ I1 q1) λu s2 ⟨y,H2,I2,r2,q2⟩=>
  bE (ho pins s2 σ H2 x y v u _ I2 r1 r2 q2) λc s3 ⟨z,H3,I3,r3,k,e,q3⟩=> ?_) hm
 subst e;cases r3;exact wpAny_truthy_bool ⟨H3,I3,q3⟩
noncomputable def HC(r r':R2)(ta tb tc:TE):TE:=λσ H Q=>ta σ H λx H1=>tb σ H1 λy H2=>r x y H2 λz H3=>∃k,z=.bl k/\
 (if k=true then tc σ H3 λw' H4=>r' y w' H4 Q else Q (.bl false) H3)
theorem EN{op op':CmpOp}{r r':R2}(ho:cG X (compareOp op) r)(ho':cG X (compareOp op') r')(ha:PE X a ta)(hb:PE X b tb)(hc:PE X c tc)
  (hm:lastMarks [op,op'] [b,c]=false:=by with_unfolding_all rfl):PT X (.Compare a [op,op'] [b,c] pos) (Gs (HC r r' ta tb tc)):=by
 intro pins s σ H Q I h;refine isTrue_chain (bE (ha pins s σ H _ I h) λv s1 ⟨x,H1,I1,r1,q1⟩=>test_link (bE (hb pins s1 σ H1 _ I1 q1) λu s2 ⟨y,H2,I2,r2,q2⟩=>
  bE (ho pins s2 σ H2 x y v u _ I2 r1 r2 q2) λd s3 ⟨z,H3,I3,r3,k,e,q3⟩=> ?_)) hm
 subst e;cases r3;refine wpAny_truthy_bool ?_;cases k with
 | false=>
  obtain⟨k',e',q'⟩:=q3;cases e';exact ite_ff ⟨H3,I3,q'⟩
 | true=>
  refine ite_tt (test_last (bE (hc pins s3 σ H3 _ I3 q3) λw' s4 ⟨z',H4,I4,r4,q4⟩=>bE (ho' pins s4 σ H4 y z' u w' _ I4 r2 r4 q4) λd' s5 ⟨z2,H5,I5,r5,k2,e2,q5⟩=> ?_));subst e2;cases r5;exact wpAny_truthy_bool ⟨H5,I5,q5⟩
def fD(K:W.Frag)(x:V)(H:Hp)(k:Bool):Prop:=
 match x with
 | .non=>k=false
 | .bl b=>k=b
 | .int i=>k=(i !=0)
 | .str y=>y.length<=sizeLine/\k=((y.length:Int)!=0)
 | .byt y=>y.size<=sizeLine/\k=((y.size:Int)!=0)
 | .ref p=>(∃xs,SqL K H p xs/\k= !xs.isEmpty)\/(∃xs,SqT K H p xs/\k= !xs.isEmpty)\/∃kvs,H p=some (.dK kvs)/\k= !kvs.isEmpty
 | _=>False
theorem Qi{κ:Type}{kvs:List (κ×V)}{vs:List (κ×Value)}(r:KV kvs vs):(!vs.isEmpty)= !kvs.isEmpty:=by
 cases r<;>rfl
theorem Ku(r:Vals xs its):(!its.toArray.isEmpty)= !xs.isEmpty:=by
 cases r<;>simp
theorem uS:(sizeLine:Nat)<2^63:=by rw[sizeLine_eq];decide
theorem JA:Hc X (λx H Q=>∃k,fD X.K x H k/\Q k H):=by
 intro pins s σ H x v Q I rx h;obtain⟨k,e,q⟩:=h;have hl:=uS;have hs:sizeLine=16777216:=sizeLine_eq;cases x with
 | non=>
  cases rx
  have e':k=false:=e;subst e';exact truthy_none ⟨H,I,q⟩
 | bl b=>
  cases rx
  have e':k=b:=e;subst e';exact wpAny_truthy_bool ⟨H,I,q⟩
 | int i=>
  obtain⟨t,rfl⟩:=rx;have e':k=(i !=0):=e;subst e';exact PySem.P.truthy_int ⟨H,I,q⟩
 | str y=>
  obtain⟨t,rfl⟩:=rx;obtain⟨hy,e'⟩:y.length<=sizeLine/\k=((y.length:Int)!=0):=e;subst e';exact PySem.P.truthy_str (by omega) ⟨H,I.tok _,q⟩
 | byt y=>
  obtain⟨t,rfl⟩:=rx;obtain⟨hy,e'⟩:y.size<=sizeLine/\k=((y.size:Int)!=0):=e;subst e';exact W.truthy_bytes (by omega) ⟨H,I.tok _,q⟩
 | ref p=>
  cases rx
  have e':(∃xs,SqL X.K H p xs/\k= !xs.isEmpty)\/(∃xs,SqT X.K H p xs/\k= !xs.isEmpty)\/∃kvs,H p=some (.dK kvs)/\k= !kvs.isEmpty:=e;rcases e' with⟨xs,hx,e'⟩|⟨xs,hx,e'⟩|⟨kvs,hx,e'⟩
  ·subst e'
   obtain⟨its,r,pl,hz⟩:=I.list hx;have hlen:=r.length;exact wpAny_truthy_list pl.isList (by simp only[qo];omega) ⟨H,I.tok _,by rw[Ku r];exact q⟩
  ·subst e'
   obtain⟨its,r,pl,hz⟩:=I.tuple hx;have hlen:=r.length;exact truthy_tuple pl (by simp only[qo];omega) ⟨H,I.tok _,by rw[Ku r];exact q⟩
  ·subst e'
   obtain⟨hz,hS,vs,r,m⟩:kvs.length<=sizeLine/\(p==sysModules)=false/\∃vs,KV kvs vs/\s.heap.DictOf (eY X.prog X.w) p vs:=I.hok p _ hx;have hlen:kvs.length=vs.length:=Paired.length r;exact wpAny_truthy_dict hS m (by omega) ⟨H,I.tok _,by rw[Qi r];exact q⟩
 | _=>exact(show False from e).elim
theorem LI(ha:PE X a ta)(he:∀whole,isTrue a X.env whole=(do let v<-whole;standAt a.pos;holding [v] (truthy v))):
  PT X a (λσ H Q=>ta σ H λx H'=>∃k,fD X.K x H' k/\Q k H'):=by
 intro pins s σ H Q I h;exact isTrue_plain (bE (ha pins s σ H _ I h) λv s1 ⟨x,H1,I1,r1,q1⟩=>JA pins s1 σ H1 x v Q I1 r1 q1) (he _)
theorem Ow:cG X (binaryOp .Add) (λx y H Q=>∃i j,x=.str i/\y=.str j/\i.length+j.length<=sizeLine/\Q (.str (i++j)) H):=by
 intro pins s σ H x y v u Q I rx ry h;obtain⟨i,j,rfl,rfl,hz,q⟩:=h;obtain⟨t,rfl⟩:=rx;obtain⟨t',rfl⟩:=ry;exact add_str (λt' tk=>⟨.str (i++j),H,I.tok _,⟨_,rfl⟩,q⟩) hz
theorem iY(r:Vals [x] us):∃u,us=[u]/\RelV x u:=by
 cases r with
 | cons r1 r2=>cases r2;exact⟨_,rfl,r1⟩
theorem Av(r:Vals [x,y] us):∃u w',us=[u,w']/\RelV x u/\RelV y w':=by
 cases r with
 | cons r1 r2=>
  cases r2 with
  | cons r3 r4=>cases r4;exact⟨_,_,rfl,r1,r3⟩
theorem Lh(hc:X.calm=true):jcp X (.builtin "max") (λxs H Q=>∃i j,xs=[.int i,.int j]/\Q (.int (if j>i then j else i)) H):=by
 intro pins s σ H xs us Q I r h;obtain⟨i,j,rfl,q⟩:=h;obtain⟨u,w',rfl,⟨t,rfl⟩,⟨t',rfl⟩⟩:=Av r;refine max_two_ints (I.ok.hd hc) λh' tk k=>⟨_,H,I.kept k,?_,q⟩;by_cases hj:j>i
 ·rw[if_pos hj,if_pos hj];exact⟨_,rfl⟩
 ·rw[if_neg hj,if_neg hj];exact⟨_,rfl⟩
theorem O3:jcp X (.type "int") (λxs H Q=>(∃i,xs=[.int i]/\Q (.int i) H)\/∃k,xs=[.bl k]/\Q (.int (if k then 1 else 0)) H):=by
 intro pins s σ H xs us Q I r h;rcases h with⟨i,rfl,q⟩|⟨k,rfl,q⟩
 ·obtain⟨u,rfl,t,rfl⟩:=iY r
  exact call_int_int ⟨.int i,H,I,⟨_,rfl⟩,q⟩
 ·obtain⟨u,rfl,r1⟩:=iY r
  cases r1
  exact call_int_bool ⟨.int (if k then 1 else 0),H,I.tok _,⟨_,rfl⟩,q⟩
theorem NW:jcp X (.type "str") (λxs H Q=>∃i,xs=[.int i]/\i.natAbs.log2<1920/\Q (.str (toString i)) H):=by
 intro pins s σ H xs us Q I r h;obtain⟨i,rfl,hz,q⟩:=h;obtain⟨u,rfl,t,rfl⟩:=iY r;exact PySem.P.str_of_int hz ⟨.str _,H,I.tok _,⟨_,rfl⟩,q⟩
end
structure ObjM (h:Heap) (x dx C:Addr) (mA:Str->Option Value):Prop where
 obj:h.get? x=some (W.instObj C dx)
 ns:h.Ns1 dx mA
 ne:dx≠x
theorem NU{h:Heap}{mA:Str->Option Value}(n:h.Ns1 dx mA):∃od,h.get? dx=some od/\∀name,W.lookIn name od=some (mA name):=by
 obtain⟨o,es,ep,ho,hd,hk,_,hm⟩:=n;refine⟨o,ho,λname=> ?_⟩;have e:=hm name;unfold nsFind findBy at e;rw[<-Array.find?_toList]at e;unfold W.lookIn;rw[hd];dsimp only;split
 ·rename_i y q
  rw[q]at e;exact congrArg some e
 ·rename_i q
  rw[q]at e;have a:es.toList.any (·.refKey)=false:=by
   rw[List.any_eq_false];intro y hy;obtain⟨z,t,hkey⟩:=hk y (Array.mem_toList_iff.mp hy);simp[DictEntry.refKey,hkey]
  have a':¬es.toList.any (·.refKey)=true:=by rw[a];exact ql
  rw[if_neg a'];exact congrArg some e
theorem ObjM.look{mA:Str->Option Value}(I:ObjM h x dx C mA):∃od,W.InstAt h x (W.instObj C dx) C (some od)/\∀name,W.lookIn name od=some (mA name):=
 let ⟨od,ho,hl⟩:=NU I.ns
 ⟨od,⟨I.obj,rfl,rfl,ho⟩,hl⟩
section
variable {prog : Program} {w : World} {A : Around} {E : Value -> Shared -> Prop} {s : Shared} {K : W.Frag} {x dx C f : Addr} {mA : Str -> Option Value} {name : Str} {v : Value}
theorem Nl{Q:Value->Shared->Prop}(X:K.In s.heap)(I:ObjM s.heap x dx C mA)(hg:W.plainGet K C name=true)(hh:W.hasDictIn K C=true)
  (ha:W.findIn K (.ref C) name=some none) (hv:mA name=some v) (hv':W.handedIn v=true) (h:Q v {s with toks:=s.toks+1}):
  wpAny (model prog w) A (getAttr (.ref x) name expr) Q E s:=by
 obtain⟨od,J,hl⟩:=I.look;exact W.get_value X J (W.plainGet_of hg).1 (W.findObj_own hh ha rfl (by rw[hl,hv])) hv' h
theorem OM{Q:Value×List Value->Shared->Prop}(X:K.In s.heap)(I:ObjM s.heap x dx C mA)(hg:W.plainGet K C name=true)
  (hf:W.findIn K (.ref C) name=some (some (.ref f))) (ht:W.isFn K (.ref f)=true) (hv:mA name=none) (h:Q (.ref f,[.ref x]) s):
  wpAny (model prog w) A (getMethod (.ref x) name pl) Q E s:=by
 obtain⟨od,J,hl⟩:=I.look;exact W.method_fn X J (W.plainGet_of hg).1 (W.plainGet_of hg).2 hf (beq_iff_eq.mp ht) (by show(W.lookIn name od).map (·.isSome)=some false;rw[hl,hv];rfl) h
theorem NT{Q:Unit->Shared->Prop}(X:K.In s.heap)(I:ObjM s.heap x dx C mA)
  (hs:W.findIn K (.ref C) "__setattr__"=some (some (.builtin "object.__setattr__"))) (hp:W.plainOver K C=true) (ht:W.takerIn K C name=some none) (hh:W.hasDictIn K C=true)
  (hw:PySem.Within mA ns) (hsz:ns.length<=sizeLine)
  (h:∀h',ObjM h' x dx C (λy=>if y=name then some v else mA y)->Heap.SameBut dx s.heap h'->Q () {s with heap:=h',toks:=s.toks+2}):
  wpAny (model prog w) A (setAttr (.ref x) name v) Q E s:=by
 obtain⟨od,J,hl⟩:=I.look;refine W.set_plain X J hs (W.osa_open (s:={s with toks:=s.toks+1}) (r:=none) X J hp ht λb=> ?_);obtain⟨cd,hc,hd'⟩:=W.any_some hh;have hx:s.heap.get? x=some ⟨.ref C,some dx,.plain,#[]⟩:=I.obj;refine wpAny_bind (wpAny_pure (wpAny_bind (wpAny_bind (wpAny_loadPart hx (wpAny_bind (W.Looks.here (s:={s with toks:=s.toks+1}) (W.looks_clsIn X hc) ?_))))));rw[hd'];refine wpAny_pure (a:=some dx) (wpAny_bind (wpAny_pure (wpAny_bind ?_)));refine wpAny_nsSet1 (s:={s with toks:=s.toks+1}) I.ns λh' hn2 hs2=> ?_;obtain⟨oD,esD,epD,hoD,hdD,hcD⟩:=hn2.count (PySem.Within.cons name v hw);refine wpAny_bind (wpAny_lookBehind hoD (by rw[hdD];exact pastItsLine_dict (z9 hcD (by rw[z7];omega))) ?_);exact wpAny_pure (h _ ⟨(hs2.2 _ (Ne.symm I.ne)).trans I.obj,hn2,I.ne⟩ hs2)
theorem Mu{R:Result->Shared->Prop}(X:K.In s.heap)(hm:W.makesIn K C=true)
    (hi:W.findIn K (.ref C) "__init__"=some (some (.ref f))) (hf:W.typeIn K (.ref f)=some (.type "function"))
    (h:codeAny (model prog w) (A.under (.builtin "type.__call__" ⟨.ref C::vs,kw⟩)) (.call (.ref f) ⟨.ref (s.heap.objs.size+1)::vs,kw⟩) (W.InitBack (s.heap.objs.size+1) R)
      {s with heap:=(s.heap.push W.emptyDict).push (W.instObj C s.heap.objs.size)}):
    codeAny (model prog w) A (.call (.ref C) ⟨vs,kw⟩) R s:=by
  obtain⟨hh,g,d,t,os⟩:=s;exact W.make_core (W.makes_of X hm) (W.looks_findIn X hi) (λself=>W.bind_fn X self hf) (.inl rfl) h
end
noncomputable def bD(f:Str)(v:V):List (Str×V)->List (Str×V)
  | []=>[(f,v)]
  | (g,x)::r=>if g=f then(g,v)::r else(g,x)::bD f v r
theorem Ks(f g:Str)(v:V):∀fs:List (Str×V),(bD f v fs).lookup g=if g=f then some v else fs.lookup g
  | []=>by
    show List.lookup g [(f,v)]=_;by_cases h:g=f
    · have hb:(g==f)=true:=beq_iff_eq.mpr h
      simp only[List.lookup,hb,if_pos h]
    · have hb:(g==f)=false:=beq_eq_false_iff_ne.mpr h
      simp only[List.lookup,hb,if_neg h]
  | (k,x)::r=>by
    have ih:=Ks f g v r;rw[show bD f v ((k,x)::r)=(if k=f then(k,v)::r else(k,x)::bD f v r)from rfl];by_cases hk:k=f
    · rw[if_pos hk]
      by_cases h:g=k
      · have hb:(g==k)=true:=beq_iff_eq.mpr h
        simp only[List.lookup,hb,if_pos (h.trans hk)]
      · have hb:(g==k)=false:=beq_eq_false_iff_ne.mpr h
        simp only[List.lookup,hb,if_neg (λe:g=f=>h (e.trans hk.symm))]
    · rw[if_neg hk]
      by_cases h:g=k
      · have hb:(g==k)=true:=beq_iff_eq.mpr h
        simp only[List.lookup,hb,if_neg (λe:g=f=>hk (h.symm.trans e))]
      · have hb:(g==k)=false:=beq_eq_false_iff_ne.mpr h
        simp only[List.lookup,hb];exact ih
theorem FI(f:Str)(v:V):∀fs:List (Str×V),f∈(bD f v fs).map (·.1)/\∀g,g∈fs.map (·.1)->g∈(bD f v fs).map (·.1)
  | []=>⟨by simp[bD],λg h=>by simp at h⟩
  | (k,x)::r=>by
    obtain⟨i1,i2⟩:=FI f v r;rw[show bD f v ((k,x)::r)=(if k=f then(k,v)::r else(k,x)::bD f v r)from rfl];by_cases hk:k=f
    · rw[if_pos hk]
      subst hk;exact⟨by simp,λg h=>by simpa using h⟩
    · rw[if_neg hk]
      refine⟨?_,λg h=> ?_⟩
      · rw[List.map_cons]
        exact qg _ i1
      · rw[List.map_cons]at h ⊢
        rcases qr.mp h with e|e
        · exact qr.mpr (.inl e)
        · exact qg _ (i2 g e)
theorem HV(f:Str)(v:V):∀fs:List (Str×V),(bD f v fs).length<=fs.length+1
  | []=>by simp[bD]
  | (k,x)::r=>by
    have ih:=HV f v r;rw[show bD f v ((k,x)::r)=(if k=f then(k,v)::r else(k,x)::bD f v r)from rfl];by_cases hk:k=f
    · rw[if_pos hk,z7,z7];omega
    · rw[if_neg hk,z7,z7];omega
theorem RelO.some_of(r:RelO (some v) o):∃u,o=some u/\RelV v u:=by
 cases o with
 | none=>exact(show False from r).elim
 | some u=>exact⟨u,rfl,r⟩
theorem RelO.none_of(r:RelO none o):o=none:=by
 cases o with
 | none=>rfl
 | some u=>exact(show False from r).elim
theorem NQ(r:RelV v u):W.handedIn u=true:=by
 cases v with
 | non=>cases(show u=Value.none from r);rfl
 | bl b=>cases(show u=Value.bool b from r);rfl
 | int i=>obtain⟨t,e⟩:=(show ∃t,u=Value.int i t from r);cases e;rfl
 | str x=>obtain⟨t,e⟩:=(show ∃t,u=Value.str x t from r);cases e;rfl
 | byt b=>obtain⟨t,e⟩:=(show ∃t,u=Value.bytes b t from r);cases e;rfl
 | flt b=>obtain⟨t,e⟩:=(show ∃t,u=Value.float b t from r);cases e;rfl
 | ref a=>cases(show u=Value.ref a from r);rfl
 | ty n=>cases(show u=Value.type n from r);rfl
section
variable {P : Program} {w : World} {H H' : Hp} {h h' : Heap} {a C dx : Addr} {fs fs' : List (Str × V)}
theorem Fd(hok:HOk P w H h)(e:H a=some (.ins C dx fs)):∃mA,ObjM h a dx C mA/\(∀f,RelO (fs.lookup f) (mA f))/\PySem.Within mA (fs.map (·.1))/\fs.length<=1000/\H dx=some (.own a):=by
 obtain⟨d,z,ne,ob,mA,n,r,q⟩:=(show jd0 P w H h a (.ins C dx fs)from hok a _ e);exact⟨mA,⟨ob,n,ne⟩,r,q,z,d⟩
end
structure Cls (K:W.Frag) (C:Addr):Prop where
 pg:W.plainGet K C Str.empty=true
 hd:W.hasDictIn K C=true
 po:W.plainOver K C=true
 sa:W.findIn K (.ref C) "__setattr__"=some (some (.builtin "object.__setattr__"))
theorem Cls.get{K:W.Frag}(c:Cls K C)(f:Str):W.plainGet K C f=true:=c.pg
def jc0(K:W.Frag)(C:Addr)(f:Str):Prop:=W.findIn K (.ref C) f=some none
theorem jc0.taker{K:W.Frag}(n:jc0 K C f):W.takerIn K C f=some none:=by
 unfold W.takerIn;rw[show W.findIn K (.ref C) f=some none from n];rfl
structure Meth (K:W.Frag) (C:Addr) (m:Str) (f:Addr):Prop where
 at_:W.findIn K (.ref C) m=some (some (.ref f))
 fn:W.isFn K (.ref f)=true
 kp:W.keepIn K (.ref f)=true
section
variable {X : Cx} {pins : List (Addr × Obj)} {σ : St} {H : Hp} {s : Shared} {a C dx : Addr} {fs : List (Str × V)} {f : Str} {v : V} {A : Around} {E : Value -> Shared -> Prop}
theorem PQ{Q:Value->Shared->Prop}(I:Inv X pins σ H s)(e:H a=some (.ins C dx fs))(c:Cls X.K C)(n:jc0 X.K C f)(l:fs.lookup f=some v)
  (h:∀u s',Inv X pins σ H s'->RelV v u->Q u s'):wpAny (model X.prog X.w) A (getAttr (.ref a) f b) Q E s:=by
 obtain⟨mA,O,r,_,_,_⟩:=Fd I.hok e;obtain⟨u,hu,ru⟩:=RelO.some_of (v:=v) (o:=mA f) (by rw[<-l];exact r f);exact Nl I.kIn O (c.get f) c.hd n hu (NQ ru) (h u _ (I.tok _) ru)
theorem Gv{Q:Value×List Value->Shared->Prop}(I:Inv X pins σ H s)(e:H a=some (.ins C dx fs))(c:Cls X.K C)(k:Meth X.K C m g)(l:fs.lookup m=none)
  (h:Q (.ref g,[.ref a]) s):wpAny (model X.prog X.w) A (getMethod (.ref a) m pl) Q E s:=by
 obtain⟨mA,O,r,_,_,_⟩:=Fd I.hok e;have hn:mA m=none:=RelO.none_of (by rw[<-l];exact r m);exact OM I.kIn O (c.get m) k.at_ k.fn hn h
theorem Ol{Q:Unit->Shared->Prop}(I:Inv X pins σ H s)(e:H a=some (.ins C dx fs))(c:Cls X.K C)(n:jc0 X.K C f)(hl:fs.length<1000)(ry:RelV y u)
  (h:∀s',Inv X pins σ (a9 H a (.ins C dx (bD f y fs))) s'->Q () s'):wpAny (model X.prog X.w) A (setAttr (.ref a) f u) Q E s:=by
 obtain⟨mA,O,r,wi,_,ho⟩:=Fd I.hok e;have hz:(fs.map (·.1)).length<=sizeLine:=by rw[qd,sizeLine_eq];omega
 refine NT I.kIn O c.sa c.po n.taker c.hd wi hz λh' O' sb=>h _ ?_;have hd:∃o,h'.get? dx=some o:=let ⟨o,_,_,e',_⟩:=O'.ns;⟨o,e'⟩;refine I.write (x:=a) (e:=dx) (by rw[e];exact True.intro) (.inr ho) (λb q hb z=>(sb.2 b hb).trans z) hd ?_;refine⟨by rw[br O.ne];exact ho,?_,O.ne,O'.obj,_,O'.ns,λg=> ?_,λg hg=> ?_⟩
 ·have:=HV f y fs;omega
 ·show RelO ((bD f y fs).lookup g) (if g=f then some u else mA g)
  rw[Ks];by_cases q:g=f
  ·rw[if_pos q,if_pos q];exact ry
  ·rw[if_neg q,if_neg q];exact r g
 ·by_cases q:g=f
  ·rw[q];exact(FI f y fs).1
  ·refine(FI f y fs).2 g (wi g λz=>hg ?_)
   show(if g=f then some u else mA g)=none;rw[if_neg q];exact z
theorem Inv.made(I:Inv X pins σ H s):Inv X pins σ (a9 (a9 H s.heap.objs.size (.own (s.heap.objs.size+1))) (s.heap.objs.size+1) (.ins C s.heap.objs.size []))
    {s with heap:=(s.heap.push W.emptyDict).push (W.instObj C s.heap.objs.size)}:=by
  have e1:(s.heap.push W.emptyDict).get? s.heap.objs.size=some W.emptyDict:=qw s.heap rfl;have e2:((s.heap.push W.emptyDict).push (W.instObj C s.heap.objs.size)).get? (s.heap.objs.size+1)=some (W.instObj C s.heap.objs.size):=by
    have:=qw (s.heap.push W.emptyDict) (o:=W.instObj C s.heap.objs.size) rfl
    rwa [kg]at this
  have e3:(s.heap.push W.emptyDict).Ns s.heap.objs.size (λ_=>none):=⟨W.emptyDict,#[],_,e1,rfl,(λe he=>absurd he (by simp)),λ_=>rfl⟩;have I1:=I.laid (a:=s.heap.objs.size) (o:=.own (s.heap.objs.size+1)) (h':=s.heap.push W.emptyDict) (t':=s.toks) (λb u q=>qe _ q) (qi _) ⟨_,e1⟩;refine I1.laid (a:=s.heap.objs.size+1) (o:=.ins C s.heap.objs.size []) (t':=s.toks) (λb u q=>qe _ q) (wr (kg _ _)) ?_;have ne:s.heap.objs.size≠s.heap.objs.size+1:=qv (zp _);refine⟨by rw[br ne,dG],qz _,ne,e2,λ_=>none,(Heap.Ns1.of_empty e3).at λo q=>qe _ q,λ_=>True.intro,λy hy=>absurd rfl hy⟩
theorem PZ{Q:Value->Shared->Prop}(hb:attributeBase e f env (eval e env)=eval e env)
  (h:wpAny (model prog w) A (eval e env) (λo s₁=>wpAny (model prog w) A (getAttr o f true) Q E s₁) E s):wpAny (model prog w) A (eval (.Attribute e f pos) env) Q E s:=
 Attribute_any_ h (by rw[arm_eval_Attribute,hb])
end
noncomputable def lK(K:W.Frag)(ta:TE)(f:Str):TE:=λσ H Q=>ta σ H λx H1=>∃a C dx fs v,x=.ref a/\H1 a=some (.ins C dx fs)/\Cls K C/\jc0 K C f/\fs.lookup f=some v/\Q v H1
noncomputable def lN(K:W.Frag)(ta tv:TE)(f:Str):TS:=λD σ H=>tv σ H λy H1=>ta σ H1 λx H2=>∃a C dx fs,x=.ref a/\H2 a=some (.ins C dx fs)/\Cls K C/\jc0 K C f/\fs.length<1000/\
 D.nx σ (a9 H2 a (.ins C dx (bD f y fs)))
section
variable {X : Cx} {o e value : Expr} {f : Str} {pos pos' tpos : Pos} {ta tv : TE}
theorem cf(he:PE X e ta)(hb:attributeBase e f X.env (eval e X.env)=eval e X.env):PE X (.Attribute e f pos) (lK X.K ta f):=by
 intro pins s σ H Q I h;refine PZ hb (bE (he pins s σ H _ I h) λu s1 ⟨x,H1,I1,rx,a,C,dx,fs,v,ex,ea,c,n,l,q⟩=> ?_);subst ex;obtain rfl:u=Value.ref a:=rx;exact PQ I1 ea c n l λu' s2 I2 ru=>⟨v,H1,I2,ru,q⟩
theorem fk(ha:PE X o ta)(hv:PE X value tv)(hs:swapsWith value (some (.Attribute o f pos')) pos.line X.env=pure false):PS X (.Assign [.Attribute o f pos'] value pos) (lN X.K ta tv f):=by
 intro pins s σ H D I h;refine plainObj_wpAny_Assign_Attribute (bE (hv pins s σ H _ I h) λu s1 ⟨y,H1,I1,ry,q⟩=>bE (ha pins s1 σ H1 _ I1 q) λov s2 ⟨x,H2,I2,rx,a,C,dx,fs,ex,ea,c,n,l,q2⟩=> ?_) hs;subst ex;obtain rfl:ov=Value.ref a:=rx;exact Ol I2 ea c n l ry λs3 I3=>⟨σ,_,I3,q2⟩
end
structure Room (k:Nat) (A:Around):Prop where
 hd:A.handled=none
 dp:A.depth+3*k+5<recursionLimit
 un:A.units+16*k+200<cLine
theorem Room.mono(r:Room k A)(h:j<=k):Room j A:=⟨r.hd,by have:=r.dp;omega,by have:=r.un;omega⟩
theorem Room.deeper(r:Room (k+1) A)(env:Env):Room k (A.deeper env):=
 ⟨r.hd,by have:=r.dp;show A.depth+1+3*k+5<_;omega,by have:=r.un;show A.units+3+16*k+200<_;omega⟩
theorem OZ{A:Around}:(A.under (.builtin "type.__call__" ⟨.ref C::us,kw⟩)).depth=A.depth+1:=by
 first|rfl|simp[Around.under,Code.weight,Code.isCreation,Code.isGuard,Code.isCaller,Code.frames,Code.isFrame,guardIds]
theorem Nk{A:Around}:(A.under (.builtin "type.__call__" ⟨.ref C::us,kw⟩)).units=A.units+1:=by
 first|rfl|simp[Around.under,Code.cUnits,Code.frames,Code.isFrame]
theorem Room.make(r:Room (k+1) A)(C:Addr)(us:List Value)(kw:List (Str×Value)):Room k (A.under (.builtin "type.__call__" ⟨.ref C::us,kw⟩)):=
 ⟨r.hd,by have:=r.dp;rw[OZ];omega,by have:=r.un;rw[Nk];omega⟩
theorem Room.depth(r:Room k A):A.depth<recursionLimit:=by have:=r.dp;omega
theorem Room.units(r:Room k A):A.units+64<cLine:=by have:=r.un;omega
noncomputable def iZ:TA:=λ_ H Q=>Q [] H
noncomputable def FR(ta:TE)(tr:TA):TA:=λσ H Q=>ta σ H λx H1=>tr σ H1 λxs H2=>Q (x::xs) H2
section
variable {X : Cx} {e : Expr} {es : List Expr} {te : TE} {t : TA} {pos : Pos}
theorem ax:PA X [] iZ:=λ_ _ _ _ H Q I h=>Calls.spliced_nil ⟨[],H,I,.nil,h⟩
theorem ak(ha:PE X e te)(hr:PA X es t)(hs:starEach (e::es) X.env=(false,eval e X.env)::starEach es X.env:=by rfl):PA X (e::es) (FR te t):=by
 intro pos pins s σ H Q I h;rw[hs];show wpAny _ _ (spliced ((false,eval e X.env)::backTo pos (starEach es X.env))) _ _ s;refine Calls.spliced_cons (bE (ha pins s σ H _ I h) λu s1 ⟨x,H1,I1,r1,q1⟩=> ?_);exact bE (hr pos pins s1 σ H1 _ I1 q1) λus s2 ⟨xs,H2,I2,r2,q2⟩=>⟨x::xs,H2,I2,.cons r1 r2,q2⟩
noncomputable def vG(t:TA):TE:=λσ H Q=>t σ H λxs H1=>xs.length<=sizeLine/\∀p,H1 p=none->Q (.ref p) (a9 H1 p (.tup xs))
noncomputable def zF(t:TA):TE:=λσ H Q=>t σ H λxs H1=>xs.length<=sizeLine/\∀p,H1 p=none->Q (.ref p) (a9 H1 p (.lst xs))
theorem u3{x1}(h:PA X es t):PE X (.Tuple es x1 pos) (vG t):=by
 intro pins s σ H Q I hq;refine wpAny_Tuple_spliced (bE (h pos pins s σ H _ I hq) λus s1 ⟨xs,H1,I1,r,z,q⟩=>⟨by rw[<-r.length];exact z,?_⟩);have hf:H1 s1.heap.objs.size=none:=I1.hok.fresh (qi _);refine⟨.ref s1.heap.objs.size,a9 H1 s1.heap.objs.size (.tup xs),I1.laid (t':=s1.toks) (λb u e=>qe _ e) (qi _) ?_,rfl,q _ hf⟩;exact⟨z,us,r,⟨_,qw _ rfl,rfl,_,rfl⟩⟩
theorem bY(h:PA X es t):PE X (.List es pos) (zF t):=by
 intro pins s σ H Q I hq;refine wpAny_List_spliced (bE (h pos pins s σ H _ I hq) λus s1 ⟨xs,H1,I1,r,z,q⟩=>⟨by rw[<-r.length];exact z,?_⟩);have hf:H1 s1.heap.objs.size=none:=I1.hok.fresh (qi _);refine⟨.ref s1.heap.objs.size,a9 H1 s1.heap.objs.size (.lst xs),I1.laid (t':=s1.toks) (λb u e=>qe _ e) (qi _) ?_,rfl,q _ hf⟩;exact⟨z,us,0,r,qw _ rfl⟩
end
abbrev Sp:=List V->Hp->VK->XK->Prop
abbrev jb:=List Env->Hp->Shared->XK->Value->Shared->Prop
structure Env0 (P:Program) (w:World) (K:W.Frag) (mg:Str->Option Value) (base:Heap) (A:Around) (outer:List Env) (s:Shared) (H:Hp):Prop where
 frames:A.frames=some outer
 mod:Mod K mg base
 bs:∀b o,base.get? b=some o->s.heap.get? b=some o/\H b=none
 bsz:base.objs.size<=s.heap.objs.size
 funs:s.heap.FunFrames base outer
 frf:∀b∈cn outer,H b=none
 hok:HOk P w H s.heap
 bare:AllBare s.gens
def CE(outer:List Env)(P:Program)(w:World)(H:Hp)(s:Shared)(Q:VK)(u:Value)(s':Shared):Prop:=
 ∃v H',s'.os=s.os/\AllBare s'.gens/\Un (cn outer) [] H H' s.heap s'.heap/\HOk P w H' s'.heap/\RelV v u/\Q v H'
def CR(CX:jb)(outer:List Env)(P:Program)(w:World)(H:Hp)(s:Shared)(Q:VK)(E:XK)(r:Result)(s':Shared):Prop:=
 match r with
 | .ok (.ret u)=>CE outer P w H s Q u s'
 | .ok _=>False
 | .error e=>CX outer H s E e s'
structure FnOk (P:Program) (w:World) (K:W.Frag) (mg:Str->Option Value) (base:Heap) (CX:jb) (k:Nat) (f:Addr) (fd:FuncData) (ps:List Str) (sp:Sp):Prop where
 len:∀vs H Q E,sp vs H Q E->vs.length=ps.length
 run:∀(A:Around) (outer:List Env) (s:Shared) (H:Hp) (args:Args) (us:List Value) (vs:List V) (Q:VK) (E:XK),Room k A->Env0 P w K mg base A outer s H->BindsTo s fd args (ps.zip us)->Vals vs us->sp vs H Q E->
  codeAny (model P w) A (.call (.ref f) args) (CR CX outer P w H s Q E) s
theorem FnOk.mono{K:W.Frag}{mg:Str->Option Value}(F:FnOk P w K mg base CX j f fd ps sp)(h:j<=k):
  FnOk P w K mg base CX k f fd ps sp:=⟨F.len,λA outer s H args us vs Q E hr=>F.run A outer s H args us vs Q E (hr.mono h)⟩
theorem FnOk.imp{K:W.Frag}{mg:Str->Option Value}(F:FnOk P w K mg base CX k f fd ps sp)
  (h:∀vs H Q E,sp' vs H Q E->sp vs H Q E):FnOk P w K mg base CX k f fd ps sp':=
 ⟨λvs H Q E q=>F.len vs H Q E (h _ _ _ _ q),λA outer s H args us vs Q E hr he hb hv hs=>F.run A outer s H args us vs Q E hr he hb hv (h _ _ _ _ hs)⟩
theorem Env0.make{K:W.Frag}{mg:Str->Option Value}(e:Env0 P w K mg base A outer s H)(C:Addr)(us:List Value)(kw:List (Str×Value)):
  Env0 P w K mg base (A.under (.builtin "type.__call__" ⟨.ref C::us,kw⟩)) outer s H:=⟨by first|exact e.frames|(simpa [Around.under,Code.envs,Code.isFrame,pushEnvs]using e.frames),e.mod,e.bs,e.bsz,e.funs,e.frf,e.hok,e.bare⟩
section
variable {X : Cx} {pins : List (Addr × Obj)} {σ : St} {H : Hp} {s s' : Shared}
theorem Inv.env0(I:Inv X pins σ H s):Env0 X.prog X.w X.K X.mg X.base X.A X.stack s H:=
 ⟨I.ok.frames,I.ok.mod,I.bs,z9 I.ok.bsz I.sz,I.stack,I.stkFree,I.hok,I.bare⟩
theorem Inv.after(I:Inv X pins σ H s)(h:CE X.stack X.prog X.w H s Q u s'):EP X pins σ Q u s':=by
 obtain⟨v,H',os,bare,un,hok,r,q⟩:=h;obtain⟨hh,g,d,t,os'⟩:=s';obtain rfl:os'=s.os:=os;exact⟨v,H',I.call (h':=hh) (g':=g) (d':=d) (t':=t) (ch:=[]) un hok bare (λb z=>absurd z (by simp)),r,q⟩
end
noncomputable def Eo(sp:Sp)(dvs:List V)(E:XK)(t:TA):TE:=λσ H Q=>t σ H λvs H1=>sp (vs++dvs) H1 Q E
noncomputable def vt(C:Addr)(sp:Sp)(dvs:List V)(E:XK)(t:TA):TE:=λσ H Q=>t σ H λvs H1=>∀x dx,H1 x=none->H1 dx=none->dx≠x->
 sp (.ref x::(vs++dvs)) (a9 (a9 H1 dx (.own x)) x (.ins C dx [])) (λv H2=>v=.non/\Q (.ref x) H2) E
def jfn(K:W.Frag)(fd:FuncData)(ps:List Str)(ds:List Value):Prop:=
 ∀(s:Shared) (us:List Value),K.In s.heap->(us++ds).length=ps.length->BindsTo s fd ⟨us,[]⟩ (ps.zip (us++ds))
theorem jfn.all{K:W.Frag}(h:∀us:List Value,us.length=ps.length->bindArgs fd ⟨us,[]⟩=pure (ps.zip us)):jfn K fd ps []:=λs us _ hl=>by
 rw[zr]at hl ⊢;exact .of_eq (h us hl)
def jo(CX:jb)(X:Cx)(E:XK):Prop:=∀(pins:List (Addr×Obj)) (σ:St) (H:Hp) (s:Shared) (e:Value) (s':Shared),Inv X pins σ H s->CX X.stack H s E e s'->X.xe e s'
section
variable {X : Cx} {CX : jb} {k : Nat} {f C : Addr} {fd : FuncData} {ps : List Str} {sp : Sp} {dvs : List V} {ds : List Value} {E : XK} {x m : Str} {p pos apos : Pos} {e o : Expr} {es : List Expr} {ta : TE} {t : TA}
theorem E1{σ:St}(F:FnOk X.prog X.w X.K X.mg X.base CX k f fd ps sp)(hr:Room k X.A)(hb:jfn X.K fd ps ds)(hd:Vals dvs ds)(hx:jo CX X E)
  (I:Inv X pins σ H s) (r:Vals vs us) (h:sp (vs++dvs) H Q E):wpAny (model X.prog X.w) X.A (call (.ref f) us) (EP X pins σ Q) X.xe s:=by
 have r2:Vals (vs++dvs) (us++ds):=r.append hd;have hl:(us++ds).length=ps.length:=by rw[<-r2.length];exact F.len _ _ _ _ h
 refine wpAny_call (codeAny_mono (F.run X.A X.stack s H ⟨us,[]⟩ (us++ds) (vs++dvs) Q E hr I.env0 (hb s us I.kIn hl) r2 h) λr s' hq=> ?_);cases r with
 | error e=>exact hx pins σ H s e s' I hq
 | ok fl=>
  cases fl with
  | ret u=>exact I.after hq
  | next=>exact False.elim hq
  | brk=>exact False.elim hq
  | cont=>exact False.elim hq
theorem OV(F:FnOk X.prog X.w X.K X.mg X.base CX k f fd ps sp)(hr:Room k X.A)(hg:Gl X x)(hm:X.mg x=some (.ref f))(hk:W.keepIn X.K (.ref f)=true)(hb:jfn X.K fd ps ds)(hd:Vals dvs ds)(hx:jo CX X E)
  (ha:PA X (e::es) t) (hdb:(x==("__debug__":Str))=false:=by decide) (he:starEach (e::es) X.env=(false,eval e X.env)::starEach es X.env:=by rfl) (hpl:(backTo pos (starEach es X.env)).any (·.1)=false:=by rfl):
  PE X (.Call (.Name x p) (e::es) [] pos) (Eo sp dvs E t):=by
 intro pins s σ H Q I h;refine wpAny_Call_Name_kw (u5 I hg hm ?_ hdb);refine W.callWith_K (h₀:=X.base) I.ok.mod.kin hk (bE (ha pos pins s σ H _ I h) λus s1 ⟨vs,H1,I1,r,q⟩=>⟨I1.kIn,?_⟩) he hpl;exact E1 F hr hb hd hx I1 r q
structure Mk (K:W.Frag) (C f:Addr):Prop where
 makes:W.makesIn K C=true
 init:W.findIn K (.ref C) "__init__"=some (some (.ref f))
 fn:W.isFn K (.ref f)=true
 kp:W.keepIn K (.ref C)=true
theorem HF{σ:St}(M:Mk X.K C f)(F:FnOk X.prog X.w X.K X.mg X.base CX k f fd ps sp)(hr:Room (k+1) X.A)(hb:jfn X.K fd ps ds)(hd:Vals dvs ds)
  (hx:jo CX X E) (I:Inv X pins σ H s) (r:Vals vs us)
  (h:∀x dx,H x=none->H dx=none->dx≠x->sp (.ref x::(vs++dvs)) (a9 (a9 H dx (.own x)) x (.ins C dx [])) (λv H2=>v=.non/\Q (.ref x) H2) E):
  wpAny (model X.prog X.w) X.A (call (.ref C) us) (EP X pins σ Q) X.xe s:=by
 have hq:=h (s.heap.objs.size+1) s.heap.objs.size (I.hok.fresh (gc _)) (I.hok.fresh (qi _)) (qv (zp _));have I2:=Inv.made (C:=C) I;have r2:Vals (V.ref (s.heap.objs.size+1)::(vs++dvs)) (Value.ref (s.heap.objs.size+1)::(us++ds)):=.cons rfl (r.append hd);have hl:(Value.ref (s.heap.objs.size+1)::us++ds).length=ps.length:=by
  have e:=r2.length;rw[F.len _ _ _ _ hq]at e;exact e.symm
 refine wpAny_call (Mu (f:=f) I.kIn M.makes M.init (beq_iff_eq.mp M.fn) (codeAny_mono (F.run _ X.stack _ _ ⟨Value.ref (s.heap.objs.size+1)::us,[]⟩ (Value.ref (s.heap.objs.size+1)::(us++ds)) _ _ E (hr.make C us [])
  (I2.env0.make C us []) (hb _ (Value.ref (s.heap.objs.size+1)::us) I2.kIn hl) r2 hq) λr s' hq'=> ?_))
 cases r with
 | error e=>exact hx pins σ _ _ e s' I2 hq'
 | ok fl=>
  cases fl with
  | ret u=>
   obtain⟨v,H',I3,rv,ev,q3⟩:=I2.after hq';subst ev;exact⟨rv,⟨V.ref (s.heap.objs.size+1),H',I3,rfl,q3⟩⟩
  | next=>exact False.elim hq'
  | brk=>exact False.elim hq'
  | cont=>exact False.elim hq'
theorem NB(M:Mk X.K C f)(F:FnOk X.prog X.w X.K X.mg X.base CX k f fd ps sp)(hr:Room (k+1) X.A)(hg:Gl X x)(hm:X.mg x=some (.ref C))(hb:jfn X.K fd ps ds)(hd:Vals dvs ds)(hx:jo CX X E)
  (ha:PA X (e::es) t) (hdb:(x==("__debug__":Str))=false:=by decide) (he:starEach (e::es) X.env=(false,eval e X.env)::starEach es X.env:=by rfl) (hpl:(backTo pos (starEach es X.env)).any (·.1)=false:=by rfl):
  PE X (.Call (.Name x p) (e::es) [] pos) (vt C sp dvs E t):=by
 intro pins s σ H Q I h;refine wpAny_Call_Name_kw (u5 I hg hm ?_ hdb);refine W.callWith_K (h₀:=X.base) I.ok.mod.kin M.kp (bE (ha pos pins s σ H _ I h) λus s1 ⟨vs,H1,I1,r,q⟩=>⟨I1.kIn,?_⟩) he hpl;exact HF M F hr hb hd hx I1 r q
theorem OE(M:Mk X.K C f)(F:FnOk X.prog X.w X.K X.mg X.base CX k f fd ps sp)(hr:Room (k+1) X.A)(hg:Gl X x)(hm:X.mg x=some (.ref C))(hb:jfn X.K fd ps ds)(hd:Vals dvs ds)(hx:jo CX X E)
  (hdb:(x==("__debug__":Str))=false:=by decide):PE X (.Call (.Name x p) [] [] pos) (vt C sp dvs E iZ):=by
 intro pins s σ H Q I h;refine wpAny_Call_Name_kw (u5 I hg hm ?_ hdb);exact W.callWith_K0 I.kIn M.kp (HF (us:=[]) M F hr hb hd hx I .nil h)
end
structure FnScope (N P:List Str) (sc:Scope):Prop where
 kind:sc.kind=.function
 co:sc.isCoroutine=false
 gen:sc.isGenerator=false
 nd:N.Nodup
 pre:N.take P.length=P
 par:∀x∈P,sc.names.lookup x=some .local\/sc.names.lookup x=some .cell
 nofree:∀y∈sc.names,y.2≠ .free
theorem JF{kindOf:Str->Option NameKind}:∀{binds:List (Str×Value)} {m:Str->Option Value},(∀v,(x,v)∉binds)->bindL kindOf binds m x=m x
  | [],_,_=>rfl
  | (n,v)::r,m,h=>by
    unfold bindL;rw[JF λw hw=>h w (qg _ hw)];split
    · have:x≠n:=by rintro rfl;exact h v qj
      simp[this]
    · rfl
theorem Iv{kindOf:Str->Option NameKind}:∀{binds:List (Str×Value)} {m:Str->Option Value},(∀v,(x,v)∉binds)->bindC kindOf binds m x=m x
  | [],_,_=>rfl
  | (n,v)::r,m,h=>by
    unfold bindC;rw[Iv λw hw=>h w (qg _ hw)];split
    · rfl
    · have:x≠n:=by rintro rfl;exact h v qj
      simp[this]
theorem Kn{kindOf:Str->Option NameKind}{x:Str}{v:Value}:∀{P:List Str} {vs:List Value} {i:Nat} {m:Str->Option Value},P.Nodup->P[i]?=some x->vs[i]?=some v->kindOf x=some .local->
  bindL kindOf (P.zip vs) m x=some v
 | [],_,_,_,_,h,_,_=>by simp at h
 | _::_,[],_,_,_,_,h,_=>by simp at h
 | p::P,w::vs,0,m,nd,h1,h2,hk=>by
  simp at h1 h2;subst h1;subst h2;show bindL kindOf ((p,w)::P.zip vs) m p=_;unfold bindL;rw[JF λv hv=>(ku.mp nd).1 (gm hv).1,if_pos hk];simp
 | p::P,w::vs,i+1,m,nd,h1,h2,hk=>by
  show bindL kindOf ((p,w)::P.zip vs) m x=_;unfold bindL;exact Kn (i:=i) (ku.mp nd).2 (by simpa using h1) (by simpa using h2) hk
theorem IK{kindOf:Str->Option NameKind}{x:Str}{v:Value}:∀{P:List Str} {vs:List Value} {i:Nat} {m:Str->Option Value},P.Nodup->P[i]?=some x->vs[i]?=some v->kindOf x≠some .local->
  bindC kindOf (P.zip vs) m x=some v
 | [],_,_,_,_,h,_,_=>by simp at h
 | _::_,[],_,_,_,_,h,_=>by simp at h
 | p::P,w::vs,0,m,nd,h1,h2,hk=>by
  simp at h1 h2;subst h1;subst h2;show bindC kindOf ((p,w)::P.zip vs) m p=_;unfold bindC;rw[Iv λv hv=>(ku.mp nd).1 (gm hv).1,if_neg hk];simp
 | p::P,w::vs,i+1,m,nd,h1,h2,hk=>by
  show bindC kindOf ((p,w)::P.zip vs) m x=_;unfold bindC;exact IK (i:=i) (ku.mp nd).2 (by simpa using h1) (by simpa using h2) hk
noncomputable def start(N:List Str)(vs:List V):St:=vs.map some++List.replicate (N.length - vs.length) none
noncomputable def bL(CX:jb)(P:Program)(w:World)(K:W.Frag)(mg:Str->Option Value)(base:Heap)(N:List Str)(qual:Str)(scope:Scope)(f:Addr)(cd:Value)(A:Around)(outer:List Env)(s:Shared)(H:Hp)(E:XK):Cx where
 prog:=P
 w:=w
 K:=K
 mg:=mg
 base:=base
 A:=A.deeper (envOfC qual scope s.heap.objs.size f cd)
 N:=N
 s₀:=s
 H₀:=H
 env:=envOfC qual scope s.heap.objs.size f cd
 outer:=outer
 stack:=envOfC qual scope s.heap.objs.size f cd::outer
 ex:=[]
 calm:=true
 fn:=λ_=>true
 pn:=[]
 xe:=λe s'=>wpAny (model P w) (A.deeper (envOfC qual scope s.heap.objs.size f cd)) (leaving (envOfC qual scope s.heap.objs.size f cd) e) (λ_ s''=>CX outer H s E e s'') (λe' s''=>CX outer H s E e' s'') s'
theorem Ja{sc:Scope}(h:sc.names.lookup x=some .cell):∃c,(cellsFrom n sc.names []).lookup x=some c:=by
 have q:=W.cellsFrom_some sc.names n [] (.inl h);exact zx.mp q
theorem Nf{K:W.Frag}{mg:Str->Option Value}
  (S:FnScope N ps scope) (hd:A.handled=none) (e0:Env0 P w K mg base A outer s H) (hl:vs.length=ps.length) (r:Vals vs us)
  (x:InCallC s s.heap.objs.size (bindL (envOfC qual scope s.heap.objs.size f cd).kindOf (ps.zip us) λ_=>none) (cellsFrom (s.heap.objs.size+1) scope.names []) (bindC (envOfC qual scope s.heap.objs.size f cd).kindOf (ps.zip us) λ_=>none) s1):
  Inv (bL CX P w K mg base N qual scope f cd A outer s H E) [] (start N vs) H s1:=by
 have hpl:ps.length<=N.length:=by have:=congrArg List.length S.pre;rw[wt]at this;omega
 obtain⟨h1,tk,rfl,hk⟩:=x.done;have noA:∀b:Addr,b∉(bL CX P w K mg base N qual scope f cd A outer s H E).ex:=λb z=>absurd (show b∈([]:List Addr)from z) (by simp);refine⟨⟨e0.mod,S.kind,rfl,rfl,qi _,λy z c h1 h2=> ?_,λy hy=> ?_,λy c _ h=> ?_,λ_=>hd,Around.frames_deeper e0.frames,.inr ⟨rfl,rfl⟩,λb z=>absurd z (noA b),e0.bs,e0.bsz,λb _ _=>noA b,λb z=>absurd z (noA b),e0.funs,e0.frf⟩,
  rfl,e0.bare,Un.kept hk,⟨_,x.toInCall.ns,λi y v h1 h2 h3=> ?_⟩,λy c h=>⟨_,x.cell y c h⟩,e0.hok.fresh (qi _),λy c h=> ?_,λp hp=>absurd (show p∈([]:List (Addr×Obj))from hp) (by simp),e0.hok.kept hk,?_⟩
 ·exact name_of_addr x.apart (PySem.mem_of_lookup h1) (PySem.mem_of_lookup h2)
 ·have hy:scope.names.lookup y=some .cell\/scope.names.lookup y=some .free:=hy
  rcases hy with hy|hy
  ·exact Ja hy
  ·exact absurd rfl (S.nofree _ (PySem.mem_of_lookup hy))
 ·exact gk (x.above y c (PySem.mem_of_lookup h))
 ·have hi:i<vs.length:=by
   unfold start at h2;by_cases hi:i<vs.length
   ·exact hi
   ·rw[ze (by simpa using hi)]at h2
    rw[zy]at h2;split at h2<;>cases h2
  have ha:vs[i]?=some v:=by
   unfold start at h2;rw[z8 (by simpa using hi),z5]at h2;cases e:vs[i]? with
   | none=>rw[e]at h2;cases h2
   | some a=>rw[e]at h2;cases h2;rfl
  obtain⟨u,hu,rv⟩:=r.get ha;have hp:ps[i]?=some y:=by
   rw[<-S.pre,ww (by omega)];exact h1
  have ndP:ps.Nodup:=by rw[<-S.pre];exact S.nd.sublist (List.take_sublist _ _)
  refine⟨u,rv,?_⟩;rcases S.par y (qt hp)with k|k
  ·exact .inl ⟨k,Kn ndP hp hu k⟩
  ·obtain⟨c,e⟩:=Ja (n:=s.heap.objs.size+1) k
   refine .inr ⟨.inl k,c,e,?_⟩;have q:=x.cell y c e;rw[IK ndP hp hu (by show scope.names.lookup y≠_;rw[k];decide)]at q;exact q
 ·exact e0.hok.fresh (gk (x.above y c (PySem.mem_of_lookup h)))
 ·unfold start
  show _=N.length;rw[zd,qd,kh];omega
theorem Ar{K:W.Frag}{mg:Str->Option Value}{dV kV doc pm cdv ct oc:Value}
 (lk:K.lookup f=some ⟨oc,od,.func (W.fnOf name qual params body scope dV kV doc pm an cdv ct),osl⟩) (hcd:W.codeIn K cdv qual=true) (S:FnScope N ps scope)
  (len:∀vs H Q E,sp vs H Q E->vs.length=ps.length)
  (hbody:∀(A:Around) (outer:List Env) (s:Shared) (H:Hp) (vs:List V) (Q:VK) (E:XK),Room k (A.deeper (envOfC qual scope s.heap.objs.size f cdv))->sp vs H Q E->
   ∃t,PSs (bL CX P w K mg base N qual scope f cdv A outer s H E) body t/\t {nx:=λ_ H'=>Q .non H',rt:=Q} (start N vs) H):
  FnOk P w K mg base CX (k+1) f (W.fnOf name qual params body scope dV kV doc pm an cdv ct) ps sp:=by
 refine⟨len,λA outer s H args us vs Q E hr e0 hb r hsp=> ?_⟩;have hl:=len _ _ _ _ hsp;have KX:K.In s.heap:=e0.mod.kin.keeps λb o e=>(e0.bs b o e).1;have lim:s.heap.NoLimit:=e0.mod.nolimit.keeps λb o e=>(e0.bs b o e).1;have hkind:∀y∈ps.zip us,scope.names.lookup y.1=some .local\/(scope.names.lookup y.1=some .cell/\((cellsFrom (s.heap.objs.size+1) scope.names []).lookup y.1).isSome=true):=λ⟨n,v⟩ hy=>by
  rcases S.par n (gm hy).1 with q|q
  ·exact .inl q
  ·exact .inr ⟨q,W.cellsFrom_some _ _ _ (.inl q)⟩
 refine codeAny_call_function hr.depth (KX _ _ lk) rfl S.co S.gen rfl (W.codeRec_of KX hcd) (hb _ _ _ _ ?_);refine wpAny_newFunctionEnv_cells S.kind hkind λenv he s1 x=> ?_;subst he;refine⟨lim.keeps x.toInCall.keep,codeAny_func ?_⟩;obtain⟨t,ht,hq⟩:=hbody A outer s H vs Q E (hr.deeper _) hsp;have I:Inv (bL CX P w K mg base N qual scope f cdv A outer s H E) [] (start N vs) H s1:=Nf S hr.hd e0 hl r x;refine wpAny_mono (ht [] s1 (start N vs) H _ I hq) (λfl s' hs=> ?_) λe s' hs=>hs;have fin:∀{σ':St} {H':Hp} {v:V} {u:Value},Inv (bL CX P w K mg base N qual scope f cdv A outer s H E) [] σ' H' s'->RelV v u->Q v H'->CE outer P w H s Q u s':=
  fun{σ' H' v u} J rv q=>⟨v,H',J.os,J.bare,J.base,J.hok,rv,q⟩
 cases fl with
 | ret u=>
  obtain⟨v,σ',H',J,rv,q⟩:=hs;exact fin J rv q
 | next=>
  obtain⟨σ',H',J,q⟩:=hs;exact fin (v:=V.non) (u:=Value.none) J rfl q
 | brk=>
  obtain⟨_,_,_,q⟩:=hs;exact False.elim q
 | cont=>
  obtain⟨_,_,_,q⟩:=hs;exact False.elim q
section
variable {X : Cx} {x : Str} {p pos : Pos} {e : Expr} {es : List Expr} {t : TA} {id T : String} {r : List V -> Hp -> VK -> Prop}
noncomputable def Eb(r:List V->Hp->VK->Prop)(t:TA):TE:=λσ H Q=>t σ H λvs H1=>r vs H1 Q
theorem cT(hc:jcp X (.builtin id) r)(hg:Gl X x)(hm:X.mg x=none)(hv:bootBuiltins x=some (.builtin id))(ha:PA X (e::es) t)(hn:x≠"__name__":=by decide)(hdb:(x==("__debug__":Str))=false:=by decide)
  (he:starEach (e::es) X.env=(false,eval e X.env)::starEach es X.env:=by rfl) (hpl:(backTo pos (starEach es X.env)).any (·.1)=false:=by rfl):PE X (.Call (.Name x p) (e::es) [] pos) (Eb r t):=by
 intro pins s σ H Q I h;refine wpAny_Call_Name_kw (vc I hg hm hv ?_ hn hdb);exact PyProof.Rows.callWith_builtin1 (bE (ha pos pins s σ H _ I h) λus s1 ⟨vs,H1,I1,r1,q1⟩=>hc pins s1 σ H1 vs us Q I1 r1 q1) he hpl
theorem eg(hc:jcp X (.type T) r)(hg:Gl X x)(hm:X.mg x=none)(hv:bootBuiltins x=some (.type T))(ha:PA X (e::es) t)(hn:x≠"__name__":=by decide)(hdb:(x==("__debug__":Str))=false:=by decide)
  (he:starEach (e::es) X.env=(false,eval e X.env)::starEach es X.env:=by rfl) (hpl:(backTo pos (starEach es X.env)).any (·.1)=false:=by rfl):PE X (.Call (.Name x p) (e::es) [] pos) (Eb r t):=by
 intro pins s σ H Q I h;refine wpAny_Call_Name_kw (vc I hg hm hv ?_ hn hdb);exact PyProof.Rows.callWith_type1 (bE (ha pos pins s σ H _ I h) λus s1 ⟨vs,H1,I1,r1,q1⟩=>hc pins s1 σ H1 vs us Q I1 r1 q1) he hpl
end
end L2
namespace HT
open PySem PyProof.Rows
section
variable {prog : Program} {w : World} {A : Around} {E : Value -> Shared -> Prop} {s : Shared}
theorem LK{Q:Value->Shared->Prop}(ht:IsTup s.heap t vs.toArray)(hb:IsTup s.heap b ws.toArray)(hv:vs≠[])
  (h1:ws=[]->Q (.ref t) s) (h2:ws≠[]->Q (.ref s.heap.objs.size) {s with heap:=s.heap.push {cls:=.type "tuple",data:=.seq (vs++ws).toArray}})
  (hsz:vs.length+ws.length<=sizeLine):wpAny (model prog w) A (binaryOp .Add (.ref t) (.ref b)) Q E s:=by
 obtain⟨⟨cls,dd,data,sl⟩,ho,hc,n,hd⟩:=id ht;obtain⟨⟨cls2,dd2,data2,sl2⟩,ho2,hc2,n2,hd2⟩:=id hb;simp only at hc hd hc2 hd2;subst hc hd hc2 hd2;have e:vs.toArray++ws.toArray=(vs++ws).toArray:=by simp
 by_cases hw:ws=[]
 ·exact concat_meets ⟨_,ho,rfl⟩ ⟨_,ho2,rfl⟩ noFill_tuple_add seq_tuple_add PySem.F.slot_tuple_add PySem.F.entry_tuple_add (PySem.F.args_tuple_add_2 _ _)
   (tuple_addW1 t b vs.toArray ws.toArray n n2 dd dd2 sl sl2 (by simpa using hv) (by simp[hw])) ⟨ho,ho2,h1 hw⟩
 ·refine concat_meets ⟨_,ho,rfl⟩ ⟨_,ho2,rfl⟩ noFill_tuple_add seq_tuple_add PySem.F.slot_tuple_add PySem.F.entry_tuple_add (PySem.F.args_tuple_add_2 _ _)
   (tuple_addW2 t b vs.toArray ws.toArray n n2 dd dd2 sl sl2 (by simpa using hv) (by simpa using hw) (by rw[qo,qo];exact hsz)) ⟨ho,ho2,?_⟩
  rw[e];exact h2 hw
noncomputable def bI(n d:Nat):Option Int->Nat
 | none=>d
 | some v=>if v<0 then(v+(n:Int)).toNat else min v.toNat n
theorem tM(n d:Nat)(hd:d<=n)(o:Option Int):bI n d o<=n:=by
 cases o with
 | none=>exact hd
 | some v=>
  show(if v<0 then(v+(n:Int)).toNat else min v.toNat n)<=n;by_cases hv:v<0
  ·rw[if_pos hv];omega
  ·rw[if_neg hv];exact Nat.min_le_right _ _
theorem JR(v:Int)(n d:Nat):(if v<0 then max (v+(n:Int)) 0 else min v (n:Int))=((bI n d (some v):Nat):Int):=by
 show(if v<0 then max (v+(n:Int)) 0 else min v (n:Int))=(((if v<0 then(v+(n:Int)).toNat else min v.toNat n):Nat):Int);by_cases hv:v<0
 ·simp only[if_pos hv];omega
 ·simp only[if_neg hv];omega
theorem Lx(lo hi:Option Int)(n:Nat):Builtin.Slice.sliceAdjust lo hi 1 (n:Int)=(((bI n 0 lo:Nat):Int),((bI n n hi:Nat):Int)):=by
 have h1:¬((1:Int)<0):=by omega
 unfold Builtin.Slice.sliceAdjust;simp only[h1,if_false];refine Prod.ext ?_ ?_
 ·cases lo with
  | none=>rfl
  | some v=>exact JR v n 0
 ·cases hi with
  | none=>rfl
  | some v=>exact JR v n n
theorem LS(i j:Nat):Builtin.Slice.slicePlaces (i:Int) (j:Int) 1=j - i:=by
 unfold Builtin.Slice.slicePlaces;have h1:(1:Int)>0:=by omega
 simp only[h1,if_true,Int.ediv_one];split<;>omega
theorem KU{Q:Option Int->Shared->Prop}(p:IsPart v o)(h:Q o s):wpAny (model prog w) A (Builtin.Slice.slicePartIndex v) Q E s:=by
 cases p with
 | none=>exact slicePart_none h
 | int i t=>exact slicePart_int h
theorem Oh{lo hi:Option Int}{Q:Int×Int×Nat->Shared->Prop}(hs:s.heap.IsSliceOf sl vl vu .none)(pl:IsPart vl lo)(pu:IsPart vu hi)
  (h:Q (((bI n 0 lo:Nat):Int),1,bI n n hi - bI n 0 lo) s):wpAny (model prog w) A (Builtin.Slice.sliceApplied (.ref sl) (pure (n:Int))) Q E s:=by
 obtain⟨os,hos,hcs,hds⟩:=id hs;unfold Builtin.Slice.sliceApplied Builtin.Slice.sliceFields;refine wpAny_bind (wpAny_bind (wpAny_field hos hds (x:=vl) rfl (wpAny_bind (wpAny_field hos hds (x:=vu) rfl (wpAny_bind (wpAny_field hos hds (x:=.none) rfl (wpAny_pure ?_)))))));refine wpAny_bind (slicePart_none ?_);show wpAny _ _ (if((1:Int)==0)=true then _ else _) _ _ s;rw[if_neg (by decide)];refine wpAny_bind (KU pl (wpAny_bind (KU pu (wpAny_bind (wpAny_pure ?_)))));show wpAny _ _ (match Builtin.Slice.sliceAdjust lo hi 1 (n:Int)with|(lo,hi)=>pure (lo,(1:Int),Builtin.Slice.slicePlaces lo hi 1)) _ _ s;rw[Lx lo hi n];show wpAny _ _ (pure (((bI n 0 lo:Nat):Int),(1:Int),Builtin.Slice.slicePlaces ((bI n 0 lo:Nat):Int) ((bI n n hi:Nat):Int) 1)) _ _ s;rw[LS];exact wpAny_pure h
theorem Nd(xs:Array Value)(i k:Nat):((List.range k).filterMap λ(m:Nat)=>xs[((i:Int)+(m:Int)*1).toNat]?).toArray=((xs.toList.drop i).take k).toArray:=by
 have e:(λ(m:Nat)=>xs[((i:Int)+(m:Int)*1).toNat]?)=λm=>xs[i+m]?:=by
  funext m;have:((i:Int)+(m:Int)*1).toNat=i+m:=by omega
  rw[this]
 rw[e];have:=pick_run xs i k;rw[List.filterMap_map]at this;have e2:((λx=>xs[x]?)∘λx=>i+x)=λm=>xs[i+m]?:=rfl;rw[e2]at this;rw[this]
theorem Pe{lo hi:Option Int}{Q:Value->Shared->Prop}(ht:IsTup s.heap t items)(hs:s.heap.IsSliceOf sl vl vu .none)(pl:IsPart vl lo)(pu:IsPart vu hi)
  (hw:¬(bI items.size 0 lo=0/\bI items.size items.size hi=items.size))
  (h:Q (.ref s.heap.objs.size) {s with heap:=s.heap.push {cls:=.type "tuple",data:=.seq ((items.toList.drop (bI items.size 0 lo)).take (bI items.size items.size hi - bI items.size 0 lo)).toArray}})
  (hsz:items.size<=sizeLine):wpAny (model prog w) A (getItem (.ref t) (.ref sl)) Q E s:=by
 have htake:sizeOk (.seq ((items.toList.drop (bI items.size 0 lo)).take (bI items.size items.size hi - bI items.size 0 lo)).toArray):=by
  show((items.toList.drop (bI items.size 0 lo)).take (bI items.size items.size hi - bI items.size 0 lo)).toArray.size<=sizeLine;rw[qo,wt,gi,ky];omega
 have hj:bI items.size items.size hi<=items.size:=tM _ _ (qi _) hi;obtain⟨os,hos,hcs,hds⟩:=id hs;have hTs:s.TypeIs (.ref sl) "slice":=⟨os,hos,hcs⟩;unfold getItem
 try with_reducible refine wpAny_holding ?_
 first|refine wpAny_bind (wpAny_pure ?_)|skip
 refine wpAny_bind (wpAny_sequenceKey ht.typeIs (by decide) ?_);refine wpAny_bind (wpAny_callSpecial?_slot (name:=Str.ofString "__getitem__") ht.typeIs PyProof.Rows.slot_tuple_getitem
  (wpAny_call_entry PyProof.Rows.slot_tuple_getitem ht.typeIs entry_tuple_getitem ?_ (args_tuple_getitem _ _)))
 show wpAny _ _ (Builtin.Tuple.tupleItemsOf (.ref t) >>= _) _ _ s;refine wpAny_bind (tupleItemsOf_ ht ?_);refine wpAny_bind (wpAny_typeOf hTs ?_);rw[if_pos (by decide)];refine wpAny_bind (Oh hs pl pu ?_);have hno:¬((((bI items.size 0 lo:Nat):Int)==0&&(1:Int)==1&&(bI items.size items.size hi - bI items.size 0 lo)==items.size)=true):=by
  intro q;rw[qu,qu]at q;have q1:((bI items.size 0 lo:Nat):Int)=0:=eq_of_beq q.1.1;have q2:bI items.size items.size hi - bI items.size 0 lo=items.size:=eq_of_beq q.2;exact hw ⟨by omega,by omega⟩
 show wpAny _ _ (if(((bI items.size 0 lo:Nat):Int)==0&&(1:Int)==1&&(bI items.size items.size hi - bI items.size 0 lo)==items.size)=true then _ else _) _ _ s;rw[if_neg hno,Nd]
 first
  | exact wpAny_bind (m:=Builtin.Tuple.tupleExact _) (wpAny_newObj_type (wpAny_pure ⟨_,rfl,wpAny_pure h⟩) htake)
  | exact wpAny_bind (m:=Builtin.Tuple.tupleExact _) (wpAny_newObj_type (wpAny_bind (wpAny_pure (wpAny_pure ⟨_,rfl,wpAny_pure h⟩))) htake)
  | exact wpAny_bind (wpAny_bind (m:=Builtin.Tuple.tupleExact _) (wpAny_newObj_type (wpAny_pure (wpAny_pure ⟨_,rfl,wpAny_pure h⟩)) htake))
  | exact wpAny_bind (wpAny_bind (m:=Builtin.Tuple.tupleExact _) (wpAny_newObj_type (wpAny_pure ⟨_,rfl,wpAny_pure h⟩) htake))
end
end HT
namespace L2
open PySem PySem.Spec PyProof.Rows
abbrev TO:=St->Hp->(Option Int->Hp->Prop)->Prop
def PO(X:Cx)(e:Option Expr)(t:TO):Prop:=
 ∀(pins:List (Addr×Obj)) (s:Shared) (σ:St) (H:Hp) (Q:Option Int->Hp->Prop),Inv X pins σ H s->t σ H Q->
  wpAny (model X.prog X.w) X.A (evalPart e X.env) (λu s'=>∃o H',Inv X pins σ H' s'/\IsPart u o/\Q o H') X.xe s
noncomputable def KD:TO:=λ_ H Q=>Q none H
noncomputable def pd(t:TE):TO:=λσ H Q=>t σ H λx H1=>∃i,x=.int i/\Q (some i) H1
theorem Pu:∀{us:List Value},Vals (ns.map V.int) us->IntsAre us ns:=by
 induction ns with
 | nil=>intro us r;rw[zk]at r;cases r;exact .nil
 | cons n ns ih=>
  intro us r;rw[List.map_cons]at r;cases r with
  | cons r1 r2=>
   obtain⟨t,e⟩:=r1;subst e;exact .cons n t (ih r2)
section
variable {X : Cx} {e : Expr} {te : TE} {lo hi : Option Expr} {tl th : TO} {pos p2 : Pos}
theorem fq:PO X none KD:=by
 intro pins s σ H Q I h;rw[evalPart_none];exact wpAny_pure ⟨none,H,I,.none,h⟩
theorem ee(h:PE X e te):PO X (some e) (pd te):=by
 intro pins s σ H Q I hw;rw[evalPart_some];refine bE (h pins s σ H _ I hw) λu s1 ⟨x,H1,I1,r1,q1⟩=> ?_;obtain⟨i,rfl,q⟩:=q1;obtain⟨t,rfl⟩:=r1;exact⟨some i,H1,I1,.int i t,q⟩
def SlR(X:Cx)(r:V->Option Int->Option Int->Hp->VK->Prop):Prop:=
 ∀(pins:List (Addr×Obj)) (s:Shared) (σ:St) (H:Hp) (x:V) (v vl vu:Value) (lo hi:Option Int) (sl:Addr) (Q:VK),Inv X pins σ H s->RelV x v->s.heap.IsSliceOf sl vl vu .none->IsPart vl lo->IsPart vu hi->r x lo hi H Q->
  ∃T id,typeLookup (.type T) "__getitem__"=pure (some (.builtin id))/\s.TypeIs v T/\wpAny (model X.prog X.w) X.A (getItem v (.ref sl)) (EP X pins σ Q) X.xe s
theorem SlR.or{r r':V->Option Int->Option Int->Hp->VK->Prop}(h:SlR X r)(h':SlR X r'):SlR X (λx lo hi H Q=>r x lo hi H Q\/r' x lo hi H Q):=by
 intro pins s σ H x v vl vu lo hi sl Q I rx hs pl pu q;rcases q with q|q
 ·exact h pins s σ H x v vl vu lo hi sl Q I rx hs pl pu q
 ·exact h' pins s σ H x v vl vu lo hi sl Q I rx hs pl pu q
noncomputable def Jv(r:V->Option Int->Option Int->Hp->VK->Prop)(te:TE)(tl th:TO):TE:=λσ H Q=>te σ H λx H1=>tl σ H1 λl H2=>th σ H2 λu H3=>r x l u H3 Q
theorem fz{r:V->Option Int->Option Int->Hp->VK->Prop}(hr:SlR X r)(he:PE X e te)(hl:PO X lo tl)(hu:PO X hi th):PE X (.Subscript e (.Slice lo hi none p2) pos) (Jv r te tl th):=by
 intro pins s σ H Q I h;refine Subscript_ (bE (he pins s σ H _ I h) λv s1 ⟨x,H1,I1,r1,q1⟩=> ?_);refine wpAny_Slice (bE (hl pins s1 σ H1 _ I1 q1) λvl s2 ⟨l,H2,I2,pl,q2⟩=>bE (hu pins s2 σ H2 _ I2 q2) λvu s3 ⟨u,H3,I3,pu,q3⟩=> ?_);rw[evalPart_none];refine wpAny_pure ?_;have I4:Inv X pins σ H3 {s3 with heap:=s3.heap.push {cls:=.type "slice",data:=.fields #[vl,vu,.none]}}:=I3.kept (t':=s3.toks) λb ob q=>qe _ q;obtain⟨T,id,hT,ht,hg⟩:=hr pins {s3 with heap:=s3.heap.push {cls:=.type "slice",data:=.fields #[vl,vu,.none]}} σ H3 x v vl vu l u s3.heap.objs.size Q I4 r1 (Heap.IsSliceOf.new ..) pl pu q3;show wpAny (model X.prog X.w) X.A (subscriptTail e (.Slice lo hi none p2) v (.ref s3.heap.objs.size)) (EP X pins σ Q) X.xe {s3 with heap:=s3.heap.push {cls:=.type "slice",data:=.fields #[vl,vu,.none]}};exact tail_any (ops:=[.ref s3.heap.objs.size,v]) ht hT hg (by with_unfolding_all rfl)
noncomputable def gx(xs:List V)(lo hi:Option Int):List V:=(xs.drop (HT.bI xs.length 0 lo)).take (HT.bI xs.length xs.length hi - HT.bI xs.length 0 lo)
theorem Kx(xs:List V)(lo hi:Option Int):(gx xs lo hi).length<=xs.length:=by
 unfold gx;rw[wt,gi];omega
def zR(K:W.Frag):V->Option Int->Option Int->Hp->VK->Prop:=λx lo hi H Q=>∃a xs,x=.ref a/\SqT K H a xs/\
 ¬(HT.bI xs.length 0 lo=0/\HT.bI xs.length xs.length hi=xs.length)/\∀p,H p=none->Q (.ref p) (a9 H p (.tup (gx xs lo hi)))
theorem qJ:SlR X (zR X.K):=by
 intro pins s σ H x v vl vu lo hi sl Q I rx hs pl pu h;obtain⟨a,xs,rfl,hx,hw,q⟩:=h;cases rx;obtain⟨its,r,ht,hz⟩:=I.tuple hx;have hlen:its.toArray.size=xs.length:=by rw[qo];exact r.length.symm
 refine⟨"tuple",_,PyProof.Rows.slot_tuple_getitem.lookup,ht.typeIs,?_⟩;refine HT.Pe ht hs pl pu (by rw[hlen];exact hw) ?_ (by rw[hlen];exact hz);rw[hlen];refine⟨.ref s.heap.objs.size,_,I.laid (t':=s.toks) (o:=.tup (gx xs lo hi)) (λb ob q=>qe _ q) (qi _) ?_,rfl,q _ (I.hok.fresh (qi _))⟩;exact⟨z9 (Kx xs lo hi) hz,_,(r.drop (HT.bI xs.length 0 lo)).take (HT.bI xs.length xs.length hi - HT.bI xs.length 0 lo),IsTup.new _ _⟩
noncomputable def ou(K:W.Frag):R2:=λx y H Q=>∃a b xs ys,x=.ref a/\y=.ref b/\SqT K H a xs/\SqT K H b ys/\xs≠[]/\xs.length+ys.length<=sizeLine/\
 (ys=[]->Q (.ref a) H)/\(ys≠[]->∀p,H p=none->Q (.ref p) (a9 H p (.tup (xs++ys))))
theorem Vals.nil_iff(r:Vals xs us):us=[]↔xs=[]:=by
 cases r with
 | nil=>simp
 | cons _ _=>simp
theorem Nx:cG X (binaryOp .Add) (ou X.K):=by
 intro pins s σ H x y v u Q I rx ry h;obtain⟨a,b,xs,ys,rfl,rfl,ha,hb,hx,hz,q1,q2⟩:=h;cases rx;cases ry;obtain⟨its,r1,p1,_⟩:=I.tuple ha;obtain⟨its2,r2,p2,_⟩:=I.tuple hb;refine HT.LK p1 p2 (λz=>hx (r1.nil_iff.mp z)) (λz=>⟨.ref a,H,I,rfl,q1 (r2.nil_iff.mp z)⟩) (λz=> ?_) (by rw[<-r1.length,<-r2.length];exact hz);refine⟨.ref s.heap.objs.size,_,I.laid (t':=s.toks) (o:=.tup (xs++ys)) (λb ob q=>qe _ q) (qi _) ?_,rfl,q2 (λw=>z (r2.nil_iff.mpr w)) _ (I.hok.fresh (qi _))⟩;exact⟨by rw[zd];exact hz,_,r1.append r2,IsTup.new _ _⟩
end
noncomputable def gC(n:Nat)(i:Int):Option Nat:=if 0<=i then(if i<n then some i.toNat else none)else if -(n:Int)<=i then some (i+n).toNat else none
noncomputable def cU{α:Type}(xs:List α)(i:Int):Option α:=(gC xs.length i).bind λj=>xs[j]?
theorem Mg(h:gC n i=some j):seqIndex? i n=some j/\j<n/\ -(n:Int)<=i/\i<n:=by
 unfold gC at h;by_cases h0:0<=i
 ·rw[if_pos h0]at h
  by_cases h1:i<n
  ·rw[if_pos h1]at h
   have e:i.toNat=j:=Option.some.inj h;exact⟨by rw[seqIndex_of h0 h1,e],by omega,by omega,h1⟩
  ·rw[if_neg h1]at h;cases h
 ·rw[if_neg h0]at h
  by_cases h1: -(n:Int)<=i
  ·rw[if_pos h1]at h
   have e:(i+n).toNat=j:=Option.some.inj h;exact⟨by rw[seqIndex_neg (by omega) h1,e],by omega,h1,by omega⟩
  ·rw[if_neg h1]at h;cases h
theorem FD{α:Type}{xs:List α}{v:α}(h:cU xs i=some v):∃j,seqIndex? i xs.length=some j/\xs[j]?=some v/\j<xs.length/\ -(xs.length:Int)<=i/\i<xs.length:=by
 unfold cU at h;cases e:gC xs.length i with
 | none=>rw[e]at h;cases h
 | some j=>
  rw[e]at h;obtain⟨h1,h2,h3,h4⟩:=Mg e;exact⟨j,h1,h,h2,h3,h4⟩
def Kh(b:Expr):Prop:=∀o i,subscripted b false o i=operate [o,i] (getItem o i)
def IxR(X:Cx)(r:R2):Prop:=
 ∀(value slice:Expr) (pins:List (Addr×Obj)) (s:Shared) (σ:St) (H:Hp) (x y:V) (v u:Value) (Q:VK),Inv X pins σ H s->RelV x v->RelV y u->r x y H Q->
  subscripted slice false v u=operate [v,u] (getItem v u)->wpAny (model X.prog X.w) X.A (subscriptTail value slice v u) (EP X pins σ Q) X.xe s
def tD(X:Cx)(id:String)(r:V->List V->Hp->VK->Prop):Prop:=
 ∀(pins:List (Addr×Obj)) (s:Shared) (σ:St) (H:Hp) (x:V) (xs:List V) (v:Value) (us:List Value) (Q:VK),Inv X pins σ H s->RelV x v->Vals xs us->r x xs H Q->
  wpAny (model X.prog X.w) X.A (call (.builtin id) (v::us)) (EP X pins σ Q) X.xe s
section
variable {X : Cx} {a b : Expr} {ta tb : TE} {pos : Pos}
theorem IxR.or(h:IxR X r)(h':IxR X r'):IxR X (λx y H Q=>r x y H Q\/r' x y H Q):=by
 intro value slice pins s σ H x y v u Q I rx ry q hs;rcases q with q|q
 ·exact h value slice pins s σ H x y v u Q I rx ry q hs
 ·exact h' value slice pins s σ H x y v u Q I rx ry q hs
theorem zK(hr:IxR X r)(ha:PE X a ta)(hb:PE X b tb)(hs:Kh b):PE X (.Subscript a b pos) (nc r ta tb):=by
 intro pins s σ H Q I h;exact Subscript_ (qC ha hb I h λv u s2 x y H2 I2 rx ry q=>hr a b pins s2 σ H2 x y v u Q I2 rx ry q (hs _ _))
noncomputable def zZ(K:W.Frag):R2:=λx y H Q=>∃p xs i v,x=.ref p/\y=.int i/\SqL K H p xs/\cU xs i=some v/\Q v H
noncomputable def Bb(K:W.Frag):R2:=λx y H Q=>∃p xs i v,x=.ref p/\y=.int i/\SqT K H p xs/\cU xs i=some v/\Q v H
noncomputable def xi:R2:=λx y H Q=>∃z i c,x=.str z/\y=.int i/\z.length<=sizeLine/\cU z.cps.toList i=some c/\Q (.str ⟨#[c]⟩) H
theorem MW:IxR X (zZ X.K):=by
 intro value slice pins s σ H x y v u Q I rx ry h hs;obtain⟨p,xs,i,z,rfl,rfl,hq,he,q⟩:=h;cases rx;obtain⟨t,rfl⟩:=ry;obtain⟨its,r,pl,hz⟩:=I.list hq;obtain⟨j,h1,h2,h3,h4,h5⟩:=FD he;obtain⟨w,ew,rw'⟩:=r.get h2;have hl:=r.length;have hn:=uS;have fin:EP X pins σ Q w s:=⟨z,H,I,rw',q⟩;by_cases h0:0<=i
 ·have hj:i.toNat=j:=by
   rw[seqIndex_of h0 h5]at h1;exact Option.some.inj h1
  exact item_listR pl.isList h0 (by omega) (by rw[hj];simpa using ew) fin hs
 ·have hj:(i+(its.toArray.size:Int)).toNat=j:=by
   rw[seqIndex_neg (by omega) h4]at h1;rw[qo,<-hl];exact Option.some.inj h1
  exact subscriptTail_builtinR (x:=w) pl.isList.typeIs slot_list_getitem.lookup
   (wpAny_getItem_list_neg (Q:=λr s'=>r=w/\EP X pins σ Q r s') pl.isList (by omega) (by rw[qo]<;>omega) (by omega) (by rw[hj];simpa using ew) ⟨rfl,fin⟩) hs
theorem s_:IxR X (Bb X.K):=by
 intro value slice pins s σ H x y v u Q I rx ry h hs;obtain⟨p,xs,i,z,rfl,rfl,hq,he,q⟩:=h;cases rx;obtain⟨t,rfl⟩:=ry;obtain⟨its,r,pl,hz⟩:=I.tuple hq;obtain⟨j,h1,h2,h3,h4,h5⟩:=FD he;obtain⟨w,ew,rw'⟩:=r.get h2;have hl:=r.length;have hn:=uS;have fin:EP X pins σ Q w s:=⟨z,H,I,rw',q⟩;exact subscriptTail_builtinR (x:=w) pl.typeIs slot_tuple_getitem.lookup
  (getItem_tuple (j:=j) (Q:=λr s'=>r=w/\EP X pins σ Q r s') pl (by omega) (by omega) (by rw[qo,<-hl];exact h1) (by simpa using ew) ⟨rfl,fin⟩) hs
theorem uw:IxR X xi:=by
 intro value slice pins s σ H x y v u Q I rx ry h hs;obtain⟨z,i,c,rfl,rfl,hz,he,q⟩:=h;obtain⟨t,rfl⟩:=rx;obtain⟨t',rfl⟩:=ry;obtain⟨j,h1,h2,h3,h4,h5⟩:=FD he;have hl:z.cps.toList.length=z.length:=by simp[Str.length]
 rw[hl]at h1 h4 h5;have hn:=uS;exact tail_any (typeIs_str s z t) slot_str_getitem.lookup (getItem_str (c:=c) (by
  have e1:decide (i< -(2^63:Int))=false:=decide_eq_false (by omega);have e2:decide (i>=2^63)=false:=decide_eq_false (by omega);rw[e1,e2,Bool.or_false]) (by rw[h1];simpa using h2) ⟨.str ⟨#[c]⟩,H,I.tok _,⟨_,rfl⟩,q⟩) hs
noncomputable def J9(K:W.Frag):R2:=λx y H Q=>zZ K x y H Q\/Bb K x y H Q\/xi x y H Q
theorem sj:IxR X (J9 X.K):=MW.or (s_.or uw)
theorem Ms(lo hi:Option Int)(n:Nat):(sliceBounds lo hi none n).1=((HT.bI n 0 lo:Nat):Int)/\(sliceBounds lo hi none n).2.1=((HT.bI n n hi:Nat):Int)/\(sliceBounds lo hi none n).2.2=1:=by
 refine⟨?_,?_,rfl⟩
 ·cases lo with
  | none=>simp[sliceBounds,HT.bI]
  | some i=>
   simp only[sliceBounds,HT.bI,Option.getD_none,show(1:Int)>0 by decide,if_true];by_cases h:i<0
   ·simp only[h,if_true]<;>omega
   ·simp only[h,if_false]<;>omega
 ·cases hi with
  | none=>simp[sliceBounds,HT.bI]
  | some i=>
   simp only[sliceBounds,HT.bI,Option.getD_none,show(1:Int)>0 by decide,if_true];by_cases h:i<0
   ·simp only[h,if_true]<;>omega
   ·simp only[h,if_false]<;>omega
theorem Le(its:List Value)(lo hi:Option Int):slicePick its.toArray lo hi none=((its.drop (HT.bI its.length 0 lo)).take (HT.bI its.length its.length hi - HT.bI its.length 0 lo)).toArray:=by
 obtain⟨h1,h2,h3⟩:=Ms lo hi its.toArray.size;unfold slicePick;rw[h1,h2,h3];simp only[sliceRange_one,pick_run,qo]<;>rfl
def yV(K:W.Frag):V->Option Int->Option Int->Hp->VK->Prop:=λx lo hi H Q=>∃a xs,x=.ref a/\SqL K H a xs/\∀p,H p=none->Q (.ref p) (a9 H p (.lst (gx xs lo hi)))
theorem Qm:SlR X (yV X.K):=by
 intro pins s σ H x v vl vu lo hi sl Q I rx hs pl pu h;obtain⟨a,xs,rfl,hx,q⟩:=h;cases rx;obtain⟨its,r,ht,hz⟩:=I.list hx;have hlen:=r.length;refine⟨"list",_,slot_list_getitem.lookup,ht.isList.typeIs,?_⟩;refine wpAny_getItem_list_slice ht.isList hs pl pu .none (by simp) ?_ (by rw[qo]<;>omega);rw[Le,<-hlen];refine⟨.ref s.heap.objs.size,_,I.laid (t':=s.toks) (o:=.lst (gx xs lo hi)) (λb ob q=>qe _ q) (qi _) ?_,rfl,q _ (I.hok.fresh (qi _))⟩;exact⟨z9 (Kx xs lo hi) hz,_,0,(r.drop (HT.bI xs.length 0 lo)).take (HT.bI xs.length xs.length hi - HT.bI xs.length 0 lo),qw _ rfl⟩
noncomputable def lh:V->Bool
 | .non=>true
 | .bl _=>true
 | .int _=>true
 | .str _=>true
 | _=>false
noncomputable def kZ:V->V->Bool
 | .non,.non=>true
 | .bl a,.bl b=>a==b
 | .bl a,.int b=>(if a then 1 else 0)==b
 | .int a,.bl b=>a==(if b then 1 else 0)
 | .int a,.int b=>a==b
 | .str a,.str b=>a==b
 | _,_=>false
theorem tG(ry:RelV y u)(rx:RelV x v)(fy:lh y=true)(fx:lh x=true):SeqAt.EqAt A s u v (kZ y x):=by
 cases y with
 | non=>
  cases ry
  cases x with
  | non=>cases rx;exact SeqAt.EqAt.same _
  | bl b=>cases rx;exact SeqAt.EqAt.none_bool b
  | int b=>obtain⟨t,rfl⟩:=rx;exact SeqAt.EqAt.none_int b t
  | str b=>obtain⟨t,rfl⟩:=rx;exact SeqAt.EqAt.none_str b t
  | _=>exact absurd (show false=true from fx) ql
 | bl a=>
  cases ry
  cases x with
  | non=>cases rx;exact SeqAt.EqAt.bool_none a
  | bl b=>cases rx;exact SeqAt.EqAt.bool_bool a b
  | int b=>obtain⟨t,rfl⟩:=rx;exact SeqAt.EqAt.bool_int a b t
  | str b=>obtain⟨t,rfl⟩:=rx;exact SeqAt.EqAt.bool_str a b t
  | _=>exact absurd (show false=true from fx) ql
 | int a=>
  obtain⟨t',rfl⟩:=ry;cases x with
  | non=>cases rx;exact SeqAt.EqAt.int_none a t'
  | bl b=>cases rx;exact SeqAt.EqAt.int_bool a t' b
  | int b=>obtain⟨t,rfl⟩:=rx;exact SeqAt.EqAt.int_int a t' b t
  | str b=>obtain⟨t,rfl⟩:=rx;exact SeqAt.EqAt.int_str a t' b t
  | _=>exact absurd (show false=true from fx) ql
 | str a=>
  obtain⟨t',rfl⟩:=ry;cases x with
  | non=>cases rx;exact SeqAt.EqAt.str_none a t'
  | bl b=>cases rx;exact SeqAt.EqAt.str_bool a t' b
  | int b=>obtain⟨t,rfl⟩:=rx;exact SeqAt.EqAt.str_int a t' b t
  | str b=>obtain⟨t,rfl⟩:=rx;exact SeqAt.EqAt.str_str a t' b t
  | _=>exact absurd (show false=true from fx) ql
 | _=>exact absurd (show false=true from fy) ql
noncomputable def hR(x:V)(u:Value):Bool:=match u with
 | .none=>kZ .non x
 | .bool b=>kZ (.bl b) x
 | .int i _=>kZ (.int i) x
 | .str z _=>kZ (.str z) x
 | _=>false
theorem Ih(r:RelV y u)(f:lh y=true):hR x u=kZ y x:=by
 cases y with
 | non=>cases r;rfl
 | bl b=>cases r;rfl
 | int i=>obtain⟨t,rfl⟩:=r;rfl
 | str z=>obtain⟨t,rfl⟩:=r;rfl
 | _=>exact absurd (show false=true from f) ql
theorem Bu{x:V}:∀{xs:List V} {us:List Value},Vals xs us->xs.all lh=true->us.any (hR x)=xs.any λy=>kZ y x
 | _,_,.nil,_=>rfl
 | y::xs,u::us,.cons r t,f=>by
  rw[wb,qu]at f;rw[wl,wl,Ih r f.1,Bu t f.2]
theorem yT{A:Around}{s:Shared}{x:V}{v:Value}(rx:RelV x v)(fx:lh x=true):∀{xs:List V} {us:List Value},Vals xs us->xs.all lh=true->∀u∈us,SeqAt.EqAt A s u v (hR x u)
 | _,_,.nil,_=>λu hu=>by cases hu
 | y::xs,u::us,.cons r t,f=>λu' hu=>by
  rw[wb,qu]at f;rcases qr.mp hu with rfl|hu
  ·rw[Ih r f.1];exact tG r rx f.1 fx
  ·exact yT rx fx t f.2 u' hu
noncomputable def Ho(x:V)(xs:List V):Bool:=xs.any λy=>kZ y x
noncomputable def Fl(K:W.Frag)(neg:Bool):R2:=λx y H Q=>∃p xs,y=.ref p/\(SqL K H p xs\/SqT K H p xs)/\lh x=true/\xs.all lh=true/\Q (.bl (if neg then !Ho x xs else Ho x xs)) H
theorem Ql:cG X (compareOp .In) (Fl X.K false):=by
 intro pins s σ H x y v u Q I rx ry h;obtain⟨p,xs,rfl,hq,fx,fs,q⟩:=h;cases ry;rcases hq with hq|hq
 ·obtain⟨its,r,pl,hz⟩:=I.list hq
  refine SeqAt.in_listAt (hR x) pl.isList (λw hw=>yT rx fx r fs w (by simpa using hw)) ⟨.bl _,H,I,rfl,?_⟩;rw[show its.toArray.any (hR x)=its.any (hR x) by simp,Bu r fs];exact q
 ·obtain⟨its,r,pl,hz⟩:=I.tuple hq
  refine SeqAt.in_tupleAt (hR x) pl (λw hw=>yT rx fx r fs w (by simpa using hw)) ⟨.bl _,H,I,rfl,?_⟩;rw[show its.toArray.any (hR x)=its.any (hR x) by simp,Bu r fs];exact q
theorem O4:cG X (compareOp .NotIn) (Fl X.K true):=by
 intro pins s σ H x y v u Q I rx ry h;obtain⟨p,xs,rfl,hq,fx,fs,q⟩:=h;cases ry;rcases hq with hq|hq
 ·obtain⟨its,r,pl,hz⟩:=I.list hq
  refine SeqAt.notIn_listAt (hR x) pl.isList (λw hw=>yT rx fx r fs w (by simpa using hw)) ⟨.bl _,H,I,rfl,?_⟩;rw[show its.toArray.any (hR x)=its.any (hR x) by simp,Bu r fs];exact q
 ·obtain⟨its,r,pl,hz⟩:=I.tuple hq
  refine SeqAt.notIn_tupleAt (hR x) pl (λw hw=>yT rx fx r fs w (by simpa using hw)) ⟨.bl _,H,I,rfl,?_⟩;rw[show its.toArray.any (hR x)=its.any (hR x) by simp,Bu r fs];exact q
theorem Mt:cG X (compareOp .NotIn) (λx y H Q=>∃i j,x=.str i/\y=.str j/\Q (.bl (!(!(Builtin.Str.occurrences j i 0 j.length 1).isEmpty))) H):=by
 intro pins s σ H x y v u Q I rx ry h;obtain⟨i,j,rfl,rfl,q⟩:=h;obtain⟨t,rfl⟩:=rx;obtain⟨t',rfl⟩:=ry;exact notIn_str ⟨.bl _,H,I,rfl,q⟩
theorem MA:jcp X (.builtin "len") (λxs H Q=>∃p ys,xs=[.ref p]/\(SqL X.K H p ys\/SqT X.K H p ys)/\Q (.int ys.length) H):=by
 intro pins s σ H xs us Q I r h;obtain⟨p,ys,rfl,hq,q⟩:=h;obtain⟨u,rfl,rx⟩:=iY r;cases rx;have hn:=uS;rcases hq with hq|hq
 ·obtain⟨its,r',pl,hz⟩:=I.list hq
  have hlen:=r'.length;exact Calls.call_len_list pl.isList (by simp only[qo]<;>omega) ⟨.int ys.length,H,I.tok _,⟨s.toks+1,by rw[qo,hlen]⟩,q⟩
 ·obtain⟨its,r',pl,hz⟩:=I.tuple hq
  have hlen:=r'.length;exact len_tuple pl (by simp only[qo]<;>omega) ⟨.int ys.length,H,I.tok _,⟨s.toks+1,by rw[qo,hlen]⟩,q⟩
theorem Mj:jcp X (.builtin "len") (λxs H Q=>∃z,xs=[.str z]/\z.length<=sizeLine/\Q (.int z.length) H):=by
 intro pins s σ H xs us Q I r h;obtain⟨z,rfl,hz,q⟩:=h;obtain⟨u,rfl,t,rfl⟩:=iY r;have hn:=uS;exact len_str (by omega) ⟨.int z.length,H,I.tok _,⟨_,rfl⟩,q⟩
theorem jcp.or{r r':List V->Hp->VK->Prop}(h:jcp X f r)(h':jcp X f r'):jcp X f (λxs H Q=>r xs H Q\/r' xs H Q):=by
 intro pins s σ H xs us Q I rs q;rcases q with q|q
 ·exact h pins s σ H xs us Q I rs q
 ·exact h' pins s σ H xs us Q I rs q
theorem Pg:jcp X (.type "list") (λxs H Q=>∃p ys,xs=[.ref p]/\(SqL X.K H p ys\/SqT X.K H p ys)/\∀l,H l=none->Q (.ref l) (a9 H l (.lst ys))):=by
 intro pins s σ H xs us Q I r h;obtain⟨p,ys,rfl,hq,q⟩:=h;obtain⟨u,rfl,rx⟩:=iY r;cases rx;have fin:∀(its:List Value),Vals ys its->ys.length<=sizeLine->∀(h':Heap) (c':Nat),(∀b o',s.heap.get? b=some o'->h'.get? b=some o')->
   h'.get? s.heap.objs.size=some {cls:=.type "list",dict:=none,data:=.seq its.toArray c',slots:=#[]}->EP X pins σ Q (.ref s.heap.objs.size) {s with heap:=h'}:=λits r' hz h' c' kp e=>
  ⟨.ref s.heap.objs.size,_,I.laid (t':=s.toks) kp (qi _) (show jd0 X.prog X.w _ h' _ (.lst ys)from⟨hz,its,c',r',e⟩),rfl,q _ (I.hok.fresh (qi _))⟩
 rcases hq with hq|hq
 ·obtain⟨its,r',pl,hz⟩:=I.list hq
  have hlen:=r'.length;obtain⟨o,ho,hc,n,hd⟩:=pl.isList;exact call_list_seq p (.inl rfl) ho hc hd (λh' c' kp e=>fin its r' hz h' c' kp e) (by simp only[qo]<;>omega)
 ·obtain⟨its,r',pl,hz⟩:=I.tuple hq
  have hlen:=r'.length;obtain⟨o,ho,hc,n,hd⟩:=pl;exact call_list_seq p (.inr rfl) ho hc hd (λh' c' kp e=>fin its r' hz h' c' kp e) (by simp only[qo]<;>omega)
theorem Ob:jcp X (.type "tuple") (λxs H Q=>∃p ys,xs=[.ref p]/\((SqL X.K H p ys/\∀l,H l=none->Q (.ref l) (a9 H l (.tup ys)))\/(SqT X.K H p ys/\Q (.ref p) H))):=by
 intro pins s σ H xs us Q I r h;obtain⟨p,ys,rfl,h⟩:=h;obtain⟨u,rfl,rx⟩:=iY r;cases rx;rcases h with⟨hq,q⟩|⟨hq,q⟩
 ·obtain⟨its,r',pl,hz⟩:=I.list hq
  have hlen:=r'.length;refine call_tuple_list pl.isList (λh' kp=> ?_) (by simp only[qo]<;>omega);have I1:Inv X pins σ H {s with heap:=h'}:=I.kept (t':=s.toks) kp;have I2:Inv X pins σ (a9 H h'.objs.size (.tup ys)) {s with heap:=h'.push {cls:=.type "tuple",data:=.seq its.toArray}}:=
   I1.laid (t':=s.toks) (λb o e=>qe _ e) (qi _) (show jd0 X.prog X.w _ _ _ (.tup ys)from⟨hz,its,r',IsTup.new _ _⟩)
  exact⟨.ref h'.objs.size,_,I2,rfl,q _ (I1.hok.fresh (qi _))⟩
 ·obtain⟨its,r',pl,hz⟩:=I.tuple hq
  exact call_tuple_same pl ⟨.ref p,H,I,rfl,q⟩
def Fw(K:W.Frag)(T:String)(x:V)(H:Hp):Prop:=match x with
 | .str _=>T="str"
 | .int _=>T="int"
 | .ref p=>(T="list"/\∃xs,SqL K H p xs)\/(T="tuple"/\∃o,K.lookup p=some o/\o.cls=.type "tuple"/\o.dict=none)\/
   (T="dict"/\((∃kvs,H p=some (.dK kvs))\/∃kvs,H p=some (.dT kvs)))\/(T="set"/\∃S n,H p=some (.set S n))
 | _=>False
theorem EV{σ:St}(I:Inv X pins σ H s)(r:RelV x v)(ty:Fw X.K T x H):
  s.TypeIs v T/\∀a,v=.ref a->∃ob,s.heap.get? a=some ob/\ob.dict=none:=by
 cases x with
 | str z=>
  obtain⟨t,rfl⟩:=r;cases(show T="str"from ty);exact⟨typeIs_str s z t,λ_ e=>nomatch e⟩
 | int i=>
  obtain⟨t,rfl⟩:=r;cases(show T="int"from ty);exact⟨typeIs_int s i t,λ_ e=>nomatch e⟩
 | ref p=>
  cases r
  rcases ty with⟨rfl,xs,hq⟩|⟨rfl,o,hk,hc,hd⟩|⟨rfl,hk⟩|⟨rfl,S,n,hk⟩
  ·obtain⟨its,_,pl,_⟩:=I.list hq
   refine⟨pl.isList.typeIs,λa e=> ?_⟩;cases e;obtain⟨o,n,e,c,hd,_⟩:=pl;exact⟨o,e,hd⟩
  ·refine⟨⟨o,I.kIn p o hk,hc⟩,λa e=> ?_⟩
   cases e
   exact⟨o,I.kIn _ o hk,hd⟩
  ·have z:∃o,s.heap.get? p=some o/\o.ExactDict:=by
    rcases hk with⟨kvs,hk⟩|⟨kvs,hk⟩
    ·obtain⟨_,_,_,_,o,_,_,e,ex,_⟩:=I.hok p _ hk
     exact⟨o,e,ex⟩
    ·obtain⟨_,_,_,_,o,_,_,e,ex,_⟩:=I.hok p _ hk
     exact⟨o,e,ex⟩
   obtain⟨o,e,ex⟩:=z;refine⟨⟨o,e,ex.1⟩,λa e2=> ?_⟩;cases e2;exact⟨o,e,ex.2.1⟩
  ·obtain⟨o,_,_,_,e,ex,_⟩:=I.hok p _ hk
   refine⟨⟨o,e,ex.1⟩,λa e2=> ?_⟩;cases e2;exact⟨o,e,ex.2.1⟩
 | _=>exact False.elim ty
noncomputable def mO(K:W.Frag)(T:String)(r:V->List V->Hp->VK->Prop)(to:TE):TE:=λσ H Q=>to σ H λx H1=>Fw K T x H1/\r x [] H1 Q
noncomputable def uN(K:W.Frag)(T:String)(r:V->List V->Hp->VK->Prop)(to:TE)(t:TA):TE:=λσ H Q=>to σ H λx H1=>Fw K T x H1/\t σ H1 λxs H2=>r x xs H2 Q
variable {o e : Expr} {es : List Expr} {to : TE} {t : TA} {name : Str} {apos cpos : Pos} {T id : String} {r : V -> List V -> Hp -> VK -> Prop}
theorem pV(pa:PlainAttrs T)(slot:Slot T name id)(hty:typeOf (.builtin id)=pure (.type "method_descriptor"))(hm:tD X id r)(ho:PE X o to)
  (hbase:attributeBase o name X.env (eval o X.env)=eval o X.env:=by rfl) (hline:(apos.endLine==cpos.line)=true:=by rfl):PE X (.Call (.Attribute o name apos) [] [] cpos) (mO X.K T r to):=by
 intro pins s σ H Q I h;refine wpAny_Call_method0_late hbase hline (bE (ho pins s σ H _ I h) λv s1 ⟨x,H1,I1,r1,ty,q1⟩=> ?_);obtain⟨h1,h2⟩:=EV I1 r1 ty;exact⟨T,id,pa,slot,hty,h1,h2,Calls.callWith_builtin rfl (PySem.evalArgs_none (hm pins s1 σ H1 x [] v [] Q I1 r1 .nil q1))⟩
theorem kS(pa:PlainAttrs T)(slot:Slot T name id)(hty:typeOf (.builtin id)=pure (.type "method_descriptor"))(hm:tD X id r)(ho:PE X o to)(ha:PA X (e::es) t)
  (hbase:attributeBase o name X.env (eval o X.env)=eval o X.env:=by rfl)
  (hfew:((backTo cpos (starEach (e::es) X.env)).all (λx=> !x.1)&&(backToKw cpos (keywordEach [] X.env)).all (λx=>x.1.isSome)
   &&decide ((e::es).length+([]:List Keyword).length+(if([]:List Keyword).isEmpty then 0 else 1)<30))=true:=by rfl)
  (hline:(apos.endLine==cpos.line)=true:=by rfl) (hs:starEach (e::es) X.env=(false,eval e X.env)::starEach es X.env:=by rfl) (hplain:(backTo cpos (starEach es X.env)).any (·.1)=false:=by rfl):
  PE X (.Call (.Attribute o name apos) (e::es) [] cpos) (uN X.K T r to t):=by
 intro pins s σ H Q I h;refine wpAny_Call_method_late hbase hfew hline rfl (bE (ho pins s σ H _ I h) λv s1 ⟨x,H1,I1,r1,ty,q1⟩=> ?_);obtain⟨h1,h2⟩:=EV I1 r1 ty;refine⟨T,id,pa,slot,hty,h1,h2,?_⟩;have hA:=ha cpos pins s1 σ H1 _ I1 q1;rw[hs]at hA ⊢;refine Calls.callWith_builtin (by show(false||(backTo cpos (starEach es X.env)).any (·.1))=false;rw[hplain]<;>rfl) (Calls.evalArgs_plain ?_);exact bE hA λus s2 ⟨vs,H2,I2,r2,q2⟩=>hm pins s2 σ H2 x vs v us Q I2 r1 r2 q2
/- xs.append(e),list.index on a module's tuple .. are tD facts of 06m -/
end
def Pb(X:Cx)(id:String)(r:V->List V->Hp->VK->Prop):Prop:=
 ∀(pins:List (Addr×Obj)) (s:Shared) (σ:St) (H:Hp) (x:V) (xs:List V) (v:Value) (us:List Value) (Q:VK),Inv X pins σ H s->RelV x v->Vals xs us->r x xs H Q->
  wpAny (model X.prog X.w) X.A (call (.builtin id) (v::us)) (EP X pins σ Q) X.xe s
theorem Vals.one:∀{x:V} {us:List Value},Vals [x] us->∃u,us=[u]/\RelV x u
 | _,_,.cons r .nil=>⟨_,rfl,r⟩
theorem Vals.rep(h:Vals xs us):∀k:Nat,Vals (List.replicate k xs).flatten (List.replicate k us).flatten
 | 0=>.nil
 | k+1=>by
  rw[zq,zq,w9,w9];exact Vals.append h (Vals.rep h k)
theorem Kw(its:List Value):∀(k:Nat) (acc:List Value),
  List.foldl (λx1 x2=>x1++x2) acc.toArray (List.replicate k its.toArray)=(acc++(List.replicate k its).flatten).toArray
 | 0,acc=>by simp
 | k+1,acc=>by
  have e:acc.toArray++its.toArray=(acc++its).toArray:=by simp
  have e2:(acc++its)++(List.replicate k its).flatten=acc++(List.replicate (k+1) its).flatten:=by
   rw[zq,w9,List.append_assoc]
  rw[<-e2,<-Kw its k (acc++its),<-e,zq,List.foldl_cons]
section
variable {X : Cx} {pins : List (Addr × Obj)} {σ : St} {H : Hp} {s : Shared} {l b : Addr} {xs ys zs : List V}
theorem Inv.lset{its its':List Value}{f:Array Value->Array Value}(I:Inv X pins σ H s)(hH:H l=some (.lst xs))
  (e:s.heap.get? l=some {cls:=.type "list",data:=.seq its.toArray n}) (hf:f its.toArray=its'.toArray) (hv:Vals ys its') (hz:ys.length<=sizeLine):
  Inv X pins σ (a9 H l (.lst ys)) {s with heap:=s.heap.update l (Obj.mapSeq f),toks:=t'}:=by
 have q:=PySem.IsL.update e f;rw[hf]at q;refine I.write (x:=l) (e:=l) (by rw[hH];exact trivial) (.inl rfl) (λb' u hb hu=>(Heap.get?_update_other s.heap (Obj.mapSeq f) (Ne.symm hb)).trans hu) ⟨_,q⟩ ?_;exact⟨hz,its',_,hv,q⟩
theorem Inv.lnew(I:Inv X pins σ H s)(hv:Vals ys its)(hz:ys.length<=sizeLine):
  Inv X pins σ (a9 H s.heap.objs.size (.lst ys)) {s with heap:=s.heap.push {cls:=.type "list",data:=.seq its.toArray},toks:=t'}:=
 I.laid (λ_ _ q=>qe _ q) (qi _) ⟨hz,its,0,hv,qw _ rfl⟩
theorem Inv.fresh(I:Inv X pins σ H s):H s.heap.objs.size=none:=I.hok.fresh (qi _)
theorem Inv.lstM(I:Inv X pins σ H s)(hH:H l=some (.lst xs)):xs.length<=sizeLine/\∃(its:List Value) (n:Nat),Vals xs its/\xs.length=its.length/\s.heap.get? l=some {cls:=.type "list",data:=.seq its.toArray n}:=by
 obtain⟨z,its,n,r,e⟩:=I.hok l _ hH;exact⟨z,its,n,r,r.length,e⟩
theorem OW(h:n<=sizeLine):Builtin.List.listTooLong n=false:=by
 unfold Builtin.List.listTooLong;exact decide_eq_false (by omega)
end
section
variable {X : Cx}
def Ie:V->List V->Hp->VK->Prop:=λx vs H Q=>∃l xs y,x=.ref l/\vs=[y]/\H l=some (.lst xs)/\xs.length<sizeLine/\Q .non (a9 H l (.lst (xs++[y])))
theorem KC:Pb X "list.append" Ie:=by
 intro pins s σ H x vs v us Q I rx rv h;obtain⟨l,xs,y,rfl,rfl,hH,hz,q⟩:=h;cases rx;obtain⟨u,rfl,ru⟩:=rv.one;obtain⟨z,its,n,r,hl,e⟩:=I.lstM hH;refine call_meets F.slot_list_append ⟨_,e,rfl⟩ F.entry_list_append (F.args_list_append_2 _ _) (PySem.list_append l its.toArray n u (by rw[qo];omega)) ⟨e,?_⟩;refine⟨.non,_,I.lset (its':=its++[u]) hH e (by simp) (r.append (.cons ru .nil)) ?_,rfl,q⟩;rw[zd,List.length_singleton];omega
noncomputable def BL:R2:=λx y H Q=>∃l b xs zs,x=.ref l/\y=.ref b/\H l=some (.lst xs)/\H b=some (.lst zs)/\xs.length+zs.length<=sizeLine/\∀p,H p=none->Q (.ref p) (a9 H p (.lst (xs++zs)))
theorem rS:cG X (binaryOp .Add) BL:=by
 intro pins s σ H x y v u Q I rx ry h;obtain⟨l,b,xs,zs,rfl,rfl,hH,hB,hz,q⟩:=h;cases rx;cases ry;obtain⟨z,its,n,r,hl,e⟩:=I.lstM hH;obtain⟨z2,its2,n2,r2,hl2,e2⟩:=I.lstM hB;refine PySem.P.add_list e e2 ?_ (by rw[qo,qo];omega);have ea:its.toArray++its2.toArray=(its++its2).toArray:=by simp
 rw[ea];exact⟨.ref _,_,I.lnew (t':=s.toks) (r.append r2) (by rw[zd];omega),rfl,q _ I.fresh⟩
noncomputable def Ah:R2:=λx y H Q=>∃l k xs,x=.ref l/\y=.int k/\H l=some (.lst xs)/\ -(2^63)<=k/\k<2^63/\xs.length*k.toNat<=sizeLine/\
 ∀p,H p=none->Q (.ref p) (a9 H p (.lst (List.replicate k.toNat xs).flatten))
theorem M0{α:Type}(xs:List α)(k:Nat):(List.replicate k xs).flatten.length=k*xs.length:=by
 induction k with
 | zero=>simp
 | succ k ih=>rw[zq,w9,zd,ih,Nat.succ_mul,Nat.add_comm]
theorem rD:cG X (binaryOp .Mult) Ah:=by
 intro pins s σ H x y v u Q I rx ry h;obtain⟨l,k,xs,rfl,rfl,hH,h1,h2,hz,q⟩:=h;cases rx;obtain⟨t,rfl⟩:=ry;obtain⟨z,its,n,r,hl,e⟩:=I.lstM hH;have hlen:its.toArray.size*k.toNat<=sizeLine:=by rw[qo,<-hl];exact hz
 have hcap:¬its.toArray.size*k.toNat>(2^63 - 1) / 8:=by
  have:(sizeLine:Nat)<=(2^63 - 1) / 8:=by decide
  omega
 have hfit:¬(!Builtin.List.listFitsIndex k)=true:=by
  rw[fitsIndex_both h1 h2];exact ql
 have hlong:¬Builtin.List.listTooLong (its.toArray.size*k.toNat)=true:=by
  rw[OW hlen];exact ql
 have hnew:List.foldl (λx1 x2=>x1++x2) #[] (List.replicate (if its.toArray.isEmpty=true then 0 else k.toNat) its.toArray)=(List.replicate k.toNat its).flatten.toArray:=by
  have f0:∀m:Nat,List.foldl (λx1 x2=>x1++x2) #[] (List.replicate m its.toArray)=(List.replicate m its).flatten.toArray:=λm=>by
   have:=Kw its m [];rw[List.nil_append]at this;exact this
  rw[f0];cases its with
  | nil=>simp
  | cons a r'=>rw[if_neg (by simp)]
 refine wpAny_binaryOp_repeat_ref (T:="list") (U:="int") (by decide) ⟨_,e,rfl⟩ (λs'=>typeIs_int s' k t) noFill_list_mul F.fills_int_mul F.slot_int_rmul repeat_list F.slot_int_index.lookup
  (call_meets F.slot_int_rmul (typeIs_int s k t) F.entry_int_rmul (F.args_int_rmul_2 _ _) (int___rmul___int_list k t l its.toArray n)
   ⟨e,rfl,⟨_,e,rfl⟩,call_meets F.slot_list_mul ⟨_,e,rfl⟩ F.entry_list_mul (F.args_list_mul_2 _ _) (AutoListH.list___mul___list_int_3 l its.toArray n k t hfit hcap hlong) ⟨e,?_⟩⟩)
 rw[hnew];exact⟨.ref _,_,I.lnew (t':=s.toks) (r.rep k.toNat) (by rw[M0,Nat.mul_comm];exact hz),rfl,q _ I.fresh⟩
end
section
variable {κ : Type} [DecidableEq κ]
noncomputable def de(kvs:List (κ×V))(k:κ):Option V:=(kvs.find? λkv=>decide (kv.1=k)).map (·.2)
noncomputable def lS(kvs:List (κ×V))(k:κ):List (κ×V):=kvs.filter λkv=>decide (kv.1≠k)
theorem JN{p:κ×V}{r:List (κ×V)}{k:κ}(e:p.1=k):de (p::r) k=some p.2:=by simp[de,zm,e]
theorem Ic{p:κ×V}{r:List (κ×V)}{k:κ}(e:¬p.1=k):de (p::r) k=de r k:=by simp[de,zm,e]
theorem RelO.isSome_eq(r:RelO o u):o.isSome=u.isSome:=by
 cases o with
 | none=>cases u with
  | none=>rfl
  | some _=>exact(show False from r).elim
 | some _=>cases u with
  | none=>exact(show False from r).elim
  | some _=>rfl
theorem KV.val{kvs:List (κ×V)}{vs:List (κ×Value)}(r:KV kvs vs)(k:κ):RelO (de kvs k) (valueAt vs k):=by
 unfold KV at r
 induction r with
 | nil=>exact True.intro
 | @cons p q ps qs h t ih=>
  obtain⟨h1,h2⟩:=h;by_cases e:p.1=k
  ·have e':q.1=k:=h1.symm.trans e
   have b:valueAt (q::qs) k=some q.2:=by simp[valueAt,zm,e']
   rw[JN e,b];exact h2
  ·have e':¬q.1=k:=λz=>e (h1.trans z)
   have b:valueAt (q::qs) k=valueAt qs k:=by simp[valueAt,zm,e']
   rw[Ic e,b];exact ih
theorem KV.drop{kvs:List (κ×V)}{vs:List (κ×Value)}(r:KV kvs vs)(k:κ):KV (lS kvs k) (without vs k):=by
 unfold KV at r ⊢;unfold lS without
 induction r with
 | nil=>exact .nil
 | @cons p q ps qs h t ih=>
  obtain⟨h1,h2⟩:=h;rw[wd,wd];by_cases e:p.1=k
  ·have a:¬decide (p.1≠k)=true:=by simp[e]
   have b:¬decide (q.1≠k)=true:=by simp[h1.symm.trans e]
   rw[if_neg a,if_neg b];exact ih
  ·have e':¬q.1=k:=λz=>e (h1.trans z)
   have a:decide (p.1≠k)=true:=by simp[e]
   have b:decide (q.1≠k)=true:=by simp[e']
   rw[if_pos a,if_pos b];exact .cons ⟨h1,h2⟩ ih
theorem KV.length{kvs:List (κ×V)}{vs:List (κ×Value)}(r:KV kvs vs):kvs.length=vs.length:=Paired.length r
theorem N9(kvs:List (κ×V))(k:κ):(lS kvs k).length<=kvs.length:=List.length_filter_le _ _
end
theorem jQ(r:RelV (kV k) u):(eY P w).is k u=true:=by
 cases k with
 | inl i=>obtain⟨t,e⟩:=(show ∃t,u=Value.int i t from r);subst e;exact NC P w i t
 | inr x=>obtain⟨t,e⟩:=(show ∃t,u=Value.str x t from r);subst e;exact F_ P w x t
theorem Jx:∀{ks:List cH} {us:List Value},Vals (ks.map kV) us->ItemsAre (eY P w) ks us
 | [],_,r=>by rw[zk]at r;cases r;exact .nil
 | k::ks,_,r=>by
  rw[List.map_cons]at r;cases r with
  | cons h t=>exact .cons (jQ h) (Jx t)
abbrev KT(H:Hp):List (List cH×V)->List (List cH×Addr×Value)->Prop:=Paired λp q=>p.1=q.1/\H q.2.1=some (.tup (p.1.map kV))/\RelV p.2 q.2.2
theorem KT.val(r:KT H kvs xs)(k:List cH):RelO (de kvs k) ((atKey xs k).map (·.2)):=by
 induction r with
 | nil=>exact True.intro
 | @cons p q ps qs h t ih=>
  obtain⟨h1,_,h2⟩:=h;by_cases e:p.1=k
  ·have e':q.1=k:=h1.symm.trans e
   have b:atKey (q::qs) k=some q.2:=by simp[atKey,zm,e']
   rw[JN e,b];exact h2
  ·have e':¬q.1=k:=λz=>e (h1.trans z)
   have b:atKey (q::qs) k=atKey qs k:=by simp[atKey,zm,e']
   rw[Ic e,b];exact ih
section
variable {P : Program} {w : World} {H : Hp} {h : Heap} {a : Addr}
theorem nK(ok:HOk P w H h)(e:Rd H a u):jd0 P w H h a u:=e.ok ok
theorem rP(ok:HOk P w H h)(e:Rd H a (.dK kvs)):kvs.length<=sizeLine/\(a==sysModules)=false/\∃vs,KV kvs vs/\h.DictOf (eY P w) a vs:=
 show jd0 P w H h a (.dK kvs)from nK ok e
theorem nh(ok:HOk P w H h)(e:H a=some (.dK kvs)):kvs.length<=sizeLine/\(a==sysModules)=false/\∃vs,KV kvs vs/\h.DictOf (eY P w) a vs:=rP ok (.inl e)
theorem C4(ok:HOk P w H h)(e:H a=some (.tup (ks.map kV))):(tupleKind (eY P w)).is h ks a:=by
 obtain⟨_,its,r,o,h1,h2,n,h3⟩:=(show jd0 P w H h a (.tup (ks.map kV))from ok a _ e);exact⟨o,its.toArray,n,h1,h2,h3,by simpa using Jx r⟩
theorem BD(ok:HOk P w H h)(e:Rd H a (.dT kvs)):kvs.length<=sizeLine/\(a==sysModules)=false/\
  ∃xs,KT H kvs xs/\h.DictOfH (tupleKind (eY P w)) a xs:=by
 obtain⟨z,y,xs,r,o,es,ep,h1,h2,h3,h4,h5⟩:=(show jd0 P w H h a (.dT kvs)from nK ok e);refine⟨z,y,xs,r,o,es,ep,h1,h2,h3,h4,λx hx=> ?_,h5⟩;have all:∀{l:List (List cH×V)} {m:List (List cH×Addr×Value)},KT H l m->∀x∈m,(tupleKind (eY P w)).is h x.1 x.2.1:=by
  intro l m q
  induction q with
  | nil=>intro x hx;exact nomatch hx
  | @cons p q ps qs hq t ih=>
   intro x hx;rcases qr.mp hx with e|hx
   ·subst e
    exact C4 ok (by rw[<-hq.1];exact hq.2.1)
   ·exact ih x hx
 exact all r x hx
end
def DGet(H:Hp)(a:Addr)(y:V)(r:Option V):Prop:=
 (∃kvs k,Rd H a (.dK kvs)/\y=kV k/\r=de kvs k)\/∃kvs k b,Rd H a (.dT kvs)/\y=.ref b/\H b=some (.tup (k.map kV))/\r=de kvs k
theorem DGet.k{k:cH}(e:H a=some (.dK kvs)):DGet H a (kV k) (de kvs k):=.inl ⟨kvs,k,.inl e,rfl,rfl⟩
section
variable {X : Cx} {pins : List (Addr × Obj)} {σ : St} {H : Hp} {s : Shared} {a : Addr} {y v : V} {u r : Value} {o : Option V} {A : Around} {E : Value -> Shared -> Prop}
theorem Inv.big(I:Inv X pins σ H s):sysModules<s.heap.objs.size:=by
 have h:mainGlobals<s.heap.objs.size:=(I.mod.glob.keeps I.bk).lt;exact Nat.lt_trans (by decide) h
theorem Mc{Q:Value->Shared->Prop}(hu:A.units+1<cLine)(I:Inv X pins σ H s)(g:DGet H a y (some v))(ry:RelV y u)(h:∀w' s',Inv X pins σ H s'->RelV v w'->Q w' s'):
  wpAny (model X.prog X.w) A (getItem (.ref a) u) Q E s:=by
 rcases g with⟨kvs,k,e,ey,l⟩|⟨kvs,k,b,e,ey,eb,l⟩
 ·subst ey
  obtain⟨z,hd,vs,rel,dd⟩:=rP I.hok e;obtain⟨w',hw,rw'⟩:=RelO.some_of (v:=v) (o:=valueAt vs k) (by rw[l];exact rel.val k);exact wpAny_getItem_of (jQ ry) dd.mapOf hw (h w' _ (I.tok _) rw')
 ·subst ey
  cases(show u=Value.ref b from ry)
  obtain⟨z,hd,xs,rel,dd⟩:=BD I.hok e;obtain⟨w',hw,rw'⟩:=RelO.some_of (v:=v) (o:=(atKey xs k).map (·.2)) (by rw[l];exact rel.val k);obtain⟨p,hp,hp2⟩:=qk.mp hw;refine wpAny_getItem_heap (tupleKind_room_in1 hu) (C4 I.hok eb) dd hp ?_;rw[hp2];exact h w' _ (I.tok _) rw'
theorem F0{Q:Value->Shared->Prop}(hu:A.units+1<cLine)(I:Inv X pins σ H s)(g:DGet H a y o)(ry:RelV y u)(h:∀s',Inv X pins σ H s'->Q (.bool o.isSome) s'):
  wpAny (model X.prog X.w) A (compareOp .In u (.ref a)) Q E s:=by
 rcases g with⟨kvs,k,e,ey,l⟩|⟨kvs,k,b,e,ey,eb,l⟩
 ·subst ey
  obtain⟨z,hd,vs,rel,dd⟩:=rP I.hok e;refine wpAny_in_of (jQ ry) hd dd.mapOf ?_;rw[<-(rel.val k).isSome_eq,<-l];exact h _ (I.tok _)
 ·subst ey
  cases(show u=Value.ref b from ry)
  obtain⟨z,hd,xs,rel,dd⟩:=BD I.hok e;refine wpAny_in_heap (tupleKind_room_in1 hu) (C4 I.hok eb) hd dd ?_;have q:=(rel.val k).isSome_eq;rw[Option.isSome_map]at q;rw[<-q,<-l];exact h _ (I.tok _)
theorem Nj{Q:Value->Shared->Prop}(hu:A.units+1<cLine)(I:Inv X pins σ H s)(g:DGet H a y o)(ry:RelV y u)(h:∀s',Inv X pins σ H s'->Q (.bool (!o.isSome)) s'):
  wpAny (model X.prog X.w) A (compareOp .NotIn u (.ref a)) Q E s:=by
 rcases g with⟨kvs,k,e,ey,l⟩|⟨kvs,k,b,e,ey,eb,l⟩
 ·subst ey
  obtain⟨z,hd,vs,rel,dd⟩:=rP I.hok e;refine wpAny_notIn_of (jQ ry) hd dd.mapOf ?_;rw[<-(rel.val k).isSome_eq,<-l];exact h _ (I.tok _)
 ·subst ey
  cases(show u=Value.ref b from ry)
  obtain⟨z,hd,xs,rel,dd⟩:=BD I.hok e;refine wpAny_notIn_heap (tupleKind_room_in1 hu) (C4 I.hok eb) hd dd ?_;have q:=(rel.val k).isSome_eq;rw[Option.isSome_map]at q;rw[<-q,<-l];exact h _ (I.tok _)
theorem Nq(I:Inv X pins σ H s)(mu:xK (H a))(hs:Heap.SameBut a s.heap h')(he:∃q,h'.get? a=some q)(new:jd0 X.prog X.w (a9 H a ob) h' a ob):
  Inv X pins σ (a9 H a ob) {s with heap:=h',toks:=t'}:=
 I.write (x:=a) (e:=a) mu (.inl rfl) (λb q hb z=>(hs.2 b hb).trans z) he new
theorem rp(z:kvs.length<=sizeLine)(hd:(a==sysModules)=false)(rel:KV kvs vs)(dd:h'.DictOf (eY P w) a vs):
  jd0 P w H' h' a (.dK kvs):=⟨z,hd,vs,rel,dd⟩
end
section
variable {X : Cx} {pins : List (Addr × Obj)} {σ : St} {H : Hp} {s : Shared} {a : Addr} {kvs : List (cH × V)} {k : cH} {u : Value} {A : Around} {E : Value -> Shared -> Prop}
theorem B4{Q:Value->Shared->Prop}(I:Inv X pins σ H s)(e:H a=some (.dK kvs))(ry:RelV (kV k) u)(l:de kvs k=some v)(hm:more=[]\/∃x,more=[x])
  (h:∀w' s',Inv X pins σ (a9 H a (.dK (lS kvs k))) s'->RelV v w'->Q w' s'):wpAny (model X.prog X.w) A (call (.builtin "dict.pop") (.ref a::u::more)) Q E s:=by
 obtain⟨z,hd,vs,rel,dd⟩:=nh I.hok e;obtain⟨w',hw,rw'⟩:=RelO.some_of (v:=v) (o:=valueAt vs k) (by rw[<-l];exact rel.val k);have hp:(keyPart u).isSome=true:=by
  cases k with
  | inl i=>obtain⟨t,q⟩:=(show ∃t,u=Value.int i t from ry);subst q;rfl
  | inr x=>obtain⟨t,q⟩:=(show ∃t,u=Value.str x t from ry);subst q;rfl
 have ha:argsOk "dict.pop" ⟨.ref a::u::more,[]⟩:=by
  rcases hm with q|⟨x,q⟩
  ·subst q;exact PySem.F.args_dict_pop_2 _ _
  ·subst q;exact PySem.F.args_dict_pop_3 _ _ _
 refine call_meetsIn PySem.F.slot_dict_pop dd.typeIs PySem.F.entry_dict_pop ha (meets_dict_pop_there (eY X.prog X.w) a (jQ ry) more hm hp)
  ⟨vs,w',dd,by rw[<-rel.length];exact z,hw,λh' dd' hs=>h w' _ ?_ rw'⟩
 have he:∃q,h'.get? a=some q:=let ⟨q,_,_,hq,_⟩:=dd';⟨q,hq⟩;exact Nq I (by rw[e];exact True.intro) hs he (rp (z9 (N9 kvs k) z) hd (rel.drop k) dd')
theorem BG{Q:Value->Shared->Prop}(I:Inv X pins σ H s)(e:Rd H a (.dK kvs))(h:∀t s',Inv X pins σ H s'->Q (.int kvs.length t) s'):wpAny (model X.prog X.w) A (call (.builtin "len") [.ref a]) Q E s:=by
 obtain⟨z,hd,vs,rel,dd⟩:=rP I.hok e;refine call_len_dict hd dd (by rw[<-rel.length];rw[sizeLine_eq]at z;omega) ?_;rw[<-rel.length];exact h _ _ (I.tok _)
end
theorem Ou{σ:St}(I:Inv X pins σ H s)(g:DGet H a y o):s.TypeIs (.ref a) "dict":=by
 rcases g with⟨kvs,k,e,_,_⟩|⟨kvs,k,b,e,_,_,_⟩
 ·obtain⟨_,_,vs,_,dd⟩:=rP I.hok e
  exact dd.typeIs
 ·obtain⟨_,_,xs,_,dd⟩:=BD I.hok e
  exact dd.typeIs
theorem O9(h:Heap)(hb:sysModules<h.objs.size):jd0 P w H (h.push {cls:=.type "dict",data:=.dict #[]}) h.objs.size (.dK []):=
 ⟨qz _,beq_eq_false_iff_ne.mpr (Ne.symm (qv hb)),[],.nil,Heap.DictOf.new h⟩
noncomputable def Im:TE:=λ_ H Q=>∀p,H p=none->Q (.ref p) (a9 H p (.dK []))
section
variable {X : Cx} {pos : Pos}
theorem Pk:PE X (.Dict [] [] pos) Im:=λpins s σ H Q I h=>
 wpAny_Dict_empty ⟨.ref s.heap.objs.size,_,I.laid (a:=s.heap.objs.size) (o:=.dK []) (t':=s.toks) (λ_ _ q=>qe _ q) (qi _) (O9 s.heap I.big),rfl,h _ (I.hok.fresh (qi _))⟩
end
structure M1 (X:Cx) (o:Expr) (m:Str) (apos:Pos) (e:Expr) (cpos:Pos):Prop where
 base:attributeBase o m X.env (eval o X.env)=eval o X.env
 few:((backTo cpos (starEach [e] X.env)).all (λx=> !x.1)&&(backToKw cpos (keywordEach [] X.env)).all (λx=>x.1.isSome)
  &&decide (([e]:List Expr).length+([]:List Keyword).length+(if([]:List Keyword).isEmpty then 0 else 1)<30))=true
 line:(apos.endLine==cpos.line)=true
 trees:backTo cpos (starEach [e] X.env)=[(false,eval e X.env)]
def Kv(H:Hp)(a:Addr):Prop:=(∃kvs,Rd H a (.dK kvs))\/∃kvs,Rd H a (.dT kvs)
theorem sX{σ:St}(I:Inv X pins σ H s)(d:Kv H a):
  s.TypeIs (.ref a) "dict"/\(∀b,Value.ref a=.ref b->∃ob,s.heap.get? b=some ob/\ob.dict=none)/\(a==sysModules)=false:=by
 rcases d with⟨kvs,e⟩|⟨kvs,e⟩
 ·obtain⟨_,hd,vs,_,dd⟩:=rP I.hok e
  refine⟨dd.typeIs,λb q=> ?_,hd⟩;cases q;obtain⟨ob,_,_,h1,h2,_⟩:=dd;exact⟨ob,h1,h2.2.1⟩
 ·obtain⟨_,hd,xs,_,dd⟩:=BD I.hok e
  refine⟨dd.typeIs,λb q=> ?_,hd⟩;cases q;obtain⟨ob,_,_,h1,h2,_⟩:=dd;exact⟨ob,h1,h2.2.1⟩
noncomputable def Kf(td ty:TE):TE:=λσ H Q=>td σ H λx H1=>∃a,x=.ref a/\Kv H1 a/\ty σ H1 λy H2=>∃kvs k v,H2 a=some (.dK kvs)/\y=kV k/\de kvs k=some v/\Q v (a9 H2 a (.dK (lS kvs k)))
section
variable {X : Cx} {o e f : Expr} {apos cpos : Pos} {td ty tx : TE}
theorem Ls(ho:PE X o td)(he:PE X e ty)(m:M1 X o "pop" apos e cpos):PE X (.Call (.Attribute o "pop" apos) [e] [] cpos) (Kf td ty):=by
 intro pins s σ H Q I h;refine wpAny_Call_method m.base m.few m.line PySem.F.plainAttrs_dict PySem.F.slot_dict_pop PySem.F.type_dict_pop (bE (ho pins s σ H _ I h) λu s1 ⟨x,H1,I1,rx,a,ex,d,q1⟩=> ?_);subst ex;obtain rfl:u=Value.ref a:=rx;obtain⟨t1,t2,_⟩:=sX I1 d;refine⟨t1,t2,?_⟩;rw[m.trees];refine Calls.callWith_builtin rfl (Calls.evalArgs_plain (Calls.spliced_cons (bE (he pins s1 σ H1 _ I1 q1) λiv s2 ⟨y,H2,I2,ry,kvs,k,v,ea,ey,l,q2⟩=>Calls.spliced_nil ?_)));subst ey;exact B4 I2 ea ry l (.inl rfl) λw' s3 I3 rw'=>⟨v,_,I3,rw',q2⟩
end
end L2
namespace Att
open PySem PySem.W PySem.Calls PyProof.Rows
theorem Ml:∀(ns:List Int) (vs:List Value),WellAll P h vs (ns.map WData.int)->IntsAre vs ns:=by
 intro ns
 induction ns with
 | nil=>
  intro vs w;rw[zk]at w;cases w;exact .nil
 | cons n ns ih=>
  intro vs w;rw[List.map_cons]at w;cases w with
  | cons a b=>
   cases a
   exact .cons _ _ (ih _ b)
theorem Pw{l:OpenLaw}(hn:l.most=some n)
    (hpre:l.row.toRowW.claim.pre args=true) (hwl:WellAll P h vals args):
    ∃a vs ns,vals=[Value.ref a]/\args=[WData.list (ns.map WData.int)]/\h.get? a=some {cls:=.type "list",data:=.seq vs.toArray}/\IntsAre vs ns/\ns.length<=n:=by
  have hsh:WShape.hasAll [] args [.list .int]=true:=(pre_splitW hpre).1;have hc:l.pre.holds [] {args:=args}=true:=(pre_splitW hpre).2;obtain⟨d,r,rfl,h1,h2⟩:=hasAllW_cons hsh;obtain rfl:=hasAllW_nil h2;obtain⟨xs,rfl,h3⟩:=hasW_list h1;obtain⟨ns,rfl⟩:=items_int h3;have hlen:ns.length<=n:=by
    unfold OpenLaw.pre at hc;have h4:(WTm.not (.lt (.lit (.int (n:Int))) (.len (.arg 0)))).holds [] {args:=[.list (ns.map .int)]}=true:=by
      have h4:=(holds_andW hc).1;rw[hn]at h4;exact h4
    have h5:=condW_of h4 (w_not (w_lt w_lit (w_len_list (w_arg rfl))));rw[qd]at h5;refine Nat.le_of_not_lt λq=> ?_;have q':(n:Int)<((ns.length:Nat):Int):=by omega
    first
      | (rw[decide_eq_true q']at h5;exact absurd h5 (by decide))
      | (simp at h5;omega)
  cases hwl with
  | cons w1 w2=>
    cases w2
    cases w1 with
    | list ho hall=>exact⟨_,_,ns,rfl,rfl,ho,Ml ns _ hall,hlen⟩
theorem N3(l:OpenLaw)(args:List WData):l.row.toRowW.claim.post args (.bool true) args=true:=
 postW_of (r:=l.row.toRowW) (X:=(true==true))
  (show WShape.has [] (.bool true) .bool=true by first|rfl|decide|simp[WShape.has,WShape.arms,WShape.armsAll])
  (show(WTm.eq .res (.lit (.bool true))).value [] {args:=args,res:=some (.bool true),after:=args}=some (.bool (true==true))from w_eq_bool (w_res rfl) w_lit) rfl
theorem attach_call{l:OpenLaw}{XP:(Str->Option Value)->Heap->Prop}{YP:World->Heap->Prop}
  (hn:l.most=some n) (hdf:d.params.defaults=[])
  (call:∀(w:World) (s₀ s₁:Shared) (mg mb:Str->Option Value) (fa:Addr) (o:Obj) (pm cd doc:Value) (a:Addr) (vs:List Value) (ns:List Int),
   Ground q loose [] XP w s₀ mg mb s₁.heap->YP w s₁.heap->
   s₁.heap.get? fa=some o->o.data=.func (docDef d.name d.params d.body d.scope pm cd doc)->s₁.heap.CodeRec cd d.name->mg d.name=some (.ref fa)->
   s₁.heap.get? a=some {cls:=.type "list",data:=.seq vs.toArray}->IntsAre vs ns->ns.length<=n->s₁.gens=#[]->
   codeAny (model l.prog w) callerA (.call (.ref fa) ⟨[.ref a],[]⟩) (λr s'=>r=.ok (.ret (.bool true))/\OldK s₁.heap s'.heap/\s'.os=s₁.os/\AllBare s'.gens) s₁):
  WalkO q loose XP YP l.row.toRowW d [] (λf vs=>PySem.call f vs):=by
 intro w s₀ s₁ mg mb G Y fa o pm cd doc dV kV ho hd hcd hD hmg hg args vals as hpre hlay hrd hwl hlo;obtain rfl:dV=.none:=Dflts.none hD hdf;obtain rfl:kV=.none:=Dflts.noKw hD;obtain⟨a,vs,ns,rfl,rfl,hobj,hints,hlen⟩:=Pw hn hpre hwl;refine enter_call (codeAny_mono (call w s₀ s₁ mg mb fa o pm cd doc a vs ns G Y ho (fd_plain hd) hcd hmg hobj hints hlen hg) λr s' hq=> ?_);obtain⟨rfl,h2,h3,h4⟩:=hq;exact⟨.inl ⟨.bool true,.bool true,[],rfl,λ_=>rfl,.bool true,N3 l _,λ_=>⟨List.Pairwise.nil,λ_ hm=>(nomatch hm)⟩⟩,h2,h3,h4⟩
end Att
namespace L2
open PySem PySem.Spec PyProof.Rows
theorem JW:∀{vs:List Value} {ns:List Int},IntsAre vs ns->Vals (ns.map V.int) vs
 | _,_,.nil=>.nil
 | _,_,.cons n t h=>.cons ⟨t,rfl⟩ (JW h)
def jz(H:Hp):Prop:=∀b,H b=none\/∃o xs,H b=some (.frz o (.lst xs))
theorem Ll{K:W.Frag}{mg mb:Str->Option Value}
  (KX:K.In s₁.heap) (hns:s₁.heap.Ns mainGlobals mg) (hb:s₁.heap.Ns builtinsNs mb) (hbb:∀x:Str,x≠"__name__"->mb x=bootBuiltins x) (hlim:s₁.heap.NoLimit) (hg:s₁.gens=#[])
  (ha:s₁.heap.get? a=some {cls:=.type "list",data:=.seq vs.toArray}) (hi:IntsAre vs ns) (hl:ns.length<=sizeLine) (hr:Room k callerA)
  (F:∀base:Heap,K.In base->base.Ns mainGlobals mg->FnOk P w K mg base CX k fa fd [x] sp) (hbind:∀(s:Shared) (u:Value),BindsTo s fd ⟨[u],[]⟩ [(x,u)])
  (hsp:∀H:Hp,jz H->SqL K H a (ns.map V.int)->sp [.ref a] H (λv _=>v=.bl true) λ_ _ _=>False)
  (hCX:∀H e s',CX [] H s₁ (λ_ _ _=>False) e s'->False):
  codeAny (model P w) callerA (.call (.ref fa) ⟨[.ref a],[]⟩) (λr s'=>r=.ok (.ret (.bool true))/\OldK s₁.heap s'.heap/\s'.os=s₁.os/\AllBare s'.gens) s₁:=by
 have rv:=JW hi;have lenV:=hi.length;have core:∀H:Hp,jz H->SqL K H a (ns.map V.int)->HOk P w H s₁.heap->(∀b,H b≠none->b=a)->(H a≠none->K.lookup a=none)->
   codeAny (model P w) callerA (.call (.ref fa) ⟨[.ref a],[]⟩) (λr s'=>r=.ok (.ret (.bool true))/\OldK s₁.heap s'.heap/\s'.os=s₁.os/\AllBare s'.gens) s₁:=by
  intro H hO hS hok hA hK;have base_of:∀{b:Addr} {o:Obj},s₁.heap.get? b=some o->H b=none->(fF s₁.heap H).get? b=some o:=λe n=>OP e n;have noA:∀{b:Addr} {o:Obj} {es:Array DictEntry} {ep:Nat},s₁.heap.get? b=some o->o.data=.dict es ep->H b=none:=fun{b o es ep} e d=>by
   cases q:H b with
   | none=>rfl
   | some u=>
    have e':b=a:=hA b (by rw[q];simp);subst e';rw[ha]at e;cases e;have d':Data.seq vs.toArray _=Data.dict es ep:=d;cases d'
  have nsK:∀{b:Addr} {m:Str->Option Value},s₁.heap.Ns b m->(fF s₁.heap H).Ns b m:=fun{b m} ⟨o,es,ep,e,d,r⟩=>⟨o,es,ep,base_of e (noA e d),d,r⟩;have hKb:K.In (fF s₁.heap H):=λb o e=>base_of (KX b o e) (by
   cases q:H b with
   | none=>rfl
   | some u=>
    have e':b=a:=hA b (by rw[q];simp);subst e';rw[hK (by rw[q];simp)]at e;cases e)
  have hM:Mod K mg (fF s₁.heap H):=⟨hKb,nsK hns,⟨mb,nsK hb,hbb⟩,let ⟨mc,h1,h2⟩:=hlim;⟨mc,nsK h1,h2⟩⟩;have e0:Env0 P w K mg (fF s₁.heap H) callerA [] s₁ H:=⟨rfl,hM,λb o e=>N0 e,wr (LC _ _),trivial,λb hb=>absurd (show b∈([]:List Addr)from hb) (by simp),hok,.of_eq hg⟩;refine codeAny_mono ((F _ hKb (nsK hns)).run callerA [] s₁ H ⟨[.ref a],[]⟩ [.ref a] [.ref a] _ _ hr e0 (hbind s₁ (.ref a)) (.cons rfl .nil) (hsp H hO hS)) λr s' h=> ?_;cases r with
  | error e=>exact(hCX H e s' h).elim
  | ok fl=>
   cases fl with
   | next=>exact False.elim h
   | brk=>exact False.elim h
   | cont=>exact False.elim h
   | ret u=>
    obtain⟨v,H',os,bare,un,hok',r',q⟩:=h;have q':v=.bl true:=q;subst q';obtain rfl:u=Value.bool true:=r';refine⟨rfl,OldK.of_keep λb o e=> ?_,os,bare⟩;cases q:H b with
    | none=>exact un.keep b o e q (by intro z;exact absurd (show b∈([]:List Addr)from z) (by simp)) (by simp)
    | some u=>
     rcases hO b with z|⟨ob,xs,z⟩
     ·rw[q]at z;cases z
     ·have z2:=un.frzs b ob _ z
      obtain⟨e1,_⟩:=hok b _ z;obtain⟨e2,_⟩:=hok' b _ z2;rw[e]at e1;cases e1;exact e2
 cases hk:K.lookup a with
 | some o=>
  have e:=KX a o hk;rw[ha]at e;cases e;refine core (λ_=>none) (λ_=>.inl rfl) (.inr ⟨_,vs.toArray,_,hk,rfl,rfl,rfl,by rw[qo,lenV];exact hl,by simpa using rv⟩) (λb u z=>by have z':(none:Option HO)=some u:=z;cases z') (λb z=>absurd rfl z) λz=>absurd rfl z
 | none=>
  refine core (λb=>if b=a then some (.frz {cls:=.type "list",data:=.seq vs.toArray} (.lst (ns.map V.int)))else none) (λb=> ?_) (.inl (.inr ⟨{cls:=.type "list",data:=.seq vs.toArray},if_pos rfl⟩)) (λb u z=> ?_) (λb z=> ?_) λ_=>hk
  ·by_cases hb:b=a
   ·exact .inr ⟨_,_,if_pos hb⟩
   ·exact .inl (if_neg hb)
  ·by_cases hb:b=a
   ·have z':=(if_pos hb).symm.trans z
    cases z'
    subst hb;exact⟨ha,by rw[qd];exact hl,vs,_,rv,ha⟩
   ·have z':=(if_neg hb).symm.trans z
    cases z'
  ·by_cases hb:b=a
   ·exact hb
   ·exact absurd (if_neg hb) z
noncomputable abbrev KOf{K:W.Frag}{h:Heap}(_:K.In h):W.Frag:=K
theorem O8{l:W.OpenLaw}{XP:(Str->Option Value)->Heap->Prop}{YP:World->Heap->Prop}{K:Params->W.Frag}{CX:World->jb}{sp:World->Sp}
  (hn:l.most=some n) (hn2:n<=sizeLine) (hdf:d.params.defaults=[]) (hr:Room k callerA)
  (hY:∀(w:World) (h:Heap),YP w h->(K w.params).In h)
  (F:∀(w:World) (mg:Str->Option Value) (fa:Addr) (h:Heap),(K w.params).In h->h.Ns mainGlobals mg->mg d.name=some (.ref fa)->
   ∃fd:FuncData,(∀(s:Shared) (u:Value),BindsTo s fd ⟨[u],[]⟩ [(x,u)])/\
    ∀base:Heap,(K w.params).In base->base.Ns mainGlobals mg->FnOk l.prog w (K w.params) mg base (CX w) k fa fd [x] (sp w))
  (hsp:∀(w:World) (H:Hp) (a:Addr) (ns:List Int),ns.length<=n->jz H->SqL (K w.params) H a (ns.map V.int)->sp w [.ref a] H (λv _=>v=.bl true) λ_ _ _=>False)
  (hCX:∀(w:World) (H:Hp) (s:Shared) (e:Value) (s':Shared),CX w [] H s (λ_ _ _=>False) e s'->False):
  W.WalkO q loose XP YP l.row.toRowW d [] (λf vs=>PySem.call f vs):=by
 refine Att.attach_call hn hdf λw s₀ s₁ mg mb fa o pm cd doc a vs ns G Y ho hd hcd hmg hobj hints hlen hg=> ?_;have KX:=hY w _ Y;obtain⟨fd,hb,hF⟩:=F w mg fa _ KX G.T.g hmg;exact Ll KX G.T.g G.T.b G.T.builtins G.T.nolimit hg hobj hints (z9 hlen hn2) hr hF hb (λH hO hS=>hsp w H a ns hlen hO hS) λH e s'=>hCX w H s₁ e s'
noncomputable def cY(s:Stmt)(j:Nat):Stmt:=match s with
 | .ClassDef _ _ _ body _ _ _ _ _ _ _=>body.getD j (.Pass ⟨0,0,0,0⟩)
 | _=>.Pass ⟨0,0,0,0⟩
noncomputable def lZ(s:Stmt):Arguments:=match s with
 | .FunctionDef _ a _ _ _ _ _ _ _ _=>a
 | _=>{posonlyargs:=[],args:=[],vararg:=none,kwonlyargs:=[],kw_defaults:=[],kwarg:=none,defaults:=[]}
noncomputable def jq(s:Stmt):List Stmt:=match s with
 | .FunctionDef _ _ b _ _ _ _ _ _ _=>b
 | _=>[]
noncomputable def bC(s:Stmt):Scope:=match s with
 | .FunctionDef _ _ _ _ _ _ sc _ _ _=>sc
 | _=>{kind:=.function,names:=[],isGenerator:=false,isCoroutine:=false}
noncomputable abbrev E0:XK:=λ_ _ _=>False
structure Fun (K:W.Frag) (x qual:Str) (st:Stmt) (f:Addr) (fd:FuncData):Prop where
 ex:∃(oc:Value) (od:Option Addr) (kV doc pm:Value) (an:Option Addr) (cdv ct:Value) (osl:Array (Option Value)),
  fd=W.fnOf x qual (lZ st) (jq st) (bC st) .none kV doc pm an cdv ct/\K.lookup f=some ⟨oc,od,.func fd,osl⟩/\W.codeIn K cdv qual=true
 kp:W.keepIn K (.ref f)=true
section
variable {P : Program} {w : World} {K : W.Frag} {mg : Str -> Option Value} {base : Heap}
theorem Fun.binds{st:Stmt}(F:Fun K x qual st f fd)
  (h:∀(kV doc pm:Value) (an:Option Addr) (cdv ct:Value) (us:List Value),us.length=ps.length->bindArgs (W.fnOf x qual (lZ st) (jq st) (bC st) .none kV doc pm an cdv ct) ⟨us,[]⟩=pure (ps.zip us)):jfn K fd ps []:=by
 obtain⟨oc,od,kV,doc,pm,an,cdv,ct,osl,rfl,lk,hcd⟩:=F.ex;exact .all (h kV doc pm an cdv ct)
theorem HU{st:Stmt}{kV doc pm cdv ct:Value}(l:K.lookup f=some ⟨oc,od,.func (W.fnOf x qual (lZ st) (jq st) (bC st) .none kV doc pm an cdv ct),osl⟩)
  (c:W.codeIn K cdv qual=true) (k:W.keepIn K (.ref f)=true):Fun K x qual st f (W.fnOf x qual (lZ st) (jq st) (bC st) .none kV doc pm an cdv ct):=⟨⟨oc,od,kV,doc,pm,an,cdv,ct,osl,rfl,l,c⟩,k⟩
end
section
variable {X : Cx}
theorem pv(i:Nat){x:Str}{pos:Pos}(hN:X.N[i]?=some x:=by rfl)(hv:GA X.env.scope x:=by first|exact Or.inl rfl|exact Or.inr (Or.inl rfl)|exact Or.inr (Or.inr rfl))(hd:(x==("__debug__":Str))=false:=by decide)
  (hcd:(x==("__classdict__":Str))=false:=by decide):PE X (.Name x pos) (sP i):=su hN hv hd hcd
theorem Mn:jcp X (.builtin "len") (λxs H Q=>∃a kvs,xs=[V.ref a]/\H a=some (.dK kvs)/\Q (.int kvs.length) H):=by
 intro pins s σ H xs us Q I r h;obtain⟨a,kvs,rfl,ha,q⟩:=h;obtain⟨u,rfl,ru⟩:=iY r;cases ru;exact BG I (.inl ha) λt s' I'=>⟨.int kvs.length,H,I',⟨t,rfl⟩,q⟩
end
def Same(H H':Hp):Prop:=∀b o,H b=some o->H' b=some o
theorem Same.refl(H:Hp):Same H H:=λ_ _ h=>h
theorem Same.trans(a:Same H H1)(b:Same H1 H2):Same H H2:=λc o h=>b c o (a c o h)
theorem LB{R:Result->Shared->Prop}(I:Nat->Shared->Prop)
  (turn:∀n s,I n s->wpAny (model prog w) A (pyNext it) (λr s₁=>match r with
   | none=>R (.ok .next) s₁
   | some v=>wpAny (model prog w) A (letOwnedTupleGo target it v) (λ_ s₁'=>wpAny (model prog w) A (assign target env v) (λ_ s₂=>
     wpAny (model prog w) A (forIn ifs true λc r=>if r=true then do let ok<-isTrue c env (eval c env);pure (ForInStep.yield ok)else pure (ForInStep.yield r)) (λok s₃=>
      if ok=true then wpAny (model prog w) A (eval elt env) (λx s₄=>
       wpAny (model prog w) A (call (.builtin "list.append") [acc,x]) (λ_ s₅=>∃m,m<n/\I m s₅) (λ_ _=>False) s₄) (λ_ _=>False) s₃
      else ∃m,m<n/\I m s₃) (λ_ _=>False) s₂) (λ_ _=>False) s₁') (λ_ _=>False) s₁) (λ_ _=>False) s)
  (n:Nat) (h:I n s):
  codeAny (model prog w) A (.compLoop (.ListComp elt [⟨target,iter,ifs,0⟩] scope pos) 0 it acc env) R s:=by
 refine codeAny_loop rfl I (λn s hI=> ?_) n h;show wpAny _ A ((compTurn (.ListComp elt [⟨target,iter,ifs,0⟩] scope pos) 0 it acc env).onRaise (λx=>do noteFrame x env;theTreesLotGoes x)) _ _ s;refine wpAny_noted ?_;rw[compTurn_list];refine wpAny_bind (wpAny_standAt (wpAny_bind (wpAny_mono (turn n s hI) (λr s₁ h₁=> ?_) λ_ _ f=>f.elim)));cases r with
 | none=>exact wpAny_pure h₁
 | some v=>
  refine wpAny_bind (wpAny_mono h₁ (λ_ s₁' h₁'=>wpAny_bind (wpAny_mono h₁' (λ_ s₂ h₂=>wpAny_bind (wpAny_mono h₂ (λok s₃ h₃=> ?_) λ_ _ f=>f.elim)) λ_ _ f=>f.elim)) λ_ _ f=>f.elim);cases ok with
  | false=>exact wpAny_pure ⟨rfl,h₃⟩
  | true=>
   exact wpAny_bind (wpAny_bind (wpAny_mono h₃ (λx s₄ h₄=>wpAny_bind (wpAny_mono h₄ (λ_ s₅ h₅=>wpAny_pure (wpAny_pure ⟨rfl,h₅⟩)) λ_ _ f=>f.elim)) λ_ _ f=>f.elim))
def PF(X:Cx)(ifs:List Expr)(t:TT):Prop:=
 ∀(pins:List (Addr×Obj)) (s:Shared) (σ:St) (H:Hp) (Q:Bool->Hp->Prop),Inv X pins σ H s->t σ H Q->
  wpAny (model X.prog X.w) X.A (forIn ifs true λc r=>if r=true then do let ok<-isTrue c X.env (eval c X.env);pure (ForInStep.yield ok)else pure (ForInStep.yield r)) (TP X pins σ Q) X.xe s
noncomputable def aU:TT:=λ_ H Q=>Q true H
theorem gM:PF X [] aU:=λ_ s _ H _ I q=>wpAny_tests_nil ⟨H,I,q⟩
theorem Ka(h:PT X c t):PF X [c] t:=λpins s σ H Q I q=>wpAny_tests_one (h pins s σ H Q I q)
noncomputable def fE(X:Cx)(N':List Str)(scope:Scope)(cl:List (Str×Addr))(C:Addr)(s₂:Shared)(H₂:Hp)(fp:List Addr):Cx:=
  {prog:=X.prog,w:=X.w,K:=X.K,mg:=X.mg,base:=X.base,A:=X.A,N:=N',s₀:=s₂,H₀:=H₂,env:=compEnvC scope cl C X.env,outer:=X.stack,stack:=X.stack,ex:=fp,
    fn:=λ_=>false,calm:=X.calm,pn:=[],xe:=λ_ _=>False}
inductive Caps (X:Cx) (scope:Scope) (cl:List (Str×Addr)):List Str->List Nat->Prop
 | nil:Caps X scope cl [] []
 | cons {n:Str} {j:Nat} {ns:List Str} {js:List Nat} {c:Addr}:X.N[j]?=some n->(X.env.kindOf n=some .cell\/X.env.kindOf n=some .free)->((relabel scope X.env).names.lookup n=some .cell\/(relabel scope X.env).names.lookup n=some .free)->
   X.env.cells.lookup n=some c->cl.lookup n=some c->Caps X scope cl ns js->Caps X scope cl (n::ns) (j::js)
theorem Caps.len:∀{ns:List Str} {js:List Nat},Caps X scope cl ns js->ns.length=js.length
 | _,_,.nil=>rfl
 | _,_,.cons _ _ _ _ _ r=>by simp[r.len]
theorem Caps.get{X:Cx}{scope:Scope}{cl:List (Str×Addr)}:∀{ns:List Str} {js:List Nat},Caps X scope cl ns js->∀(i:Nat) (n:Str),ns[i]?=some n->
  ∃j c,js[i]?=some j/\X.N[j]?=some n/\(X.env.kindOf n=some .cell\/X.env.kindOf n=some .free)/\((relabel scope X.env).names.lookup n=some .cell\/(relabel scope X.env).names.lookup n=some .free)/\X.env.cells.lookup n=some c/\cl.lookup n=some c
 | _,_,.nil,i,n,h=>by simp at h
 | _,_,.cons a b c d e r,0,n,h=>by
  simp at h;subst h;exact⟨_,_,rfl,a,b,c,d,e⟩
 | _,_,.cons a b c d e r,i+1,n,h=>by
  obtain⟨j,c',h1,h2⟩:=r.get i n (by simpa using h);exact⟨j,c',by simpa using h1,h2⟩
noncomputable def jt(idx:List Nat)(σ:St):St:=idx.map λj=>(σ[j]?).getD none
noncomputable def GB(nt:Nat)(idx:List Nat)(wi:TI)(g:TG)(tc:TT)(te:TE):TE:=λσ H Q=>wi σ H λJ H1=>∀l,H1 l=none->
 ∃W:Nat->Nat->List V->Hp->Prop,(∃m,W 0 m [] (a9 H1 l (.lst [])))/\∀i m ys H2,W i m ys H2->H2 l=some (.lst ys)/\ys.length<sizeLine/\
  ((J.stop i H2/\Q (.ref l) H2)\/(J.go i H2/\∀x H3,J.yld i H2 x H3->g x (List.replicate nt none++jt idx σ) H3 λσ4 H4=>tc σ4 H4 λc H5=>
   if c=true then te σ4 H5 λy H6=>H6 l=some (.lst ys)/\∃m',m'<m/\W (i+1) m' (ys++[y]) (a9 H6 l (.lst (ys++[y])))else ∃m',m'<m/\W (i+1) m' ys H5))
theorem tN{X:Cx}{cl:List (Str×Addr)}(hsub:∀p∈cl,X.env.cells.lookup p.1=some p.2):∀x c,cl.lookup x=some c->X.env.cells.lookup x=some c:=by
 intro x c h
 induction cl with
 | nil=>simp at h
 | cons p r ih=>
  obtain⟨y,d⟩:=p;rw[ki]at h;cases e:x==y with
  | true=>
   rw[e]at h;simp at h;subst h;have:=hsub (y,d) (by simp);rw[eq_of_beq e];exact this
  | false=>
   rw[e]at h;exact ih (λp hp=>hsub p (by simp[hp])) (by simpa using h)
theorem Un.sameBut{C:Addr}(u:Un fs ex H₂ H₅ h₂ h₅)(hC:h₂.objs.size<=C)(sb:Heap.SameBut C h₅ h'):Un fs ex H₂ H₅ h₂ h':=by
 have lt:∀{b o},h₂.get? b=some o->b≠C:=fun{b o} e q=>by
  have:=qh e;rw[q]at this;exact absurd this (Nat.not_lt.mpr hC)
 exact⟨λb o e n f x=>sb.extBut b _ (lt e) (u.keep b o e n f x),λb o e n f x=>by
   obtain⟨sl,q⟩:=u.slot b o e n f x;exact⟨sl,sb.extBut b _ (lt e) q⟩,u.free,λb o e x=>by
   obtain⟨o',q⟩:=u.there b o e x;exact⟨o',sb.extBut b _ (lt e) q⟩,u.tups,u.frzs,u.tbls⟩
theorem HOk.sameBut(x:HOk P w H h)(hC:H C=none)(sb:Heap.SameBut C h h'):HOk P w H h':=λa o e=>
 (x a o e).stay (λb u hb q=>sb.extBut b u (by
  rintro rfl;rcases hb with rfl|hb
  ·rw[hC]at e;cases e
  ·rw[hC]at hb;cases hb) q) (λ_ q=>q) λ_ _ q=>q
theorem Un.but(sb:Heap.SameBut C h h'):Un fs [C] H H h h':=
 ⟨λb o e _ _ x=>sb.extBut b o (by simpa using x) e,λb o e _ _ x=>⟨o.slots,sb.extBut b o (by simpa using x) e⟩,λ_ _ _ n _=>n,λb o e x=>⟨o,sb.extBut b o (by simpa using x) e⟩,λ_ _ q=>q,λ_ _ _ q=>q,
  λ_ ps q=>⟨#[],by simpa using q⟩⟩
def Cq(nt:Nat)(g:TG):Prop:=∀x σ H Q,g x σ H Q->g x σ H λσ' H'=>Q σ' H'/\σ'.length=σ.length/\∀i,nt<=i->σ'[i]?=σ[i]?
theorem gN(h:i<nt):Cq nt (aD i):=λx σ H Q q=>⟨q,by simp,λj hj=>by rw[qm (by omega)]⟩
section
variable {X : Cx} {elt target iter : Expr} {ifs : List Expr} {scope : Scope} {pos : Pos} {cl : List (Str × Addr)} {nt : Nat} {tgs cap : List Str} {idx : List Nat} {wi : TI} {g : TG} {tc : TT} {te : TE}
structure CompOk (X:Cx) (scope:Scope) (cl:List (Str×Addr)) (tgs cap:List Str) (idx:List Nat):Prop where
 clos:closureFor scope X.env=pure cl
 kind:scope.kind=.function
 cell:∀y∈scope.names,y.2≠ .cell
 names:∀y∈scope.names,y.2=.local->scope.names.lookup y.1=some .local
 sub:∀p∈cl,X.env.cells.lookup p.1=some p.2
 has:((relabel scope X.env).names.all λy=> !(y.2== .cell||y.2== .free)||(cl.lookup y.1).isSome)=true
 caps:Caps X scope cl cap idx
theorem tZ{names:List (Str×NameKind)}(h:(names.all λy=> !(y.2== .cell||y.2== .free)||(cl.lookup y.1).isSome)=true):
  ∀x,(names.lookup x=some .cell\/names.lookup x=some .free)->∃c,cl.lookup x=some c:=by
 induction names with
 | nil=>intro x hx;simp at hx
 | cons p r ih=>
  obtain⟨y,k⟩:=p;rw[wb,qu]at h;intro x hx;rw[ki]at hx;cases e:x==y with
  | true=>
   rw[e]at hx;have ey:=eq_of_beq e;subst ey;have h1:=h.1;rcases hx with hx|hx<;>(simp at hx;subst hx;exact zx.mp (by simpa using h1))
  | false=>
   rw[e]at hx;exact ih h.2 x (by simpa using hx)
theorem PX{s₂:Shared}{σ:St}{fp:List Addr}{C:Addr}(eC:C=s₂.heap.objs.size+1)(O:CompOk X scope cl tgs cap idx)(I:Inv X pins σ H₂ s₂)(hfp:∀b∈fp,eB X pins H₂ b)(hfo:∀b∈fp,b<s₂.heap.objs.size)
  (hns:h₁.Ns C (λx=>([]:List (Str×Value)).reverse.lookup x))
  (hsb:Heap.SameBut C ((s₂.heap.push {cls:=.type "list",dict:=none,data:=.seq ([]:List Value).toArray}).push {cls:=.type "dict",data:=.dict #[]}) h₁):
  Inv (fE X (tgs++cap) scope cl C s₂ H₂ fp) [] (List.replicate tgs.length none++jt idx σ) (a9 H₂ s₂.heap.objs.size (.lst [])) {s₂ with heap:=h₁,toks:=tk}:=by
 have ltC:∀{b:Addr},b<s₂.heap.objs.size->b≠C:=fun{b} lt=>by rw[eC];exact qv (zj lt)
 have kp:∀b o,s₂.heap.get? b=some o->h₁.get? b=some o:=λb o e=>by
  have lt:=qh e;exact hsb.extBut b o (ltC lt) (qe _ (qe _ e))
 have hD:h₁.get? s₂.heap.objs.size=some {cls:=.type "list",dict:=none,data:=.seq ([]:List Value).toArray}:=
  hsb.extBut _ _ (by rw[eC];exact qv (zp _)) (qe _ (qw _ rfl))
 have fresh:∀a,s₂.heap.objs.size<=a->H₂ a=none:=λa ha=>I.hok.fresh ha;have stk:=I.stkSub;have nf:∀b∈fp,b∉cn X.stack:=λb hb hm=>by
  rcases qr.mp (stk b hm)with e|e
  ·exact(hfp b hb).2.1 e
  ·exact(hfp b hb).2.2.1 e
 have sub:=tN O.sub;have clt:∀x c,cl.lookup x=some c->c<s₂.heap.objs.size:=λx c e=>by
  obtain⟨v,o,e',_⟩:=I.cell x c (sub x c e);exact qh e'
 refine⟨⟨I.ok.mod,?_,I.ok.glob,I.ok.blt,(by show s₂.heap.objs.size<=C;rw[eC];exact gc _),?_,?_,?_,I.ok.hd,I.ok.frames,.inl rfl,?_,?_,?_,?_,nf,I.stack,I.stkFree⟩,rfl,I.bare,?_,?_,?_,?_,?_,?_,?_,?_⟩
 ·exact O.kind
 ·intro x y c h1 h2;exact I.ok.inj x y c (sub _ _ h1) (sub _ _ h2)
 ·exact tZ O.has
 ·intro x c h;cases h
 ·intro b hb
  have lt:=hfo b hb;exact⟨ltC lt,λx c h=>(hfp b hb).2.2.2.2.1 x c (sub _ _ h)⟩
 ·exact I.bs
 ·exact z9 I.ok.bsz I.sz
 ·intro b o e hb
  rcases(hfp b hb).2.2.2.1 with h|h
  ·exact I.ok.noex b o e h
  ·exact absurd (qh e) (Nat.not_lt.mpr (z9 I.ok.bsz h))
 ·exact(Un.laid (a:=s₂.heap.objs.size) kp (qi _) (fresh _ (qi _)))
 ·refine⟨_,hns,λi x v hN hv hvis=> ?_⟩
  by_cases hi:i<tgs.length
  ·rw[z8 (by simpa using hi)]at hv
   rw[zy]at hv;simp[hi]at hv
  ·have hi':tgs.length<=i:=Nat.not_lt.mp hi
   have hN':(tgs++cap)[i]?=some x:=hN;rw[ze hi']at hN';rw[ze (by simpa using hi')]at hv;simp only[kh]at hv;obtain⟨j,c,h1,h2,h3,h4,h5,h6⟩:=O.caps.get _ _ hN';unfold jt at hv;rw[z5,h1]at hv;simp at hv;have hv':σ[j]?=some (some v):=by
    cases e:σ[j]? with
    | none=>rw[e]at hv;cases hv
    | some z=>rw[e]at hv;simp at hv;rw[hv]
   obtain⟨m,hm,lk⟩:=I.loc;obtain⟨u,ru,lk⟩:=lk j x v h2 hv' (by rcases h3 with h3|h3;exact .inr (.inl h3);exact .inr (.inr h3));refine⟨u,ru,.inr ⟨h4,?_⟩⟩;rcases lk with⟨k1,_⟩|⟨_,c',k2,k3⟩
   ·rcases h3 with h3|h3<;>(rw[h3]at k1;cases k1)
   ·rw[h5]at k2;cases k2
    obtain⟨o,k4,k5⟩:=k3;exact⟨c,h6,o,kp _ _ k4,k5⟩
 ·intro x c e
  obtain⟨v,o,e',q⟩:=I.cell x c (sub x c e);exact⟨v,o,kp _ _ e',q⟩
 ·show(a9 H₂ s₂.heap.objs.size (.lst [])) C=none
  rw[eC,br (wq (zp _))];exact fresh _ (gc _)
 ·intro x c e
  have:=clt x c e;rw[br (qv this)];exact I.freeC x c (sub x c e)
 ·intro p hp;cases hp
 ·exact I.hok.laid kp (qi _) ⟨qz _,[],0,.nil,hD⟩
 ·have:=O.caps.len
  simp[jt,fE,this]
theorem Ke{RR:Value->Addr->Result->Shared->Prop}{E₀:Value->Shared->Prop}{σ:St}{tn:Nat->Heap->Prop}{Fin:Addr->Hp->Prop}
  (O:CompOk X scope cl tgs cap idx) (hc:X.calm=true) (hgo:Cq tgs.length g)
  (hg:∀C s₂ H₂ fp,PG (fE X (tgs++cap) scope cl C s₂ H₂ fp) target g) (ht:∀C s₂ H₂ fp,PF (fE X (tgs++cap) scope cl C s₂ H₂ fp) ifs tc) (he:∀C s₂ H₂ fp,PE (fE X (tgs++cap) scope cl C s₂ H₂ fp) elt te)
  (I:Inv X pins σ H₂ s₂) (T:Turn X.prog X.w X.K target J fp it tn) (st:tn 0 s₂.heap) (hfp:∀b∈fp,eB X pins H₂ b)
  (rd:∀l,H₂ l=none->∃W:Nat->Nat->List V->Hp->Prop,(∃m,W 0 m [] (a9 H₂ l (.lst [])))/\∀i m ys H2,W i m ys H2->H2 l=some (.lst ys)/\ys.length<sizeLine/\
   ((J.stop i H2/\Fin l H2)\/(J.go i H2/\∀x H3,J.yld i H2 x H3->g x (List.replicate tgs.length none++jt idx σ) H3 λσ4 H4=>tc σ4 H4 λc H5=>
    if c=true then te σ4 H5 λy H6=>H6 l=some (.lst ys)/\∃m',m'<m/\W (i+1) m' (ys++[y]) (a9 H6 l (.lst (ys++[y])))else ∃m',m'<m/\W (i+1) m' ys H5)))
  (fin:∀C σ5 H5 s5,s₂.heap.objs.size<=C->s₂.heap.objs.size≠C->Inv (fE X (tgs++cap) scope cl C s₂ H₂ fp) [] σ5 H5 s5->Fin s₂.heap.objs.size H5->RR (.ref s₂.heap.objs.size) C (.ok .next) s5):
  wpAny (model X.prog X.w) X.A (newList []) (λacc s₃=>wpAny (model X.prog X.w) X.A (newFunctionEnv scope X.env.globals cl [] X.env.qual none .none (some X.env)) (λcenv s₄=>
   codeAny (model X.prog X.w) X.A (.compStart (.ListComp elt [⟨target,iter,ifs,0⟩] scope pos) 0 (.ref it) acc {cenv with scope:=relabel scope X.env}) (RR acc cenv.locals) s₄) E₀ s₃) E₀ s₂:=by
 have hfo:∀b∈fp,b<s₂.heap.objs.size:=λb hb=>by
  obtain⟨o,e,_⟩:=T.obj 0 _ st b hb;exact qh e
 refine wpAny_newObj_type (wpAny_newFunctionEnv O.cell (by intro y hy;simp at hy) (λh₁ hns₁ hsb₁=> ?_) O.kind);have eC:(s₂.heap.push {cls:=.type "list",dict:=none,data:=.seq ([]:List Value).toArray}).objs.size=s₂.heap.objs.size+1:=kg ..;dsimp only at hns₁ hsb₁ ⊢;generalize(s₂.heap.push {cls:=.type "list",dict:=none,data:=.seq ([]:List Value).toArray}).objs.size=C at eC hns₁ hsb₁ ⊢;have ltC:∀{b:Addr},b<s₂.heap.objs.size->b≠C:=fun{b} lt=>by rw[eC];exact qv (zj lt)
 have IC:=PX (tk:=s₂.toks+([]:List (Str×Value)).length) eC O I hfp hfo hns₁ hsb₁;have kp:∀b o,s₂.heap.get? b=some o->h₁.get? b=some o:=λb o e=>by
  have lt:=qh e;exact hsb₁.extBut b o (ltC lt) (qe _ (qe _ e))
 have st₁:tn 0 h₁:=T.keep 0 _ _ st λb _ o e=>kp b o e;obtain⟨W,⟨m₀,w₀⟩,step⟩:=rd s₂.heap.objs.size (I.hok.fresh (qi _));have fp0:∀b∈fp,(a9 H₂ s₂.heap.objs.size (.lst [])) b=none:=λb hb=>by
  rw[br (qv (hfo b hb))];exact(hfp b hb).1
 have stat:∀{pl:List (Addr×Obj)} {H':Hp},(∀b∈fp,H' b=none)->pl=[]->∀b∈fp,eB (fE X (tgs++cap) scope cl C s₂ H₂ fp) pl H' b:=fun{pl H'} hn hp b hb=>by
  subst hp;have lt:=hfo b hb;refine⟨hn b hb,ltC lt,IC.ok.exfs b hb,.inl hb,λx c h=>(IC.ok.exf b hb).2 x c h,λp hp=>by cases hp⟩
 have loop:codeAny (model X.prog X.w) X.A (.compLoop (.ListComp elt [⟨target,iter,ifs,0⟩] scope pos) 0 (.ref it) (.ref s₂.heap.objs.size) (compEnvC scope cl C X.env))
   (RR (.ref s₂.heap.objs.size) C) {s₂ with heap:=h₁,toks:=s₂.toks+([]:List (Str×Value)).length}:=by
  refine LB (λn s'=>∃i ys H',Inv (fE X (tgs++cap) scope cl C s₂ H₂ fp) [] (List.replicate tgs.length none++jt idx σ) H' s'/\tn i s'.heap/\(∀b∈fp,H' b=none)/\W i n ys H') ?_ m₀
   ⟨0,[],_,IC,st₁,fp0,w₀⟩
  rintro n s3 ⟨i,ys,H3,I3,st3,fr3,w3⟩;obtain⟨hl,hz,w3⟩:=step i n ys H3 w3;rcases w3 with⟨stop,q⟩|⟨go,w3⟩
  ·refine bE (T.done (fE X (tgs++cap) scope cl C s₂ H₂ fp) rfl rfl rfl hc i [] s3 _ H3 _ I3 (stat fr3 rfl) st3 stop) λr s4 ⟨hr,I4⟩=> ?_
   subst hr;exact fin C _ H3 s4 (by rw[eC];exact gc _) (by rw[eC];exact qv (zp _)) I4 q
  ·refine bE (T.item (fE X (tgs++cap) scope cl C s₂ H₂ fp) rfl rfl rfl hc i [] s3 _ H3 _ I3 (stat fr3 rfl) st3 go) λr s4 ⟨u,hr,h4⟩=> ?_
   subst hr;refine bE h4 λ_ s5 ⟨x,H5,I5,r5,y5,st5,fr5⟩=> ?_;have I5':=I5.pinned (stat fr5 rfl) (T.obj _ _ st5);refine bE (hg _ _ _ _ _ s5 _ H5 x u _ I5' r5 (hgo _ _ _ _ (w3 x H5 y5))) λ_ s6 ⟨σ6,H6,I6,q6,len6,same6⟩=> ?_;refine bE (ht _ _ _ _ _ s6 σ6 H6 _ I6 q6) λok s7 ⟨H7,I7,q7⟩=> ?_;have again:∀{H8:Hp} {s8:Shared},Inv (fE X (tgs++cap) scope cl C s₂ H₂ fp) ([]++xf fp s5.heap) σ6 H8 s8->
     Inv (fE X (tgs++cap) scope cl C s₂ H₂ fp) [] (List.replicate tgs.length none++jt idx σ) H8 s8/\tn (i+1) s8.heap/\∀b∈fp,H8 b=none:=fun{H8 s8} I8=>by
    refine⟨?_,T.keep _ _ _ st5 λb hb o e=>(I8.pin (b,o) (za _ (za _ (Dx hb e)))).1,λb hb=> ?_⟩
    ·refine I8.unpinned.weak len6.symm λj v hv=> ?_
     by_cases hj:tgs.length<=j
     ·rw[same6 j hj];exact hv
     ·rw[z8 (by simp;omega),zy]at hv
      simp[Nat.not_le.mp hj]at hv
    ·obtain⟨o,e,d⟩:=T.obj _ _ st5 b hb
     exact(I8.pin (b,o) (za _ (za _ (Dx hb e)))).2.1
   cases ok with
   | false=>
    rw[if_neg ql]at q7 ⊢;obtain⟨m',hm,w8⟩:=q7;obtain⟨a1,a2,a3⟩:=again I7;exact⟨m',hm,i+1,ys,H7,a1,a2,a3,w8⟩
   | true=>
    rw[if_pos rfl]at q7 ⊢;refine bE (he _ _ _ _ _ s7 σ6 H7 _ I7 q7) λy s8 ⟨v,H8,I8,r8,hl8,m',hm,w8⟩=> ?_;refine bE (KC _ s8 σ6 H8 (.ref s₂.heap.objs.size) [v] (.ref s₂.heap.objs.size) [y] (λ_ H9=>H9=a9 H8 s₂.heap.objs.size (.lst (ys++[v]))) I8 rfl (.cons r8 .nil) ⟨_,ys,v,rfl,rfl,hl8,hz,rfl⟩) λz s9 ⟨v9,H9,I9,_,e9⟩=> ?_;subst e9;obtain⟨a1,a2,a3⟩:=again I9;exact⟨m',hm,i+1,_,_,a1,a2,a3,w8⟩
 exact codeAny_compStart_list loop (T.self _ 0 _ _ _ st₁ loop)
theorem JL{σ σ5:St}{C:Addr}(I:Inv X pins σ H₂ s₂)(hfp:∀b∈fp,eB X pins H₂ b)(hC:s₂.heap.objs.size<=C)
  (I5:Inv (fE X (tgs++cap) scope cl C s₂ H₂ fp) [] σ5 H5 s5) (sb:Heap.SameBut C s5.heap h'):Inv X pins σ H5 {s5 with heap:=h'}:=
 I.call' (ch:=fp) I5.os (Un.sameBut I5.base hC sb) (HOk.sameBut I5.hok I5.free sb) I5.bare λb hb=>⟨(hfp b hb).2.2.2.1,(hfp b hb).2.1,(hfp b hb).2.2.2.2.1,(hfp b hb).2.2.2.2.2⟩
theorem iu(O:CompOk X scope cl tgs cap idx)(hc:X.calm=true)(hi:PI X target iter wi)(hgo:Cq tgs.length g)
  (hg:∀C s₂ H₂ fp,PG (fE X (tgs++cap) scope cl C s₂ H₂ fp) target g) (ht:∀C s₂ H₂ fp,PF (fE X (tgs++cap) scope cl C s₂ H₂ fp) ifs tc) (he:∀C s₂ H₂ fp,PE (fE X (tgs++cap) scope cl C s₂ H₂ fp) elt te)
  (hs:∀x,foldedSetIterable iter X.env x=pure x:=by intro _;rfl):
  PE X (.ListComp elt [⟨target,iter,ifs,0⟩] scope pos) (GB tgs.length idx wi g tc te):=by
 intro pins s σ H Q I h;rw[eval_ListComp];refine wpAny_comprehension_free (use:=none) rfl hs O.clos O.kind O.names (wpAny_mono (hi pins s σ H _ I h) (λxv s₁ h₁=>wpAny_mono h₁ (λitv s₂ h₂=> ?_) λ_ _ e=>e) λ_ _ e=>e);obtain⟨it,fp,tn,J,H₂,rfl,I₂,T,st,hfp,rd⟩:=h₂;refine Ke (RR:=λacc C=>compPost (model X.prog X.w) X.A X.xe none (EP X pins σ Q) acc C) (Fin:=λl H=>Q (.ref l) H) O hc hgo hg ht he I₂ T st hfp rd ?_;intro C σ5 H5 s5 hC _ I5 q;obtain⟨m,hn,_⟩:=I5.loc;exact⟨m,hn,λh' sb=>⟨.ref _,H5,JL I₂ hfp hC I5 sb,rfl,q⟩⟩
theorem Ey{i:Nat}{y:Str}{py spos:Pos}(hN:X.N.Nodup)(hy:X.N[i]?=some y)(hly:AF X.env.scope y)(O:CompOk X scope cl tgs cap idx)(hc:X.calm=true)(hi:PI X target iter wi)(hgo:Cq tgs.length g)
  (hg:∀C s₂ H₂ fp,PG (fE X (tgs++cap) scope cl C s₂ H₂ fp) target g) (ht:∀C s₂ H₂ fp,PF (fE X (tgs++cap) scope cl C s₂ H₂ fp) ifs tc) (he:∀C s₂ H₂ fp,PE (fE X (tgs++cap) scope cl C s₂ H₂ fp) elt te)
  (hsw:swapsWith (.ListComp elt [⟨target,iter,ifs,0⟩] scope pos) (some (.Name y py)) spos.line X.env=pure true:=by rfl)
  (hs:∀x,foldedSetIterable iter X.env x=pure x:=by intro _;rfl) (hf:X.fn y=true\/X.env.scope.names.lookup y=some .local:=by first|exact .inl rfl|exact .inr rfl|assumption):
  PS X (.Assign [.Name y py] (.ListComp elt [⟨target,iter,ifs,0⟩] scope pos) spos) (λD σ H=>GB tgs.length idx wi g tc te σ H λx H1=>D.nx (σ.set i (some x)) H1):=by
 intro pins s σ H D I h;rw[exec_Assign_Name_used _ _ _ _ hsw];refine wpAny_bind (wpAny_standAt (wpAny_bind ?_));show wpAny _ X.A (do let _<-comprehension (.ListComp elt [⟨target,iter,ifs,0⟩] scope pos) scope X.env _ (newList []) false (eval iter X.env) (some (assign (.Name y py) X.env))) _ _ s;refine wpAny_bind (wpAny_mono (wpAny_comprehension_free (use:=some (assign (.Name y py) X.env)) (Q:=λ_ s'=>SP X pins D .next s') rfl hs O.clos O.kind O.names
  (wpAny_mono (hi pins s σ H _ I h) (λxv s₁ h₁=>wpAny_mono h₁ (λitv s₂ h₂=> ?_) λ_ _ e=>e) λ_ _ e=>e)) (λ_ s' hq=>wpAny_pure (wpAny_pure hq)) λ_ _ e=>e)
 obtain⟨it,fp,tn,J,H₂,rfl,I₂,T,st,hfp,rd⟩:=h₂;refine Ke (RR:=λacc C=>compPost (model X.prog X.w) X.A X.xe (some (assign (.Name y py) X.env)) (λ_ s'=>SP X pins D .next s') acc C) (Fin:=λl H=>D.nx (σ.set i (some (.ref l))) H) O hc hgo hg ht he I₂ T st hfp rd ?_;intro C σ5 H5 s5 hC hDC I5 q;obtain⟨m,hn,_⟩:=I5.loc;have I6:Inv X pins σ H5 s5:=JL I₂ hfp hC I5 (Heap.SameBut.refl _ _);show wpAny _ X.A (assign (.Name y py) X.env (.ref s₂.heap.objs.size)) _ _ _;refine wpAny_assign_Name (Je I6 hN hy hly (v:=.ref s₂.heap.objs.size) rfl (λs7 I7 ⟨a,sb,ha⟩=> ?_) hf);have haC:C≠a:=by
  rcases ha with rfl|ha
  ·exact wq (qf I₂.lt hC)
  ·obtain⟨v,o,e,_⟩:=I₂.cell _ _ ha
   exact wq (qf (qh e) hC)
 refine⟨m,hn.sameBut sb haC,λh' sb'=>⟨_,H5,?_,q⟩⟩;have hCn:H5 C=none:=I5.free;refine I7.call' (ch:=[C]) rfl (Un.but sb') (HOk.sameBut I7.hok hCn sb') I7.bare λb hb=> ?_;have eb:b=C:=by simpa using hb
 subst eb;refine⟨.inr (z9 I₂.sz hC),?_,λx c e=> ?_,λp hp=> ?_⟩
 ·exact wq (qf I₂.lt hC)
 ·obtain⟨v,o,e',_⟩:=I₂.cell _ _ e
  exact qv (qf (qh e') hC)
 ·exact qv (qf (qh (I₂.pin p hp).1) hC)
end
def KG(P:Program)(w:World)(K:W.Frag)(mg:Str->Option Value)(base:Heap)(CX:jb)(k:Nat)(x:Str)(sp:Sp):Prop:=
 ∃f fd ps,FnOk P w K mg base CX k f fd ps sp/\mg x=some (.ref f)/\W.keepIn K (.ref f)=true/\jfn K fd ps []
def oN(P:Program)(w:World)(K:W.Frag)(mg:Str->Option Value)(base:Heap)(CX:jb)(k:Nat)(C:Addr)(m:Str)(sp:Sp):Prop:=
 ∃f fd ps,Meth K C m f/\FnOk P w K mg base CX k f fd ps sp/\jfn K fd ps []
def GC(P:Program)(w:World)(K:W.Frag)(mg:Str->Option Value)(base:Heap)(CX:jb)(k:Nat)(x:Str)(C:Addr)(sp:Sp):Prop:=
 ∃f fd ps,Mk K C f/\FnOk P w K mg base CX k f fd ps sp/\mg x=some (.ref C)/\jfn K fd ps []
section
variable {X : Cx} {CX : jb} {k : Nat} {C : Addr} {sp : Sp} {E : XK} {x m : Str} {p pos apos : Pos} {e o : Expr} {es : List Expr} {ta : TE} {t : TA}
theorem aO(G:KG X.prog X.w X.K X.mg X.base CX k x sp)(hr:Room k X.A)(hx:jo CX X E)(ha:PA X (e::es) t)(hg:Gl X x:=by rfl)(hdb:(x==("__debug__":Str))=false:=by decide)
  (he:starEach (e::es) X.env=(false,eval e X.env)::starEach es X.env:=by rfl) (hpl:(backTo pos (starEach es X.env)).any (·.1)=false:=by rfl):
  PE X (.Call (.Name x p) (e::es) [] pos) (Eo sp [] E t):=by
 obtain⟨f,fd,ps,F,hm,hk,hb⟩:=G;exact OV F hr hg hm hk hb .nil hx ha hdb he hpl
theorem pB(G:GC X.prog X.w X.K X.mg X.base CX k x C sp)(hr:Room (k+1) X.A)(hx:jo CX X E)(ha:PA X (e::es) t)(hg:Gl X x:=by rfl)(hdb:(x==("__debug__":Str))=false:=by decide)
  (he:starEach (e::es) X.env=(false,eval e X.env)::starEach es X.env:=by rfl) (hpl:(backTo pos (starEach es X.env)).any (·.1)=false:=by rfl):
  PE X (.Call (.Name x p) (e::es) [] pos) (vt C sp [] E t):=by
 obtain⟨f,fd,ps,M,F,hm,hb⟩:=G;exact NB M F hr hg hm hb .nil hx ha hdb he hpl
theorem pW(G:GC X.prog X.w X.K X.mg X.base CX k x C sp)(hr:Room (k+1) X.A)(hx:jo CX X E)(hg:Gl X x:=by rfl)(hdb:(x==("__debug__":Str))=false:=by decide):
  PE X (.Call (.Name x p) [] [] pos) (vt C sp [] E iZ):=by
 obtain⟨f,fd,ps,M,F,hm,hb⟩:=G;exact OE M F hr hg hm hb .nil hx hdb
noncomputable def oy(P:Program)(w:World)(K:W.Frag)(mg:Str->Option Value)(base:Heap)(CX:jb)(k:Nat)(m:Str)(E:XK)(ta:TE)(t:TA):TE:=λσ H Q=>ta σ H λx H1=>
 ∃a C dx fs sp,x=.ref a/\H1 a=some (.ins C dx fs)/\Cls K C/\oN P w K mg base CX k C m sp/\fs.lookup m=none/\t σ H1 λvs H2=>sp (x::vs) H2 Q E
theorem dD{pl:Sem Bool}(he:PE X o ta)(hr:Room k X.A)(hx:jo CX X E)(ha:PA X (e::es) t)
  (hst:starEach (e::es) X.env=(false,eval e X.env)::starEach es X.env:=by rfl) (hpl:(backTo pos (starEach es X.env)).any (·.1)=false:=by rfl)
  (ht:eval (.Call (.Attribute o m apos) (e::es) [] pos) X.env=(do
   let ov<-eval o X.env
   standAt apos.atName
   let (f,first)<-holding [ov] (getMethod ov m pl)
   callWith pos f first (backTo pos (starEach (e::es) X.env)) (backToKw pos (keywordEach [] X.env))):=by rfl):
  PE X (.Call (.Attribute o m apos) (e::es) [] pos) (oy X.prog X.w X.K X.mg X.base CX k m E ta t):=by
 intro pins s σ H Q I h;refine W.methodCall_KW (pl:=pl) (bE (he pins s σ H _ I h) λu s1 ⟨x,H1,I1,rx,a,C,dx,fs,sp,ex,ea,c,⟨f,fd,ps,hm,F,hb⟩,l,q⟩=> ?_) ht;subst ex;obtain rfl:u=Value.ref a:=rx;refine Gv I1 ea c hm l ?_;refine W.callWith_K (first:=[.ref a]) (h₀:=X.base) I.ok.mod.kin hm.kp (bE (ha pos pins s1 σ H1 _ I1 q) λus s2 ⟨vs,H2,I2,r,q2⟩=>⟨I2.kIn,?_⟩) hst hpl;exact E1 (us:=.ref a::us) (vs:=.ref a::vs) (dvs:=[]) (ds:=[]) F hr hb .nil hx I2 (.cons rfl r) (by simpa using q2)
theorem gB{pl:Sem Bool}(he:PE X o ta)(hr:Room k X.A)(hx:jo CX X E)
  (ht:eval (.Call (.Attribute o m apos) [] [] pos) X.env=(do
   let ov<-eval o X.env
   standAt apos.atName
   let (f,first)<-holding [ov] (getMethod ov m pl)
   callWith pos f first (backTo pos (starEach [] X.env)) (backToKw pos (keywordEach [] X.env))):=by rfl):
  PE X (.Call (.Attribute o m apos) [] [] pos) (oy X.prog X.w X.K X.mg X.base CX k m E ta iZ):=by
 intro pins s σ H Q I h;refine W.methodCall_KW (pl:=pl) (bE (he pins s σ H _ I h) λu s1 ⟨x,H1,I1,rx,a,C,dx,fs,sp,ex,ea,c,⟨f,fd,ps,hm,F,hb⟩,l,q⟩=> ?_) ht;subst ex;obtain rfl:u=Value.ref a:=rx;refine Gv I1 ea c hm l ?_;exact W.callWith_K0 (first:=[.ref a]) I1.kIn hm.kp (E1 (us:=[.ref a]) (vs:=[.ref a]) (dvs:=[]) (ds:=[]) F hr hb .nil hx I1 (.cons rfl .nil) q)
end
abbrev RU:=V->V->Hp->VK->Prop
noncomputable def mJ(K:W.Frag):RU:=λx y H Q=>match x,y with
 | .int i,.int j=>Q (.int (i+j)) H
 | .str a,.str b=>a.length+b.length<=sizeLine/\Q (.str (a++b)) H
 | .ref a,.ref b=>BL (.ref a) (.ref b) H Q\/ou K (.ref a) (.ref b) H Q
 | _,_=>False
theorem M7:cG X (binaryOp .Add) (mJ X.K):=by
 intro pins s σ H x y v u Q I rx ry h;cases x<;>cases y<;>first|exact h.elim|skip
 ·exact ux pins s σ H _ _ v u Q I rx ry ⟨_,_,rfl,rfl,h⟩
 ·exact Ow pins s σ H _ _ v u Q I rx ry ⟨_,_,rfl,rfl,h.1,h.2⟩
 ·rcases h with h|h
  ·exact rS pins s σ H _ _ v u Q I rx ry h
  ·exact Nx pins s σ H _ _ v u Q I rx ry h
mutual
def Rep(H:Hp):V->PyData->Prop
 | v,.none=>v=.non
 | v,.bool b=>v=.bl b
 | v,.int i=>v=.int i
 | v,.str x=>v=.str x
 | v,.list ds=>∃a vs,v=.ref a/\H a=some (.lst vs)/\Reps H vs ds
 | v,.tuple ds=>∃a vs,v=.ref a/\H a=some (.tup vs)/\Reps H vs ds
 | _,.dict _=>False
def Reps(H:Hp):List V->List PyData->Prop
 | [],[]=>True
 | v::vs,d::ds=>Rep H v d/\Reps H vs ds
 | _,_=>False
end
mutual
theorem Rep.same{H H':Hp}(e:Same H H'):∀{v:V} {d:PyData},Rep H v d->Rep H' v d
 | v,.none,h=>h
 | v,.bool b,h=>h
 | v,.int i,h=>h
 | v,.str x,h=>h
 | v,.list ds,h=>by
  simp only[Rep]at h ⊢;obtain⟨a,vs,h1,h2,h3⟩:=h;exact⟨a,vs,h1,e _ _ h2,Reps.same e h3⟩
 | v,.tuple ds,h=>by
  simp only[Rep]at h ⊢;obtain⟨a,vs,h1,h2,h3⟩:=h;exact⟨a,vs,h1,e _ _ h2,Reps.same e h3⟩
 | _,.dict _,h=>by simp only[Rep]at h
theorem Reps.same{H H':Hp}(e:Same H H'):∀{vs:List V} {ds:List PyData},Reps H vs ds->Reps H' vs ds
 | [],[],_=>by simp only[Reps]
 | v::vs,d::ds,h=>by
  simp only[Reps]at h ⊢;exact⟨Rep.same e h.1,Reps.same e h.2⟩
 | [],_::_,h=>by simp only[Reps]at h
 | _::_,[],h=>by simp only[Reps]at h
end
mutual
theorem BI{P:Program}{w:World}{H:Hp}{h:Heap}(hk:HOk P w H h):∀{x:V} {v:Value} {d:PyData},RelV x v->Rep H x d->∃as,Reads h v d as
 | x,v,.none,r,q=>by simp only[Rep]at q;subst q;cases r;exact⟨_,.none⟩
 | x,v,.bool b,r,q=>by simp only[Rep]at q;subst q;cases r;exact⟨_,.bool b⟩
 | x,v,.int i,r,q=>by simp only[Rep]at q;subst q;obtain⟨t,rfl⟩:=r;exact⟨_,.int i t⟩
 | x,v,.str y,r,q=>by simp only[Rep]at q;subst q;obtain⟨t,rfl⟩:=r;exact⟨_,.str y t⟩
 | x,v,.list ds,r,q=>by
  simp only[Rep]at q;obtain⟨a,vs,rfl,e,q⟩:=q;cases r;obtain⟨_,its,n,rv,g⟩:=hk a _ e;obtain⟨as,z⟩:=Hm hk rv q;exact⟨_,.list g rfl rfl (by simpa using z)⟩
 | x,v,.tuple ds,r,q=>by
  simp only[Rep]at q;obtain⟨a,vs,rfl,e,q⟩:=q;cases r;obtain⟨_,its,rv,o,g,hc,n,hd⟩:=hk a _ e;obtain⟨as,z⟩:=Hm hk rv q;exact⟨_,.tuple g hc hd (by simpa using z)⟩
 | _,_,.dict _,_,q=>by simp only[Rep]at q
theorem Hm{P:Program}{w:World}{H:Hp}{h:Heap}(hk:HOk P w H h):∀{xs:List V} {us:List Value} {ds:List PyData},Vals xs us->Reps H xs ds->∃as,ReadsAll h us ds as
 | _,_,[],.nil,_=>⟨_,.nil⟩
 | _,_,d::ds,.cons r rs,q=>by
  simp only[Reps]at q;obtain⟨as,z⟩:=BI hk r q.1;obtain⟨bs,y⟩:=Hm hk rs q.2;exact⟨_,.cons z y⟩
 | _,_,_::_,.nil,q=>by simp only[Reps]at q
 | _,_,[],.cons _ _,q=>by simp only[Reps]at q
end
def oE(d:PyData):Prop:=SeqAt.shaped d=true
noncomputable def KR:RU:=λx y H Q=>(jC x y=true/\Q (.bl (decide (x=y))) H)\/∃d e,Rep H x d/\Rep H y e/\oE d/\oE e/\Q (.bl (PyData.eqv d e)) H
noncomputable def Jj:RU:=λx y H Q=>(jC x y=true/\Q (.bl (!decide (x=y))) H)\/∃d e,Rep H x d/\Rep H y e/\oE d/\oE e/\Q (.bl (!PyData.eqv d e)) H
section
variable {X : Cx}
theorem cx(hu:X.A.units+64<cLine):cG X (compareOp .Eq) KR:=by
 intro pins s σ H x y v u Q I rx ry h;rcases h with h|⟨d,e,hd,he,sd,se,q⟩
 ·exact A9 pins s σ H x y v u Q I rx ry h
 ·obtain⟨as,ra⟩:=BI I.hok rx hd
  obtain⟨bs,rb⟩:=BI I.hok ry he;exact eq_dataH ra rb sd se hu ⟨.bl _,H,I,rfl,q⟩
theorem iz(hu:X.A.units+64<cLine):cG X (compareOp .NotEq) Jj:=by
 intro pins s σ H x y v u Q I rx ry h;rcases h with h|⟨d,e,hd,he,sd,se,q⟩
 ·exact zN pins s σ H x y v u Q I rx ry h
 ·obtain⟨as,ra⟩:=BI I.hok rx hd
  obtain⟨bs,rb⟩:=BI I.hok ry he;exact ne_dataH ra rb sd se hu ⟨.bl _,H,I,rfl,q⟩
def Di(P:Program)(w:World)(K:W.Frag)(a:Addr)(kvs:List (cH×V)):Prop:=
 ∀h:Heap,K.In h->(a==sysModules)=false/\∃vs,KV kvs vs/\h.DictOf (eY P w) a vs
def C7(P:Program)(w:World)(K:W.Frag)(H:Hp)(a:Addr)(y:V)(r:Option V):Prop:=
 DGet H a y r\/(∃kvs k,Di P w K a kvs/\y=kV k/\r=de kvs k)\/∃o kvs k,H a=some (.frz o (.dK kvs))/\y=kV k/\r=de kvs k
noncomputable def yN(P:Program)(w:World)(K:W.Frag):R2:=λx y H Q=>∃a v,x=.ref a/\C7 P w K H a y (some v)/\Q v H
theorem LM(hu:X.A.units+64<cLine):IxR X (yN X.prog X.w X.K):=by
 intro value slice pins s σ H x y v u Q I rx ry h hs;obtain⟨a,z,rfl,g,q⟩:=h;cases rx;rcases g with g|⟨kvs,k,kd,rfl,e⟩|⟨o,kvs,k,kd,rfl,e⟩
 ·exact tail_any (Ou I g) PySem.F.slot_dict_getitem.lookup (Mc (by omega) I g ry λw' s3 I3 rw'=>⟨z,H,I3,rw',q⟩) hs
 ·obtain⟨hd,vs,rel,dd⟩:=kd _ I.kIn
  obtain⟨w',hw,rw'⟩:=RelO.some_of (v:=z) (o:=valueAt vs k) (by rw[e];exact rel.val k);exact tail_any dd.typeIs PySem.F.slot_dict_getitem.lookup (wpAny_getItem_of (jQ ry) dd.mapOf hw ⟨z,H,I.tok _,rw',q⟩) hs
 ·obtain⟨_,_,hd,vs,rel,dd⟩:=(show jd0 X.prog X.w H s.heap a (.frz o (.dK kvs))from I.hok a _ kd)
  obtain⟨w',hw,rw'⟩:=RelO.some_of (v:=z) (o:=valueAt vs k) (by rw[e];exact rel.val k);exact tail_any dd.typeIs PySem.F.slot_dict_getitem.lookup (wpAny_getItem_of (jQ ry) dd.mapOf hw ⟨z,H,I.tok _,rw',q⟩) hs
noncomputable def v8(P:Program)(w:World)(K:W.Frag):R2:=λx y H Q=>J9 K x y H Q\/yN P w K x y H Q
theorem Hn(hu:X.A.units+64<cLine):IxR X (v8 X.prog X.w X.K):=IxR.or sj (LM hu)
noncomputable def zX(P:Program)(w:World)(K:W.Frag)(neg:Bool):RU:=λx y H Q=>
 Fl K neg x y H Q\/(∃i j,x=.str i/\y=.str j/\Q (.bl (if neg then !(!(Builtin.Str.occurrences j i 0 j.length 1).isEmpty)else !(Builtin.Str.occurrences j i 0 j.length 1).isEmpty)) H)\/
 ∃a o,y=.ref a/\C7 P w K H a x o/\Q (.bl (if neg then !o.isSome else o.isSome)) H
theorem pJ(hu:X.A.units+64<cLine):cG X (compareOp .In) (zX X.prog X.w X.K false):=by
 intro pins s σ H x y v u Q I rx ry h;rcases h with h|h|⟨a,o,rfl,g,q⟩
 ·exact Ql pins s σ H x y v u Q I rx ry h
 ·exact NS pins s σ H x y v u Q I rx ry h
 ·cases ry
  rcases g with g|⟨kvs,k,kd,rfl,e⟩|⟨o',kvs,k,kd,rfl,e⟩
  ·exact F0 (by omega) I g rx λs' I'=>⟨.bl _,H,I',rfl,q⟩
  ·obtain⟨hd,vs,rel,dd⟩:=kd _ I.kIn
   refine wpAny_in_of (jQ rx) hd dd.mapOf ?_;rw[<-(rel.val k).isSome_eq,<-e];exact⟨.bl _,H,I.tok _,rfl,q⟩
  ·obtain⟨_,_,hd,vs,rel,dd⟩:=(show jd0 X.prog X.w H s.heap a (.frz o' (.dK kvs))from I.hok a _ kd)
   refine wpAny_in_of (jQ rx) hd dd.mapOf ?_;rw[<-(rel.val k).isSome_eq,<-e];exact⟨.bl _,H,I.tok _,rfl,q⟩
theorem Ly(hu:X.A.units+64<cLine):cG X (compareOp .NotIn) (zX X.prog X.w X.K true):=by
 intro pins s σ H x y v u Q I rx ry h;rcases h with h|h|⟨a,o,rfl,g,q⟩
 ·exact O4 pins s σ H x y v u Q I rx ry h
 ·exact Mt pins s σ H x y v u Q I rx ry h
 ·cases ry
  rcases g with g|⟨kvs,k,kd,rfl,e⟩|⟨o',kvs,k,kd,rfl,e⟩
  ·exact Nj (by omega) I g rx λs' I'=>⟨.bl _,H,I',rfl,q⟩
  ·obtain⟨hd,vs,rel,dd⟩:=kd _ I.kIn
   refine wpAny_notIn_of (jQ rx) hd dd.mapOf ?_;rw[<-(rel.val k).isSome_eq,<-e];exact⟨.bl _,H,I.tok _,rfl,q⟩
  ·obtain⟨_,_,hd,vs,rel,dd⟩:=(show jd0 X.prog X.w H s.heap a (.frz o' (.dK kvs))from I.hok a _ kd)
   refine wpAny_notIn_of (jQ rx) hd dd.mapOf ?_;rw[<-(rel.val k).isSome_eq,<-e];exact⟨.bl _,H,I.tok _,rfl,q⟩
def Cp:V->Option Int->Option Int->Hp->VK->Prop:=λx lo hi H Q=>∃z,x=.str z/\z.length<=sizeLine/\Q (.str (Txt.slice z lo hi)) H
def J1(K:W.Frag):V->Option Int->Option Int->Hp->VK->Prop:=λx lo hi H Q=>yV K x lo hi H Q\/zR K x lo hi H Q
theorem Ff:SlR X (J1 X.K):=SlR.or Qm qJ
def nA(P:Program)(w:World)(K:W.Frag):List V->Hp->VK->Prop:=λxs H Q=>(∃p ys,xs=[.ref p]/\(SqL K H p ys\/SqT K H p ys)/\Q (.int ys.length) H)\/∃z,xs=[.str z]/\z.length<=sizeLine/\Q (.int z.length) H
theorem NY:jcp X (.builtin "len") (nA X.prog X.w X.K):=jcp.or MA Mj
def qV(K:W.Frag):List V->Hp->VK->Prop:=λxs H Q=>∃(p:Addr) (ns:List Int),xs=[.ref p]/\SqL K H p (ns.map V.int)/\Q (.int ns.sum) H
theorem NK(hc:X.calm=true):jcp X (.builtin "sum") (qV X.K):=by
 intro pins s σ H xs us Q I r h;obtain⟨p,ns,rfl,hq,q⟩:=h;obtain⟨u,rfl,rx⟩:=iY r;cases rx;obtain⟨its,r',pl,hz⟩:=I.list hq;have hi:=Pu r';obtain⟨ys,e⟩:=(hi.allInts:AllInts its.toArray).items;refine sum_intListG (I.ok.hd hc) (xs:=ys) (by rw[<-e];exact pl.isList) λh' tk t' k=>⟨.int ns.sum,H,I.kept (t':=tk) k,⟨t',?_⟩,q⟩;have e2:(numsOf its.toArray.toList).sum=ns.sum:=by rw[show its.toArray.toList=its from rfl,hi.numsOf]
 rw[<-e2,e,nums_intItems,preSum_eq,zh (by simp)]
def ur(K:W.Frag):List V->Hp->VK->Prop:=λxs H Q=>∃(p:Addr) (bs:List Bool),xs=[.ref p]/\SqL K H p (bs.map V.bl)/\Q (.bl (bs.all id)) H
def GV(mg:Str->Option Value)(x:Str)(v:V):Prop:=∃u,mg x=some u/\RelV v u
theorem eW{x:Str}{v:V}{pos:Pos}(h:GV X.mg x v)(hg:Gl X x:=by rfl)(hd:(x==("__debug__":Str))=false:=by decide):PE X (.Name x pos) (tC v):=by
 obtain⟨u,hm,r⟩:=h;exact MU hg hm r hd
theorem Pc(ha:PE X a ta):PE X (.UnaryOp .Not a pos) (λσ H Q=>ta σ H λx H1=>∃k,fD X.K x H1 k/\Q (.bl (!k)) H1):=by
 intro pins s σ H Q I h;refine UnaryOp_ (bE (ha pins s σ H _ I h) λv s1 ⟨x,H1,I1,r1,q1⟩=> ?_);exact not_of (bE (JA pins s1 σ H1 x v (λk H2=>Q (.bl (!k)) H2) I1 r1 q1) λk s2 ⟨H2,I2,q2⟩=>⟨.bl (!k),H2,I2,rfl,q2⟩)
end
theorem hZ:bootBuiltins "len"=some (.builtin "len"):=by decide+kernel
theorem Gh:bootBuiltins "sum"=some (.builtin "sum"):=by decide+kernel
theorem Il:bootBuiltins "all"=some (.builtin "all"):=by decide+kernel
theorem pL:bootBuiltins "any"=some (.builtin "any"):=by decide+kernel
theorem gJ:bootBuiltins "isinstance"=some (.builtin "isinstance"):=by decide+kernel
theorem rA:bootBuiltins "max"=some (.builtin "max"):=by decide+kernel
theorem Kp:bootBuiltins "int"=some (.type "int"):=by decide+kernel
theorem fo:bootBuiltins "str"=some (.type "str"):=by decide+kernel
theorem Lf:bootBuiltins "list"=some (.type "list"):=by decide+kernel
theorem Lo:bootBuiltins "tuple"=some (.type "tuple"):=by decide+kernel
theorem Od:bootBuiltins "ValueError"=some (.type "ValueError"):=by decide+kernel
theorem xx{X:Cx}{x:Str}{n:String}{pos:Pos}(hm:X.mg x=none)(hv:bootBuiltins x=some (.type n))(hg:Gl X x:=by rfl)(hn:x≠"__name__":=by decide)(hd:(x==("__debug__":Str))=false:=by decide):PE X (.Name x pos) (tC (.ty n)):=OQ hg hm hv rfl hn hd
noncomputable def CXE(P:Program)(w:World):jb:=λouter H s E e s'=>
 ∃(ea C:Addr) (a0:Value) (B:Heap) (H':Hp),e=.ref ea/\s'.os=s.os/\AllBare s'.gens/\Un (cn outer) [] H H' s.heap s'.heap/\HOk P w H' B/\Heap.FlyingW B outer ea (.ref C) a0 s'.heap/\
  (∀b o,s.heap.get? b=some o->b∉cn outer->∃o',B.get? b=some o')/\(∀b o,s.heap.get? b=some o->H b=none->b∉cn outer->B.get? b=some o)/\E (.ref C) none H'
theorem k_:jo (CXE P w) X E0:=λ_ _ _ _ _ _ _ ⟨_,_,_,_,_,_,_,_,_,_,_,_,_,h⟩=>h.elim
section
variable {P : Program} {w : World} {K : W.Frag} {mg : Str -> Option Value} {base : Heap} {N : List Str} {qual : Str} {scope : Scope} {f : Addr} {cd : Value} {A : Around} {outer : List Env} {s₀ : Shared} {H₀ : Hp} {E : XK}
theorem aW:jo (CXE P w) (bL (CXE P w) P w K mg base N qual scope f cd A outer s₀ H₀ E) E:=by
 intro pins σ H s e s' I h;obtain⟨ea,C,a0,B,H',rfl,hos,hg,u,hok,fl,hB,hBk,hE⟩:=h;have fsE:cn (bL (CXE P w) P w K mg base N qual scope f cd A outer s₀ H₀ E).stack=s₀.heap.objs.size::cn outer:=rfl;have ltL:∀{b o},s₀.heap.get? b=some o->b≠s₀.heap.objs.size:=fun{b o} q=>qv (qh q);have nst:∀{b o},s₀.heap.get? b=some o->b∉cn outer->b∉cn (bL (CXE P w) P w K mg base N qual scope f cd A outer s₀ H₀ E).stack:=fun{b o} q n hm=>by
  rw[fsE]at hm;rcases qr.mp hm with z|z
  ·exact ltL q z
  ·exact n z
 have bu:=I.base;refine wpAny_leaves_onW (env:=envOfC qual scope s₀.heap.objs.size f cd) (outer:=outer) (L:=s₀.heap.objs.size) I.ok.frames rfl fl λh'' fl'' sm=> ?_;have nf:∀{b},b∈cn (bL (CXE P w) P w K mg base N qual scope f cd A outer s₀ H₀ E).stack->∀o,s'.heap.get? b=some o->∀vs,o.data≠ .fields vs:=fun{b} hb o ho=>by
  obtain⟨_,o',ho',hd⟩:=fl.2.2.1.mem (b:=b) hb;rw[ho]at ho';cases ho';exact hd
 refine⟨ea,C,a0,B,H',rfl,hos.trans I.os,hg,⟨?_,?_,?_,?_,?_,?_,?_⟩,hok,fl'',?_,?_,hE⟩
 ·intro b o q n nm _
  have q1:=bu.keep b o q n nm (by simp[bL]);have n1:=bu.free b o q n (by simp[bL]);exact fl''.1 b o (hBk b o q1 n1 (nst q nm))
 ·intro b o q n hm _
  obtain⟨sl,q1⟩:=bu.slot b o q n hm (by simp[bL]);have n1:=bu.free b o q n (by simp[bL]);have hm':b∈cn (bL (CXE P w) P w K mg base N qual scope f cd A outer s₀ H₀ E).stack:=by rw[fsE];exact qg _ hm
  obtain⟨sl2,q2⟩:=u.slot b _ q1 n1 hm' (by simp);obtain⟨sl3,q3⟩:=sm b _ q2 (nf hm' _ q2);exact⟨sl3,q3⟩
 ·intro b o q n _
  have n1:=bu.free b o q n (by simp[bL]);obtain⟨o1,q1⟩:=bu.there b o q (by simp[bL]);exact u.free b o1 q1 n1 (by simp)
 ·intro b o q _
  obtain⟨o1,q1⟩:=bu.there b o q (by simp[bL]);by_cases hm:b∈cn outer
  ·have hm':b∈cn (bL (CXE P w) P w K mg base N qual scope f cd A outer s₀ H₀ E).stack:=by rw[fsE];exact qg _ hm
   obtain⟨o2,q2⟩:=u.there b o1 q1 (by simp);obtain⟨sl3,q3⟩:=sm b _ q2 (nf hm' _ q2);exact⟨_,q3⟩
  ·obtain⟨o2,q2⟩:=hB b o1 q1 (nst q hm)
   exact⟨o2,fl''.1 b o2 q2⟩
 ·intro b xs q;exact u.tups b xs (bu.tups b xs q)
 ·intro b o v q;exact u.frzs b o v (bu.frzs b o v q)
 ·intro b ps q
  obtain⟨m1,q1⟩:=bu.tbls b ps q;obtain⟨m2,q2⟩:=u.tbls b _ q1;exact⟨m1++m2,by rw[q2,Array.append_assoc]⟩
 ·intro b o q nm
  obtain⟨o1,q1⟩:=bu.there b o q (by simp[bL]);exact hB b o1 q1 (nst q nm)
 ·intro b o q n nm
  have q1:=bu.keep b o q n nm (by simp[bL]);have n1:=bu.free b o q n (by simp[bL]);exact hBk b o q1 n1 (nst q nm)
theorem rW{σ:St}(I:Inv (bL (CXE P w) P w K mg base N qual scope f cd A outer s₀ H₀ E) pins σ H s)
  (hx:Heap.MadeExcOf s.heap h' e (.ref C) vs) (hE:E (.ref C) none H):(bL (CXE P w) P w K mg base N qual scope f cd A outer s₀ H₀ E).xe (.ref e) {s with heap:=h'}:=by
 have fsE:cn (bL (CXE P w) P w K mg base N qual scope f cd A outer s₀ H₀ E).stack=s₀.heap.objs.size::cn outer:=rfl;have bu:=I.base;have ltL:∀{b o},s₀.heap.get? b=some o->b≠s₀.heap.objs.size:=fun{b o} q=>qv (qh q);have nst:∀{b o},s₀.heap.get? b=some o->b∉cn outer->b∉(s₀.heap.objs.size::cn outer):=fun{b o} q n hm=>by
  rcases qr.mp hm with z|z
  ·exact ltL q z
  ·exact n z
 have hin:∀env∈(envOfC qual scope s₀.heap.objs.size f cd::outer),∀a,env.frame=some a->a∈(s₀.heap.objs.size::cn outer):=λenv he b hb=>by
  rcases qr.mp he with rfl|he
  ·have:s₀.heap.objs.size=b:=Option.some.inj hb
   subst this;exact qj ..
  ·exact qg _ (g8.mpr ⟨env,he,hb⟩)
 have stk:s.heap.FunFrames base (envOfC qual scope s₀.heap.objs.size f cd::outer):=I.stack;have hl:=W.funFrames_hide (as:=s₀.heap.objs.size::cn outer) stk hin;refine wpAny_leaves_madeW (base:=W.hideAll s.heap (s₀.heap.objs.size::cn outer)) (h:=s.heap) (env:=envOfC qual scope s₀.heap.objs.size f cd) (outer:=outer) (L:=s₀.heap.objs.size) I.ok.frames rfl
  (λb o q=>W.of_hideAll _ q) hl hx λh'' t fl _ _ sm=> ?_
 have hide:∀{b o},s.heap.get? b=some o->b∉(s₀.heap.objs.size::cn outer)->(W.hideAll s.heap (s₀.heap.objs.size::cn outer)).get? b=some o:=fun{b o} q n=>W.hideAll_get _ q n;have nf:∀{b},b∈cn outer->∀o,s.heap.get? b=some o->∀vs,o.data≠ .fields vs:=fun{b} hb o ho=>by
  obtain⟨_,o',ho',hd⟩:=stk.mem (b:=b) (by rw[show List.filterMap (·.frame) (envOfC qual scope s₀.heap.objs.size f cd::outer)=s₀.heap.objs.size::cn outer from rfl];exact qg _ hb);rw[ho]at ho';cases ho';exact hd
 have thr:∀b o,s₀.heap.get? b=some o->b∉cn outer->∃o',(W.hideAll s.heap (s₀.heap.objs.size::cn outer)).get? b=some o':=λb o q nm=>by
  obtain⟨o1,q1⟩:=bu.there b o q (by simp[bL]);exact⟨o1,hide q1 (nst q nm)⟩
 have kpt:∀b o,s₀.heap.get? b=some o->H₀ b=none->b∉cn outer->(W.hideAll s.heap (s₀.heap.objs.size::cn outer)).get? b=some o:=λb o q n nm=>
  hide (bu.keep b o q n nm (by simp[bL])) (nst q nm)
 refine⟨e,C,.ref t,_,H,rfl,I.os,I.bare,⟨?_,?_,?_,?_,bu.tups,bu.frzs,bu.tbls⟩,?_,fl,thr,kpt,hE⟩
 ·intro b o q n nm _
  exact fl.1 b o (kpt b o q n nm)
 ·intro b o q n hm _
  obtain⟨sl,q1⟩:=bu.slot b o q n hm (by simp[bL]);obtain⟨sl3,q3⟩:=sm b _ (hx.keeps b _ q1) (nf hm _ q1);exact⟨sl3,q3⟩
 ·intro b o q n _;exact bu.free b o q n (by simp[bL])
 ·intro b o q _
  by_cases hm:b∈cn outer
  ·obtain⟨o1,q1⟩:=bu.there b o q (by simp[bL])
   obtain⟨sl3,q3⟩:=sm b _ (hx.keeps b _ q1) (nf hm _ q1);exact⟨_,q3⟩
  ·obtain⟨o2,q2⟩:=thr b o q hm
   exact⟨o2,fl.1 b o2 q2⟩
 ·intro a o q
  have frn:=I.stkFree;rw[fsE]at frn;refine(I.hok a o q).stay (λb u hb q'=>hide q' λhm=> ?_) (λ_ z=>z) λ_ _ z=>z;have n:=frn b hm;rcases hb with rfl|hb
  ·rw[q]at n;cases n
  ·rw[hb]at n;cases n
structure Exc (K:W.Frag) (mg:Str->Option Value) (x:Str) (C:Addr):Prop where
 at_:W.nsIn K mainGlobals x=some (some (.ref C))
 ex:∃bmB newId B initId,W.excIn K C bmB newId=true/\ExcBaseFacts B newId initId bmB
 mg_:mg x=some (.ref C)
def qO(C:Addr)(E:XK)(v:V)(H:Hp):Prop:=∃v',[v]=[v']/\E (.ref C) none H
noncomputable def Iw(C:Addr)(E:XK)(te:TE):TS:=λ_ σ H=>te σ H λv H1=>qO C E v H1
theorem dU{x:Str}{C:Addr}{e₀:Expr}{te:TE}{np cpos pos:Pos}(O:Exc K mg x C)
  (he:PE (bL (CXE P w) P w K mg base N qual scope f cd A outer s₀ H₀ E) e₀ te) (hh:Room 0 (A.deeper (envOfC qual scope s₀.heap.objs.size f cd)))
  (hg:Gl (bL (CXE P w) P w K mg base N qual scope f cd A outer s₀ H₀ E) x:=by rfl) (hdb:(x==("__debug__":Str))=false:=by decide)
  (hst:starEach [e₀] (envOfC qual scope s₀.heap.objs.size f cd)=[(false,eval e₀ (envOfC qual scope s₀.heap.objs.size f cd))]:=by rfl):
  PS (bL (CXE P w) P w K mg base N qual scope f cd A outer s₀ H₀ E) (.Raise (some (.Call (.Name x np) [e₀] [] cpos)) none pos) (Iw C E te):=by
 intro pins s σ H D I h;obtain⟨bmB,newId,B,initId,q,FB⟩:=O.ex;have hC0:W.excIn K C bmB newId=true:=q;have cls:∀{h:Heap},K.In h->∃bm N nm q bs hdct sn sub ab col dd k0 k1 k2 k3 k5 mN,h.get? C=some (excClassObj nm q C N bs bm hdct sn sub ab col dd k0 k1 k2 k3 k5 newId)/\h.Ns N mN/\mN "__init__"=none/\OwnTail h bmB bm:=fun{h} X=>by
  unfold W.excIn at q;split at q
  ·rename_i dd cd sl ho
   split at q
   ·rename_i C' bm k0 k1 k2 k3 n k5 hm hs
    simp only[qu,beq_iff_eq,gf]at q;obtain⟨⟨⟨⟨⟨rfl,rfl⟩,hdel⟩,ht⟩,hok⟩,hni⟩:=q;obtain⟨nm,bs,mro,ns,qn,hd,sn,sub,ab,col,del⟩:=cd;dsimp only at hm hdel hok hni;subst hm hdel;have hsl:sl=#[k0,k1,k2,k3,some (.builtin n),k5]:=by
     obtain⟨l⟩:=sl;simp only at hs;rw[hs]
    subst hsl;exact⟨bm,ns,nm,qn,bs,hd,sn,sub,ab,col,dd,k0,k1,k2,k3,k5,_,X _ _ ho,.of_isNs (W.isNs_of_in X hok),W.nsMap_none_of_in X hok hni,W.tail_of_in X ht⟩
   ·cases q
  ·cases q
 obtain⟨tl,Nc,nm,qn,bs,hdct,sn,sub,ab,col,dd,k0,k1,k2,k3,k5,mN,hC,hN,hni,T⟩:=cls I.ok.mod.kin;refine wpAny_Raise_call_subT (C:=C) (nm:=nm) (q:=qn) (N:=Nc) (bs:=bs) (bm:=tl) (hdct:=hdct) (sn:=sn) (sub:=sub) (ab:=ab) (col:=col) (dd:=dd) (k0:=k0) (k1:=k1) (k2:=k2) (k3:=k3) (k5:=k5)
  FB (mN:=mN) (T.hasType FB.hasBase) hh.hd (by show(backTo cpos (starEach [e₀] (envOfC qual scope s₀.heap.objs.size f cd))).any (·.1)=false;rw[hst];rfl) hni (u5 I hg O.mg_ ⟨rfl,?_⟩ hdb)
 show wpAny _ _ (evalArgs (.ref C) true (backTo cpos (starEach [e₀] (envOfC qual scope s₀.heap.objs.size f cd))) []) _ _ s;have hA:=(ak he ax (by show starEach [e₀] (envOfC qual scope s₀.heap.objs.size f cd)=_;rw[hst];rfl)) cpos pins s σ H (λvs H1=>∃v,vs=[v]/\E (.ref C) none H1) I h;rw[show starEach [e₀] (bL (CXE P w) P w K mg base N qual scope f cd A outer s₀ H₀ E).env=[(false,eval e₀ (envOfC qual scope s₀.heap.objs.size f cd))]from hst]at hA;rw[hst];refine Calls.evalArgs_plain (wpAny_mono hA (λus s₂ ⟨vs,H1,I1,r,⟨v,hl,q1⟩⟩=> ?_) λ_ _ y=>y);have kb:=I1.bk;refine⟨rfl,by show us.length<=sizeLine;rw[<-r.length,hl];exact(by decide:1<=sizeLine),kb _ _ hC,hN.keeps kb,T.keeps kb,λh' e hm=>rW I1 hm q1⟩
theorem Fun.okE{st:Stmt}(F:Fun K x qual st f fd)(S:FnScope N ps (bC st))(len:∀vs H Q E,sp vs H Q E->vs.length=ps.length)
  (hbody:∀(cdv:Value) (A:Around) (outer:List Env) (s:Shared) (H:Hp) (vs:List V) (Q:VK) (E:XK),Room k (A.deeper (envOfC qual (bC st) s.heap.objs.size f cdv))->sp vs H Q E->
   ∃t,PSs (bL (CXE P w) P w K mg base N qual (bC st) f cdv A outer s H E) (jq st) t/\t {nx:=λ_ H'=>Q .non H',rt:=Q} (start N vs) H):FnOk P w K mg base (CXE P w) (k+1) f fd ps sp:=by
 obtain⟨oc,od,kV,doc,pm,an,cdv,ct,osl,rfl,lk,hcd⟩:=F.ex;exact Ar lk hcd S len λA outer s H vs Q E hr hsp=>hbody cdv A outer s H vs Q E hr hsp
theorem eU:PassesOwn (model P w) (A.deeper (envOfC qual scope s₀.heap.objs.size f cd)) (envOfC qual scope s₀.heap.objs.size f cd) (bL (CXE P w) P w K mg base N qual scope f cd A outer s₀ H₀ E).xe:=PassesOwn.leaving
theorem cxe_out(h:CXE P w [] H s (λ_ _ _=>False) e s'):False:=by
 obtain⟨_,_,_,_,_,_,_,_,_,_,_,_,_,h⟩:=h;exact h
end
noncomputable def F7(z:Str):It:=⟨λi _=>i<z.length,λi H x H'=>H'=H/\∃c,z.cps[i]?=some c/\x=.str ⟨#[c]⟩,λi _=>z.length<=i⟩
theorem Nu{K:W.Frag}(z:Str)(t:Tok)(it:Addr):Turn P w K tg (F7 z) [it] it (λi h=>h.IsStrIter it "str_ascii_iterator" z t i)where
 mem:=by simp
 obj:=λi h st b hb=>by
  have e:b=it:=by simpa using hb
  subst e;obtain⟨o,e,c,d⟩:=st;exact⟨o,e,λv z=>by rw[d]at z;cases z⟩
 keep:=λi h h' st k=>let ⟨o,ho,r⟩:=st;⟨o,k it (by simp) o ho,r⟩
 item:=by
  intro X hP hw hK hc i pins s σ H E I hf st hg;subst hP hw hK;obtain⟨f0,f1,f2,f3,f4,f5⟩:=hf it (by simp);have hi:i<z.cps.size:=hg;refine wpAny_pyNext_ascii_item st (c:=z.cps[i]) (by simp[hi]) λh' st' sb=> ?_;have I1:Inv X pins σ H {s with heap:=h',toks:=s.toks+1}:=I.turned (t':=s.toks+1) (λb o hb e=>(sb.2 b hb).trans e) f0 f1 f3 f4 f5;obtain⟨o,e,c,d⟩:=id st';exact⟨_,rfl,uF (s:={s with heap:=h',toks:=s.toks+1}) e c d (by decide) ⟨.str ⟨#[z.cps[i]]⟩,H,I1,⟨_,rfl⟩,⟨rfl,z.cps[i],by simp[hi],rfl⟩,st',λb hb=>(hf b hb).1⟩⟩
 done:=by
  intro X hP hw hK hc i pins s σ H E I hf st hg;subst hP hw hK;obtain⟨f0,f1,f2,f3,f4,f5⟩:=hf it (by simp);have hi:z.cps.size<=i:=hg;exact wpAny_pyNext_ascii_end (I.ok.hd hc) st (by simp;omega) λh' eb=>⟨rfl,I.turned (t':=s.toks) (λb o hb e=>eb b o hb e) f0 f1 f3 f4 f5⟩
 self:=λ_ _ _ _ _ st h=>wpAny_pyIter_striter_ascii st h
theorem NX{K:W.Frag}(z:Str)(t:Tok)(it:Addr):Turn P w K tg (F7 z) [it] it (λi h=>h.IsStrIter it "str_iterator" z t i)where
 mem:=by simp
 obj:=λi h st b hb=>by
  have e:b=it:=by simpa using hb
  subst e;obtain⟨o,e,c,d⟩:=st;exact⟨o,e,λv z=>by rw[d]at z;cases z⟩
 keep:=λi h h' st k=>let ⟨o,ho,r⟩:=st;⟨o,k it (by simp) o ho,r⟩
 item:=by
  intro X hP hw hK hc i pins s σ H E I hf st hg;subst hP hw hK;obtain⟨f0,f1,f2,f3,f4,f5⟩:=hf it (by simp);have hi:i<z.cps.size:=hg;refine wpAny_pyNext_wide_item st (c:=z.cps[i]) (by simp[hi]) λh' st' sb=> ?_;have I1:Inv X pins σ H {s with heap:=h',toks:=s.toks+1}:=I.turned (t':=s.toks+1) (λb o hb e=>(sb.2 b hb).trans e) f0 f1 f3 f4 f5;obtain⟨o,e,c,d⟩:=id st';exact⟨_,rfl,uF (s:={s with heap:=h',toks:=s.toks+1}) e c d (by decide) ⟨.str ⟨#[z.cps[i]]⟩,H,I1,⟨_,rfl⟩,⟨rfl,z.cps[i],by simp[hi],rfl⟩,st',λb hb=>(hf b hb).1⟩⟩
 done:=by
  intro X hP hw hK hc i pins s σ H E I hf st hg;subst hP hw hK;obtain⟨f0,f1,f2,f3,f4,f5⟩:=hf it (by simp);have hi:z.cps.size<=i:=hg;exact wpAny_pyNext_wide_end (I.ok.hd hc) st (by simp;omega) λh' eb=>⟨rfl,I.turned (t':=s.toks) (λb o hb e=>eb b o hb e) f0 f1 f3 f4 f5⟩
 self:=λ_ _ _ _ _ st h=>wpAny_pyIter_striter_wide st h
noncomputable def iV(K:W.Frag)(tl:TE):TI:=λσ H R=>tl σ H λx H1=>(∃a,x=.ref a/\(((∃xs,SqL K H1 a xs)/\R (Fg K a) H1)\/((∃xs,SqT K H1 a xs)/\R (Gy K a) H1)))\/∃z,x=.str z/\R (F7 z) H1
section
variable {X : Cx}
theorem GO(hl:PE X l tl):PI X tg l (iV X.K tl):=by
 intro pins s σ H R I h;refine bE (hl pins s σ H _ I h) λv s1 ⟨x,H1,I1,r1,q1⟩=> ?_;have fp:∀b∈[s1.heap.objs.size],eB X pins H1 b:=λb hb=>by
  have e:b=s1.heap.objs.size:=by simpa using hb
  subst e;exact I1.fpOk (qi _) (I1.hok.fresh (qi _))
 rcases q1 with⟨a,e,q⟩|⟨z,e,q⟩
 ·subst e
  cases r1
  rcases q with⟨⟨xs,hq⟩,q⟩|⟨⟨xs,hq⟩,q⟩
  ·obtain⟨its,rv,p,hz⟩:=I1.list hq
   refine wpAny_pyIter_list p.isList ?_;exact⟨s1.heap.objs.size,[s1.heap.objs.size],_,_,H1,rfl,I1.kept (t':=s1.toks) λb o e=>qe _ e,P7 a _,⟨_,qw _ rfl,rfl,rfl⟩,fp,q⟩
  ·obtain⟨its,rv,p,hz⟩:=I1.tuple hq
   refine wpAny_pyIter_tuple (show s1.heap.IsTuple a its.toArray from p) ?_;exact⟨s1.heap.objs.size,[s1.heap.objs.size],_,_,H1,rfl,I1.kept (t':=s1.toks) λb o e=>qe _ e,OU a _,⟨_,qw _ rfl,rfl,rfl⟩,fp,q⟩
 ·subst e
  obtain⟨t,rfl⟩:=r1;cases ha:z.cps.all (·<128)
  ·exact wpAny_pyIter_wide ha ⟨s1.heap.objs.size,[s1.heap.objs.size],_,_,H1,rfl,I1.kept (t':=s1.toks) λb o e=>qe _ e,NX z t _,⟨_,qw _ rfl,rfl,rfl⟩,fp,q⟩
  ·exact wpAny_pyIter_ascii ha ⟨s1.heap.objs.size,[s1.heap.objs.size],_,_,H1,rfl,I1.kept (t':=s1.toks) λb o e=>qe _ e,Nu z t _,⟨_,qw _ rfl,rfl,rfl⟩,fp,q⟩
theorem ET:∀{bs:List Bool} {its:List Value},Vals (bs.map V.bl) its->its=bs.map Value.bool
 | [],_,.nil=>rfl
 | b::bs,_,.cons r rr=>by rw[List.map_cons,<-ET rr];cases r;rfl
theorem Nt(hc:X.calm=true):jcp X (.builtin "all") (ur X.K):=by
 intro pins s σ H xs us Q I r h;obtain⟨p,bs,rfl,hq,q⟩:=h;obtain⟨u,rfl,rx⟩:=iY r;cases rx;obtain⟨its,r',pl,hz⟩:=I.list hq;have e:=ET r';have hh:X.A.in1.handled=none:=I.ok.hd hc;refine call_all_walk (wpAny_pyIter_list pl.isList ?_);have hne:p≠s.heap.objs.size:=by
  obtain⟨o,ho,_⟩:=pl.isList;exact qv (qh ho)
 refine⟨s.heap.objs.size,_,_,_,_,_,λi=>bs.getD i false,rfl,Walks.list hh _ p hne its.toArray,?_,?_,λh' tk hk=> ?_⟩
 ·exact⟨⟨_,qw _ rfl,rfl,rfl⟩,pl.isList.at λo e=>qe _ e⟩
 ·intro i v s' Q' E' hP hQ
  have hv:its[i]?=some v:=by simpa using hP
  rw[e,z5]at hv;obtain⟨b,hb,rfl⟩:=qk.mp hv;have:bs.getD i false=b:=by simp[List.getD,hb]
  have hQ':Q' (bs.getD i false) s':=hQ;rw[this]at hQ';exact wpAny_truthy_bool hQ'
 ·have k:∀b o,s.heap.get? b=some o->h'.get? b=some o:=λb o e=>hk b o (by
   intro hm;have:b=s.heap.objs.size:=by simpa using hm
   exact absurd (qh e) (by rw[this];exact zw _)) (qe _ e)
  refine⟨.bl (bs.all id),H,I.kept (t':=tk) k,?_,q⟩;have hl:=r'.length;simp only[qd]at hl;have e2:(List.range its.toArray.size).all (λi=>bs.getD i false)=bs.all id:=by
   rw[qo,<-hl];rw[wj,List.all_eq_true,List.all_eq_true];constructor
   ·intro hh x hx
    obtain⟨i,hi,rfl⟩:=kz hx;have:=hh i (w6.mpr hi);simpa [List.getD,hi]using this
   ·intro hh i hi
    have hi':=w6.mp hi;have:=hh bs[i] (we hi');simpa [List.getD,hi']using this
  rw[e2];rfl
theorem IJ:∀{ys:List Str} {its:List Value},Vals (ys.map V.str) its->StrsAre its ys
 | [],_,.nil=>.nil
 | y::ys,_,.cons r rr=>by obtain⟨t,rfl⟩:=r;exact .cons y t (IJ rr)
def Gd(K:W.Frag):V->List V->Hp->VK->Prop:=λx vs H Q=>∃(z:Str) (p:Addr) (ys:List Str),x=.str z/\vs=[.ref p]/\SqL K H p (ys.map V.str)/\(ys.map (·.length)).sum+ys.length*z.length<=16777216/\Q (.str (Txt.join z ys)) H
theorem OR:tD X "str.join" (Gd X.K):=by
 intro pins s σ H x xs v us Q I rx rv h;obtain⟨z,p,ys,rfl,rfl,hq,hz,q⟩:=h;obtain⟨t,rfl⟩:=rx;obtain⟨u,rfl,ru⟩:=rv.one;cases ru;obtain⟨its,r',pl,_⟩:=I.list hq;exact join_list pl.isList (by simpa using IJ r') hz λt' k=>⟨.str _,H,I.tok k,⟨t',rfl⟩,q⟩
theorem Jt:∀(l:List (Str×Tok)),Vals ((l.map (·.1)).map V.str) (strValues l)
  | []=>.nil
  | (x,t)::r=>.cons ⟨t,rfl⟩ (Jt r)
def IV:V->List V->Hp->VK->Prop:=λx vs H Q=>∃(z y:Str),x=.str z/\vs=[.str y]/\y.length≠0/\z.length<=sizeLine/\(Txt.split z y).length<=sizeLine/\∀p H',H p=none->H' p=some (.lst ((Txt.split z y).map V.str))->Same H H'->Q (.ref p) H'
open Builtin Builtin.Str in
theorem JU:tD X "str.split" IV:=by
 intro pins s σ H x xs v us Q I rx rv h;obtain⟨z,y,rfl,rfl,hy,hz,hl,q⟩:=h;obtain⟨t,rfl⟩:=rx;obtain⟨w',rfl,u,rfl⟩:=rv.one;have hy':(y.length==0)=false:=by simpa using hy
 have fin:∀(l:List (Str×Tok)) (tk:Nat),l.map (·.1)=Txt.split z y->EP X pins σ Q (.ref s.heap.objs.size) {s with heap:=s.heap.push {cls:=.type "list",data:=.seq (strValues l).toArray},toks:=tk}:=λl tk e=>
  ⟨.ref s.heap.objs.size,_,I.lnew (t':=tk) (ys:=(Txt.split z y).map V.str) (by rw[<-e];exact Jt l) (by rw[qd];exact hl),rfl,q _ _ I.fresh dG λb o e=>by rw[br (eD e I.fresh)];exact e⟩
 cases h1:(decide (z.length<y.length)||decide (strKind z<strKind y))
 ·cases hf:(occurrences z y 0 z.length (z.length+1)).isEmpty
  ·have e0:Txt.split z y=partsBetween z (occurrences z y 0 z.length (z.length+1)) y.length:=(if_neg (ne_true_of_eq_false h1)).trans (if_neg (ne_true_of_eq_false hf))
   refine call_meets F.slot_str_split (typeIs_str _ _ _) F.entry_str_split (F.args_str_split_2 _ _) (meets_str_split_sep z y t u h1 hy' hf hz (by rw[<-e0];exact hl)) ?_;show wants (EP X pins σ Q) X.xe _ {s with toks:=_,heap:=s.heap.push {cls:=.type "list",data:=.seq (strsFrom s.toks (partsBetween z (occurrences z y 0 z.length (z.length+1)) y.length)).toArray}};rw[strsFrom_eq];exact fin (numbered s.toks _) _ ((numbered_texts _ _).trans e0.symm)
  ·exact call_meets F.slot_str_split (typeIs_str _ _ _) F.entry_str_split (F.args_str_split_2 _ _) (meets_str_split_not_found z y t u h1 hy' hf)
    (fin [(z,t)] s.toks ((if_neg (ne_true_of_eq_false h1)).trans (if_pos hf)).symm)
 ·exact call_meets F.slot_str_split (typeIs_str _ _ _) F.entry_str_split (F.args_str_split_2 _ _) (meets_str_split_cannot_occur z y t u h1)
   (fin [(z,t)] s.toks (if_pos h1).symm)
def vE:List V->Hp->VK->Prop:=λxs H Q=>((∃i,xs=[.int i]/\Q (.int i) H)\/∃k,xs=[.bl k]/\Q (.int (if k then 1 else 0)) H)\/∃z n,xs=[.str z]/\z.length<=640/\intText? z=some n/\Q (.int n) H
theorem JG:jcp X (.type "int") vE:=by
 refine jcp.or O3 ?_;intro pins s σ H xs us Q I r h;obtain⟨z,n,rfl,hl,hn,q⟩:=h;obtain⟨u,rfl,t,rfl⟩:=iY r;exact W.KIN.call_text hn hl ⟨.int n,H,I.tok _,⟨_,rfl⟩,q⟩
def xC:List V->Hp->VK->Prop:=λxs H Q=>∃i,xs=[.int i]/\i.natAbs.log2<1920/\Q (.str (toString i)) H
theorem e_:jcp X (.type "str") xC:=NW
/-! ### f"..{x}.." -/
abbrev TJ:=Str->St->Hp->(Str->Hp->Prop)->Prop
def PJ(X:Cx)(es:List Expr)(t:TJ):Prop:=∀(out:Str) (pins:List (Addr×Obj)) (s:Shared) (σ:St) (H:Hp) (Q:VK),Inv X pins σ H s->t out σ H (λz H'=>z.length<=sizeLine/\Q (.str z) H')->
 wpAny (model X.prog X.w) X.A (joinParts out (evalEach es X.env)) (EP X pins σ Q) X.xe s
noncomputable def nJ:TJ:=λout _ H Q=>Q out H
noncomputable def HD(te:TE)(t:TJ):TJ:=λout σ H Q=>te σ H λx H1=>∃y,x=.str y/\(out++y).length<=sizeLine/\t (out++y) σ H1 Q
theorem JS:PJ X [] nJ:=λout pins s σ H Q I h=>joinParts_nil ⟨.str out,H,I.tok _,⟨_,rfl⟩,h.2⟩ h.1
theorem CB(he:PE X e te)(hr:PJ X es t):PJ X (e::es) (HD te t):=by
 intro out pins s σ H Q I h;show wpAny _ _ (joinParts out (eval e X.env::evalEach es X.env)) _ _ s;refine joinParts_cons (bE (he pins s σ H _ I h) λv s1 ⟨x,H1,I1,r1,y,ex,hz,q⟩=> ?_);subst ex;obtain⟨t,rfl⟩:=r1;exact⟨hz,hr (out++y) pins s1 σ H1 Q I1 q⟩
noncomputable def Kq(t:TJ):TE:=λσ H Q=>t Str.empty σ H λz H'=>z.length<=sizeLine/\Q (.str z) H'
theorem oi(h:PJ X (v₁::v₂::rest) t):PE X (.JoinedStr (v₁::v₂::rest) pos) (Kq t):=by
 intro pins s σ H Q I q;exact JoinedStr_many (h Str.empty pins s σ H Q I q)
noncomputable def BM(te:TE):TE:=λσ H Q=>te σ H λx H1=>(∃i,x=.int i/\i.natAbs.log2<1920/\Q (.str (toString i)) H1)\/∃z,x=.str z/\z.length<=sizeLine/\Q (.str z) H1
theorem K6(he:PE X e te):PE X (.FormattedValue e (-1) none pos) (BM te):=by
 intro pins s σ H Q I h;refine FormattedValue_plain (bE (he pins s σ H _ I h) λv s1 ⟨x,H1,I1,r1,q⟩=> ?_);rcases q with⟨i,rfl,hd,q⟩|⟨z,rfl,hz,q⟩
 ·obtain⟨t,rfl⟩:=r1
  exact wpAny_formatField_int hd ⟨.str _,H1,I1.tok _,⟨_,rfl⟩,q⟩
 ·obtain⟨t,rfl⟩:=r1
  exact wpAny_formatField_str ⟨.str z,H1,I1,⟨_,rfl⟩,q⟩ ⟨.str z,H1,I1.tok _,⟨_,rfl⟩,q⟩ hz
end
section
variable {X : Cx}
theorem F8{ns:List Int}(r:Vals (ns.map V.int) its)(h:its[i]?=some v):∃t,v=.int (ns.getD i 0) t/\i<ns.length:=by
 have hl:=r.length;rw[qd]at hl;have hi:i<its.length:=(qb.mp h).1;have hx:(ns.map V.int)[i]?=some (.int ns[i]):=by simp[z5,z6 (show i<ns.length by omega)]
 obtain⟨u,hu,⟨t,rfl⟩⟩:=r.get hx;rw[h]at hu;refine⟨t,?_,by omega⟩;have:ns.getD i 0=ns[i]:=by simp[List.getD,z6 (show i<ns.length by omega)]
 rw[this];exact Option.some.inj hu
theorem P0{ns:List Int}(h:i<ns.length):ns.getD i 0∈ns:=by
 have:ns.getD i 0=ns[i]:=by simp[List.getD,z6 h]
 rw[this];exact we _
def oF(K:W.Frag):List V->Hp->VK->Prop:=λxs H Q=>∃(p:Addr) (ns:List Int),xs=[.ref p]/\SqT K H p (ns.map V.int)/\0<ns.length/\∀M,M∈ns->(∀a∈ns,a<=M)->Q (.int M) H
theorem Oe(hc:X.calm=true):jcp X (.builtin "max") (oF X.K):=by
 intro pins s σ H xs us Q I r h;obtain⟨p,ns,rfl,hq,hn,q⟩:=h;obtain⟨u,rfl,rx⟩:=iY r;cases rx;obtain⟨its,r',pl,hz⟩:=I.tuple hq;have hl:=r'.length;rw[qd]at hl;have hh:X.A.in1.handled=none:=I.ok.hd hc;refine call_max_walk (wpAny_pyIter_tuple (show s.heap.IsTuple p its.toArray from pl) ?_);have hne:p≠s.heap.objs.size:=by
  obtain⟨o,ho,_⟩:=pl;exact qv (qh ho)
 have pl':s.heap.IsTuple p its.toArray:=pl;have hfp:∀b∈[s.heap.objs.size,p],b<(s.heap.push {cls:=.type "tuple_iterator",data:=.fields #[.ref p,rawInt 0]}).objs.size:=λb hb=>by
  rw[kg];obtain⟨o,ho,_⟩:=pl;have:=qh ho;rcases qr.mp hb with rfl|hb
  ·exact zp _
  ·have e:b=p:=by simpa using hb
   subst e;exact zj this
 refine⟨s.heap.objs.size,_,_,_,_,_,λi j=>decide (ns.getD i 0>ns.getD j 0),rfl,Walks.tuple hh _ p hne its.toArray,⟨⟨_,qw _ rfl,rfl,rfl⟩,pl'.at λo e=>qe _ e⟩,hfp,by rw[qo];omega,
  CmpOf.ints_gt (λi=>ns.getD i 0) (λi v hv=>by obtain⟨t,e,_⟩:=F8 r' (by simpa using hv);exact⟨t,e⟩),λv h' tk hP hk=> ?_⟩
 have k:∀b o,s.heap.get? b=some o->h'.get? b=some o:=λb o e=>hk b o (by
  intro hm;have:b=s.heap.objs.size:=by simpa using hm
  exact absurd (qh e) (by rw[this];exact zw _)) (qe _ e)
 obtain⟨t,e,hlt⟩:=F8 r' (by simpa using hP);subst e;obtain⟨h1,h2⟩:=argBest_gt (λi=>ns.getD i 0) (its.toArray.size - 1);refine⟨.int _,H,I.kept (t':=tk) k,⟨t,rfl⟩,q _ ?_ λa ha=> ?_⟩
 ·exact P0 hlt
 ·obtain⟨j,hj,rfl⟩:=kz ha
  have:=h2 j (by rw[qo];omega);simpa [List.getD,z6 hj]using this
def uc(K:W.Frag):List V->Hp->VK->Prop:=λxs H Q=>(∃i j,xs=[.int i,.int j]/\Q (.int (if j>i then j else i)) H)\/oF K xs H Q
theorem NN(hc:X.calm=true):jcp X (.builtin "max") (uc X.K):=jcp.or (Lh hc) (Oe hc)
end
def Fly(X:Cx)(pins:List (Addr×Obj))(σ:St)(H':Hp)(ea C:Addr)(s':Shared):Prop:=
 ∃(a0:Value) (B:Heap) (H:Hp) (s:Shared),Inv X pins σ H s/\s'.os=s.os/\AllBare s'.gens/\Un (cn X.stack) [] H H' s.heap s'.heap/\HOk X.prog X.w H' B/\Heap.FlyingW B X.stack ea (.ref C) a0 s'.heap/\
  (∀b o,s.heap.get? b=some o->b∉cn X.stack->∃o',B.get? b=some o')/\(∀b o,s.heap.get? b=some o->H b=none->b∉cn X.stack->B.get? b=some o)
abbrev FK:=St->Addr->Hp->Prop
def XP(X:Cx)(pins:List (Addr×Obj))(σ:St)(F:Addr->Hp->Prop)(e:Value)(s':Shared):Prop:=
 ∃ea C H',e=.ref ea/\Fly X pins σ H' ea C s'/\F C H'
theorem jd0.there(x:jd0 P w H h a o):∃u,h.get? a=some u:=by
 cases o with
 | lst xs=>obtain⟨_,_,_,_,e⟩:=x;exact⟨_,e⟩
 | tup xs=>obtain⟨_,_,_,o,e,_⟩:=x;exact⟨_,e⟩
 | dK kvs=>obtain⟨_,_,_,_,o,_,_,e,_⟩:=x;exact⟨_,e⟩
 | dT kvs=>obtain⟨_,_,_,_,o,_,_,e,_⟩:=x;exact⟨_,e⟩
 | set S n=>obtain⟨o,_,_,_,e,_⟩:=x;exact⟨_,e⟩
 | ins C dx fs=>obtain⟨_,_,_,e,_⟩:=x;exact⟨_,e⟩
 | own y=>exact x
 | xd fs=>obtain⟨_,⟨_,_,_,e,_⟩,_⟩:=x;exact⟨_,e⟩
 | rng lo hi=>obtain⟨_,_,_,e⟩:=x;exact⟨_,e⟩
 | frz ob u=>obtain⟨e,_⟩:=x;exact⟨_,e⟩
 | tbl ps=>exact⟨_,x⟩
 | met f y=>exact⟨_,x⟩
 | ext φ=>obtain⟨_,e,_⟩:=x;exact e
section
variable {X : Cx} {pins : List (Addr × Obj)} {σ : St} {H H' : Hp} {s s' : Shared} {ea C : Addr}
theorem Fly.inv(F:Fly X pins σ H' ea C s'):Inv X pins σ H' s':=by
 obtain⟨a0,B,H,s,I,ho,hg,u,hok,fl,_,_⟩:=F;exact I.call' ho u (hok.kept fl.1) hg λb z=>absurd z (by simp)
theorem Fly.there(F:Fly X pins σ H' ea C s'):∃o,s'.heap.get? ea=some o/\o.cls=.ref C:=by
 obtain⟨a0,B,H,s,I,ho,hg,u,hok,fl,_,_⟩:=F;exact fl.there
theorem Fly.fresh(F:Fly X pins σ H' ea C s'):H' ea=none:=by
 obtain⟨a0,B,H,s,I,ho,hg,u,hok,fl,_,_⟩:=F;cases e:H' ea with
 | none=>rfl
 | some o=>
  obtain⟨x,z⟩:=(hok ea o e).there;rw[fl.2.1]at z;cases z
theorem Fly.new(F:Fly X pins σ H' ea C s'):∃(H:Hp) (s:Shared),Inv X pins σ H s/\s.heap.get? ea=none:=by
 obtain⟨a0,B,H,s,I,ho,hg,u,hok,fl,hB,hBk⟩:=F;refine⟨H,s,I,?_⟩;cases e:s.heap.get? ea with
 | none=>rfl
 | some o=>
  by_cases hm:ea∈cn X.stack
  ·obtain⟨_,o',ho',hd⟩:=fl.2.2.1.mem (b:=ea) hm
   obtain⟨oe,vs,T,oT,ts,he,hc,hdd,_⟩:=fl.2.2.2;rw[ho']at he;cases he;exact absurd hdd (hd _)
  ·obtain⟨o',z⟩:=hB ea o e hm
   rw[fl.2.1]at z;cases z
theorem Fly.step(I:Inv X pins σ H s)(ho:s'.os=s.os)(hg:AllBare s'.gens)(u:Un (cn X.stack) [] H H' s.heap s'.heap)(hok:HOk X.prog X.w H' B)
  (hB:∀b o,s.heap.get? b=some o->b∉cn X.stack->∃o',B.get? b=some o') (hBk:∀b o,s.heap.get? b=some o->H b=none->b∉cn X.stack->B.get? b=some o)
  (sm:s'.heap.UpToSlots h) (ff:s'.heap.FunFrames B X.stack) (fl:Heap.FlyingW B X.stack ea (.ref C) a0 h):Fly X pins σ H' ea C {s' with heap:=h}:=by
 have nf:∀{b},b∈cn X.stack->∀o,s'.heap.get? b=some o->∀vs,o.data≠ .fields vs:=fun{b} hb o ho=>by
  obtain⟨_,o',ho',hd⟩:=ff.mem (b:=b) hb;rw[ho]at ho';cases ho';exact hd
 refine⟨a0,B,H,s,I,ho,hg,⟨?_,?_,u.free,?_,u.tups,u.frzs,u.tbls⟩,hok,fl,hB,hBk⟩
 ·intro b o q n nm _
  exact fl.1 b o (hBk b o q n nm)
 ·intro b o q n hm _
  obtain⟨sl2,q2⟩:=u.slot b _ q n hm (by simp);obtain⟨sl3,q3⟩:=sm b _ q2 (nf hm _ q2);exact⟨sl3,q3⟩
 ·intro b o q _
  by_cases hm:b∈cn X.stack
  ·obtain⟨o2,q2⟩:=u.there b o q (by simp)
   obtain⟨sl3,q3⟩:=sm b _ q2 (nf hm _ q2);exact⟨_,q3⟩
  ·obtain⟨o2,q2⟩:=hB b o q hm
   exact⟨o2,fl.1 b o2 q2⟩
theorem Fly.lands{E:Value->Shared->Prop}{Q:Unit->Shared->Prop}(F:Fly X pins σ H' ea C s')(hst:X.stack=X.env::X.outer)(hfr:X.env.frame=some X.env.locals)(hA:A.frames=some X.stack)
  (k:∀s2,Fly X pins σ H' ea C s2->Q () s2):wpAny M A (noteFrame (.ref ea) X.env) (λ_ s2=>wpAny M A (setFlight (.ref ea) none) Q E s2) E s':=by
 obtain⟨a0,B,H,s,I,ho,hg,u,hok,fl,hB,hBk⟩:=F;have ff:=fl.2.2.1;refine wpAny_looks_onW (env:=X.env) (outer:=X.outer) (L:=X.env.locals) (by rw[hA,hst]) hfr (by rw[<-hst];exact fl) λh₄ hheld₄ hsm₄=> ?_;refine wpAny_landsW hheld₄ λh₅ hheld hsm₅=> ?_;rw[<-hst]at hheld;exact k _ (Fly.step (s':=s') I ho hg u hok hB hBk (hsm₄.trans hsm₅) ff hheld)
theorem Fly.again{E:Value->Shared->Prop}{Q:Unit->Shared->Prop}(F:Fly X pins σ H' ea C s')(k:∀s2,Fly X pins σ H' ea C s2->Q () s2):wpAny M A (setFlight (.ref ea) none) Q E s':=by
 obtain⟨a0,B,H,s,I,ho,hg,u,hok,fl,hB,hBk⟩:=F;exact lands_againW fl λh₅ hheld hsm=>k _ (Fly.step (s':=s') I ho hg u hok hB hBk hsm fl.2.2.1 hheld)
theorem Fly.track(F:Fly X pins σ H' ea C s')(hex:X.ex=[])(he:s'.heap.get? ea=some oe):Inv X pins σ (a9 H' ea (.frz oe (.own 0))) s':=by
 have I':=F.inv;have fr:=F.fresh;obtain⟨H,s,I,hn⟩:=F.new;have n0:∀{b o},X.s₀.heap.get? b=some o->b≠ea:=fun{b o} e z=>by
  subst z;obtain⟨o',q⟩:=I.base.there b o e (by rw[hex];simp);rw[hn]at q;cases q
 have ne:∀{b o},s.heap.get? b=some o->b≠ea:=fun{b o} e z=>by subst z;rw[hn]at e;cases e
 have nl:X.env.locals≠ea:=by
  obtain⟨m,⟨o,_,_,q,_⟩,_⟩:=I.loc;exact ne q
 refine⟨I'.ok,I'.os,I'.bare,⟨I'.base.keep,I'.base.slot,λb o e n hx=> ?_,I'.base.there,λb xs e=> ?_,λb o u e=> ?_,λb ps e=> ?_⟩,I'.loc,I'.cell,?_,λx c e=> ?_,λp hp=> ?_,λb o e=> ?_,I'.len⟩
 ·rw[br (n0 e)];exact I'.base.free b o e n hx
 ·have q:=I'.base.tups b xs e
  rw[br (eD q fr)];exact q
 ·have q:=I'.base.frzs b o u e
  rw[br (eD q fr)];exact q
 ·obtain⟨m,q⟩:=I'.base.tbls b ps e
  exact⟨m,by rw[br (eD q fr)];exact q⟩
 ·rw[br nl];exact I'.free
 ·obtain⟨v,o,q,_⟩:=I.cell x c e
  rw[br (ne q)];exact I'.freeC x c e
 ·obtain⟨z1,z2,z3⟩:=I'.pin p hp
  have q:=(I.pin p hp).1;exact⟨z1,by rw[br (ne q)];exact z2,z3⟩
 ·by_cases hb:b=ea
  ·subst hb
   rw[dG]at e;cases e;exact⟨he,⟨_,he⟩⟩
  ·rw[br hb]at e
   exact(I'.hok b o e).stay (λc v hcc q=>q) (λc q=>by rw[br (eD q fr)];exact q) λc ys q=>by rw[br (eD q fr)];exact q
noncomputable abbrev Cx.mkd(X:Cx)(ea:Addr):Cx:={X with A:=X.A.mark (some (.ref ea)),calm:=false,xe:=λ_ _=>False}
theorem Inv.mkd(I:Inv X pins σ H s)(ea:Addr):Inv (X.mkd ea) pins σ H s:=
 ⟨⟨I.ok.mod,I.ok.kind,I.ok.glob,I.ok.blt,I.ok.above,I.ok.inj,I.ok.has,I.ok.cab,(λz=>nomatch z),I.ok.frames,I.ok.stk,I.ok.exf,I.ok.bs,I.ok.bsz,I.ok.noex,I.ok.exfs,I.ok.funs,I.ok.frf⟩,I.os,I.bare,I.base,I.loc,I.cell,I.free,I.freeC,I.pin,I.hok,I.len⟩
theorem Inv.unmkd(ok:X.Ok)(I:Inv (X.mkd ea) pins σ H s):Inv X pins σ H s:=⟨ok,I.os,I.bare,I.base,I.loc,I.cell,I.free,I.freeC,I.pin,I.hok,I.len⟩
theorem Ee{E:Value->Shared->Prop}{Q:Unit->Shared->Prop}(I:Inv X pins σ H s)(hN:X.N.Nodup)(hi:X.N[i]?=some x)(hk:X.env.scope.names.lookup x=some .local)
  (h:∀s',Inv X pins (σ.set i none) H s'->Q () s'):wpAny M A (do bindName X.env x .none;unbindBehindTheSuite X.env x pos) Q E s:=by
 obtain⟨m,hn,hl⟩:=id I.loc;have hcls:(X.env.scope.kind== .class||(X.env.scope.kind== .module&&X.env.locals !=X.env.globals))=false:=by rw[I.ok.kind];rfl
 have hiσ:i<σ.length:=by rw[I.len];exact(qb.mp hi).1
 have cne:=I.cne;refine wpAny_nameGoes_keeps hk hn hcls λh' v hn' hs=> ?_;obtain⟨oL,_,_,hoL,_⟩:=id hn;refine h _ ⟨I.ok,I.os,I.bare,⟨λb o e n hb hx=> ?_,λb o e n hb hx=> ?_,I.base.free,λb o e hx=> ?_,I.base.tups,I.base.frzs,I.base.tbls⟩,⟨_,hn',λj y v' e1 e2 e3=> ?_⟩,λy c e=> ?_,I.free,I.freeC,λp hp=> ?_,λb ob e=> ?_,by simpa using I.len⟩
 ·exact(hs.2 b (qv (qf (qh e) I.ok.above))).trans (I.base.keep b o e n hb hx)
 ·obtain⟨sl,e1⟩:=I.base.slot b o e n hb hx
  exact⟨sl,(hs.2 b (qv (qf (qh e) I.ok.above))).trans e1⟩
 ·obtain⟨o',e1⟩:=I.base.there b o e hx
  exact⟨o',(hs.2 b (qv (qf (qh e) I.ok.above))).trans e1⟩
 ·by_cases hj:j=i
  ·subst hj
   rw[qq hiσ]at e2;cases e2
  ·rw[qm (Ne.symm hj)]at e2
   obtain⟨u',r',q⟩:=hl j y v' e1 e2 e3;refine⟨u',r',?_⟩;rcases q with⟨k,e⟩|⟨k,c,e,z⟩
   ·refine .inl ⟨k,?_⟩
    have:y≠x:=λe=>hj (GS hN e1 (e▸hi));simp[this,e]
   ·exact .inr ⟨k,c,e,z.sameBut hs (cne y c e)⟩
 ·obtain⟨w',z⟩:=I.cell y c e
  exact⟨w',z.sameBut hs (cne y c e)⟩
 ·obtain⟨e,n,ne,nf,d⟩:=I.pin p hp
  exact⟨(hs.2 p.1 ne).trans e,n,ne,nf,d⟩
 ·refine(I.hok b ob e).stay (λc w' hc q=>(hs.2 c ?_).trans q) (λ_ q=>q) λ_ _ q=>q
  rintro rfl;rcases hc with hc|hc
  ·rw[<-hc,I.free]at e;cases e
  ·rw[I.free]at hc;cases hc
end
structure Clause (K:PySem.W.Frag) (W:Addr):Prop where
 nt:PySem.W.instIn K (.ref W) (.type "tuple")=some false
 cl:PySem.W.hasDictIn K W=true
 ex:PySem.W.subIn K (.ref W) (.type "BaseException")=some true
theorem Pl{E:Value->Shared->Prop}{K:PySem.W.Frag}{Q:Bool->Shared->Prop}(k:K.In s.heap)(c:Clause K W)(he:s.heap.get? ea=some oe)(hc:oe.cls=.ref C)
  (hs:PySem.W.subIn K (.ref C) (.ref W)=some b) (h:Q b s):wpAny M A (excMatches (.ref ea) (.ref W)) Q E s:=by
 obtain⟨hh,g,d,tk,os⟩:=s;have k':K.In hh:=k;have L1:PySem.W.Looks M hh (isInstance (.ref W) (.type "tuple")) false:=PySem.W.looks_instIn k' c.nt;have L2:PySem.W.Looks M hh (isType (.ref W)) true:=by
  have z0:(PySem.W.clsIn K W).isSome=true:=by obtain⟨cd,hc,_⟩:=PySem.W.any_some c.cl;rw[hc];rfl
  unfold PySem.W.clsIn at z0;split at z0
  ·rename_i c' d' cd' sl' ho
   intro A' Q' E' s' kk q;unfold isType loadHead;exact wpAny_bind (wpAny_loadPart (kk _ _ (k' _ _ ho)) (wpAny_pure q))
  ·cases z0
 have L3:PySem.W.Looks M hh (isSubtype (.ref W) (.type "BaseException")) true:=PySem.W.looks_subIn k' c.ex;have L4:PySem.W.Looks M hh (isSubtype (.ref C) (.ref W)) b:=PySem.W.looks_subIn k' hs;have L5:PySem.W.Looks M hh (typeOf (.ref ea)) (.ref C):=hc▸(PySem.W.Looks.ld (h:=hh) he).andThen .now;unfold excMatches isExcClass
 repeat (first|(with_reducible refine L1.at ?_)|(with_reducible refine L2.at ?_)|(with_reducible refine L3.at ?_)|(with_reducible refine L4.at ?_)|(with_reducible refine L5.at ?_)|wp_step)
 cases b<;>(wp_walk;exact h)
section
variable {X : Cx}
def PH(X:Cx)(hs:List ExceptHandler)(t:Addr->TS):Prop:=
 ∀(pins:List (Addr×Obj)) (s:Shared) (σ:St) (H:Hp) (ea C:Addr) (D:Ends),Fly X pins σ H ea C s->t C D σ H->wpAny (model X.prog X.w) X.A (handleBy (.ref ea) X.env hs) (SP X pins D) X.xe s
noncomputable def Bj:Addr->TS:=λ_ _ _ _=>False
theorem qL:PH X [] Bj:=λ_ _ _ _ _ _ _ _ h=>h.elim
noncomputable def Ends.gone(D:Ends)(i:Nat):Ends:=⟨λσ H=>D.nx (σ.set i none) H,D.rt,λσ H=>D.bk (σ.set i none) H,λσ H=>D.ct (σ.set i none) H⟩
noncomputable def DS(K:PySem.W.Frag)(W:Addr)(i:Nat)(th:TS)(rest:Addr->TS):Addr->TS:=λC D σ H=>
 ∃b,PySem.W.subIn K (.ref C) (.ref W)=some b/\if b=true then ∀ea oe,H ea=none->oe.cls=.ref C->th (D.gone i) (σ.set i (some (.ref ea))) (a9 H ea (.frz oe (.own 0)))else rest C D σ H
theorem vZ{i:Nat}{y n:Str}{W:Addr}{np pos:Pos}{b₀:Stmt}{suite:List Stmt}{rest:List ExceptHandler}{th:TS}{tr:Addr->TS}(hex:X.ex=[])(hN:X.N.Nodup)(hi:X.N[i]?=some n)(hk:X.env.scope.names.lookup n=some .local)
  (hg:Gl X y) (hm:X.mg y=some (.ref W)) (hW:Clause X.K W) (hb:∀ea,PSs (X.mkd ea) (b₀::suite) th) (hr:PH X rest tr) (hd:(y==("__debug__":Str))=false:=by decide):
  PH X (.ExceptHandler (some (.Name y np)) (some n) (b₀::suite) pos::rest) (DS X.K W i th tr):=by
 intro pins s σ H ea C D F h;obtain⟨b,hs,h⟩:=h;obtain⟨oe,he,hc⟩:=F.there;have I:=F.inv;refine wpAny_handleBy_cons (codeAny_handlers_test (u5 (X:=X.mkd ea) (I.mkd ea) hg hm (Pl I.kIn hW he hc hs ?_) hd)) (by intro q;cases q);cases b with
 | false=>exact hr pins s σ H ea C D F h
 | true=>
  refine codeAny_handlers_suite_as (F.again λs2 F2=> ?_);obtain⟨oe2,he2,hc2⟩:=F2.there;have I2:=F2.track hex he2;refine EL I2 hN hi (.inl hk) (v:=.ref ea) (u:=.ref ea) rfl (λs3 I3=> ?_) (.inr hk);refine wpAny_mono (hb ea pins s3 _ _ (D.gone i) (I3.mkd ea) (h ea oe2 F2.fresh hc2)) (λf s4 q=> ?_) λ_ _ z=>False.elim z;have ok:=I.ok;cases f with
  | next=>obtain⟨σ',H',I',q⟩:=q;exact Ee (I'.unmkd ok) hN hi hk λs5 I5=>⟨_,_,I5,q⟩
  | brk=>obtain⟨σ',H',I',q⟩:=q;exact Ee (I'.unmkd ok) hN hi hk λs5 I5=>⟨_,_,I5,q⟩
  | cont=>obtain⟨σ',H',I',q⟩:=q;exact Ee (I'.unmkd ok) hN hi hk λs5 I5=>⟨_,_,I5,q⟩
  | ret u=>obtain⟨v,σ',H',I',r,q⟩:=q;exact Ee (I'.unmkd ok) hN hi hk λs5 I5=>⟨v,_,_,I5,r,q⟩
def J5(X:Cx)(st:Stmt)(t:FK->TS):Prop:=
 ∀(pins:List (Addr×Obj)) (s:Shared) (σ:St) (H:Hp) (D:Ends) (F:FK),Inv X pins σ H s->t F D σ H->wpAny (model X.prog X.w) X.A (exec st X.env) (SP X pins D) (λe s'=>∃σ',XP X pins σ' (F σ') e s') s
def l9(X:Cx)(st:List Stmt)(t:FK->TS):Prop:=
 ∀(pins:List (Addr×Obj)) (s:Shared) (σ:St) (H:Hp) (D:Ends) (F:FK),Inv X pins σ H s->t F D σ H->wpAny (model X.prog X.w) X.A (execs st X.env) (SP X pins D) (λe s'=>∃σ',XP X pins σ' (F σ') e s') s
def CM(X:Cx)(e:Expr)(t:(Addr->Hp->Prop)->TE):Prop:=
 ∀(pins:List (Addr×Obj)) (s:Shared) (σ:St) (H:Hp) (Q:VK) (F:Addr->Hp->Prop),Inv X pins σ H s->t F σ H Q->wpAny (model X.prog X.w) X.A (eval e X.env) (EP X pins σ Q) (XP X pins σ F) s
noncomputable def FE(F:Addr->Hp->Prop):XK:=λc _ H=>∃C,c=.ref C/\F C H
theorem Qq{σ:St}{Fx:Addr->Hp->Prop}
  (F:FnOk X.prog X.w X.K X.mg X.base (CXE X.prog X.w) k f fd ps sp) (hr:Room k X.A) (hb:jfn X.K fd ps ds) (hd:Vals dvs ds)
  (I:Inv X pins σ H s) (r:Vals vs us) (h:sp (vs++dvs) H Q (FE Fx)):wpAny (model X.prog X.w) X.A (call (.ref f) us) (EP X pins σ Q) (XP X pins σ Fx) s:=by
 have r2:Vals (vs++dvs) (us++ds):=r.append hd;have hl:(us++ds).length=ps.length:=by rw[<-r2.length];exact F.len _ _ _ _ h
 refine wpAny_call (codeAny_mono (F.run X.A X.stack s H ⟨us,[]⟩ (us++ds) (vs++dvs) Q (FE Fx) hr I.env0 (hb s us I.kIn hl) r2 h) λr s' hq=> ?_);cases r with
 | error e=>
  obtain⟨ea,C,a0,B,H',rfl,hos,hg,u,hok,fl,hB,hBk,C',hC,hE⟩:=hq;cases hC;exact⟨ea,C,H',rfl,⟨a0,B,H,s,I,hos,hg,u,hok,fl,hB,hBk⟩,hE⟩
 | ok fl=>
  cases fl with
  | ret u=>exact I.after hq
  | next=>exact False.elim hq
  | brk=>exact False.elim hq
  | cont=>exact False.elim hq
theorem KO{α:Type}{t:Sem α}{Q Q':α->Shared->Prop}{E:Value->Shared->Prop}(h:wpAny M A t Q (λ_ _=>False) s)(hQ:∀a s,Q a s->Q' a s):wpAny M A t Q' E s:=wpAny_mono h hQ λ_ _ z=>False.elim z
noncomputable def IT(t:(Addr->Hp->Prop)->TE):FK->TS:=λF D σ H=>t (F σ) σ H λ_ H1=>D.nx σ H1
theorem LR{e:Expr}{t:(Addr->Hp->Prop)->TE}{pos:Pos}(he:CM X e t)(hs:swapsWith e none pos.line X.env=pure false:=by rfl):J5 X (.Expr e pos) (IT t):=by
 intro pins s σ H D F I h;exact wpAny_Expr_any (wpAny_mono (he pins s σ H _ _ I h) (λv s1 ⟨x,H1,I1,r1,q1⟩=>⟨σ,H1,I1,q1⟩) λ_ _ z=>⟨σ,z⟩) I.quiet hs
noncomputable def nD(t u:FK->TS):FK->TS:=λF D σ H=>t F {D with nx:=u F D} σ H
theorem Qf:l9 X [] (λ_=>Eg):=λ_ _ σ H _ _ I h=>wpAny_execs_nil ⟨σ,H,I,h⟩
theorem PD{st:Stmt}{t u:FK->TS}(h1:J5 X st t)(h2:l9 X rest u):l9 X (st::rest) (nD t u):=by
 intro pins s σ H D F I h;refine wpAny_execs_cons (bE (h1 pins s σ H {D with nx:=u F D} F I h) λf s1 q=> ?_);cases f with
 | next=>obtain⟨σ',H',I',q⟩:=q;exact h2 pins s1 σ' H' D F I' q
 | brk=>exact q
 | cont=>exact q
 | ret u=>exact q
noncomputable def xX(tb:FK->TS)(th:Addr->TS):TS:=λD σ H=>tb (λσ1 C H1=>th C D σ1 H1) D σ H
theorem tR{tb:FK->TS}{th:Addr->TS}(hst:X.stack=X.env::X.outer)(hfr:X.env.frame=some X.env.locals)(hb:l9 X body tb)(hh:PH X (h₀::hs) th):
  PS X (.Try body (h₀::hs) [] [] pos) (xX tb th):=by
 intro pins s σ H D I h;refine wpAny_Try_except (wpAny_mono (hb pins s σ H D _ I h) (λf s1 q=> ?_) λe s1 q=> ?_)
 ·cases f with
  | next=>exact wpAny_execs_nil q
  | brk=>exact q
  | cont=>exact q
  | ret u=>exact q
 ·obtain⟨σ',ea,C,H',rfl,F,q⟩:=q
  exact F.lands hst hfr I.ok.frames λs2 F2=>hh pins s2 σ' H' ea C D F2 q
end
end L2
namespace L2
open PySem PySem.Spec PyProof.Rows PySem.Builtin PySem.Builtin.ObjectAttr PySem.Builtin.Getset_descriptor
structure IsiC (K:W.Frag) (C:Addr):Prop where
 ga:W.findIn K (.ref C) "__getattribute__"=some (some (.builtin "BaseException.__getattribute__"))
 gt:W.findIn K (.ref C) "__getattr__"=some none
 cl:W.findIn K (.ref C) "__class__"=some (some (.builtin "object.__class__"))
 be:W.subIn K (.ref C) (.type "BaseException")=some true
 ob:W.mroIn K C (.type "object")=some true
 is:W.hasDictIn K C=true
section
variable {prog : Program} {w : World} {A : Around} {E : Value -> Shared -> Prop} {K : W.Frag} {h : Heap} {g : Array GenState} {d : Drawn} {t : Nat} {os : OsState} {a C : Addr} {o : Obj}
theorem Gu(hx:h.get? a=some o)(hc:o.cls=.ref C):W.Looks M h (typeOf (.ref a)) (.ref C):=hc▸(W.Looks.ld (h:=h) hx).andThen .now
theorem Mh{R:Result->Shared->Prop}(k:K.In h)(c:IsiC K C)(hx:h.get? a=some o)(hc:o.cls=.ref C)(hq:R (.ok (.ret (.ref C))) ⟨h,g,d,t,os⟩):
  codeAny (model prog w) A (.call (.builtin "getset_descriptor.__get__") ⟨[.builtin "object.__class__",.ref a,tp],[]⟩) R ⟨h,g,d,t,os⟩:=by
 have L0:=Gu (M:=model prog w) hx hc;have L1:=W.looks_mroIn (M:=model prog w) k c.ob;refine codeAny_call_builtin W.KF.slot_gs.plain W.KF.entry_gs (W.KF.slot_gs.check _ _ _ _ _ _ _ _ W.KF.type_class (W.KF.args_gs _ _ _) ?_);unfold Builtin.«getset_descriptor.__get__» descrGet;rw[W.dga_obj];refine wpAny_bind (wpAny_pure ?_);unfold descrGetter descrCheckInstance descrNameAndClass isInstance;simp only[W.KF.owner_class]
 repeat lk
 refine⟨Code.quiet_builtin _ (by decide+kernel),codeAny_builtin W.KF.entry_class ?_⟩;unfold Builtin.«object.__class__» shownTypeOf
 repeat lk
 all_goals first|exact hq|assumption
theorem OA{Q:Fin->Shared->Prop}(k:K.In h)(c:IsiC K C)(hx:h.get? a=some o)(hc:o.cls=.ref C)(hq:Q (.done (.ret (.ref C))) ⟨h,g,d,t,os⟩):
  wpAny (model prog w) A (Builtin.«object.__getattribute__» ⟨[.ref a,.str "__class__" tk],[]⟩) Q E ⟨h,g,d,t,os⟩:=by
 have L0:=Gu (M:=model prog w) hx hc;have L1:=W.looks_findIn (M:=model prog w) k c.cl;have hT5:(⟨h,g,d,t,os⟩:Shared).TypeIs (.builtin "object.__class__") "getset_descriptor":=F.typeOf_object_class;have f5:=F.typeOf_object_class;have f6:=F.slot_gs_get.lookup;have f7:=F.slot_gs_set.lookup
 repeat (any_goals (first|assumption|(with_reducible refine wpAny_loadPart_at hx ?_;rw[hc])|(with_reducible refine L1.at ?_)|(with_reducible refine L0.at ?_)|wp_step))
 refine Mh k c hx hc ?_
 repeat (any_goals (first|assumption|wp_step))
theorem MM{Q:Unit->Shared->Prop}(k:K.In h)(c:IsiC K C)(hx:h.get? a=some o)(hc:o.cls=.ref C)(hq:Q () ⟨h,g,d,t,os⟩):
  wpAny M A (checkBuiltinCall "BaseException.__getattribute__" ⟨[.ref a,nameV],[]⟩) Q E ⟨h,g,d,t,os⟩:=by
 have hk:builtinKind "BaseException.__getattribute__"=some .slot:=by decide+kernel
 have hsplit:splitId "BaseException.__getattribute__"=some ("BaseException","__getattribute__"):=by decide+kernel
 have ha:=F.args_bexc_ga (.ref a) nameV;have L2:=W.looks_subIn (M:=M) k c.be;simp only[checkBuiltinCall,hk,hsplit];refine wpAny_bind ?_
 ·unfold isInstance
  repeat (first|(with_reducible refine wpAny_loadPart_at hx ?_;rw[hc])|(with_reducible refine L2.at ?_)|wp_step)
  exact hq
theorem LW{R:Result->Shared->Prop}(k:K.In h)(c:IsiC K C)(hx:h.get? a=some o)(hc:o.cls=.ref C)(hq:R (.ok (.ret (.ref C))) ⟨h,g,d,t,os⟩):
  codeAny (model prog w) A (.call (.builtin "BaseException.__getattribute__") ⟨[.ref a,.str "__class__" tk],[]⟩) R ⟨h,g,d,t,os⟩:=
 codeAny_call_builtin F.excAttr_ValueError.ga.plain F.entry_bexc_ga (MM k c hx hc (OA k c hx hc hq))
theorem uo{Q:Value->Shared->Prop}(k:K.In h)(c:IsiC K C)(hx:h.get? a=some o)(hc:o.cls=.ref C)(hq:Q (.ref C) ⟨h,g,d,t,os⟩):
  wpAny (model prog w) A (getAttrBy (.ref a) (.str "__class__" tk) false) Q E ⟨h,g,d,t,os⟩:=by
 have L1:=W.looks_findIn (M:=model prog w) k c.ga;have L2:=W.looks_findIn (M:=model prog w) k c.gt;have f3:=F.excAttr_ValueError.ga.bind (.ref a);have hx2:(Value.builtin "BaseException.__getattribute__"==Value.builtin "object.__getattribute__")=false:=by decide+kernel
 have hx1:(onTheHeap (Value.ref C)&&Value.builtin "BaseException.__getattribute__"==Value.builtin "object.__getattribute__")=false:=by rw[hx2];rfl
 repeat (any_goals (first|assumption|(with_reducible refine wpAny_loadPart_at hx ?_;rw[hc])|(with_reducible refine L1.at ?_)|(with_reducible refine L2.at ?_)|wp_step))
 refine LW k c hx hc ?_
 repeat (any_goals (first|assumption|wp_step))
theorem Mi{Q:Option Value->Shared->Prop}(k:K.In h)(c:IsiC K C)(hx:h.get? a=some o)(hc:o.cls=.ref C)(hq:Q (some (.ref C)) ⟨h,g,d,t+1,os⟩):
  wpAny (model prog w) A (getAttr? (.ref a) "__class__") Q E ⟨h,g,d,t,os⟩:=by
 repeat (any_goals (first|assumption|with_reducible apply uo k c hx hc|wp_step))
theorem N_(c:IsiC K C)(hc:o.cls=.ref C):W.KitX K (.ref a) (.ref C) (λh=>h.get? a=some o)where
 ty:=λ_ _ _ hx=>Gu hx hc
 it:=λ_ _ k _=>by
  have z0:(W.clsIn K C).isSome=true:=by obtain⟨cd,hc,_⟩:=W.any_some c.is;rw[hc];rfl
  unfold W.clsIn at z0;split at z0
  ·rename_i c' d' cd' sl' ho
   intro A' Q' E' s' kk q;unfold isType loadHead;exact wpAny_bind (wpAny_loadPart (kk _ _ (k _ _ ho)) (wpAny_pure q))
  ·cases z0
 ne:=λh tp dd its n sl k htp=>by
  refine Bool.eq_false_iff.mpr λq=> ?_;have e:C=tp:=Value.ref.inj (beq_iff_eq.mp q);subst e;have z0:(W.clsIn K C).isSome=true:=by obtain⟨cd,hc,_⟩:=W.any_some c.is;rw[hc];rfl
  unfold W.clsIn at z0;split at z0
  ·rename_i c' d' cd' sl' ho
   have z:=(k _ _ ho).symm.trans htp;cases z
  ·cases z0
 ca:=fun{_ _ _ _ _ s} k hx q=>by
  obtain⟨h,g,d,t,os⟩:=s;exact Mi k c hx hc q
end
section
variable {X : Cx}
theorem JI{σ:St}{E:Value->Shared->Prop}{Q:Value->Shared->Prop}(I:Inv X pins σ H s)(hH:H a=some (.frz oe u))(hc:oe.cls=.ref C)(c:IsiC X.K C)
  (e:W.kitOne X.K (.ref C) cv=some b) (h:∀tk,Q (.bool b) {s with toks:=tk}):wpAny (model X.prog X.w) A (call (.builtin "isinstance") [.ref a,cv]) Q E s:=by
 obtain⟨he,_⟩:=(show jd0 X.prog X.w H s.heap a (.frz oe u)from I.hok a _ hH);exact W.kia_one (N_ c hc) I.kIn he e (λz=>nomatch z) h
end
end L2
namespace L2
open PySem PySem.Spec PyProof.Rows
section
variable {X : Cx}
noncomputable def o_:RU:=λx y H Q=>match x,y with
 | .int i,.int j=>CMul i j/\Q (.int (i*j)) H
 | .ref a,.int k=>Ah (.ref a) (.int k) H Q
 | .str z,.int n=>n.natAbs<=16777216/\z.length*n.toNat<=16777216/\Q (.str (Txt.mul z n)) H
 | _,_=>False
theorem uL:cG X (binaryOp .Mult) o_:=by
 intro pins s σ H x y v u Q I rx ry h;cases x<;>cases y<;>first|exact h.elim|skip
 ·exact uq pins s σ H _ _ v u Q I rx ry ⟨_,_,rfl,rfl,h.1,h.2⟩
 ·obtain⟨h1,h2,q⟩:=h
  obtain⟨t,rfl⟩:=rx;obtain⟨t',rfl⟩:=ry;rename_i z n;refine SB.mul ?_ λt' k=>⟨.str _,H,I.tok k,⟨t',rfl⟩,q⟩;have hp:¬n<1->z.length*n.toNat<=16777216:=λ_=>h2;refine⟨?_,λh1' _=> ?_,λh1' _=> ?_⟩
  ·have a1:¬n< -(2^63:Int):=by omega
   have a2:¬n>=(2^63:Int):=by omega
   rw[decide_eq_false a1,decide_eq_false a2];rfl
  ·have hpos:0<n:=by omega
   have e:((z.length*n.toNat:Nat):Int)=(z.length:Int)*n:=by
    rw[Int.natCast_mul,g6 (by omega)]
   have h3:(z.length:Int)*n<=2^63 - 1:=by rw[<-e];omega
   have h4:(z.length:Int)<=(2^63 - 1) / n:=(Int.le_ediv_iff_mul_le hpos).mpr h3;omega
  ·exact short24 h2
 ·exact rD pins s σ H _ _ v u Q I rx ry h
theorem sJ:SlR X Cp:=by
 intro pins s σ H x v vl vu lo hi sl Q I rx hs pl pu h;obtain⟨z,rfl,hz,q⟩:=h;obtain⟨t,rfl⟩:=rx;refine⟨"str",_,F.slot_str_getitem.lookup,typeIs_str _ _ _,?_⟩;obtain⟨l,rfl,rfl⟩:∃l:Option (Int×Tok),vl=partValue l/\lo=l.map (·.1):=by
  cases pl with
  | none=>exact⟨none,rfl,rfl⟩
  | int i t=>exact⟨some (i,t),rfl,rfl⟩
 obtain⟨u,rfl,rfl⟩:∃l:Option (Int×Tok),vu=partValue l/\hi=l.map (·.1):=by
  cases pu with
  | none=>exact⟨none,rfl,rfl⟩
  | int i t=>exact⟨some (i,t),rfl,rfl⟩
 exact wpAny_getItem_str_slice (l:=l) (u:=u) (st:=none) hs rfl (post_val_or_str ⟨z9 (Txt.slice_le z _ _) hz,λt' k=>⟨.str _,H,I.tok k,⟨t',rfl⟩,q⟩⟩)
def sI(K:W.Frag):V->Option Int->Option Int->Hp->VK->Prop:=λx lo hi H Q=>J1 K x lo hi H Q\/Cp x lo hi H Q
theorem Hx:SlR X (sI X.K):=SlR.or Ff sJ
end
noncomputable def Fc(K:W.Frag)(a:Addr):It:=
 ⟨λi H=>∃xs x,SqL K H a xs/\xs[i]?=some x,λi H v H'=>∃p x,H p=none/\(∀xs,SqL K H a xs->xs[i]?=some x)/\v=.ref p/\H'=a9 H p (.tup [.int i,x]),λi H=>∃xs,SqL K H a xs/\xs.length<=i⟩
theorem N2{K:W.Frag}{x1}(a en it:Addr)(hne:en≠it):Turn P w K (.Tuple elts x1 tpos) (Fc K a) [en,it] en (λi h=>∃old,IsEnum h en it ((i:Nat):Int) old/\h.IsListIter it a i)where
 mem:=by simp
 obj:=λi h st b hb=>by
  obtain⟨old,h1,h2⟩:=st;rcases qr.mp hb with rfl|hb
  ·exact⟨_,h1,λv z=>by
    have z':Data.fields _=Data.cell v:=z;cases z'⟩
  ·have e:b=it:=by simpa using hb
   subst e;obtain⟨o,e,c,d⟩:=h2;exact⟨o,e,λv z=>by rw[d]at z;cases z⟩
 keep:=λi h h' st k=>by
  obtain⟨old,h1,h2⟩:=st;exact⟨old,k en (by simp) _ h1,h2.at λo e=>k it (by simp) o e⟩
 item:=by
  intro X hP hw hK hc i pins s σ H E I hf st hg;subst hP hw hK;obtain⟨xs,x,hq,hx⟩:=hg;obtain⟨its,rv,p,hz⟩:=I.list hq;obtain⟨u,hu,ru⟩:=rv.get hx;obtain⟨old,he,hit⟩:=st;have g0:=hf en (by simp);have f0:=hf it (by simp);refine wpAny_pyNext_enum_item he hit p.isList (x:=u) (by simpa using hu) hne λh₁ heo hit₁ ht₁ hz₁ hk₁=> ?_;refine⟨.ref s.heap.objs.size,rfl,wpAny_letOwnedTupleGo_enum heo λh₂ he₂ hs₂=> ?_⟩
  replace hs₂:Heap.SameBut en h₁ h₂:=hs₂
  have fr:H s.heap.objs.size=none:=I.hok.fresh (qi _);have kp:∀b o,b≠en->b≠it->s.heap.get? b=some o->h₂.get? b=some o:=λb o n1 n2 e=>hs₂.extBut b o n1 (hk₁ b o n1 n2 e);have enlt:en<s.heap.objs.size:=qh he;have tup:h₂.get? s.heap.objs.size=some {cls:=.type "tuple",data:=.seq #[.int i s.toks,u]}:=hs₂.extBut _ _ (wq enlt) ht₁;have tr:∀{b u},H b=some u->b≠en/\b≠it:=fun{b u} e=>⟨λz=>(by rw[z,g0.1]at e;cases e),λz=>(by rw[z,f0.1]at e;cases e)⟩;have hok:HOk X.prog X.w (a9 H s.heap.objs.size (.tup [.int i,x])) h₂:=by
   intro b o e;by_cases hb:b=s.heap.objs.size
   ·subst hb
    rw[dG]at e;cases e;exact⟨(show 2<=sizeLine by decide),[.int i s.toks,u],.cons ⟨_,rfl⟩ (.cons ru .nil),⟨_,tup,rfl,_,rfl⟩⟩
   ·rw[br hb]at e
    refine(I.hok b o e).stay (λc v hcc q=> ?_) (λc q=>by rw[br (eD q fr)];exact q) λc ys q=>by rw[br (eD q fr)];exact q
    have t:c≠en/\c≠it:=by
     rcases hcc with rfl|hcc
     ·exact tr e
     ·exact tr hcc
    exact kp c v t.1 t.2 q
  have un:Un (cn X.stack) [en,it] H (a9 H s.heap.objs.size (.tup [.int i,x])) s.heap h₂:=by
   have nx:∀{b:Addr},b∉[en,it]->b≠en/\b≠it:=fun{b} hb=>⟨λz=>hb (by simp[z]),λz=>hb (by simp[z])⟩;refine⟨λb o e _ _ hb=>kp b o (nx hb).1 (nx hb).2 e,λb o e _ _ hb=>⟨o.slots,kp b o (nx hb).1 (nx hb).2 e⟩,λb o e n _=> ?_,λb o e hb=>⟨o,kp b o (nx hb).1 (nx hb).2 e⟩,λb ys e=> ?_,λb o v e=> ?_,λb ps e=>⟨#[],?_⟩⟩
   ·rw[br (qv (qh e))];exact n
   ·rw[br (eD e fr)];exact e
   ·rw[br (eD e fr)];exact e
   ·rw[br (eD e fr)];simpa using e
  have I2:Inv X pins σ (a9 H s.heap.objs.size (.tup [.int i,x])) {s with heap:=h₂,toks:=s.toks+1}:=
   I.call' (s':={s with heap:=h₂,toks:=s.toks+1}) (ch:=[en,it]) rfl un hok I.bare λb hb=>⟨(hf b hb).2.2.2.1,(hf b hb).2.1,(hf b hb).2.2.2.2.1,(hf b hb).2.2.2.2.2⟩
  refine⟨.ref s.heap.objs.size,_,I2,rfl,⟨s.heap.objs.size,x,fr,λys hy=>by rw[I.list_inj hy hq];exact hx,rfl,rfl⟩,⟨u,?_,?_⟩,λb hb=> ?_⟩
  ·have:((i+1:Nat):Int)=(i:Int)+1:=by push_cast;rfl
   rw[this];exact he₂
  ·exact hit₁.extBut hs₂.extBut (Ne.symm hne)
  ·have:b<s.heap.objs.size:=by
    rcases qr.mp hb with rfl|hb
    ·exact enlt
    ·have e:b=it:=by simpa using hb
     subst e;obtain⟨o,e,_⟩:=hit;exact qh e
   rw[br (qv this)];exact(hf b hb).1
 done:=by
  intro X hP hw hK hc i pins s σ H E I hf st hg;subst hP hw hK;obtain⟨xs,hq,hx⟩:=hg;obtain⟨its,rv,p,hz⟩:=I.list hq;obtain⟨f0,f1,f2,f3,f4,f5⟩:=hf it (by simp);have hl:=rv.length;obtain⟨old,he,hit⟩:=st;exact wpAny_pyNext_enum_end (I.ok.hd hc) he hit p.isList (by simp;omega) λh' eb=>⟨rfl,I.turned (t':=s.toks) (λb o hb e=>eb b o hb e) f0 f1 f3 f4 f5⟩
 self:=λ_ _ _ _ _ st h=>by
  obtain⟨old,he,_⟩:=st;exact wpAny_pyIter_enum he h
theorem Pq:bootBuiltins "enumerate"=some (.type "enumerate"):=by decide+kernel
noncomputable def Dn(K:W.Frag)(ta:TA):TI:=λσ H R=>ta σ H λvs H1=>∃a xs,vs=[.ref a]/\SqL K H1 a xs/\R (Fc K a) H1
theorem NI{X:Cx}{elts:List Expr}{x1}{tpos:Pos}{e:Expr}{ta:TA}{p pos:Pos}(hg:Gl X "enumerate")(hm:X.mg "enumerate"=none)(ha:PA X [e] ta)
  (hs:starEach [e] X.env=[(false,eval e X.env)]:=by rfl):PI X (.Tuple elts x1 tpos) (.Call (.Name "enumerate" p) [e] [] pos) (Dn X.K ta):=by
 intro pins s σ H R I h;refine Call_ (vc I hg hm Pq (PyProof.Rows.callWith_type1 (bE (ha pos pins s σ H _ I h) λus s1 ⟨vs,H1,I1,r1,q1⟩=> ?_) hs rfl));obtain⟨a,xs,rfl,hq,q⟩:=q1;cases r1 with
 | cons r rr=>
  cases rr
  cases r
  obtain⟨its,rv,pl,hz⟩:=I1.list hq;refine call_enumerate_list pl.isList λh' he hit hsz kp=>wpAny_pyIter_enum (s:={s1 with heap:=h'}) he ?_;have I2:Inv X pins σ H1 {s1 with heap:=h'}:=I1.kept (t':=s1.toks) kp;refine⟨s1.heap.objs.size+1,[s1.heap.objs.size+1,s1.heap.objs.size],_,_,H1,rfl,I2,N2 a _ _ (Nat.succ_ne_self _),⟨_,he,hit⟩,λb hb=> ?_,q⟩;have hb':s1.heap.objs.size<=b:=by
   rcases qr.mp hb with rfl|hb
   ·omega
   ·have e:b=s1.heap.objs.size:=by simpa using hb
    exact wr e.symm
  exact I1.fpOk hb' (I1.hok.fresh hb')
theorem MX{K:W.Frag}(k:X.K=K)(h:PI X tg e (Dn X.K ta)):PI X tg e (Dn K ta):=by subst k;exact h
section
variable {prog : Program} {w : World} {A : Around} {E : Value -> Shared -> Prop}
theorem JH{it l:Addr}{items:Array Value}(hne:l≠it):∀(n i:Nat) (s:Shared) (Q:List Value->Shared->Prop),s.heap.IsListIter it l i->s.heap.IsList l items->i+n<=items.size->
  (∀h',h'.IsListIter it l (i+n)->Heap.SameBut it s.heap h'->Q ((items.toList.drop i).take n) {s with heap:=h'})->wpAny (model prog w) A (draw (.ref it) n) Q E s
 | 0,i,s,Q,hit,_,_,hQ=>by
  show wpAny _ _ (pure []) Q E s;exact wpAny_pure (by simpa using hQ s.heap hit (Heap.SameBut.refl ..))
 | n+1,i,s,Q,hit,hl,hle,hQ=>by
  have hlt:i<items.size:=by omega
  show wpAny _ _ (pyNext (.ref it) >>= _) Q E s;refine wpAny_bind (wpAny_pyNext_list_item hit hl (x:=items[i]) (by simp[hlt]) λh₁ hit₁ hs₁=> ?_);refine wpAny_bind (wpAny_holding (JH hne n (i+1) _ _ hit₁ (hl.extBut hs₁.extBut hne) (by omega) λh₂ hit₂ hs₂=>wpAny_pure ?_));have hd:items.toList.drop i=items[i]::items.toList.drop (i+1):=by simp[zu,hlt]
  have:=hQ h₂ (by rw[show i+(n+1)=i+1+n by omega];exact hit₂) (hs₁.trans hs₂);rw[hd,List.take_succ_cons]at this;exact this
theorem Mr{Q:List Value->Shared->Prop}(hh:A.handled=none)(hl:s.heap.IsList l items)
  (hQ:∀h',Heap.ExtBut s.heap.objs.size s.heap h'->Q items.toList {s with heap:=h'}):wpAny (model prog w) A (unpackItems (.ref l) items.size none) Q E s:=by
 have hlt:l≠s.heap.objs.size:=by obtain⟨o,ho,_⟩:=hl;exact qv (qh ho)
 unfold unpackItems;refine wpAny_bind ?_
 ·unfold notIterableAtAll
  refine wpAny_bind (wpAny_specialOf hl.typeIs slot_list_iter.lookup ?_);refine wpAny_pure ?_;simp only[zn,if_false];refine wpAny_bind (wpAny_holding (wpAny_pyIter_list hl ?_));refine wpAny_bind (wpAny_holding (JH hlt items.size 0 _ _ ⟨_,qw _ rfl,rfl,rfl⟩ (hl.push _) (by omega) λh₁ hit₁ hs₁=> ?_));have hall:List.take items.size (List.drop 0 items.toList)=items.toList:=by
   rw[List.drop_zero];exact zh (by simp)
  rw[hall];rw[if_neg (by simp)];have hl₁:h₁.IsList l items:=(hl.push _).extBut hs₁.extBut hlt;refine wpAny_bind (wpAny_holding (wpAny_pyNext_list_end hh hit₁ hl₁ (by simp) λh₂ he₂=> ?_));simp only[Option.isSome_none,zn,if_false];refine wpAny_pure (hQ h₂ λb o hb e=>he₂ b o hb (hs₁.extBut b o hb (qe _ e)))
end
noncomputable def jy(K:W.Frag)(n:Nat)(t:jA):TG:=λv σ H Q=>∃a xs,v=.ref a/\(SqT K H a xs\/SqL K H a xs)/\xs.length=n/\t xs σ H Q
theorem FV{X:Cx}{pos:Pos}{es:List Expr}{k:Nat}{t:jA}{n:Nat}(hc:X.calm=true)(h:AH X es t)
  (hn:(assignEach es X.env).length=n:=by rfl) (hst:(assignEach es X.env).findIdx? (·.1)=none:=by rfl):PG X (.Tuple es k pos) (jy X.K n t):=by
 intro pins s σ H v u Q I r hw;obtain⟨a,xs,e1,hq,hl,hw⟩:=hw;subst e1;rcases hq with hq|hq
 ·exact pA (n:=n) hc h hn hst pins s σ H (.ref a) u Q I r ⟨a,xs,rfl,hq,hl,hw⟩
 ·cases r
  obtain⟨its,rv,p,hz⟩:=I.list hq;rw[PyProof.Rows.assign_Tuple];refine wpAny_bind (wpAny_standAt ?_);unfold unpack;have hsz:(assignEach es X.env).length=its.toArray.size:=by simp[hn,<-hl,rv.length]
  rw[hsz,hst];refine wpAny_bind (wpAny_holding (Mr (I.ok.hd hc) p.isList λh' hx=> ?_));have I1:Inv X pins σ H {s with heap:=h'}:=I.kept (t':=s.toks) λb o e=>hx b o (qv (qh e)) e;exact h pins _ σ H xs _ Q I1 (by simpa using rv) hw
theorem F6{K:W.Frag}(k:X.K=K)(h:PG X tg (jy X.K n t)):PG X tg (jy K n t):=by subst k;exact h
section
variable {X : Cx}
theorem sQ:cG X (compareOp .Is) (λx y H Q=>(y=.non/\Q (.bl (decide (x=.non))) H)\/∃a b,x=.bl a/\y=.bl b/\Q (.bl (a==b)) H):=by
 intro pins s σ H x y v u Q I rx ry h;rcases h with h|⟨a,b,rfl,rfl,q⟩
 ·exact tF pins s σ H x y v u Q I rx ry h
 ·cases rx;cases ry
  refine PySem.wpAny_is_plain (by rfl) (dh I q ?_);cases a<;>cases b<;>rfl
end
def lL(nt:Nat)(g:jA):Prop:=∀xs σ H Q (σ0:St),(σ.length=σ0.length/\∀i,nt<=i->σ[i]?=σ0[i]?)->g xs σ H Q->g xs σ H λσ' H'=>Q σ' H'/\σ'.length=σ0.length/\∀i,nt<=i->σ'[i]?=σ0[i]?
theorem K7:lL nt pF:=λxs σ H Q σ0 k ⟨e,q⟩=>⟨e,q,k⟩
theorem Dv(h:i<nt)(r:lL nt u):lL nt (Fi (aD i) u):=λxs σ H Q σ0 k ⟨v,r',e,q⟩=>
 ⟨v,r',e,r r' _ H Q σ0 ⟨by simp[k.1],λj hj=>by rw[qm (by omega)];exact k.2 j hj⟩ q⟩
theorem J8{K:W.Frag}(r:lL nt u):Cq nt (jy K n u):=λx σ H Q ⟨a,xs,e,hq,hl,q⟩=>⟨a,xs,e,hq,hl,r xs σ H Q σ ⟨rfl,λ_ _=>rfl⟩ q⟩
theorem cg{K:W.Frag}(k:X.K=K)(h:PE X e (lK X.K ta f)):PE X e (lK K ta f):=by subst k;exact h
theorem fu{K:W.Frag}(k:X.K=K)(h:PS X e (lN X.K ta tv f)):PS X e (lN K ta tv f):=by subst k;exact h
theorem rV{K:W.Frag}{mg:Str->Option Value}(h1:X.prog=P)(h2:X.w=w)(h3:X.K=K)(h4:X.mg=mg)(h5:X.base=base)
  (h:PE X e (oy X.prog X.w X.K X.mg X.base CX k m E ta t)):PE X e (oy P w K mg base CX k m E ta t):=by subst h1 h2 h3 h4 h5;exact h
section
variable {X : Cx}
def oY:V->List V->Hp->VK->Prop:=λx xs H Q=>∃i:Int,x=.int i/\xs=[]/\Q (.int (Builtin.Int.intBits i:Nat)) H
theorem Pp:tD X "int.bit_length" oY:=by
 intro pins s σ H x xs v us Q I rx rv h;obtain⟨i,rfl,rfl,q⟩:=h;obtain⟨t,rfl⟩:=rx;cases rv;refine call_gives PySem.F.slot_int_bit_length (typeIs_int _ _ _) PySem.F.entry_int_bit_length (PySem.F.args_int_bit_length_1 _) (AutoIntG2.int_bit_length_int_0 i t) ?_;exact⟨.int _,H,I.tok _,⟨_,rfl⟩,q⟩
end
section
variable {X : Cx} {k : Nat} {m : Str} {p pos apos : Pos} {e o : Expr} {es : List Expr} {ta : TE} {t : TA}
noncomputable def CN(P:Program)(w:World)(K:W.Frag)(mg:Str->Option Value)(base:Heap)(k:Nat)(m:Str)(ta:TE)(t:TA):(Addr->Hp->Prop)->TE:=λF=>oy P w K mg base (CXE P w) k m (FE F) ta t
theorem rC{pl:Sem Bool}(he:PE X.nox o ta)(hr:Room k X.A)(ha:PA X.nox (e::es) t)
  (hst:starEach (e::es) X.env=(false,eval e X.env)::starEach es X.env:=by rfl) (hpl:(backTo pos (starEach es X.env)).any (·.1)=false:=by rfl)
  (ht:eval (.Call (.Attribute o m apos) (e::es) [] pos) X.env=(do
   let ov<-eval o X.env
   standAt apos.atName
   let (f,first)<-holding [ov] (getMethod ov m pl)
   callWith pos f first (backTo pos (starEach (e::es) X.env)) (backToKw pos (keywordEach [] X.env))):=by rfl):
  CM X (.Call (.Attribute o m apos) (e::es) [] pos) (CN X.prog X.w X.K X.mg X.base k m ta t):=by
 intro pins s σ H Q Fx I h;refine W.methodCall_KW (pl:=pl) (KO (he pins s σ H _ (I.wish _) h) λu s1 ⟨x,H1,I1,rx,a,C,dx,fs,sp,ex,ea,c,⟨f,fd,ps,hm,F,hb⟩,l,q⟩=> ?_) ht;subst ex;obtain rfl:u=Value.ref a:=rx;refine Gv I1.unwish ea c hm l ?_;refine W.callWith_K (first:=[.ref a]) (h₀:=X.base) I.ok.mod.kin hm.kp (KO (ha pos pins s1 σ H1 _ I1 q) λus s2 ⟨vs,H2,I2,r,q2⟩=>⟨I2.kIn,?_⟩) hst hpl;exact Qq (us:=.ref a::us) (vs:=.ref a::vs) (dvs:=[]) (ds:=[]) F hr hb .nil I2.unwish (.cons rfl r) (by simpa using q2)
theorem Ny{K:W.Frag}{mg:Str->Option Value}(h1:X.prog=P)(h2:X.w=w)(h3:X.K=K)(h4:X.mg=mg)(h5:X.base=base)
  (h:CM X e (CN X.prog X.w X.K X.mg X.base k m ta t)):CM X e (CN P w K mg base k m ta t):=by subst h1 h2 h3 h4 h5;exact h
end
noncomputable def pZ(a:Addr)(o:Obj)(kvs:List (cH×V)):It:=
 ⟨λi H=>H a=some (.frz o (.dK kvs))/\i<kvs.length,λi H x H'=>H'=H/\(kvs[i]?).map (·.2)=some x,λi H=>H a=some (.frz o (.dK kvs))/\kvs.length<=i⟩
theorem KV.get{kvs:List (cH×V)}(r:KV kvs vs){i:Nat}{k:cH}{u:Value}(h:vs[i]?=some (k,u)):∃x,kvs[i]?=some (k,x)/\RelV x u:=by
 induction r generalizing i with
 | nil=>simp at h
 | @cons p q ps qs hq t ih=>
  cases i with
  | zero=>
   simp only[zz,Option.some.injEq]at h;subst h;obtain⟨h1,h2⟩:=hq;exact⟨p.2,congrArg some (Prod.ext h1 rfl),h2⟩
  | succ i=>exact ih h
theorem IM{h:Heap}(e:h.get? a=some o)(hep:∀es x,o.data=.dict es x->x=ep)(dd:h.DictOf (eY prog w) a vs):h.DictAt (eY prog w) a vs ep:=by
 obtain⟨ep',hat⟩:=dd.dictAt;obtain⟨o',es,h1,h2,h3,h4⟩:=id hat;rw[e]at h1;cases h1;rw[hep es ep' h3]at hat;exact hat
theorem MB{K:W.Frag}(a it:Addr)(o:Obj)(kvs:List (cH×V))(ep:Nat)(hep:∀es x,o.data=.dict es x->x=ep):Turn P w K tg (pZ a o kvs) [it] it (λi h=>h.IsValIter it a i kvs.length ep)where
 mem:=by simp
 obj:=λi h st b hb=>by
  have e:b=it:=by simpa using hb
  subst e;obtain⟨o,e,c,d⟩:=st;exact⟨o,e,λv z=>by rw[d]at z;cases z⟩
 keep:=λi h h' st k=>st.at λo e=>k it (by simp) o e
 item:=by
  intro X hP hw hK hc i pins s σ H E I hf st hg;subst hP hw hK;obtain⟨hq,hi⟩:=hg;obtain⟨f0,f1,f2,f3,f4,f5⟩:=hf it (by simp);obtain⟨eo,z,hd,vs,rel,dd⟩:=(show jd0 X.prog X.w H s.heap a (.frz o (.dK kvs))from I.hok a _ hq);have hl:=rel.length;have hat:=IM eo hep dd;have hlt:i<vs.length:=by omega
  obtain⟨⟨k,u⟩,hx⟩:∃p,vs[i]?=some p:=⟨vs[i],by simp[hlt]⟩;obtain⟨x,hkx,rx⟩:=rel.get hx;rw[hl]at st;refine wpAny_pyNext_values_item st hat hx λh' st' sb=> ?_;have I1:Inv X pins σ H {s with heap:=h'}:=I.turned (t':=s.toks) (λb o hb e=>(sb.2 b hb).trans e) f0 f1 f3 f4 f5;obtain⟨o',e,c,d⟩:=id st';rw[<-hl]at st';exact⟨u,rfl,uF (s:={s with heap:=h'}) e c d (by decide) ⟨x,H,I1,rx,⟨rfl,by rw[hkx];rfl⟩,st',λb hb=>(hf b hb).1⟩⟩
 done:=by
  intro X hP hw hK hc i pins s σ H E I hf st hg;subst hP hw hK;obtain⟨hq,hi⟩:=hg;obtain⟨f0,f1,f2,f3,f4,f5⟩:=hf it (by simp);obtain⟨eo,z,hd,vs,rel,dd⟩:=(show jd0 X.prog X.w H s.heap a (.frz o (.dK kvs))from I.hok a _ hq);have hl:=rel.length;have hat:=IM eo hep dd;rw[hl]at st;exact wpAny_pyNext_values_end (I.ok.hd hc) st hat (wm (by omega)) λh' eb=>⟨rfl,I.turned (t':=s.toks) (λb o hb e=>eb b o hb e) f0 f1 f3 f4 f5⟩
 self:=λ_ _ _ _ _ st h=>wpAny_pyIter_valiter st h
def NF(X:Cx)(a:Addr):Prop:=∀o u,X.H₀ a≠some (.frz o u)
theorem Inv.recast{σ:St}(I:Inv X pins σ H s)(e:H a=some u)(n:NF X a)(h1:∀xs,u≠ .tup xs)(h2:∀ps,u≠ .tbl ps)(h3:∀y,u≠ .own y)(new:jd0 X.prog X.w (a9 H a v) s.heap a v):Inv X pins σ (a9 H a v) s:=by
 have ne:∀b,H b=none->b≠a:=λb hb z=>by rw[z,e]at hb;cases hb
 refine⟨I.ok,I.os,I.bare,⟨I.base.keep,I.base.slot,λb ob q m x=> ?_,I.base.there,λb xs q=> ?_,λb ob w q=> ?_,λb ps q=> ?_⟩,I.loc,I.cell,?_,λx c q=> ?_,λp hp=> ?_,λb ob q=> ?_,I.len⟩
 ·have:=I.base.free b ob q m x
  rw[br (ne b this)];exact this
 ·have:=I.base.tups b xs q
  rw[br (λz=>by rw[z,e]at this;exact h1 xs (Option.some.inj this))];exact this
 ·have nb:b≠a:=λz=>by subst z;exact n ob w q
  rw[br nb];exact I.base.frzs b ob w q
 ·obtain⟨more,this⟩:=I.base.tbls b ps q
  exact⟨more,by rw[br (λz=>by rw[z,e]at this;exact h2 _ (Option.some.inj this))];exact this⟩
 ·rw[br (ne _ I.free)];exact I.free
 ·rw[br (ne _ (I.freeC x c q))];exact I.freeC x c q
 ·obtain⟨p1,p2,p3⟩:=I.pin p hp
  exact⟨p1,by rw[br (ne _ p2)];exact p2,p3⟩
 ·by_cases hb:b=a
  ·subst hb;rw[dG]at q;cases q;exact new
  ·rw[br hb]at q
   exact(I.hok b ob q).stay (λ_ _ _ r=>r) (λc r=>by rw[br (λz=>by rw[z,e]at r;exact h3 b (Option.some.inj r))];exact r) λc xs r=>by
    rw[br (λz=>by rw[z,e]at r;exact h1 xs (Option.some.inj r))];exact r
theorem Inv.nf{σ:St}(I:Inv X pins σ H s)(e:H a=some u)(h:∀o w,u≠ .frz o w):NF X a:=λo w q=>by
 have:=I.base.frzs a o w q;rw[e]at this;exact h o w (Option.some.inj this)
theorem Inv.thaw{σ:St}(I:Inv X pins σ H s)(n:NF X a)(e:H a=some (.frz o (.dK kvs))):Inv X pins σ (a9 H a (.dK kvs)) s:=by
 obtain⟨_,z,hd,vs,rel,dd⟩:=(show jd0 X.prog X.w H s.heap a (.frz o (.dK kvs))from I.hok a _ e);exact I.recast e n (λ_ z=>nomatch z) (λ_ z=>nomatch z) (λ_ z=>nomatch z) ⟨z,hd,vs,rel,dd⟩
noncomputable def oH(N:Addr->Prop)(te:TE):TI:=λσ H R=>te σ H λx H1=>∃a kvs,x=.ref a/\H1 a=some (.dK kvs)/\∀o,o.cls=.type "dict"->N a->R (pZ a o kvs) (a9 H1 a (.frz o (.dK kvs)))
theorem Oz{X:Cx}{tg e:Expr}{te:TE}{apos cpos:Pos}(he:PE X e te)(hbase:attributeBase e "values" X.env (eval e X.env)=eval e X.env:=by rfl)(hline:(apos.endLine==cpos.line)=true:=by rfl):
  PI X tg (.Call (.Attribute e "values" apos) [] [] cpos) (oH (NF X) te):=by
 intro pins s σ H R I h;refine wpAny_Call_method0_late hbase hline (bE (he pins s σ H _ I h) λv s1 ⟨x,H1,I1,r1,q1⟩=> ?_);obtain⟨a,kvs,rfl,ea,q⟩:=q1;cases r1;obtain⟨z,hd,vs,rel,dd⟩:=nh I1.hok ea;obtain⟨h1,h2⟩:=EV I1 (show RelV (.ref a) (.ref a)from rfl) (T:="dict") (.inr (.inr (.inl ⟨rfl,.inl ⟨_,ea⟩⟩)));refine⟨"dict","dict.values",PySem.F.plainAttrs_dict,PySem.F.slot_dict_values,PySem.F.type_dict_values,h1,h2,Calls.callWith_builtin rfl (PySem.evalArgs_none ?_)⟩;refine call_meetsIn PySem.F.slot_dict_values dd.typeIs PySem.F.entry_dict_values (PySem.F.args_dict_values_1 _) (meets_dict_values (eY X.prog X.w) a hd) ⟨⟨vs,dd⟩,?_⟩;obtain⟨ep,hat⟩:=dd.dictAt;obtain⟨o,es,eo,ec,edat,_⟩:=id hat;have kp:∀b ob,s1.heap.get? b=some ob->((s1.heap.push {cls:=.type "dict_values",data:=.fields #[.ref a]}).push {cls:=.type "dict_valueiterator",data:=.fields #[.ref a,.int 0 0,.int vs.length 0,.int ep 0]}).get? b=some ob:=λb ob e=>qe _ (qe _ e);have I2:Inv X pins σ H1 {s1 with heap:=(s1.heap.push {cls:=.type "dict_values",data:=.fields #[.ref a]}).push {cls:=.type "dict_valueiterator",data:=.fields #[.ref a,.int 0 0,.int vs.length 0,.int ep 0]}}:=I1.kept (t':=s1.toks) kp;have nf:NF X a:=I1.nf ea λ_ _ z=>nomatch z;have hok2:=I2.hok a _ ea;have I3:=I2.recast (v:=.frz o (.dK kvs)) ea nf (λ_ z=>nomatch z) (λ_ z=>nomatch z) (λ_ z=>nomatch z) ⟨kp a o eo,hok2.1,hok2.2.1,hok2.2.2⟩;show wpAny (model X.prog X.w) X.A (pyIter (.ref s1.heap.objs.size)) (G4 X pins σ tg R) X.xe {s1 with heap:=s1.heap.push {cls:=.type "dict_values",data:=.fields #[.ref a]}};refine wpAny_pyIter_values (knd:=eY X.prog X.w) (kvs:=vs) (ep:=ep) ⟨_,qw _ rfl,rfl,rfl⟩ (hat.push _) ?_;have hl:=rel.length;have gz:s1.heap.objs.size<=(s1.heap.push {cls:=.type "dict_values",data:=.fields #[.ref a]}).objs.size:=by rw[kg];omega
 have na:a≠(s1.heap.push {cls:=.type "dict_values",data:=.fields #[.ref a]}).objs.size:=qv (qf (qh eo) gz);refine⟨_,[(s1.heap.push {cls:=.type "dict_values",data:=.fields #[.ref a]}).objs.size],_,_,_,rfl,I3,MB a _ o kvs ep (λes' x e=> ?_),?_,λb hb=> ?_,q o ec.1 nf⟩
 ·rw[edat]at e;cases e;rfl
 ·rw[hl];exact⟨_,qw _ rfl,rfl,rfl⟩
 ·have e:b=(s1.heap.push {cls:=.type "dict_values",data:=.fields #[.ref a]}).objs.size:=by simpa using hb
  subst e;refine I1.fpOk gz ?_;rw[br (Ne.symm na)];exact I1.hok.fresh gz
noncomputable def nV(N:Addr->Prop)(D:Ends):Ends:=
 ⟨λσ H=>∃a o kvs,N a/\H a=some (.frz o (.dK kvs))/\D.nx σ (a9 H a (.dK kvs)),λv H=>∃a o kvs,N a/\H a=some (.frz o (.dK kvs))/\D.rt v (a9 H a (.dK kvs)),λ_ _=>False,λ_ _=>False⟩
noncomputable def oZ(te:TE)(g:TG)(tb:TS):TS:=λD σ H=>∀N:Addr->Prop,qR (oH N te) g tb (nV N D) σ H
theorem LO{X:Cx}{tg e:Expr}{te:TE}{apos cpos:Pos}{body:List Stmt}{g:TG}{tb:TS}{pos:Pos}(hp:PassesOwn (model X.prog X.w) X.A X.env X.xe)(hc:X.calm=true)(he:PE X e te)(hg:PG X tg g)(hb:PSs X body tb)
  (hs:∀x,foldedSetIterable (.Call (.Attribute e "values" apos) [] [] cpos) X.env x=pure x:=by intro _;rfl) (hbase:attributeBase e "values" X.env (eval e X.env)=eval e X.env:=by rfl) (hline:(apos.endLine==cpos.line)=true:=by rfl):
  PS X (.For tg (.Call (.Attribute e "values" apos) [] [] cpos) body [] pos) (oZ te g tb):=by
 intro pins s σ H D I h;refine bE (mn hp hc (Oz he hbase hline) hg hb hs pins s σ H (nV (NF X) D) I (h (NF X))) λf s1 q=> ?_;cases f with
 | next=>obtain⟨σ1,H1,I1,a,o,kvs,n,e,q⟩:=q;exact⟨σ1,_,I1.thaw n e,q⟩
 | ret u=>obtain⟨v,σ1,H1,I1,r,a,o,kvs,n,e,q⟩:=q;exact⟨v,σ1,_,I1.thaw n e,r,q⟩
 | brk=>obtain⟨_,_,_,q⟩:=q;exact q.elim
 | cont=>obtain⟨_,_,_,q⟩:=q;exact q.elim
noncomputable def Hs(K:W.Frag)(a b:Addr):It:=
 ⟨λi H=>∃xs x ys y,SqL K H a xs/\xs[i]?=some x/\SqL K H b ys/\ys[i]?=some y,λi H v H'=>∃p x y,H p=none/\(∀xs,SqL K H a xs->xs[i]?=some x)/\(∀ys,SqL K H b ys->ys[i]?=some y)/\v=.ref p/\H'=a9 H p (.tup [x,y]),λi H=>∃xs ys,SqL K H a xs/\SqL K H b ys/\(xs.length<=i\/ys.length<=i)⟩
theorem P6{K:W.Frag}{x1}(a b z TI TO i1 i2:Addr)(D:ZipApart z TI TO i1 i2 a b):Turn P w K (.Tuple elts x1 tpos) (Hs K a b) [z,TI,TO,i1,i2] z (λi h=>IsZip h z TI TO .none/\IsPair h TI (.ref i1) (.ref i2)/\(∃u v,IsPair h TO u v)/\h.IsListIter i1 a i/\h.IsListIter i2 b i)where
 mem:=by simp
 obj:=λi h st c hc=>by
  obtain⟨h1,h2,⟨u,v,h3⟩,h4,h5⟩:=st;simp only[qr,zi,or_false]at hc;rcases hc with rfl|rfl|rfl|rfl|rfl
  ·exact⟨_,h1,λv z=>by
    have z':Data.fields _=Data.cell v:=z;cases z'⟩
  ·exact⟨_,h2,λv z=>by
    have z':Data.seq _=Data.cell v:=z;cases z'⟩
  ·exact⟨_,h3,λv z=>by
    have z':Data.seq _=Data.cell v:=z;cases z'⟩
  ·obtain⟨o,e,c,d⟩:=h4
   exact⟨o,e,λv z=>by rw[d]at z;cases z⟩
  ·obtain⟨o,e,c,d⟩:=h5
   exact⟨o,e,λv z=>by rw[d]at z;cases z⟩
 keep:=λi h h' st k=>by
  obtain⟨h1,h2,⟨u,v,h3⟩,h4,h5⟩:=st;exact⟨k z (by simp) _ h1,k TI (by simp) _ h2,⟨u,v,k TO (by simp) _ h3⟩,h4.at λo e=>k i1 (by simp) o e,h5.at λo e=>k i2 (by simp) o e⟩
 item:=by
  intro X hP hw hK hc i pins s σ H E I hf st hg;subst hP hw hK;obtain⟨xs,x,ys,y,hq,hx,hq2,hy⟩:=hg;obtain⟨its,rv,p,hz⟩:=I.list hq;obtain⟨u,hu,ru⟩:=rv.get hx;obtain⟨its2,rv2,p2,hz2⟩:=I.list hq2;obtain⟨u2,hu2,ru2⟩:=rv2.get hy;obtain⟨h1,h2,⟨v1,v2,h3⟩,h4,h5⟩:=st;refine wpAny_pyNext_zip_item D h1 h2 h3 h4 h5 p.isList p2.isList (x:=u) (y:=u2) (by simpa using hu) (by simpa using hu2) λh₁ heo hTO hi1 hi2 ht₁ hz₁ hk₁=> ?_;refine⟨.ref s.heap.objs.size,rfl,wpAny_letOwnedTupleGo_zip heo λh₂ he₂ hs₂=> ?_⟩
  replace hs₂:Heap.SameBut z h₁ h₂:=hs₂
  have fr:H s.heap.objs.size=none:=I.hok.fresh (qi _);have kp:∀c o,c∉[z,TI,TO,i1,i2]->s.heap.get? c=some o->h₂.get? c=some o:=λc o n e=>hs₂.extBut c o (λq=>n (by simp[q])) (hk₁ c o (λq=>n (by simp[q])) (λq=>n (by simp[q])) (λq=>n (by simp[q])) (λq=>n (by simp[q])) e);have zlt:z<s.heap.objs.size:=qh h1;have tup:h₂.get? s.heap.objs.size=some {cls:=.type "tuple",data:=.seq #[u,u2]}:=hs₂.extBut _ _ (wq zlt) ht₁;have tr:∀{c u},H c=some u->c∉[z,TI,TO,i1,i2]:=fun{c u} e m=>by rw[(hf c m).1]at e;cases e
  have hok:HOk X.prog X.w (a9 H s.heap.objs.size (.tup [x,y])) h₂:=by
   intro c o e;by_cases hb:c=s.heap.objs.size
   ·subst hb
    rw[dG]at e;cases e;exact⟨(show 2<=sizeLine by decide),[u,u2],.cons ru (.cons ru2 .nil),⟨_,tup,rfl,_,rfl⟩⟩
   ·rw[br hb]at e
    refine(I.hok c o e).stay (λc' v hcc q=> ?_) (λc' q=>by rw[br (eD q fr)];exact q) λc' ys q=>by rw[br (eD q fr)];exact q
    refine kp c' v ?_ q;rcases hcc with rfl|hcc
    ·exact tr e
    ·exact tr hcc
  have un:Un (cn X.stack) [z,TI,TO,i1,i2] H (a9 H s.heap.objs.size (.tup [x,y])) s.heap h₂:=by
   refine⟨λc o e _ _ hb=>kp c o hb e,λc o e _ _ hb=>⟨o.slots,kp c o hb e⟩,λc o e n _=> ?_,λc o e hb=>⟨o,kp c o hb e⟩,λc ys e=> ?_,λc o v e=> ?_,λc ps e=>⟨#[],?_⟩⟩
   ·rw[br (qv (qh e))];exact n
   ·rw[br (eD e fr)];exact e
   ·rw[br (eD e fr)];exact e
   ·rw[br (eD e fr)];simpa using e
  have I2:Inv X pins σ (a9 H s.heap.objs.size (.tup [x,y])) {s with heap:=h₂}:=
   I.call' (s':={s with heap:=h₂}) (ch:=[z,TI,TO,i1,i2]) rfl un hok I.bare λc hb=>⟨(hf c hb).2.2.2.1,(hf c hb).2.1,(hf c hb).2.2.2.2.1,(hf c hb).2.2.2.2.2⟩
  refine⟨.ref s.heap.objs.size,_,I2,rfl,⟨s.heap.objs.size,x,y,fr,λzs hy=>by rw[I.list_inj hy hq];exact hx,λzs hz=>by rw[I.list_inj hz hq2];exact hy,rfl,rfl⟩,⟨he₂,hs₂.extBut _ _ D.TIz (hk₁ _ _ D.TIz D.TITO D.TIi1 D.TIi2 h2),⟨_,_,hs₂.extBut _ _ D.TOz hTO⟩,hi1.extBut hs₂.extBut D.i1z,hi2.extBut hs₂.extBut D.i2z⟩,λc hc=> ?_⟩;have:c<s.heap.objs.size:=by
   simp only[qr,zi,or_false]at hc;rcases hc with rfl|rfl|rfl|rfl|rfl
   ·exact zlt
   ·exact qh h2
   ·exact qh h3
   ·obtain⟨o,e,_⟩:=h4;exact qh e
   ·obtain⟨o,e,_⟩:=h5;exact qh e
  rw[br (qv this)];exact(hf c hc).1
 done:=by
  intro X hP hw hK hc i pins s σ H E I hf st hg;subst hP hw hK;obtain⟨xs,ys,hq,hq2,hx⟩:=hg;obtain⟨its,rv,p,hz⟩:=I.list hq;obtain⟨its2,rv2,p2,hz2⟩:=I.list hq2;have hl:=rv.length;have hl2:=rv2.length;obtain⟨h1,h2,⟨v1,v2,h3⟩,h4,h5⟩:=st;refine wpAny_pyNext_zip_end (I.ok.hd hc) D h1 h2 h3 h4 h5 p.isList p2.isList (by simp;omega) λh' hk=>⟨rfl,?_⟩;have kp:∀c o,c∉[z,TI,TO,i1,i2]->s.heap.get? c=some o->h'.get? c=some o:=λc o n e=>hk c o (λq=>n (by simp[q])) (λq=>n (by simp[q])) (λq=>n (by simp[q])) (λq=>n (by simp[q])) e;have tr:∀{c u},H c=some u->c∉[z,TI,TO,i1,i2]:=fun{c u} e m=>by rw[(hf c m).1]at e;cases e
  have hok:HOk X.prog X.w H h':=by
   intro c o e;refine(I.hok c o e).stay (λc' v hcc q=> ?_) (λc' q=>q) λc' ys q=>q;refine kp c' v ?_ q;rcases hcc with rfl|hcc
   ·exact tr e
   ·exact tr hcc
  have un:Un (cn X.stack) [z,TI,TO,i1,i2] H H s.heap h':=
   ⟨λc o e _ _ hb=>kp c o hb e,λc o e _ _ hb=>⟨o.slots,kp c o hb e⟩,λc o e n _=>n,λc o e hb=>⟨o,kp c o hb e⟩,λc ys e=>e,λc o v e=>e,λc ps e=>⟨#[],by simpa using e⟩⟩
  exact I.call' (s':={s with heap:=h'}) (ch:=[z,TI,TO,i1,i2]) rfl un hok I.bare λc hb=>⟨(hf c hb).2.2.2.1,(hf c hb).2.1,(hf c hb).2.2.2.2.1,(hf c hb).2.2.2.2.2⟩
 self:=λ_ _ _ _ _ st h=>wpAny_pyIter_zip st.1 h
theorem tW:bootBuiltins "zip"=some (.type "zip"):=by decide+kernel
noncomputable def lX(K:W.Frag)(ta:TA):TI:=λσ H R=>ta σ H λvs H1=>∃a b xs ys,vs=[.ref a,.ref b]/\SqL K H1 a xs/\SqL K H1 b ys/\R (Hs K a b) H1
theorem tX{X:Cx}{elts:List Expr}{x1}{tpos:Pos}{e1 e2:Expr}{ta:TA}{p pos:Pos}(hg:Gl X "zip")(hm:X.mg "zip"=none)(ha:PA X [e1,e2] ta)
  (hs:starEach [e1,e2] X.env=(false,eval e1 X.env)::starEach [e2] X.env:=by rfl) (hp:(backTo pos (starEach [e2] X.env)).any (·.1)=false:=by rfl):PI X (.Tuple elts x1 tpos) (.Call (.Name "zip" p) [e1,e2] [] pos) (lX X.K ta):=by
 intro pins s σ H R I h;refine Call_ (vc I hg hm tW (PyProof.Rows.callWith_type1 (bE (ha pos pins s σ H _ I h) λus s1 ⟨vs,H1,I1,r1,q1⟩=> ?_) hs hp));obtain⟨a,b,xs,ys,rfl,hq,hq2,q⟩:=q1;cases r1 with
 | cons r rr=>
  cases r
  cases rr with
  | cons r2 rr2=>
   cases r2
   cases rr2
   obtain⟨its,rv,pl,hz⟩:=I1.list hq;obtain⟨its2,rv2,pl2,hz2⟩:=I1.list hq2;have la:a<s1.heap.objs.size:=by obtain⟨o,e,_⟩:=pl.isList;exact qh e
   have lb:b<s1.heap.objs.size:=by obtain⟨o,e,_⟩:=pl2.isList;exact qh e
   refine call_zip_2 pl.isList pl2.isList λh' hzz hTI hTO hi1 hi2 hsz kp=>wpAny_pyIter_zip (s:={s1 with heap:=h'}) hzz ?_;have I2:Inv X pins σ H1 {s1 with heap:=h'}:=I1.kept (t':=s1.toks) kp;have D:ZipApart (s1.heap.objs.size+4) (s1.heap.objs.size+2) (s1.heap.objs.size+3) s1.heap.objs.size (s1.heap.objs.size+1) a b:=by
    have la:@LT.lt Nat _ a s1.heap.objs.size:=la;have lb:@LT.lt Nat _ b s1.heap.objs.size:=lb;constructor<;>intro q<;>(have q:@Eq Nat _ _:=q)<;>omega
   refine⟨s1.heap.objs.size+4,[s1.heap.objs.size+4,s1.heap.objs.size+2,s1.heap.objs.size+3,s1.heap.objs.size,s1.heap.objs.size+1],_,_,H1,rfl,I2,P6 a b _ _ _ _ _ D,⟨hzz,hTI,⟨_,_,hTO⟩,hi1,hi2⟩,λc hc=> ?_,q⟩;have hb':s1.heap.objs.size<=c:=by
    simp only[qr,zi,or_false]at hc;rcases hc with rfl|rfl|rfl|rfl|rfl
    ·exact kj _ _
    ·exact kj _ _
    ·exact kj _ _
    ·exact qi _
    ·exact kj _ _
   exact I1.fpOk hb' (I1.hok.fresh hb')
theorem O1{K:W.Frag}(k:X.K=K)(h:PI X tg e (lX X.K ta)):PI X tg e (lX K ta):=by subst k;exact h
def rR(K:W.Frag):List V->Hp->VK->Prop:=λxs H Q=>∃(p:Addr) (bs:List Bool),xs=[.ref p]/\SqL K H p (bs.map V.bl)/\Q (.bl (bs.any id)) H
section
variable {X : Cx}
theorem Mz(hc:X.calm=true):jcp X (.builtin "any") (rR X.K):=by
 intro pins s σ H xs us Q I r h;obtain⟨p,bs,rfl,hq,q⟩:=h;obtain⟨u,rfl,rx⟩:=iY r;cases rx;obtain⟨its,r',pl,hz⟩:=I.list hq;have e:=ET r';have hh:X.A.in1.handled=none:=I.ok.hd hc;refine call_any_walk (wpAny_pyIter_list pl.isList ?_);have hne:p≠s.heap.objs.size:=by
  obtain⟨o,ho,_⟩:=pl.isList;exact qv (qh ho)
 refine⟨s.heap.objs.size,_,_,_,_,_,λi=>bs.getD i false,rfl,Walks.list hh _ p hne its.toArray,?_,?_,λh' tk hk=> ?_⟩
 ·exact⟨⟨_,qw _ rfl,rfl,rfl⟩,pl.isList.at λo e=>qe _ e⟩
 ·intro i v s' Q' E' hP hQ
  have hv:its[i]?=some v:=by simpa using hP
  rw[e,z5]at hv;obtain⟨b,hb,rfl⟩:=qk.mp hv;have:bs.getD i false=b:=by simp[List.getD,hb]
  have hQ':Q' (bs.getD i false) s':=hQ;rw[this]at hQ';exact wpAny_truthy_bool hQ'
 ·have k:∀b o,s.heap.get? b=some o->h'.get? b=some o:=λb o e=>hk b o (by
   intro hm;have:b=s.heap.objs.size:=by simpa using hm
   exact absurd (qh e) (by rw[this];exact zw _)) (qe _ e)
  refine⟨.bl (bs.any id),H,I.kept (t':=tk) k,?_,q⟩;have hl:=r'.length;simp only[qd]at hl;have e2:(List.range its.toArray.size).any (λi=>bs.getD i false)=bs.any id:=by
   rw[qo,<-hl];rw[wj,List.any_eq_true,List.any_eq_true];constructor
   ·rintro⟨i,hi,hb⟩
    have hi':=w6.mp hi;exact⟨bs[i],we hi',by simpa [List.getD,hi']using hb⟩
   ·rintro⟨x,hx,hb⟩
    obtain⟨i,hi,rfl⟩:=kz hx;exact⟨i,w6.mpr hi,by simpa [List.getD,hi]using hb⟩
  rw[e2];rfl
end
theorem NL{K:W.Frag}(k:X.K=K)(hc:X.calm=true):jcp X (.builtin "any") (rR K):=by subst k;exact Mz hc
end L2
namespace Z
open PySem
inductive D where
 | non|bl (b:Bool)|int (i:Int)|str (x:Str)|tup (xs:List D)|lst (xs:List D)|arg (ns:List Int)|ref (k:Nat)
 | ty (n:String)|cls (n:String)|exc (n:String)|obj (c:String) (fs:List (Str×D))|dic (kvs:List (Sum Int Str×D))
inductive Cell where
 | lst (xs:List D)|dct (kvs:List (Sum Int Str×D))|ins (c:String) (fs:List (Str×D))|fdc (kvs:List (Sum Int Str×D))
noncomputable def Cell.live:Cell->Bool
 | .fdc _=>false|_=>true
noncomputable abbrev MH:=List (Option Cell)
noncomputable abbrev Ro:=List (Option D)
inductive Res (α:Type)where
 | ok (a:α) (h:MH)|exc (c:String) (h:MH)|stuck
inductive RS where
 | nx (ρ:Ro) (h:MH)|rt (d:D) (h:MH)|bk (ρ:Ro) (h:MH)|ct (ρ:Ro) (h:MH)|exc (c:String) (h:MH)|stuck
noncomputable def Res.bind{α β:Type}(r:Res α)(f:α->MH->Res β):Res β:=match r with
 | .ok a h=>f a h|.exc c h=>.exc c h|.stuck=>.stuck
@[simp] theorem gE{α β:Type}{a:α}{f:α->MH->Res β}:(Res.ok a h).bind f=f a h:=rfl
@[simp] theorem Cs{α β:Type}{f:α->MH->Res β}:(Res.exc c h).bind f= .exc c h:=rfl
@[simp] theorem uh{α β:Type}{f:α->MH->Res β}:(Res.stuck).bind f= .stuck:=rfl
noncomputable def Res.toS{α:Type}(r:Res α)(f:α->MH->RS):RS:=match r with
 | .ok a h=>f a h|.exc c h=>.exc c h|.stuck=>.stuck
@[simp] theorem mX{α:Type}{a:α}{f:α->MH->RS}:(Res.ok a h).toS f=f a h:=rfl
@[simp] theorem Dh{α:Type}{f:α->MH->RS}:(Res.exc c h).toS f= .exc c h:=rfl
@[simp] theorem uH{α:Type}{f:α->MH->RS}:(Res.stuck).toS f= .stuck:=rfl
abbrev ME:=Ro->MH->Res D
abbrev MT:=Ro->MH->Res Bool
abbrev ML:=Ro->MH->Res (List D)
abbrev MO:=Ro->MH->Res (Option Int)
abbrev MI:=Ro->MH->Res (Option Nat×List D)
abbrev MS:=Ro->MH->RS
abbrev MG:=D->Ro->MH->RS
abbrev MF:=List D->MH->Res D
abbrev B2:=D->D->MH->Res D
@[simp] noncomputable def chk{α:Type}(c:Prop)[Decidable c](r:Res α):Res α:=if c then r else .stuck
@[simp] noncomputable def aa(i:Nat):ME:=λρ h=>match ρ[i]? with
 | some (some d)=>.ok d h|_=>.stuck
@[simp] noncomputable def mC(d:D):ME:=λ_ h=> .ok d h
@[simp] noncomputable def ae(f:B2)(a b:ME):ME:=λρ h=>(a ρ h).bind λx h1=>(b ρ h1).bind λy h2=>f x y h2
@[simp] noncomputable def gD(f:D->MH->Res D)(a:ME):ME:=λρ h=>(a ρ h).bind f
@[simp] noncomputable def af:ML:=λ_ h=> .ok [] h
@[simp] noncomputable def ag(a:ME)(l:ML):ML:=λρ h=>(a ρ h).bind λx h1=>(l ρ h1).bind λxs h2=> .ok (x::xs) h2
@[simp] noncomputable def dJ(l:ML):ME:=λρ h=>(l ρ h).bind λxs h1=>chk (xs.length<=16777216) (.ok (.tup xs) h1)
@[simp] noncomputable def bO(l:ML):ML:=λρ h=>(l ρ h).bind λxs h1=>chk (xs.length<=16777216) (.ok xs h1)
@[simp] noncomputable def aZ(l:ML):ME:=λρ h=>(l ρ h).bind λxs h1=> .ok (.lst xs) h1
@[simp] noncomputable def uf(l:ML):ME:=λρ h=>(l ρ h).bind λxs h1=> .ok (.ref h1.length) (h1++[some (.lst xs)])
@[simp] noncomputable def aY(z:MF)(l:ML):ME:=λρ h=>(l ρ h).bind z
@[simp] noncomputable def bz(f:List D->MH->Res D)(l:ML):ME:=λρ h=>(l ρ h).bind f
@[simp] noncomputable def tB(m:ME):MT:=λρ h=>(m ρ h).bind λd h1=>match d with
 | .bl b=>.ok b h1|_=>.stuck
@[simp] noncomputable def cS(a b:MT):MT:=λρ h=>(a ρ h).bind λc h1=>if c=true then b ρ h1 else .ok false h1
@[simp] noncomputable def kA(a b:MT):MT:=λρ h=>(a ρ h).bind λc h1=>if c=true then .ok true h1 else b ρ h1
@[simp] noncomputable def cX(a:MT):MT:=λρ h=>(a ρ h).bind λc h1=> .ok (!c) h1
@[simp] noncomputable def Jm(t:MT)(a b:ME):ME:=λρ h=>(t ρ h).bind λc h1=>if c=true then a ρ h1 else b ρ h1
@[simp] noncomputable def tQ(a b:ME):ME:=λρ h=>(a ρ h).bind λd h1=>match d with
 | .bl c=>if c=true then b ρ h1 else .ok (.bl false) h1
 | _=>.stuck
@[simp] noncomputable def Js(a b:ME):ME:=λρ h=>(a ρ h).bind λd h1=>match d with
 | .bl c=>if c=true then .ok (.bl true) h1 else b ρ h1
 | _=>.stuck
@[simp] noncomputable def CU(f g:B2)(a b c:ME):ME:=λρ h=>(a ρ h).bind λx h1=>(b ρ h1).bind λy h2=>(f x y h2).bind λz h3=>match z with
 | .bl k=>if k=true then(c ρ h3).bind λw h4=>g y w h4 else .ok (.bl false) h3
 | _=>.stuck
@[simp] noncomputable def g_(h:MH):D->Option (List D)
 | .lst xs=>some xs
 | .ref k=>match h[k]? with
  | some (some (.lst xs))=>some xs
  | _=>none
 | _=>none
@[simp] noncomputable def eF(h:MH):D->Option (List D)
 | .lst xs=>some xs
 | .tup xs=>some xs
 | .arg ns=>some (ns.map .int)
 | .ref k=>match h[k]? with
  | some (some (.lst xs))=>some xs
  | _=>none
 | _=>none
@[simp] noncomputable def DQ(h:MH):D->Option (List (Sum Int Str×D))
 | .dic kvs=>some kvs
 | .ref k=>match h[k]? with
  | some (some (.dct kvs))=>some kvs
  | _=>none
 | _=>none
@[simp] noncomputable def DH(h:MH):D->Option (List (Sum Int Str×D))
 | .dic kvs=>some kvs
 | .ref k=>match h[k]? with
  | some (some (.dct kvs))=>some kvs
  | some (some (.fdc kvs))=>some kvs
  | _=>none
 | _=>none
@[simp] noncomputable def iO(h:MH):D->Option Bool
 | .non=>some false
 | .bl b=>some b
 | .int i=>some (i !=0)
 | .str y=>if y.length<=16777216 then some ((y.length:Int)!=0)else none
 | d=>match eF h d with
  | some xs=>some (!xs.isEmpty)
  | none=>match d with
   | .ref _=>(DQ h d).map λkvs=> !kvs.isEmpty
   | _=>none
noncomputable def oR{α:Type}(o:Option α)(h:MH):Res α:=match o with
 | some a=>.ok a h|none=>.stuck
@[simp] theorem Nh{α:Type}{a:α}:oR (some a) h= .ok a h:=rfl
@[simp] theorem Dp{α:Type}:oR (none:Option α) h= .stuck:=rfl
@[simp] noncomputable def b8(m:ME):MT:=λρ h=>(m ρ h).bind λd h1=>oR (iO h1 d) h1
@[simp] noncomputable def Hq(m:ME):ME:=λρ h=>(m ρ h).bind λd h1=>(oR (iO h1 d) h1).bind λb h2=> .ok (.bl (!b)) h2
def kT(i j:Int):Prop:=i.natAbs<18446744073709551616\/j.natAbs<18446744073709551616
instance (i j:Int):Decidable (kT i j):=by unfold kT;infer_instance
def mL(i j:Int):Prop:=0<=j/\j<=1000000/\i.natAbs<18446744073709551616
instance (i j:Int):Decidable (mL i j):=by unfold mL;infer_instance
@[simp] noncomputable def au:B2:=λx y h=>match x,y with
 | .int i,.int j=>.ok (.int (i+j)) h
 | .str a,.str b=>chk (a.length+b.length<=16777216) (.ok (.str (a++b)) h)
 | .tup a,.tup b=>chk (a≠[]/\a.length+b.length<=16777216) (.ok (.tup (a++b)) h)
 | _,_=>(oR (g_ h x) h).bind λa h=>(oR (g_ h y) h).bind λb h=>chk (a.length+b.length<=16777216) (.ok (.lst (a++b)) h)
@[simp] noncomputable def iG(f:Int->Int->Int):B2:=λx y h=>match x,y with
 | .int i,.int j=>.ok (.int (f i j)) h|_,_=>.stuck
@[simp] noncomputable def nO(c:Int->Int->Prop)[∀i j,Decidable (c i j)](f:Int->Int->Int):B2:=λx y h=>match x,y with
 | .int i,.int j=>chk (c i j) (.ok (.int (f i j)) h)|_,_=>.stuck
@[simp] noncomputable def cq:B2:=iG (· - ·)
@[simp] noncomputable def df:B2:=λx y h=>match x,y with
 | .int i,.int j=>chk (kT i j) (.ok (.int (i*j)) h)
 | .str z,.int n=>chk (n.natAbs<=16777216/\z.length*n.toNat<=16777216) (.ok (.str (Txt.mul z n)) h)
 | _,.int k=>(oR (g_ h x) h).bind λa h=>chk (k.natAbs<9223372036854775808/\a.length*k.toNat<=16777216) (.ok (.lst (List.replicate k.toNat a).flatten) h)
 | _,_=>.stuck
@[simp] noncomputable def bf:B2:=nO (λ_ j=>0<j /\ j<1073741824) (· / ·)
@[simp] noncomputable def aF:B2:=nO (λ_ j=>0<j) (· % ·)
@[simp] noncomputable def fA:B2:=nO mL (λi j=>i^j.toNat)
@[simp] noncomputable def dr:B2:=nO mL (λi j=>i*2^j.toNat)
@[simp] noncomputable def xH:B2:=nO (λ_ j=>0<=j) (λi j=>i / 2^j.toNat)
@[simp] noncomputable def dR:B2:=iG Builtin.bitAnd
@[simp] noncomputable def iD:B2:=iG Builtin.bitOr
@[simp] noncomputable def ye:B2:=iG Builtin.bitXor
@[simp] noncomputable def fC:D->MH->Res D:=λx h=>match x with
 | .int i=>.ok (.int (-i)) h|_=>.stuck
@[simp] noncomputable def gU:D->MH->Res D:=λx h=>match x with
 | .int i=>.ok (.int (Builtin.bitNot i)) h|_=>.stuck
@[simp] noncomputable def iR(f:Int->Int->Bool):B2:=λx y h=>match x,y with
 | .int i,.int j=>.ok (.bl (f i j)) h|_,_=>.stuck
@[simp] noncomputable def F3:B2:=iR λi j=>decide (i<j)
@[simp] noncomputable def uP:B2:=iR λi j=>decide (i<=j)
@[simp] noncomputable def m_:B2:=iR λi j=>decide (j<i)
@[simp] noncomputable def iA:B2:=iR λi j=>decide (j<=i)
@[simp] noncomputable def mG:D->Bool
 | .non=>true|_=>false
@[simp] noncomputable def uK:B2:=λx y h=>match x,y with
 | .bl a,.bl b=>.ok (.bl (a==b)) h
 | x,.non=>.ok (.bl (mG x)) h
 | _,_=>.stuck
noncomputable def gQ(x:Str):Bool:=x.cps.all (·<0x110000)
mutual
noncomputable def D.py:D->Option PyData
 | .non=>some .none
 | .bl b=>some (.bool b)
 | .int i=>some (.int i)
 | .str x=>if gQ x then some (.str x)else none
 | .tup xs=>(D.pys xs).map .tuple
 | .lst xs=>(D.pys xs).map .list
 | _=>none
noncomputable def D.pys:List D->Option (List PyData)
 | []=>some []
 | d::ds=>match D.py d,D.pys ds with
  | some p,some ps=>some (p::ps)
  | _,_=>none
end
mutual
noncomputable def D.deep:D->Nat
 | .tup xs|.lst xs=>D.deeps xs+1
 | _=>0
noncomputable def D.deeps:List D->Nat
 | []=>0
 | d::ds=>max (D.deep d) (D.deeps ds)
end
mutual
noncomputable def D.eq:D->D->Bool
 | .non,.non=>true
 | .bl a,.bl b=>a==b
 | .bl a,.int j=>(if a then 1 else 0)==j
 | .int i,.bl b=>i==(if b then 1 else 0)
 | .int i,.int j=>i==j
 | .str x,.str y=>x==y
 | .tup xs,.tup ys=>D.eqs xs ys
 | .lst xs,.lst ys=>D.eqs xs ys
 | _,_=>false
noncomputable def D.eqs:List D->List D->Bool
 | [],[]=>true
 | x::xs,y::ys=>D.eq x y&&D.eqs xs ys
 | _,_=>false
end
noncomputable def D.dat(d:D):Bool:=d.py.isSome&&decide (d.deep<=64)
noncomputable def res:Nat->MH->D->D
 | 0,_,d=>d
 | n+1,h,.ref k=>match h[k]? with
  | some (some (.lst xs))=>.lst (xs.map (res n h))
  | _=>.ref k
 | n+1,h,.tup xs=>.tup (xs.map (res n h))
 | n+1,h,.lst xs=>.lst (xs.map (res n h))
 | _+1,_,d=>d
noncomputable def uE(h:MH)(d:D):D:=res 8 h d
@[simp] noncomputable def iH:D->Bool
 | .non|.bl _|.int _|.str _=>true
 | _=>false
@[simp] noncomputable def bH:B2:=λx y h=>match x,y with
 | .int i,.int j=>.ok (.bl (decide (i=j))) h
 | .str i,.str j=>.ok (.bl (decide (i=j))) h
 | .bl i,.bl j=>.ok (.bl (i==j)) h
 | _,_=>if x.dat=true/\y.dat=true then .ok (.bl (x.eq y)) h else chk ((uE h x).dat=true/\(uE h y).dat=true) (.ok (.bl ((uE h x).eq (uE h y))) h)
@[simp] noncomputable def dg:B2:=λx y h=>(bH x y h).bind λz h=>match z with
 | .bl b=>.ok (.bl (!b)) h|_=>.stuck
noncomputable def ar(n:Int):Str:=Str.ofString (toString n)
noncomputable def gC(n:Nat)(i:Int):Option Nat:=if 0<=i then(if i<n then some i.toNat else none)else if -(n:Int)<=i then some (i+n).toNat else none
noncomputable def cU{α:Type}(xs:List α)(i:Int):Option α:=(gC xs.length i).bind λj=>xs[j]?
@[simp] noncomputable def A0:D->Option (Sum Int Str)
 | .int i=>some (.inl i)
 | .str x=>some (.inr x)
 | _=>none
noncomputable def dA(kvs:List (Sum Int Str×D))(k:Sum Int Str):Option D:=(kvs.find? λkv=>decide (kv.1=k)).map (·.2)
noncomputable def Ni(kvs:List (Sum Int Str×D))(k:Sum Int Str)(v:D):List (Sum Int Str×D):=
 if kvs.any (λkv=>decide (kv.1=k))then kvs.map λkv=>if kv.1=k then(kv.1,v)else kv else kvs++[(k,v)]
@[simp] noncomputable def aS:B2:=λx y h=>match x,y with
 | .str z,.int i=>chk (z.length<=16777216) ((oR (cU z.cps.toList i) h).bind λc h=>.ok (.str ⟨#[c]⟩) h)
 | x,y=>match eF h x with
  | some xs=>match y with
   | .int i=>oR (cU xs i) h
   | _=>.stuck
  | none=>match DH h x,A0 y with
   | some kvs,some k=>oR (dA kvs k) h
   | _,_=>.stuck
noncomputable def jj:D->D->Bool
 | .non,.non=>true
 | .bl a,.bl b=>a==b
 | .bl a,.int b=>(if a then 1 else 0)==b
 | .int a,.bl b=>a==(if b then 1 else 0)
 | .int a,.int b=>a==b
 | .str a,.str b=>a==b
 | _,_=>false
@[simp] noncomputable def eX(neg:Bool):B2:=λx y h=>match x,y with
 | .str i,.str j=>.ok (.bl (if neg then !(!(Builtin.Str.occurrences j i 0 j.length 1).isEmpty)else !(Builtin.Str.occurrences j i 0 j.length 1).isEmpty)) h
 | x,y=>match eF h y with
  | some ys=>chk (iH x=true/\ys.all iH=true) (.ok (.bl (if neg then !(ys.any λy=>jj y x)else ys.any λy=>jj y x)) h)
  | none=>match DH h y,A0 x with
   | some kvs,some k=>.ok (.bl (if neg then !(dA kvs k).isSome else(dA kvs k).isSome)) h
   | _,_=>.stuck
noncomputable def bI(n d:Nat):Option Int->Nat
 | none=>d
 | some v=>if v<0 then(v+(n:Int)).toNat else min v.toNat n
noncomputable def cut{α:Type}(xs:List α)(lo hi:Option Int):List α:=(xs.drop (bI xs.length 0 lo)).take (bI xs.length xs.length hi - bI xs.length 0 lo)
@[simp] noncomputable def cz:MO:=λ_ h=> .ok none h
@[simp] noncomputable def b_(m:ME):MO:=λρ h=>(m ρ h).bind λd h1=>match d with
 | .int i=>.ok (some i) h1|_=>.stuck
@[simp] noncomputable def cF(m:ME)(lo hi:MO):ME:=λρ h=>(m ρ h).bind λd h1=>(lo ρ h1).bind λl h2=>(hi ρ h2).bind λu h3=>match d with
 | .tup xs=>chk (¬(bI xs.length 0 l=0/\bI xs.length xs.length u=xs.length)) (.ok (.tup (cut xs l u)) h3)
 | .str z=>chk (z.length<=16777216) (.ok (.str (Txt.slice z l u)) h3)
 | d=>(oR (eF h3 d) h3).bind λxs h4=>.ok (.lst (cut xs l u)) h4
@[simp] noncomputable def tS:List D->Option (List Int)
 | []=>some []
 | .int i::r=>(tS r).map (i::·)
 | _::_=>none
@[simp] noncomputable def mH:List D->Option (List Str)
 | []=>some []
 | .str i::r=>(mH r).map (i::·)
 | _::_=>none
@[simp] noncomputable def oV:List D->Option (List Bool)
 | []=>some []
 | .bl i::r=>(oV r).map (i::·)
 | _::_=>none
@[simp] noncomputable def qE(h:MH)(d:D):Option (List Int):=match d with
 | .arg ns=>some ns
 | d=>(g_ h d).bind tS
noncomputable def vz(ns:List Int)(lo hi:Option Int)(st:Int):List Int:=
 (sliceRange (sliceBounds lo hi (some st) ns.length).1 (sliceBounds lo hi (some st) ns.length).2.1 (sliceBounds lo hi (some st) ns.length).2.2).filterMap (ns[·]?)
@[simp] noncomputable def jR(m:ME)(lo hi st:MO):ME:=λρ h=>(m ρ h).bind λd h1=>(lo ρ h1).bind λl h2=>(hi ρ h2).bind λu h3=>(st ρ h3).bind λk h4=>match k with
 | some k=>chk (0<k) ((oR (qE h4 d) h4).bind λns h5=>.ok (.lst ((vz ns l u k).map .int)) h5)
 | none=>.stuck
@[simp] noncomputable def b9:List D->MH->Res D:=λl h=>match l with
 | [.str z]=>chk (z.length<=16777216) (.ok (.int z.length) h)
 | [d]=>match eF h d with
  | some xs=>.ok (.int xs.length) h
  | none=>match d with
   | .ref _=>(oR (DQ h d) h).bind λkvs h=>.ok (.int kvs.length) h
   | _=>.stuck
 | _=>.stuck
@[simp] noncomputable def fT:List D->MH->Res D:=λl h=>match l with
 | [d]=>(oR (qE h d) h).bind λns h=>.ok (.int ns.sum) h
 | _=>.stuck
noncomputable def cP:List Int->Int
 | []=>0
 | [a]=>a
 | a::r=>if cP r>a then cP r else a
@[simp] noncomputable def rQ:List D->MH->Res D:=λl h=>match l with
 | [.int i,.int j]=>.ok (.int (if j>i then j else i)) h
 | [.tup xs]=>(oR (tS xs) h).bind λns h=>chk (0<ns.length) (.ok (.int (cP ns)) h)
 | _=>.stuck
@[simp] noncomputable def lG:List D->MH->Res D:=λl h=>match l with
 | [d]=>(oR ((g_ h d).bind oV) h).bind λbs h=>.ok (.bl (bs.all id)) h
 | _=>.stuck
@[simp] noncomputable def fH:List D->MH->Res D:=λl h=>match l with
 | [.int i]=>.ok (.int i) h
 | [.bl k]=>.ok (.int (if k then 1 else 0)) h
 | [.str z]=>chk (z.length<=640) ((oR (intText? z) h).bind λn h=>.ok (.int n) h)
 | _=>.stuck
@[simp] noncomputable def aV:List D->MH->Res D:=λl h=>match l with
 | [.int i]=>chk (i.natAbs.log2<1920) (.ok (.str (ar i)) h)
 | _=>.stuck
@[simp] noncomputable def nE(m:ML):ML:=λρ h=>(m ρ h).bind λl h1=>match l with
 | [d]=>oR (eF h1 d) h1
 | _=>.stuck
@[simp] noncomputable def Er:List D->MH->Res D:=λl h=>match l with
 | [.tup xs]=>.ok (.tup xs) h
 | [d]=>(oR (eF h d) h).bind λxs h=>.ok (.tup xs) h
 | _=>.stuck
@[simp] noncomputable def lq(f:Str->List D->MH->Res D)(m:ME)(l:ML):ME:=λρ h=>(m ρ h).bind λd h1=>match d with
 | .str z=>(l ρ h1).bind λxs h2=>f z xs h2
 | _=>.stuck
@[simp] noncomputable def gy:Str->List D->MH->Res D:=λz l h=>match l with
 | [d]=>(oR ((g_ h d).bind mH) h).bind λys h=>chk ((ys.map (·.length)).sum+ys.length*z.length<=16777216) (.ok (.str (Txt.join z ys)) h)
 | _=>.stuck
@[simp] noncomputable def u4(m:ME)(l:ML):ML:=λρ h=>(m ρ h).bind λd h1=>match d with
 | .str z=>(l ρ h1).bind λxs h2=>match xs with
  | [.str y]=>chk (y.length≠0/\z.length<=16777216/\(Txt.split z y).length<=16777216) (.ok ((Txt.split z y).map .str) h2)
  | _=>.stuck
 | _=>.stuck
/-- f"..{x}..":the parts,in order -/
abbrev MJ:=Str->Ro->MH->Res Str
@[simp] noncomputable def lz:MJ:=λout _ h=> .ok out h
@[simp] noncomputable def sL(m:ME)(j:MJ):MJ:=λout ρ h=>(m ρ h).bind λd h1=>match d with
 | .str y=>chk ((out++y).length<=16777216) (j (out++y) ρ h1)
 | _=>.stuck
@[simp] noncomputable def CY(j:MJ):ME:=λρ h=>(j Str.empty ρ h).bind λz h1=>chk (z.length<=16777216) (.ok (.str z) h1)
@[simp] noncomputable def mV(m:ME):ME:=λρ h=>(m ρ h).bind λd h1=>match d with
 | .int i=>chk (i.natAbs.log2<1920) (.ok (.str (ar i)) h1)
 | .str z=>chk (z.length<=16777216) (.ok (.str z) h1)
 | _=>.stuck
@[simp] noncomputable def bx:MS:=λρ h=> .nx ρ h
@[simp] noncomputable def aq(a b:MS):MS:=λρ h=>match a ρ h with
 | .nx ρ1 h1=>b ρ1 h1
 | r=>r
@[simp] noncomputable def aX(t:MT)(a b:MS):MS:=λρ h=>(t ρ h).toS λc h1=>if c=true then a ρ h1 else b ρ h1
@[simp] noncomputable def aw(m:ME):MS:=λρ h=>(m ρ h).toS .rt
@[simp] noncomputable def jW(m:ME):MS:=λρ h=>(m ρ h).toS λ_ h1=> .nx ρ h1
@[simp] noncomputable def aA(m:ME)(g:MG):MS:=λρ h=>(m ρ h).toS λd h1=>g d ρ h1
@[simp] noncomputable def dt(c:String)(m:ME):MS:=λρ h=>(m ρ h).toS λ_ h1=> .exc c h1
@[simp] noncomputable def aD(i:Nat):MG:=λd ρ h=> .nx (ρ.set i (some d)) h
@[simp] noncomputable def Bt:List Nat->List D->Ro->MH->RS
 | [],[],ρ,h=>.nx ρ h
 | i::is,d::ds,ρ,h=>Bt is ds (ρ.set i (some d)) h
 | _,_,_,_=>.stuck
@[simp] noncomputable def dY(is:List Nat):MG:=λd ρ h=>match d with
 | .tup xs=>Bt is xs ρ h
 | .lst xs=>Bt is xs ρ h
 | _=>.stuck
@[simp] noncomputable def IZ(mo me:ME):MS:=λρ h=>(mo ρ h).toS λo h1=>match o with
 | .ref k=>match h1[k]? with
  | some (some (.lst _))=>(me ρ h1).toS λd h2=>match h2[k]? with
   | some (some (.lst xs))=>if xs.length<16777216 then .nx ρ (h2.set k (some (.lst (xs++[d]))))else .stuck
   | _=>.stuck
  | _=>.stuck
 | _=>.stuck
@[simp] noncomputable def DX(i:Nat)(b:MS):MS:=λρ h=>match ρ[i]? with
 | some (some (.ref k))=>match h[k]? with
  | some (some (.lst xs))=>b (ρ.set i (some (.lst xs))) (h.set k none)
  | _=>.stuck
 | _=>.stuck
@[simp] noncomputable def oJ:ME:=λ_ h=> .ok (.ref h.length) (h++[some (.dct [])])
noncomputable def dS(g:MG)(b:MS):List D->Ro->MH->RS
 | [],ρ,h=>.nx ρ h
 | d::ds,ρ,h=>match g d ρ h with
  | .nx ρ1 h1=>match b ρ1 h1 with
   | .nx ρ2 h2=>dS g b ds ρ2 h2
   | .ct ρ2 h2=>dS g b ds ρ2 h2
   | .bk ρ2 h2=>.nx ρ2 h2
   | r=>r
  | _=>.stuck
def lI(q:Option Nat)(all:List D)(h:MH):Prop:=match q with
 | none=>True
 | some k=>h[k]?=some (some (.lst all))
open Classical in
noncomputable def jg(q:Option Nat)(all:List D)(g:MG)(b:MS):List D->Ro->MH->RS
 | [],ρ,h=>if lI q all h then .nx ρ h else .stuck
 | d::ds,ρ,h=>if lI q all h then(match g d ρ h with
  | .nx ρ1 h1=>match b ρ1 h1 with
   | .nx ρ2 h2=>jg q all g b ds ρ2 h2
   | .ct ρ2 h2=>jg q all g b ds ρ2 h2
   | .bk ρ2 h2=>.nx ρ2 h2
   | r=>r
  | _=>.stuck)else .stuck
@[simp] theorem CT(all:List D)(g:MG)(b:MS):∀(ds:List D) (ρ:Ro) (h:MH),jg none all g b ds ρ h=dS g b ds ρ h
 | [],ρ,h=>by unfold jg dS;exact if_pos trivial
 | d::ds,ρ,h=>by
  unfold jg dS;rw[if_pos (show lI none all h from trivial)];split
  ·split
   ·exact CT all g b ds _ _
   ·exact CT all g b ds _ _
   ·rfl
   ·rfl
  ·rfl
noncomputable def dO(l:MI)(g:MG)(b:MS):MS:=λρ h=>(l ρ h).toS λs h1=>jg s.1 s.2 g b s.2 ρ h1
@[simp] theorem LJ(l:MI)(g:MG)(b:MS)(ρ:Ro)(h:MH):dO l g b ρ h=(l ρ h).toS λs h1=>jg s.1 s.2 g b s.2 ρ h1:=rfl
@[simp] noncomputable def dH(m:ME):MI:=λρ h=>(m ρ h).bind λd h1=>match d with
 | .lst xs=>.ok (none,xs) h1
 | .tup xs=>.ok (none,xs) h1
 | .arg ns=>.ok (none,ns.map .int) h1
 | .str z=>.ok (none,z.cps.toList.map λc=>.str ⟨#[c]⟩) h1
 | .ref k=>match h1[k]? with
  | some (some (.lst xs))=>.ok (some k,xs) h1
  | _=>.stuck
 | _=>.stuck
noncomputable def rng(lo:Int)(n:Nat):List D:=(List.range n).map λ(k:Nat)=>.int (lo+k)
@[simp] noncomputable def jr(m:ML):MI:=λρ h=>(m ρ h).bind λl h1=>match l with
 | [.int j]=>chk (j.natAbs<4611686018427387904) (.ok (none,rng 0 j.toNat) h1)
 | _=>.stuck
noncomputable def eH(c:MT)(b:MS):Nat->Ro->MH->RS
 | 0,_,_=>.stuck
 | n+1,ρ,h=>match c ρ h with
  | .ok true h1=>match b ρ h1 with
   | .nx ρ2 h2=>eH c b n ρ2 h2
   | .ct ρ2 h2=>eH c b n ρ2 h2
   | .bk ρ2 h2=>.nx ρ2 h2
   | r=>r
  | .ok false h1=>.nx ρ h1
  | .exc e h1=>.exc e h1
  | .stuck=>.stuck
open Classical in
noncomputable def fS(c:MT)(b:MS):MS:=λρ h=>if e:∃n,eH c b n ρ h≠ .stuck then eH c b e.choose ρ h else .stuck
theorem CO(c:MT)(b:MS):∀(n k:Nat) (ρ:Ro) (h:MH),eH c b n ρ h≠ .stuck->eH c b (n+k) ρ h=eH c b n ρ h
 | 0,k,ρ,h,q=>absurd rfl q
 | n+1,k,ρ,h,q=>by
  rw[show n+1+k=(n+k)+1 by omega];unfold eH at q ⊢;cases e:c ρ h with
  | ok b0 h1=>
   cases b0 with
   | false=>rfl
   | true=>
    simp only[e]at q ⊢;cases e2:b ρ h1 with
    | nx ρ2 h2=>simp only[e2]at q ⊢;exact CO c b n k ρ2 h2 q
    | ct ρ2 h2=>simp only[e2]at q ⊢;exact CO c b n k ρ2 h2 q
    | bk ρ2 h2=>rfl
    | rt d h2=>rfl
    | exc x h2=>rfl
    | stuck=>rfl
  | exc x h1=>rfl
  | stuck=>rfl
theorem E_(q:eH c b n ρ h≠ .stuck):fS c b ρ h=eH c b n ρ h:=by
 have e:∃n,eH c b n ρ h≠ .stuck:=⟨n,q⟩;unfold fS;rw[dif_pos e];have h1:=CO c b e.choose n ρ h e.choose_spec;have h2:=CO c b n e.choose ρ h q;rw[<-h1,<-h2,Nat.add_comm]
theorem Gn(q:fS c b ρ h≠ .stuck):∃n,eH c b n ρ h=fS c b ρ h:=by
 unfold fS at q;by_cases e:∃n,eH c b n ρ h≠ .stuck
 ·exact⟨e.choose,by unfold fS;rw[dif_pos e]⟩
 ·rw[dif_neg e]at q;exact absurd rfl q
theorem KZ(ec:c ρ h=.ok true h1)(eb:b ρ h1=.nx ρ2 h2):fS c b ρ h=fS c b ρ2 h2:=by
 by_cases q:fS c b ρ2 h2=.stuck
 ·rw[q]
  by_cases q1:fS c b ρ h=.stuck
  ·exact q1
  ·obtain⟨n,e⟩:=Gn q1
   cases n with
   | zero=>rw[<-e];rfl
   | succ n=>
    rw[<-e]at q1 ⊢;unfold eH at q1 ⊢;simp only[ec,eb]at q1 ⊢;rw[<-E_ q1];exact q
 ·obtain⟨n,e⟩:=Gn q
  have e1:eH c b (n+1) ρ h=eH c b n ρ2 h2:=by
   conv=>lhs;unfold eH
   simp only[ec,eb]
  rw[E_ (n:=n+1) (by rw[e1,e];exact q),e1,e]
theorem NM(ec:c ρ h=.ok false h1):fS c b ρ h=.nx ρ h1:=by
 have e1:eH c b 1 ρ h=.nx ρ h1:=by unfold eH;simp only[ec]
 rw[E_ (n:=1) (by rw[e1];exact λz=>nomatch z),e1]
@[simp] noncomputable def caps(idx:List Nat)(ρ:Ro):Ro:=idx.map λj=>(ρ[j]?).getD none
noncomputable def compLoop(g:MG)(t:MT)(m:ME)(ρ0:Ro):List D->MH->Res (List D)
 | [],h=>.ok [] h
 | d::ds,h=>match g d ρ0 h with
  | .nx ρ1 h1=>match t ρ1 h1 with
   | .ok true h2=>match m ρ1 h2 with
    | .ok y h3=>match compLoop g t m ρ0 ds h3 with
     | .ok ys h4=>.ok (y::ys) h4
     | _=>.stuck
    | _=>.stuck
   | .ok false h2=>compLoop g t m ρ0 ds h2
   | _=>.stuck
  | _=>.stuck
@[simp] noncomputable def aU:MT:=λ_ h=> .ok true h
open Classical in
noncomputable def eZ(q:Option Nat)(all:List D)(g:MG)(t:MT)(m:ME)(ρ0:Ro):List D->MH->Res (List D)
 | [],h=>if lI q all h then .ok [] h else .stuck
 | d::ds,h=>if lI q all h then(match g d ρ0 h with
  | .nx ρ1 h1=>match t ρ1 h1 with
   | .ok true h2=>match m ρ1 h2 with
    | .ok y h3=>match eZ q all g t m ρ0 ds h3 with
     | .ok ys h4=>.ok (y::ys) h4
     | _=>.stuck
    | _=>.stuck
   | .ok false h2=>eZ q all g t m ρ0 ds h2
   | _=>.stuck
  | _=>.stuck)else .stuck
@[simp] theorem DF(all:List D)(g:MG)(t:MT)(m:ME)(ρ0:Ro):∀(ds:List D) (h:MH),eZ none all g t m ρ0 ds h=compLoop g t m ρ0 ds h
 | [],h=>by unfold eZ compLoop;exact if_pos trivial
 | d::ds,h=>by
  unfold eZ compLoop;rw[if_pos (show lI none all h from trivial)];split
  ·split
   ·split
    ·rw[DF all g t m ρ0 ds]
    ·rfl
   ·exact DF all g t m ρ0 ds _
   ·rfl
  ·rfl
noncomputable def dv(nt:Nat)(idx:List Nat)(l:MI)(g:MG)(t:MT)(m:ME):ML:=λρ h=>(l ρ h).bind λs h1=>chk (s.2.length<16777216) (eZ s.1 s.2 g t m (List.replicate nt none++caps idx ρ) s.2 h1)
@[simp] theorem nq(nt:Nat)(idx:List Nat)(l:MI)(g:MG)(t:MT)(m:ME)(ρ:Ro)(h:MH):dv nt idx l g t m ρ h=(l ρ h).bind λs h1=>chk (s.2.length<16777216) (eZ s.1 s.2 g t m (List.replicate nt none++caps idx ρ) s.2 h1):=rfl
@[simp] noncomputable def pC(h:MH):D->Option (String×List (Str×D))
 | .obj c fs=>some (c,fs)
 | .ref k=>match h[k]? with
  | some (some (.ins c fs))=>some (c,fs)
  | _=>none
 | _=>none
noncomputable def bD(f:Str)(d:D):List (Str×D)->List (Str×D)
  | []=>[(f,d)]
  | (g,x)::r=>if g=f then(g,d)::r else(g,x)::bD f d r
@[simp] noncomputable def aG(tab:List String)(f:Str)(m:ME):ME:=λρ h=>(m ρ h).bind λd h1=>(oR (pC h1 d) h1).bind λo h2=>chk (o.1∈tab) (oR (o.2.lookup f) h2)
@[simp] noncomputable def eI(tab:List String)(f:Str)(mo me:ME):MS:=λρ h=>(me ρ h).toS λd h1=>(mo ρ h1).toS λo h2=>match o with
 | .ref k=>match h2[k]? with
  | some (some (.ins c fs))=>if c∈tab/\fs.length<1000 then .nx ρ (h2.set k (some (.ins c (bD f d fs))))else .stuck
  | _=>.stuck
 | _=>.stuck
@[simp] noncomputable def aQ(tab:List (String×MF))(f:Str)(m:ME)(l:ML):ME:=λρ h=>(m ρ h).bind λd h1=>(oR (pC h1 d) h1).bind λo h2=>(oR (tab.lookup o.1) h2).bind λz h2=>chk (o.2.lookup f=none) ((l ρ h1).bind λds h3=>z (d::ds) h3)
@[simp] noncomputable def jh(c:String)(z:MF)(l:ML):ME:=λρ h=>(l ρ h).bind λds h1=>(z (.ref h1.length::ds) (h1++[some (.ins c [])])).bind λd h2=>match d with
 | .non=>match h2[h1.length]? with
  | some (some (.ins c' fs))=>.ok (.obj c' fs) (h2.set h1.length none)
  | _=>.stuck
 | _=>.stuck
@[simp] noncomputable def uB(c:String)(z:MF)(l:ML):ME:=λρ h=>(l ρ h).bind λds h1=>(z (.ref h1.length::ds) (h1++[some (.ins c [])])).bind λd h2=>match d with
 | .non=>.ok (.ref h1.length) h2
 | _=>.stuck
noncomputable def jX(ds:List D):List D:=ds.mapIdx λi d=>.tup [.int i,d]
@[simp] noncomputable def nj(m:ML):MI:=λρ h=>(m ρ h).bind λl h1=>match l with
 | [.lst xs]=>.ok (none,jX xs) h1
 | [.arg ns]=>.ok (none,jX (ns.map .int)) h1
 | _=>.stuck
noncomputable def Res.noX{α:Type}(r:Res α):Res α:=match r with
 | .ok a h=>.ok a h|.exc _ _=>.stuck|.stuck=>.stuck
@[simp] theorem GL{α:Type}{a:α}:(Res.ok a h).noX= .ok a h:=rfl
@[simp] theorem CC{α:Type}:(Res.exc c h:Res α).noX= .stuck:=rfl
@[simp] theorem uM{α:Type}:(Res.stuck:Res α).noX= .stuck:=rfl
@[simp] noncomputable def kC(l:ML):ML:=λρ h=>(l ρ h).noX
noncomputable def RS.noX:RS->RS
 | .exc _ _=>.stuck|r=>r
@[simp] theorem DB:(RS.nx ρ h).noX= .nx ρ h:=rfl
@[simp] theorem CV:(RS.rt d h).noX= .rt d h:=rfl
@[simp] theorem DO:(RS.bk ρ h).noX= .bk ρ h:=rfl
@[simp] theorem CH:(RS.ct ρ h).noX= .ct ρ h:=rfl
@[simp] theorem wI:(RS.exc c h).noX= .stuck:=rfl
@[simp] theorem so:RS.stuck.noX= .stuck:=rfl
noncomputable def RS.gone(i:Nat):RS->RS
 | .nx ρ h=>.nx (ρ.set i none) h|.bk ρ h=>.bk (ρ.set i none) h|.ct ρ h=>.ct (ρ.set i none) h|r=>r
@[simp] theorem C5:(RS.nx ρ h).gone i= .nx (ρ.set i none) h:=rfl
@[simp] theorem DU:(RS.rt d h).gone i= .rt d h:=rfl
@[simp] theorem CG:(RS.bk ρ h).gone i= .bk (ρ.set i none) h:=rfl
@[simp] theorem CJ:(RS.ct ρ h).gone i= .ct (ρ.set i none) h:=rfl
@[simp] theorem qW:RS.stuck.gone i= .stuck:=rfl
@[simp] noncomputable def tj(b:MS)(f:String->MS):MS:=λρ h=>match b ρ h with
 | .exc c h1=>f c ρ h1|r=>r
@[simp] noncomputable def An:String->MS:=λ_ _ _=> .stuck
@[simp] noncomputable def FF(tab:List (String×Bool))(i:Nat)(m:MS)(r:String->MS):String->MS:=λc ρ h=>match tab.lookup c with
 | some true=>((m (ρ.set i (some (.exc c))) h).noX).gone i
 | some false=>r c ρ h
 | none=>.stuck
@[simp] noncomputable def cV(tab:List ((String×Bool×String)×Bool)):List D->MH->Res D:=λl h=>match l with
 | [.exc c,.cls n]=>(oR (tab.lookup (c,true,n)) h).bind λb h=>.ok (.bl b) h
 | [.exc c,.ty n]=>(oR (tab.lookup (c,false,n)) h).bind λb h=>.ok (.bl b) h
 | _=>.stuck
mutual
noncomputable def D.bnd(n:Nat):D->Bool
 | .ref k=>k<n
 | .tup xs|.lst xs=>D.bnds n xs
 | .obj _ fs=>D.bndf n fs
 | _=>true
noncomputable def D.bnds(n:Nat):List D->Bool
 | []=>true
 | d::ds=>D.bnd n d&&D.bnds n ds
noncomputable def D.bndf(n:Nat):List (Str×D)->Bool
  | []=>true
  | (_,d)::ds=>D.bnd n d&&D.bndf n ds
end
noncomputable def Cell.bnd(n:Nat):Option Cell->Bool
 | none=>true
 | some (.lst xs)=>D.bnds n xs
 | some (.dct kvs)=>D.bnds n (kvs.map (·.2))
 | some (.fdc kvs)=>D.bnds n (kvs.map (·.2))
 | some (.ins _ fs)=>D.bnds n (fs.map (·.2))
@[simp] noncomputable def fin(n:Nat)(d:D)(h:MH):Res D:=
 if h.length<=n then .ok d h else if(d.bnd n&&(h.take n).all (Cell.bnd n))=true then .ok d (h.take n)else .ok d h
@[simp] noncomputable def aH(np nn:Nat)(b:MS):MF:=λds h=>if ds.length=np then match b (ds.map some++List.replicate (nn - ds.length) none) h with
 | .nx _ h1=>fin h.length .non h1
 | .rt d h1=>fin h.length d h1
 | .exc c h1=>if h1.length<=h.length then .exc c h1 else if(h1.take h.length).all (Cell.bnd h.length)=true then .exc c (h1.take h.length)else .exc c h1
 | _=>.stuck
 else .stuck
@[simp] noncomputable def kN(a b:ME):ML:=λρ h=>(a ρ h).bind λx h1=>(b ρ h1).bind λy h2=>(oR (g_ h2 x) h2).bind λxs h3=>(oR (g_ h3 y) h3).bind λys h4=>chk (xs.length+ys.length<=16777216) (.ok (xs++ys) h4)
@[simp] noncomputable def Bg:List (Sum Int Str×D)->Option (List Int)
  | []=>some []
  | (.inl i,_)::r=>(Bg r).map (i::·)
  | (.inr _,_)::_=>none
@[simp] noncomputable def oz(m:ME):ME:=λρ h=>(m ρ h).bind λd h1=>match d with
 | .int i=>.ok (.int (Builtin.Int.intBits i:Nat)) h1
 | _=>.stuck
@[simp] noncomputable def Hd(k:Nat)(kvs:List (Sum Int Str×D)):RS->RS
 | .nx ρ h=>match h[k]? with
  | some none=>.nx ρ (h.set k (some (.dct kvs)))
  | _=>.stuck
 | .rt d h=>match h[k]? with
  | some none=>.rt d (h.set k (some (.dct kvs)))
  | _=>.stuck
 | .exc c h=>.exc c h
 | _=>.stuck
@[simp] noncomputable def nY(mo:ME)(g:MG)(b:MS):MS:=λρ h=>(mo ρ h).toS λo h1=>match o with
 | .ref k=>match h1[k]? with
  | some (some (.dct kvs))=>Hd k kvs (dS g b (kvs.map (·.2)) ρ (h1.set k none))
  | _=>.stuck
 | _=>.stuck
noncomputable def xE(kvs:List (Sum Int Str×D))(k:Sum Int Str):List (Sum Int Str×D):=kvs.filter λkv=>decide (kv.1≠k)
@[simp] noncomputable def Jh(mo mk:ME):ME:=λρ h=>(mo ρ h).bind λo h1=>match o with
 | .ref k=>match h1[k]? with
  | some (some (.dct _))=>(mk ρ h1).bind λy h2=>match A0 y with
   | some j=>match h2[k]? with
    | some (some (.dct kvs))=>match dA kvs j with
     | some v=>.ok v (h2.set k (some (.dct (xE kvs j))))
     | none=>.stuck
    | _=>.stuck
   | none=>.stuck
  | _=>.stuck
 | _=>.stuck
noncomputable def xT(ns:List (Bool×String))(l:List (String×List Bool)):List ((String×Bool×String)×Bool):=l.flatMap λp=>(ns.zip p.2).map λq=>((p.1,q.1.1,q.1.2),q.2)
noncomputable def cD:List D->List D->List D
 | x::xs,y::ys=>.tup [x,y]::cD xs ys
 | _,_=>[]
@[simp] noncomputable def gY(m:ML):MI:=λρ h=>(m ρ h).bind λl h1=>match l with
 | [.lst xs,.lst ys]=>.ok (none,cD xs ys) h1
 | _=>.stuck
@[simp] noncomputable def rE:List D->MH->Res D:=λl h=>match l with
 | [d]=>(oR ((g_ h d).bind oV) h).bind λbs h=>.ok (.bl (bs.any id)) h
 | _=>.stuck
end Z
set_option maxHeartbeats 4000000
namespace L2
open PySem PySem.Spec
structure Ct where
 P:Program
 w:World
 K:W.Frag
 cm:String->Addr
noncomputable def fv:Z.D->Option V
 | .non=>some .non
 | .bl b=>some (.bl b)
 | .int i=>some (.int i)
 | .str x=>some (.str x)
 | _=>none
section
variable (C : Ct)
mutual
def RV(bs:List Addr)(G:Hp):V->Z.D->Prop
 | v,.non=>v=.non
 | v,.bl b=>v=.bl b
 | v,.int i=>v=.int i
 | v,.str x=>v=.str x
 | v,.tup ds=>∃a vs,v=.ref a/\G a=some (.tup vs)/\RVs bs G vs ds
 | v,.lst ds=>∃a vs,v=.ref a/\G a=some (.lst vs)/\RVs bs G vs ds
 | v,.arg ns=>∃a,v=.ref a/\SqL C.K G a (ns.map V.int)
 | v,.ref k=>∃a,v=.ref a/\bs[k]?=some a
 | v,.ty n=>v=.ty n
 | v,.cls n=>v=.ref (C.cm n)
 | v,.exc c=>∃a oe u,v=.ref a/\G a=some (.frz oe u)/\oe.cls=.ref (C.cm c)
 | v,.obj c fs=>∃a dx fvs,v=.ref a/\G a=some (.ins (C.cm c) dx fvs)/\RVf bs G fvs fs
 | v,.dic kvs=>∃a kws,v=.ref a/\Di C.P C.w C.K a kws/\kvs.map (λp=>(p.1,fv p.2))=kws.map (λp=>(p.1,some p.2))
def RVs(bs:List Addr)(G:Hp):List V->List Z.D->Prop
 | [],[]=>True
 | v::vs,d::ds=>RV bs G v d/\RVs bs G vs ds
 | _,_=>False
def RVf(bs:List Addr)(G:Hp):List (Str×V)->List (Str×Z.D)->Prop
  | [],[]=>True
  | (x,v)::vs,(y,d)::ds=>x=y/\RV bs G v d/\RVf bs G vs ds
  | _,_=>False
def RVk(bs:List Addr)(G:Hp):List (cH×V)->List (Sum Int Str×Z.D)->Prop
  | [],[]=>True
  | (x,v)::vs,(y,d)::ds=>x=y/\RV bs G v d/\RVk bs G vs ds
  | _,_=>False
end
end
theorem Same.sql(e:Same H H')(h:SqL K H a xs):SqL K H' a xs:=by
 rcases h with(h|⟨o,h⟩)|h
 ·exact .inl (.inl (e _ _ h))
 ·exact .inl (.inr ⟨o,e _ _ h⟩)
 ·exact .inr h
section
variable {C : Ct}
mutual
theorem RV.mono{bs bs':List Addr}{G G':Hp}(hb:∀(k:Nat) (a:Addr),bs[k]?=some a->bs'[k]?=some a)(hs:Same G G'):∀{d:Z.D} {v:V},RV C bs G v d->RV C bs' G' v d
 | .non,v,h=>by simp only[RV]at h ⊢;exact h
 | .bl b,v,h=>by simp only[RV]at h ⊢;exact h
 | .int i,v,h=>by simp only[RV]at h ⊢;exact h
 | .str x,v,h=>by simp only[RV]at h ⊢;exact h
 | .tup ds,v,h=>by
  simp only[RV]at h ⊢;obtain⟨a,vs,h1,h2,h3⟩:=h;exact⟨a,vs,h1,hs _ _ h2,RVs.mono hb hs h3⟩
 | .lst ds,v,h=>by
  simp only[RV]at h ⊢;obtain⟨a,vs,h1,h2,h3⟩:=h;exact⟨a,vs,h1,hs _ _ h2,RVs.mono hb hs h3⟩
 | .arg ns,v,h=>by
  simp only[RV]at h ⊢;obtain⟨a,h1,h2⟩:=h;exact⟨a,h1,hs.sql h2⟩
 | .ref k,v,h=>by
  simp only[RV]at h ⊢;obtain⟨a,h1,h2⟩:=h;exact⟨a,h1,hb _ _ h2⟩
 | .ty n,v,h=>by simp only[RV]at h ⊢;exact h
 | .cls n,v,h=>by simp only[RV]at h ⊢;exact h
 | .exc n,v,h=>by
  simp only[RV]at h ⊢;obtain⟨a,oe,u,h1,h2,h3⟩:=h;exact⟨a,oe,u,h1,hs _ _ h2,h3⟩
 | .obj c fs,v,h=>by
  simp only[RV]at h ⊢;obtain⟨a,dx,fvs,h1,h2,h3⟩:=h;exact⟨a,dx,fvs,h1,hs _ _ h2,RVf.mono hb hs h3⟩
 | .dic kvs,v,h=>by simp only[RV]at h ⊢;exact h
theorem RVs.mono{bs bs':List Addr}{G G':Hp}(hb:∀(k:Nat) (a:Addr),bs[k]?=some a->bs'[k]?=some a)(hs:Same G G'):∀{ds:List Z.D} {vs:List V},RVs C bs G vs ds->RVs C bs' G' vs ds
 | [],[],_=>by simp only[RVs]
 | d::ds,v::vs,h=>by
  simp only[RVs]at h ⊢;exact⟨RV.mono hb hs h.1,RVs.mono hb hs h.2⟩
 | [],_::_,h=>by simp only[RVs]at h
 | _::_,[],h=>by simp only[RVs]at h
theorem RVf.mono{bs bs':List Addr}{G G':Hp}(hb:∀(k:Nat) (a:Addr),bs[k]?=some a->bs'[k]?=some a)(hs:Same G G'):∀{ds:List (Str×Z.D)} {vs:List (Str×V)},RVf C bs G vs ds->RVf C bs' G' vs ds
  | [],[],_=>by simp only[RVf]
  | (y,d)::ds,(x,v)::vs,h=>by
    simp only[RVf]at h ⊢;exact⟨h.1,RV.mono hb hs h.2.1,RVf.mono hb hs h.2.2⟩
  | [],_::_,h=>by simp only[RVf]at h
  | _::_,[],h=>by simp only[RVf]at h
theorem RVk.mono{bs bs':List Addr}{G G':Hp}(hb:∀(k:Nat) (a:Addr),bs[k]?=some a->bs'[k]?=some a)(hs:Same G G'):∀{ds:List (Sum Int Str×Z.D)} {vs:List (cH×V)},RVk C bs G vs ds->RVk C bs' G' vs ds
  | [],[],_=>by simp only[RVk]
  | (y,d)::ds,(x,v)::vs,h=>by
    simp only[RVk]at h ⊢;exact⟨h.1,RV.mono hb hs h.2.1,RVk.mono hb hs h.2.2⟩
  | [],_::_,h=>by simp only[RVk]at h
  | _::_,[],h=>by simp only[RVk]at h
end
def lv(bs:List Addr)(h:Z.MH)(a:Addr):Prop:=∃(k:Nat) (c:Z.Cell),bs[k]?=some a/\h[k]?=some (some c)/\c.live=true
open Classical in
noncomputable def gh(ex bs:List Addr)(h:Z.MH)(H:Hp):Hp:=λa=>if a∈ex\/lv bs h a then none else H a
theorem dQ:gh ex bs h H a=some o↔a∉ex/\¬lv bs h a/\H a=some o:=by
 unfold gh;by_cases q:a∈ex\/lv bs h a
 ·rw[if_pos q]
  constructor
  ·intro z;cases z
  ·rintro⟨h1,h2,_⟩
   rcases q with q|q
   ·exact absurd q h1
   ·exact absurd q h2
 ·rw[if_neg q]
  exact⟨λz=>⟨λm=>q (.inl m),λm=>q (.inr m),z⟩,λz=>z.2.2⟩
theorem cC:Same (gh ex bs h H) H:=λa o e=>(dQ.mp e).2.2
def jew(C:Ct)(bs:List Addr)(G H:Hp)(a:Addr):Z.Cell->Prop
 | .lst ds=>∃vs,H a=some (.lst vs)/\RVs C bs G vs ds
 | .dct kvs=>∃kws,H a=some (.dK kws)/\RVk C bs G kws kvs
 | .ins c fs=>∃dx fvs,H a=some (.ins (C.cm c) dx fvs)/\RVf C bs G fvs fs
 | .fdc kvs=>∃o kws,G a=some (.frz o (.dK kws))/\o.cls=.type "dict"/\RVk C bs G kws kvs
theorem jew.mono(hb:∀(k:Nat) (a:Addr),bs[k]?=some a->bs'[k]?=some a)(hs:Same G G')(e:H' a=H a)(h:jew C bs G H a c):jew C bs' G' H' a c:=by
 cases c with
 | lst ds=>obtain⟨vs,h1,h2⟩:=h;exact⟨vs,by rw[e];exact h1,h2.mono hb hs⟩
 | dct kvs=>obtain⟨vs,h1,h2⟩:=h;exact⟨vs,by rw[e];exact h1,h2.mono hb hs⟩
 | ins c fs=>obtain⟨dx,vs,h1,h2⟩:=h;exact⟨dx,vs,by rw[e];exact h1,h2.mono hb hs⟩
 | fdc kvs=>obtain⟨o,vs,h1,hc,h2⟩:=h;exact⟨o,vs,hs _ _ h1,hc,h2.mono hb hs⟩
structure HR (C:Ct) (ex bs:List Addr) (h:Z.MH) (H:Hp):Prop where
 len:bs.length=h.length
 inj:∀(i j:Nat) (a:Addr),bs[i]?=some a->bs[j]?=some a->i=j
 sep:∀a∈ex,a∉bs
 dom:∀a∈bs,H a≠none
 domx:∀a∈ex,H a≠none
 cell:∀(k:Nat) (a:Addr) (c:Z.Cell),bs[k]?=some a->h[k]?=some (some c)->jew C bs (gh ex bs h H) H a c
structure Ev (C:Ct) (ex bs:List Addr) (h:Z.MH) (H:Hp) (bs':List Addr) (h':Z.MH) (H':Hp):Prop where
 pre:∀(k:Nat) (a:Addr),bs[k]?=some a->bs'[k]?=some a
 hr:HR C ex bs' h' H'
 same:Same (gh ex bs h H) (gh ex bs' h' H')
 exs:∀a∈ex,H' a=H a
variable {ex bs bs1 bs2 : List Addr} {h h1 h2 : Z.MH} {H H1 H2 : Hp}
theorem Ev.refl(r:HR C ex bs h H):Ev C ex bs h H bs h H:=⟨λ_ _ e=>e,r,Same.refl _,λ_ _=>rfl⟩
theorem Ev.trans(a:Ev C ex bs h H bs1 h1 H1)(b:Ev C ex bs1 h1 H1 bs2 h2 H2):Ev C ex bs h H bs2 h2 H2:=
 ⟨λk x e=>b.pre k x (a.pre k x e),b.hr,a.same.trans b.same,λx hx=>(b.exs x hx).trans (a.exs x hx)⟩
theorem RV.ev(e:Ev C ex bs h H bs1 h1 H1)(r:RV C bs (gh ex bs h H) v d):RV C bs1 (gh ex bs1 h1 H1) v d:=r.mono e.pre e.same
theorem RVs.ev(e:Ev C ex bs h H bs1 h1 H1)(r:RVs C bs (gh ex bs h H) v d):RVs C bs1 (gh ex bs1 h1 H1) v d:=r.mono e.pre e.same
def RE(C:Ct)(bs:List Addr)(G:Hp)(ρ:Z.Ro)(σ:St):Prop:=ρ.length=σ.length/\∀(i:Nat) (d:Z.D),ρ[i]?=some (some d)->∃v,σ[i]?=some (some v)/\RV C bs G v d
theorem RE.ev(e:Ev C ex bs h H bs1 h1 H1)(r:RE C bs (gh ex bs h H) ρ σ):RE C bs1 (gh ex bs1 h1 H1) ρ σ:=
 ⟨r.1,λi d q=>by obtain⟨v,h1,h2⟩:=r.2 i d q;exact⟨v,h1,h2.ev e⟩⟩
theorem RE.set(r:RE C bs G ρ σ)(q:RV C bs G v d):RE C bs G (ρ.set i (some d)) (σ.set i (some v)):=by
 refine⟨by simp[r.1],λj e hj=> ?_⟩;by_cases hij:i=j
 ·subst hij
  rw[List.getElem?_set_self']at hj;have hl:i<ρ.length:=by
   by_cases hl:i<ρ.length
   ·exact hl
   ·rw[wm (by omega)]at hj;simp at hj
  rw[z6 hl]at hj;simp at hj;subst hj;refine⟨v,?_,q⟩;rw[qq (by rw[<-r.1];exact hl)]
 ·rw[qm hij]at hj
  obtain⟨u,h1,h2⟩:=r.2 j e hj;exact⟨u,by rw[qm hij];exact h1,h2⟩
def Post(C:Ct)(ex:List Addr)(E:XK)(bs:List Addr)(h:Z.MH)(H:Hp){α β:Type}(R:List Addr->Hp->β->α->Prop)(r:Z.Res α)(Q:β->Hp->Prop):Prop:=match r with
 | .ok a h'=>∀b bs' H',Ev C ex bs h H bs' h' H'->R bs' (gh ex bs' h' H') b a->Q b H'
 | .exc c h'=>∀bs' H',Ev C ex bs h H bs' h' H'->E (.ref (C.cm c)) none H'
 | .stuck=>False
variable {E : XK} {α β γ δ : Type} {R : List Addr -> Hp -> β -> α -> Prop} {R1 : List Addr -> Hp -> β -> α -> Prop} {R3 : List Addr -> Hp -> δ -> γ -> Prop}
theorem Post.from{Q:β->Hp->Prop}(e:Ev C ex bs h H bs1 h1 H1)(p:Post C ex E bs h H R r Q):Post C ex E bs1 h1 H1 R r Q:=by
 cases r with
 | ok a h'=>exact λb bs' H' e' q=>p b bs' H' (e.trans e') q
 | exc c h'=>exact λbs' H' e'=>p bs' H' (e.trans e')
 | stuck=>exact p
theorem Post.bind{f:α->Z.MH->Z.Res γ}{Q:δ->Hp->Prop}{Q1:β->Hp->Prop}(p:Post C ex E bs h H R3 (r.bind f) Q)
  (k:∀a b h1 bs1 H1,Ev C ex bs h H bs1 h1 H1->R1 bs1 (gh ex bs1 h1 H1) b a->Post C ex E bs1 h1 H1 R3 (f a h1) Q->Q1 b H1):Post C ex E bs h H R1 r Q1:=by
 cases r with
 | ok a h'=>exact λb bs' H' e' q=>k a b h' bs' H' e' q (Post.from e' p)
 | exc c h'=>exact p
 | stuck=>exact p
theorem Post.now{Q:β->Hp->Prop}(hr:HR C ex bs h H)(p:Post C ex E bs h H R (.ok a h) Q)(q:R bs (gh ex bs h H) b a):Q b H:=p b bs H (Ev.refl hr) q
theorem Post.chk{c:Prop}[Decidable c]{r:Z.Res α}{Q:β->Hp->Prop}(p:Post C ex E bs h H R (Z.chk c r) Q):c/\Post C ex E bs h H R r Q:=by
 unfold Z.chk at p;by_cases q:c
 ·rw[if_pos q]at p;exact⟨q,p⟩
 ·rw[if_neg q]at p;exact p.elim
theorem Post.oR{f:α->Z.MH->Z.Res γ}{Q:δ->Hp->Prop}(p:Post C ex E bs h H R3 ((Z.oR o h1).bind f) Q):∃a,o=some a/\Post C ex E bs h H R3 (f a h1) Q:=by
 cases o with
 | none=>exact p.elim
 | some a=>exact⟨a,rfl,p⟩
theorem Post.oR1{Q:β->Hp->Prop}(p:Post C ex E bs h H R (Z.oR o h1) Q):∃a,o=some a/\Post C ex E bs h H R (.ok a h1) Q:=by
 cases o with
 | none=>exact p.elim
 | some a=>exact⟨a,rfl,p⟩
def uZ(C:Ct)(E:XK){α β:Type}(R:List Addr->Hp->β->α->Prop)(t:St->Hp->(β->Hp->Prop)->Prop)(m:Z.Ro->Z.MH->Z.Res α):Prop:=
 ∀(ex bs:List Addr) (h:Z.MH) (ρ:Z.Ro) (σ:St) (H:Hp) (Q:β->Hp->Prop),HR C ex bs h H->RE C bs (gh ex bs h H) ρ σ->Post C ex E bs h H R (m ρ h) Q->t σ H Q
abbrev SE(C:Ct)(E:XK)(t:TE)(m:Z.ME):Prop:=uZ C E (RV C) t m
abbrev SA(C:Ct)(E:XK)(t:TA)(m:Z.ML):Prop:=uZ C E (RVs C) t m
def G5{α:Type}:List Addr->Hp->α->α->Prop:=λ_ _ b a=>b=a
abbrev ST(C:Ct)(E:XK)(t:TT)(m:Z.MT):Prop:=uZ C E G5 t m
abbrev SO(C:Ct)(E:XK)(t:TO)(m:Z.MO):Prop:=uZ C E G5 t m
def S2(C:Ct)(r:R2)(f:Z.B2):Prop:=∀(ex bs:List Addr) (h:Z.MH) (H:Hp) (E:XK) (x y:V) (dx dy:Z.D) (Q:VK),HR C ex bs h H->RV C bs (gh ex bs h H) x dx->RV C bs (gh ex bs h H) y dy->Post C ex E bs h H (RV C) (f dx dy h) Q->r x y H Q
def S1(C:Ct)(r:V->Hp->VK->Prop)(f:Z.D->Z.MH->Z.Res Z.D):Prop:=∀(ex bs:List Addr) (h:Z.MH) (H:Hp) (E:XK) (x:V) (dx:Z.D) (Q:VK),HR C ex bs h H->RV C bs (gh ex bs h H) x dx->Post C ex E bs h H (RV C) (f dx h) Q->r x H Q
def SL(C:Ct)(r:List V->Hp->VK->Prop)(f:List Z.D->Z.MH->Z.Res Z.D):Prop:=∀(ex bs:List Addr) (h:Z.MH) (H:Hp) (E:XK) (xs:List V) (ds:List Z.D) (Q:VK),HR C ex bs h H->RVs C bs (gh ex bs h H) xs ds->Post C ex E bs h H (RV C) (f ds h) Q->r xs H Q
theorem aj:SE C E (sP i) (Z.aa i):=by
 intro ex bs h ρ σ H Q hr re p;unfold Z.aa at p;cases q:ρ[i]? with
 | none=>rw[q]at p;exact p.elim
 | some o=>
  cases o with
  | none=>rw[q]at p;exact p.elim
  | some d=>
   rw[q]at p;obtain⟨v,h1,h2⟩:=re.2 i d q;exact⟨v,h1,p.now hr h2⟩
theorem eG(q:∀bs G,RV C bs G v d):SE C E (tC v) (Z.mC d):=λex bs h ρ σ H Q hr re p=>Post.now hr p (q _ _)
theorem aB:SE C E (tC (.int i)) (Z.mC (.int i)):=eG λ_ _=>by simp only[RV]
theorem ay:SE C E (tC (.str i)) (Z.mC (.str i)):=eG λ_ _=>by simp only[RV]
theorem cI:SE C E (tC (.bl i)) (Z.mC (.bl i)):=eG λ_ _=>by simp only[RV]
theorem El:SE C E (tC .non) (Z.mC .non):=eG λ_ _=>by simp only[RV]
theorem Hf:SE C E (tC (.ty n)) (Z.mC (.ty n)):=eG λ_ _=>by simp only[RV]
theorem ah(o:S2 C r f)(ha:SE C E ta ma)(hb:SE C E tb mb):SE C E (nc r ta tb) (Z.ae f ma mb):=by
 intro ex bs h ρ σ H Q hr re p;refine ha ex bs h ρ σ H _ hr re (p.bind λdx x h1 bs1 H1 e1 rx p1=> ?_);refine hb ex bs1 h1 ρ σ H1 _ e1.hr (re.ev e1) (p1.bind λdy y h2 bs2 H2 e2 ry p2=> ?_);exact o ex bs2 h2 H2 E x y dx dy Q e2.hr (rx.ev e2) ry p2
theorem ja{r:V->Hp->VK->Prop}{f:Z.D->Z.MH->Z.Res Z.D}(o:S1 C r f)(ha:SE C E ta ma):SE C E (HK r ta) (Z.gD f ma):=by
 intro ex bs h ρ σ H Q hr re p;refine ha ex bs h ρ σ H _ hr re (p.bind λdx x h1 bs1 H1 e1 rx p1=> ?_);exact o ex bs1 h1 H1 E x dx Q e1.hr rx p1
theorem av:SA C E iZ Z.af:=λex bs h ρ σ H Q hr re p=>Post.now hr p (by simp only[RVs])
theorem ao(ha:SE C E ta ma)(hl:SA C E tl ml):SA C E (FR ta tl) (Z.ag ma ml):=by
 intro ex bs h ρ σ H Q hr re p;refine ha ex bs h ρ σ H _ hr re (p.bind λdx x h1 bs1 H1 e1 rx p1=> ?_);refine hl ex bs1 h1 ρ σ H1 _ e1.hr (re.ev e1) (p1.bind λdy y h2 bs2 H2 e2 ry p2=> ?_);exact Post.now e2.hr p2 (by simp only[RVs];exact⟨rx.ev e2,ry⟩)
theorem aP{r:List V->Hp->VK->Prop}{f:List Z.D->Z.MH->Z.Res Z.D}(o:SL C r f)(hl:SA C E tl ml):SE C E (Eb r tl) (Z.bz f ml):=by
 intro ex bs h ρ σ H Q hr re p;refine hl ex bs h ρ σ H _ hr re (p.bind λdx x h1 bs1 H1 e1 rx p1=> ?_);exact o ex bs1 h1 H1 E x dx Q e1.hr rx p1
theorem RVs.len:∀{ds:List Z.D} {vs:List V},RVs C bs G vs ds->vs.length=ds.length
 | [],[],_=>rfl
 | d::ds,v::vs,h=>by simp only[RVs]at h;simp[RVs.len h.2]
 | [],_::_,h=>by simp only[RVs]at h
 | _::_,[],h=>by simp only[RVs]at h
theorem Ev.alloc(hr:HR C ex bs h H)(hp:H p=none):Ev C ex bs h H bs h (a9 H p o)/\gh ex bs h (a9 H p o) p=some o:=by
 have nx:p∉ex:=λm=>hr.domx p m hp;have nb:p∉bs:=λm=>hr.dom p m hp;have nl:¬lv bs h p:=λ⟨k,c,e,_⟩=>nb (qt e);have ne:∀{a},H a≠none->a≠p:=fun{a} q e=>q (by rw[e];exact hp);have sm:Same (gh ex bs h H) (gh ex bs h (a9 H p o)):=λa u e=>by
  obtain⟨h1,h2,h3⟩:=dQ.mp e;exact dQ.mpr ⟨h1,h2,by rw[br (ne (by rw[h3];exact λz=>nomatch z))];exact h3⟩
 refine⟨⟨λ_ _ e=>e,⟨hr.len,hr.inj,hr.sep,λa m=> ?_,λa m=> ?_,λk a c e1 e2=> ?_⟩,sm,λa m=> ?_⟩,dQ.mpr ⟨nx,nl,dG⟩⟩
 ·rw[br (ne (hr.dom a m))];exact hr.dom a m
 ·rw[br (ne (hr.domx a m))];exact hr.domx a m
 ·exact(hr.cell k a c e1 e2).mono (λ_ _ e=>e) sm (by rw[br (ne (hr.dom a (qt e1)))])
 ·rw[br (ne (hr.domx a m))]
theorem vf(hl:SA C E tl ml):SE C E (vG tl) (Z.dJ ml):=by
 intro ex bs h ρ σ H Q hr re p;refine hl ex bs h ρ σ H _ hr re (p.bind λds xs h1 bs1 H1 e1 rx p1=> ?_);obtain⟨hz,p1⟩:=p1.chk;refine⟨by rw[rx.len];exact hz,λa ha=> ?_⟩;obtain⟨e2,g⟩:=Ev.alloc (o:=.tup xs) e1.hr ha;exact p1 (.ref a) bs1 _ e2 (by simp only[RV];exact⟨a,xs,rfl,g,rx.ev e2⟩)
def jdc(C:Ct)(ex:List Addr)(E:XK)(bs:List Addr)(h:Z.MH)(H:Hp)(r:Z.Res (List Z.D))(Q:VK):Prop:=match r with
 | .ok ds h'=>∀p vs bs' H1,Ev C ex bs h H bs' h' H1->H1 p=none->RVs C bs' (gh ex bs' h' H1) vs ds->Q (.ref p) (a9 H1 p (.lst vs))
 | .exc c h'=>∀bs' H',Ev C ex bs h H bs' h' H'->E (.ref (C.cm c)) none H'
 | .stuck=>False
def SN(C:Ct)(E:XK)(t:TE)(m:Z.ML):Prop:=
 ∀(ex bs:List Addr) (h:Z.MH) (ρ:Z.Ro) (σ:St) (H:Hp) (Q:VK),HR C ex bs h H->RE C bs (gh ex bs h H) ρ σ->jdc C ex E bs h H (m ρ h) Q->t σ H Q
theorem jdc.from(e:Ev C ex bs h H bs1 h1 H1)(p:jdc C ex E bs h H r Q):jdc C ex E bs1 h1 H1 r Q:=by
 cases r with
 | ok a h'=>exact λb vs bs' H' e' hn q=>p b vs bs' H' (e.trans e') hn q
 | exc c h'=>exact λbs' H' e'=>p bs' H' (e.trans e')
 | stuck=>exact p
theorem jdc.bind{f:α->Z.MH->Z.Res (List Z.D)}{Q1:β->Hp->Prop}(p:jdc C ex E bs h H (r.bind f) Q)
  (k:∀a b h1 bs1 H1,Ev C ex bs h H bs1 h1 H1->R1 bs1 (gh ex bs1 h1 H1) b a->jdc C ex E bs1 h1 H1 (f a h1) Q->Q1 b H1):Post C ex E bs h H R1 r Q1:=by
 cases r with
 | ok a h'=>exact λb bs' H' e' q=>k a b h' bs' H' e' q (jdc.from e' p)
 | exc c h'=>exact p
 | stuck=>exact p
theorem jdc.chk{c:Prop}[Decidable c]{r:Z.Res (List Z.D)}{Q:VK}(p:jdc C ex E bs h H (Z.chk c r) Q):c/\jdc C ex E bs h H r Q:=by
 unfold Z.chk at p;by_cases q:c
 ·rw[if_pos q]at p;exact⟨q,p⟩
 ·rw[if_neg q]at p;exact p.elim
theorem jdc.now(hr:HR C ex bs h H)(q:jdc C ex E bs h H (.ok ds h) Q)(hp:H p=none)(r:RVs C bs (gh ex bs h H) vs ds):Q (.ref p) (a9 H p (.lst vs)):=q p vs bs H (Ev.refl hr) hp r
theorem bF(hn:SN C E t m):SE C E t (Z.aZ m):=by
 intro ex bs h ρ σ H Q hr re p;refine hn ex bs h ρ σ H Q hr re ?_;unfold Z.aZ at p;cases e:m ρ h with
 | ok ds h1=>
  rw[e]at p;intro a vs bs1 H1 e1 ha rv;obtain⟨e2,g⟩:=Ev.alloc (o:=.lst vs) e1.hr ha;exact p (.ref a) bs1 _ (e1.trans e2) (by simp only[RV];exact⟨a,vs,rfl,g,rv.ev e2⟩)
 | exc c h1=>rw[e]at p;exact p
 | stuck=>rw[e]at p;exact p
theorem O7{α:Type}{l:List α}{a x:α}{k:Nat}(e:l[k]?=some a):(l++[x])[k]?=some a:=by
 rw[z8 (qb.mp e).1];exact e
theorem nT{α:Type}{l:List α}{a x:α}(e:(l++[x])[k]?=some a):l[k]?=some a\/(k=l.length/\a=x):=by
 by_cases hk:k<l.length
 ·rw[z8 hk]at e;exact .inl e
 ·rw[ze (by omega)]at e
  by_cases hk2:k=l.length
  ·subst hk2;simp at e;exact .inr ⟨rfl,e.symm⟩
  ·rw[wm (by simp;omega)]at e;cases e
theorem Ev.cell(hr:HR C ex bs h H)(hp:H p=none)(hc:jew C bs (gh ex bs h H) (a9 H p o) p c):Ev C ex bs h H (bs++[p]) (h++[some c]) (a9 H p o):=by
 have nx:p∉ex:=λm=>hr.domx p m hp;have nb:p∉bs:=λm=>hr.dom p m hp;have ne:∀{a},H a≠none->a≠p:=fun{a} q e=>q (by rw[e];exact hp);have hb:∀(k:Nat) (a:Addr),bs[k]?=some a->(bs++[p])[k]?=some a:=λk a e=>O7 e;have lvs:∀a,lv (bs++[p]) (h++[some c]) a->lv bs h a\/a=p:=λa ⟨k,c',e1,e2,l2⟩=>by
  rcases nT e1 with e1|⟨_,e1⟩
  ·rcases nT e2 with e2|⟨e2,_⟩
   ·exact .inl ⟨k,c',e1,e2,l2⟩
   ·have:=(qb.mp e1).1
    have:=hr.len;omega
  ·exact .inr e1
 have sm:Same (gh ex bs h H) (gh ex (bs++[p]) (h++[some c]) (a9 H p o)):=λa u e=>by
  obtain⟨h1,h2,h3⟩:=dQ.mp e;have na:a≠p:=ne (by rw[h3];exact λz=>nomatch z);refine dQ.mpr ⟨h1,λl=> ?_,by rw[br na];exact h3⟩;rcases lvs a l with l|l
  ·exact h2 l
  ·exact na l
 refine⟨hb,⟨by simp[hr.len],λi j a e1 e2=> ?_,λa m=> ?_,λa m=> ?_,λa m=> ?_,λk a c' e1 e2=> ?_⟩,sm,λa m=> ?_⟩
 ·rcases nT e1 with e1|⟨k1,e1⟩
  ·rcases nT e2 with e2|⟨k2,e2⟩
   ·exact hr.inj i j a e1 e2
   ·rw[e2]at e1;exact absurd (qt e1) nb
  ·rcases nT e2 with e2|⟨k2,e2⟩
   ·rw[e1]at e2;exact absurd (qt e2) nb
   ·omega
 ·intro z
  rcases zb.mp z with z|z
  ·exact hr.sep a m z
  ·exact nx (by rw[<-(show a=p by simpa using z)];exact m)
 ·rcases zb.mp m with m|m
  ·rw[br (ne (hr.dom a m))];exact hr.dom a m
  ·rw[show a=p by simpa using m,dG];exact λz=>nomatch z
 ·rw[br (ne (hr.domx a m))];exact hr.domx a m
 ·rcases nT e1 with e1|⟨k1,e1⟩
  ·rcases nT e2 with e2|⟨k2,e2⟩
   ·exact(hr.cell k a c' e1 e2).mono hb sm (by rw[br (ne (hr.dom a (qt e1)))])
   ·have:=(qb.mp e1).1
    have:=hr.len;omega
  ·rcases nT e2 with e2|⟨k2,e2⟩
   ·have:=(qb.mp e2).1
    have:=hr.len;omega
   ·rw[e1]
    injection e2 with e2;subst e2;exact hc.mono hb sm rfl
 ·rw[br (ne (hr.domx a m))]
theorem Gk(hn:SN C E t m):SE C E t (Z.uf m):=by
 intro ex bs h ρ σ H Q hr re p;refine hn ex bs h ρ σ H Q hr re ?_;unfold Z.uf at p;cases e:m ρ h with
 | ok ds h1=>
  rw[e]at p;intro a vs bs1 H1 e1 ha rv;have e2:=Ev.cell (o:=.lst vs) (c:=.lst ds) e1.hr ha ⟨vs,dG,rv⟩;refine p (.ref a) (bs1++[a]) _ (e1.trans e2) ?_;simp only[RV];exact⟨a,rfl,by rw[<-e1.hr.len];simp⟩
 | exc c h1=>rw[e]at p;exact p
 | stuck=>rw[e]at p;exact p
theorem bZ(hl:SA C E tl ml):SN C E (zF tl) (Z.bO ml):=by
 intro ex bs h ρ σ H Q hr re p;refine hl ex bs h ρ σ H _ hr re (jdc.bind p λds xs h1 bs1 H1 e1 rx p1=> ?_);obtain⟨hz,p1⟩:=p1.chk;exact⟨by rw[rx.len];exact hz,λa ha=>p1.now e1.hr ha rx⟩
theorem JB(hk:bs[k]?=some a)(h0:h[k]?=some (some c0))(l1:c.live=true)(l0:c0.live=true):lv bs (h.set k (some c)) x↔lv bs h x:=by
 constructor
 ·rintro⟨j,c',e1,e2,l2⟩
  by_cases hj:k=j
  ·subst hj;exact⟨k,c0,e1,h0,l0⟩
  ·rw[qm hj]at e2;exact⟨j,c',e1,e2,l2⟩
 ·rintro⟨j,c',e1,e2,l2⟩
  by_cases hj:k=j
  ·subst hj;exact⟨k,c,e1,by rw[qq (qb.mp h0).1],l1⟩
  ·exact⟨j,c',e1,by rw[qm hj];exact e2,l2⟩
theorem Ev.put{k:Nat}{a:Addr}{o:HO}{c c0:Z.Cell}(hr:HR C ex bs h H)(hk:bs[k]?=some a)(h0:h[k]?=some (some c0))(hc:jew C bs (gh ex bs h H) (a9 H a o) a c)(l1:c.live=true:=by rfl)(l0:c0.live=true:=by rfl):
  Ev C ex bs h H bs (h.set k (some c)) (a9 H a o):=by
 have la:lv bs h a:=⟨k,c0,hk,h0,l0⟩;have ab:a∈bs:=qt hk;have ge:gh ex bs (h.set k (some c)) (a9 H a o)=gh ex bs h H:=by
  funext x;unfold gh;by_cases q:x∈ex\/lv bs h x
  ·rw[if_pos q,if_pos (q.imp id (JB hk h0 l1 l0).mpr)]
  ·rw[if_neg q,if_neg (λz=>q (z.imp id (JB hk h0 l1 l0).mp)),br (λz=>q (.inr (by rw[z];exact la)))]
 have na:∀{x},x∈ex->x≠a:=fun{x} m z=>hr.sep x m (by rw[z];exact ab);refine⟨λ_ _ e=>e,⟨by simp[hr.len],hr.inj,hr.sep,λx m=> ?_,λx m=> ?_,λj x c' e1 e2=> ?_⟩,by rw[ge];exact Same.refl _,λx m=>by rw[br (na m)]⟩
 ·by_cases q:x=a
  ·rw[q,dG];exact λz=>nomatch z
  ·rw[br q];exact hr.dom x m
 ·rw[br (na m)];exact hr.domx x m
 ·rw[ge]
  by_cases hj:k=j
  ·subst hj
   rw[hk]at e1;cases e1;rw[qq (qb.mp h0).1]at e2;cases e2;exact hc
  ·rw[qm hj]at e2
   refine(hr.cell j x c' e1 e2).mono (λ_ _ e=>e) (Same.refl _) ?_;rw[br (λz=>hj (hr.inj k j a hk (by rw[<-z];exact e1)))]
theorem Ev.freeze(hr:HR C ex bs h H)(hk:bs[k]?=some a)(h0:h[k]?=some (some (.lst ds))):
  Ev C ex bs h H bs (h.set k none) H/\RV C bs (gh ex bs (h.set k none) H) (.ref a) (.lst ds):=by
 have ab:a∈bs:=qt hk;have lvs:∀x,lv bs (h.set k none) x->lv bs h x/\x≠a:=λx ⟨j,c',e1,e2,l2⟩=>by
  by_cases hj:k=j
  ·subst hj;rw[qq (qb.mp h0).1]at e2;cases e2
  ·rw[qm hj]at e2
   exact⟨⟨j,c',e1,e2,l2⟩,λz=>hj (hr.inj k j a hk (by rw[<-z];exact e1))⟩
 have sm:Same (gh ex bs h H) (gh ex bs (h.set k none) H):=λx u e=>by
  obtain⟨h1,h2,h3⟩:=dQ.mp e;exact dQ.mpr ⟨h1,λl=>h2 (lvs x l).1,h3⟩
 obtain⟨vs,h1,h2⟩:=hr.cell k a _ hk h0;refine⟨⟨λ_ _ e=>e,⟨by simp[hr.len],hr.inj,hr.sep,hr.dom,hr.domx,λj x c' e1 e2=> ?_⟩,sm,λ_ _=>rfl⟩,?_⟩
 ·by_cases hj:k=j
  ·subst hj;rw[qq (qb.mp h0).1]at e2;cases e2
  ·rw[qm hj]at e2
   exact(hr.cell j x c' e1 e2).mono (λ_ _ e=>e) sm rfl
 ·simp only[RV]
  exact⟨a,vs,rfl,dQ.mpr ⟨λm=>hr.sep a m ab,λl=>(lvs a l).2 rfl,h1⟩,h2.mono (λ_ _ e=>e) sm⟩
noncomputable def bG(C:Ct)(z:Z.MF):Sp:=λvs H Q E=>∃ex bs h ds,HR C ex bs h H/\RVs C bs (gh ex bs h H) vs ds/\Post C ex E bs h H (RV C) (z ds h) Q
theorem bW(hl:SA C E tl ml):SE C E (Eo (bG C z) [] E tl) (Z.aY z ml):=by
 intro ex bs h ρ σ H Q hr re p;refine hl ex bs h ρ σ H _ hr re (p.bind λds xs h1 bs1 H1 e1 rx p1=> ?_);exact⟨ex,bs1,h1,ds,e1.hr,by rw[zr];exact rx,p1⟩
theorem Gc(h0:SE C E t m):ST C E (tB t) (Z.tB m):=by
 intro ex bs h ρ σ H Q hr re p;refine h0 ex bs h ρ σ H _ hr re (p.bind λd x h1 bs1 H1 e1 rx p1=> ?_);cases d with
 | bl b=>simp only[RV]at rx;exact⟨b,rx,Post.now e1.hr p1 rfl⟩
 | _=>exact p1.elim
theorem bQ(h0:SE C E t m):ST C E (Gs t) (Z.tB m):=Gc h0
theorem mE(ht:ST C E t m)(hu:ST C E u n):ST C E (cS t u) (Z.cS m n):=by
 intro ex bs h ρ σ H Q hr re p;refine ht ex bs h ρ σ H _ hr re (p.bind λc b h1 bs1 H1 e1 rx p1=> ?_);cases rx;cases c with
 | true=>exact hu ex bs1 h1 ρ σ H1 Q e1.hr (re.ev e1) p1
 | false=>exact Post.now e1.hr p1 rfl
theorem uA(ht:ST C E t m)(hu:ST C E u n):ST C E (kA t u) (Z.kA m n):=by
 intro ex bs h ρ σ H Q hr re p;refine ht ex bs h ρ σ H _ hr re (p.bind λc b h1 bs1 H1 e1 rx p1=> ?_);cases rx;cases c with
 | false=>exact hu ex bs1 h1 ρ σ H1 Q e1.hr (re.ev e1) p1
 | true=>exact Post.now e1.hr p1 rfl
theorem kF(ht:ST C E t m):ST C E (cX t) (Z.cX m):=by
 intro ex bs h ρ σ H Q hr re p;refine ht ex bs h ρ σ H _ hr re (p.bind λc b h1 bs1 H1 e1 rx p1=> ?_);cases rx;exact Post.now e1.hr p1 rfl
theorem EE(hc:ST C E c mc)(ht:SE C E t m)(hu:SE C E u n):SE C E (Kt c t u) (Z.Jm mc m n):=by
 intro ex bs h ρ σ H Q hr re p;refine hc ex bs h ρ σ H _ hr re (p.bind λc b h1 bs1 H1 e1 rx p1=> ?_);cases rx;cases c with
 | true=>exact ht ex bs1 h1 ρ σ H1 Q e1.hr (re.ev e1) p1
 | false=>exact hu ex bs1 h1 ρ σ H1 Q e1.hr (re.ev e1) p1
theorem qY(ht:SE C E t m)(hu:SE C E u n):SE C E (oO t u) (Z.tQ m n):=by
 intro ex bs h ρ σ H Q hr re p;refine ht ex bs h ρ σ H _ hr re (p.bind λd x h1 bs1 H1 e1 rx p1=> ?_);cases d with
 | bl b=>
  simp only[RV]at rx;refine⟨b,rx,?_⟩;cases b with
  | true=>exact hu ex bs1 h1 ρ σ H1 Q e1.hr (re.ev e1) p1
  | false=>exact Post.now e1.hr p1 (by simp only[RV])
 | _=>exact p1.elim
theorem A8(ht:SE C E t m)(hu:SE C E u n):SE C E (vV t u) (Z.Js m n):=by
 intro ex bs h ρ σ H Q hr re p;refine ht ex bs h ρ σ H _ hr re (p.bind λd x h1 bs1 H1 e1 rx p1=> ?_);cases d with
 | bl b=>
  simp only[RV]at rx;refine⟨b,rx,?_⟩;cases b with
  | false=>exact hu ex bs1 h1 ρ σ H1 Q e1.hr (re.ev e1) p1
  | true=>exact Post.now e1.hr p1 (by simp only[RV])
 | _=>exact p1.elim
theorem He(o:S2 C r f)(o':S2 C r' g)(ha:SE C E ta ma)(hb:SE C E tb mb)(hc:SE C E tc mc):SE C E (HC r r' ta tb tc) (Z.CU f g ma mb mc):=by
 intro ex bs h ρ σ H Q hr re p;refine ha ex bs h ρ σ H _ hr re (p.bind λdx x h1 bs1 H1 e1 rx p1=> ?_);refine hb ex bs1 h1 ρ σ H1 _ e1.hr (re.ev e1) (p1.bind λdy y h2 bs2 H2 e2 ry p2=> ?_);refine o ex bs2 h2 H2 E x y dx dy _ e2.hr (rx.ev e2) ry (p2.bind λdz z h3 bs3 H3 e3 rz p3=> ?_);cases dz with
 | bl k=>
  simp only[RV]at rz;refine⟨k,rz,?_⟩;cases k with
  | false=>exact Post.now e3.hr p3 (by simp only[RV])
  | true=>
   refine hc ex bs3 h3 ρ σ H3 _ e3.hr ((re.ev e1).ev (e2.trans e3)) (p3.bind λdw w' h4 bs4 H4 e4 rw' p4=> ?_);exact o' ex bs4 h4 H4 E y w' dy dw Q e4.hr ((ry.ev e3).ev e4) rw' p4
 | _=>exact p3.elim
end
end L2
namespace L2
open PySem PySem.Spec
section
variable {C : Ct} {ex bs bs1 bs2 : List Addr} {h h1 h2 : Z.MH} {H H1 H2 : Hp} {E : XK} {α β : Type} {R1 : List Addr -> Hp -> β -> α -> Prop}
def jea(C:Ct)(ex:List Addr)(E:XK)(bs:List Addr)(h:Z.MH)(H:Hp)(r:Z.RS)(D:Ends):Prop:=match r with
 | .nx ρ' h'=>∀σ' bs' H',Ev C ex bs h H bs' h' H'->RE C bs' (gh ex bs' h' H') ρ' σ'->D.nx σ' H'
 | .rt d h'=>∀v bs' H',Ev C ex bs h H bs' h' H'->RV C bs' (gh ex bs' h' H') v d->D.rt v H'
 | .bk ρ' h'=>∀σ' bs' H',Ev C ex bs h H bs' h' H'->RE C bs' (gh ex bs' h' H') ρ' σ'->D.bk σ' H'
 | .ct ρ' h'=>∀σ' bs' H',Ev C ex bs h H bs' h' H'->RE C bs' (gh ex bs' h' H') ρ' σ'->D.ct σ' H'
 | .exc c h'=>∀bs' H',Ev C ex bs h H bs' h' H'->E (.ref (C.cm c)) none H'
 | .stuck=>False
def SS(C:Ct)(E:XK)(t:TS)(m:Z.MS):Prop:=
 ∀(ex bs:List Addr) (h:Z.MH) (ρ:Z.Ro) (σ:St) (H:Hp) (D:Ends),HR C ex bs h H->RE C bs (gh ex bs h H) ρ σ->jea C ex E bs h H (m ρ h) D->t D σ H
theorem jea.from(e:Ev C ex bs h H bs1 h1 H1)(p:jea C ex E bs h H r D):jea C ex E bs1 h1 H1 r D:=by
 cases r with
 | nx ρ h'=>exact λb bs' H' e' q=>p b bs' H' (e.trans e') q
 | rt d h'=>exact λb bs' H' e' q=>p b bs' H' (e.trans e') q
 | bk ρ h'=>exact λb bs' H' e' q=>p b bs' H' (e.trans e') q
 | ct ρ h'=>exact λb bs' H' e' q=>p b bs' H' (e.trans e') q
 | exc c h'=>exact λbs' H' e'=>p bs' H' (e.trans e')
 | stuck=>exact p
theorem jea.bind{f:α->Z.MH->Z.RS}{Q1:β->Hp->Prop}(p:jea C ex E bs h H (r.toS f) D)
  (k:∀a b h1 bs1 H1,Ev C ex bs h H bs1 h1 H1->R1 bs1 (gh ex bs1 h1 H1) b a->jea C ex E bs1 h1 H1 (f a h1) D->Q1 b H1):Post C ex E bs h H R1 r Q1:=by
 cases r with
 | ok a h'=>exact λb bs' H' e' q=>k a b h' bs' H' e' q (jea.from e' p)
 | exc c h'=>exact p
 | stuck=>exact p
theorem bT:SS C E Eg Z.bx:=λex bs h ρ σ H D hr re p=>p σ bs H (Ev.refl hr) re
theorem aI(ht:SS C E t m)(hu:SS C E u n):SS C E (vH t u) (Z.aq m n):=by
 intro ex bs h ρ σ H D hr re p;refine ht ex bs h ρ σ H _ hr re ?_;unfold Z.aq at p;cases e:m ρ h with
 | nx ρ1 h1=>rw[e]at p;exact λσ1 bs1 H1 e1 re1=>hu ex bs1 h1 ρ1 σ1 H1 D e1.hr re1 (p.from e1)
 | rt d h1=>rw[e]at p;exact p
 | bk ρ1 h1=>rw[e]at p;exact p
 | ct ρ1 h1=>rw[e]at p;exact p
 | exc c h1=>rw[e]at p;exact p
 | stuck=>rw[e]at p;exact p
theorem bM(hc:ST C E c mc)(ht:SS C E t m)(hu:SS C E u n):SS C E (A4 c t u) (Z.aX mc m n):=by
 intro ex bs h ρ σ H D hr re p;refine hc ex bs h ρ σ H _ hr re (p.bind λc b h1 bs1 H1 e1 rx p1=> ?_);cases rx;cases c with
 | true=>exact ht ex bs1 h1 ρ σ H1 D e1.hr (re.ev e1) p1
 | false=>exact hu ex bs1 h1 ρ σ H1 D e1.hr (re.ev e1) p1
theorem bp(ht:SE C E t m):SS C E (BC t) (Z.aw m):=by
 intro ex bs h ρ σ H D hr re p;exact ht ex bs h ρ σ H _ hr re (p.bind λd x h1 bs1 H1 e1 rx p1=>p1 x bs1 H1 (Ev.refl e1.hr) rx)
theorem lC(ht:SE C E t m):SS C E (G9 t) (Z.jW m):=by
 intro ex bs h ρ σ H D hr re p;exact ht ex bs h ρ σ H _ hr re (p.bind λd x h1 bs1 H1 e1 rx p1=>p1 σ bs1 H1 (Ev.refl e1.hr) (re.ev e1))
def SG(C:Ct)(E:XK)(g:TG)(m:Z.MG):Prop:=
 ∀(ex bs:List Addr) (h:Z.MH) (ρ:Z.Ro) (σ:St) (H:Hp) (v:V) (d:Z.D) (D:Ends),HR C ex bs h H->RE C bs (gh ex bs h H) ρ σ->RV C bs (gh ex bs h H) v d->jea C ex E bs h H (m d ρ h) D->g v σ H D.nx
theorem bJ(ht:SE C E t m)(hg:SG C E g mg):SS C E (sx t g) (Z.aA m mg):=by
 intro ex bs h ρ σ H D hr re p;exact ht ex bs h ρ σ H _ hr re (p.bind λd x h1 bs1 H1 e1 rx p1=>hg ex bs1 h1 ρ σ H1 x d D e1.hr (re.ev e1) rx p1)
theorem a_:SG C E (aD i) (Z.aD i):=λex bs h ρ σ H v d D hr re rv p=>p _ bs H (Ev.refl hr) (re.set rv)
theorem Fy(ht:SE C E t m):SS C E (λD σ H=>t σ H λx H1=>D.nx (σ.set i (some x)) H1) (Z.aA m (Z.aD i)):=bJ (g:=aD i) ht a_
def CD(C:Ct)(E:XK)(g:jA)(is:List Nat):Prop:=
 ∀(ex bs:List Addr) (h:Z.MH) (ρ:Z.Ro) (σ:St) (H:Hp) (vs:List V) (ds:List Z.D) (D:Ends),HR C ex bs h H->RE C bs (gh ex bs h H) ρ σ->RVs C bs (gh ex bs h H) vs ds->jea C ex E bs h H (Z.Bt is ds ρ h) D->g vs σ H D.nx/\vs.length=is.length
theorem Hg:CD C E pF []:=by
 intro ex bs h ρ σ H vs ds D hr re rv p;cases ds with
 | nil=>
  cases vs with
  | nil=>exact⟨⟨rfl,p σ bs H (Ev.refl hr) re⟩,rfl⟩
  | cons _ _=>simp only[RVs]at rv
 | cons d ds=>exact p.elim
theorem uX(hg:CD C E g is):CD C E (Fi (aD i) g) (i::is):=by
 intro ex bs h ρ σ H vs ds D hr re rv p;cases ds with
 | nil=>exact p.elim
 | cons d ds=>
  cases vs with
  | nil=>simp only[RVs]at rv
  | cons v vs=>
   simp only[RVs]at rv;have:=hg ex bs h (ρ.set i (some d)) (σ.set i (some v)) H vs ds D hr (re.set rv.1) rv.2 p;exact⟨⟨v,vs,rfl,this.1⟩,by simp[this.2]⟩
theorem Hj(hn:n=is.length)(hg:CD C E g is):SG C E (jy C.K n g) (Z.dY is):=by
 intro ex bs h ρ σ H v d D hr re rv p;cases d with
 | tup ds=>
  simp only[RV]at rv;obtain⟨a,vs,rfl,ga,rs⟩:=rv;have:=hg ex bs h ρ σ H vs ds D hr re rs p;exact⟨a,vs,rfl,.inl (SqT.of (cC _ _ ga)),by rw[hn];exact this.2,this.1⟩
 | lst ds=>
  simp only[RV]at rv;obtain⟨a,vs,rfl,ga,rs⟩:=rv;have:=hg ex bs h ρ σ H vs ds D hr re rs p;exact⟨a,vs,rfl,.inr (SqL.of (cC _ _ ga)),by rw[hn];exact this.2,this.1⟩
 | _=>exact p.elim
theorem RVs.append{G:Hp}:∀{ds es:List Z.D} {vs ws:List V},RVs C bs G vs ds->RVs C bs G ws es->RVs C bs G (vs++ws) (ds++es)
 | [],es,[],ws,_,k=>k
 | d::ds,es,v::vs,ws,h,k=>by
  simp only[RVs,gj]at h ⊢;exact⟨h.1,RVs.append h.2 k⟩
 | [],_,_::_,_,h,_=>by simp only[RVs]at h
 | _::_,_,[],_,h,_=>by simp only[RVs]at h
theorem RVs.one(q:RV C bs G v d):RVs C bs G [v] [d]:=by simp only[RVs];exact⟨q,trivial⟩
theorem RVs.get{G:Hp}:∀{ds:List Z.D} {vs:List V} {i:Nat} {d:Z.D},RVs C bs G vs ds->ds[i]?=some d->∃v,vs[i]?=some v/\RV C bs G v d
 | [],_,i,d,_,e=>by simp at e
 | d::ds,v::vs,0,d',h,e=>by
  simp only[RVs]at h;simp at e;subst e;exact⟨v,rfl,h.1⟩
 | d::ds,v::vs,i+1,d',h,e=>by
  simp only[RVs]at h;obtain⟨u,h1,h2⟩:=RVs.get (i:=i) (d:=d') h.2 (by simpa using e);exact⟨u,by simpa using h1,h2⟩
 | _::_,[],_,_,h,_=>by simp only[RVs]at h
theorem RVs.drop:∀{ds:List Z.D} {vs:List V} (n:Nat),RVs C bs G vs ds->RVs C bs G (vs.drop n) (ds.drop n)
 | _,_,0,h=>h
 | [],[],n+1,h=>h
 | d::ds,v::vs,n+1,h=>by
  simp only[RVs]at h;simpa using RVs.drop n h.2
 | [],_::_,_+1,h=>by simp only[RVs]at h
 | _::_,[],_+1,h=>by simp only[RVs]at h
theorem RVs.take:∀{ds:List Z.D} {vs:List V} (n:Nat),RVs C bs G vs ds->RVs C bs G (vs.take n) (ds.take n)
 | _,_,0,_=>by simp[RVs]
 | [],[],n+1,h=>by simp[RVs]
 | d::ds,v::vs,n+1,h=>by
  simp only[RVs]at h;simp only[List.take_succ_cons,RVs];exact⟨h.1,RVs.take n h.2⟩
 | [],_::_,_+1,h=>by simp only[RVs]at h
 | _::_,[],_+1,h=>by simp only[RVs]at h
theorem NZ(ho:SE C E to mo)(he:SE C E te me):SS C E (G9 (uN C.K "list" Ie to (FR te iZ))) (Z.IZ mo me):=by
 intro ex bs h ρ σ H D hr re p;refine ho ex bs h ρ σ H _ hr re (p.bind λo x h1 bs1 H1 e1 rx p1=> ?_);cases o with
 | ref k=>
  simp only[RV]at rx;obtain⟨a,rfl,hk⟩:=rx;dsimp only at p1;split at p1
  ·rename_i xs0 hc0
   obtain⟨vs0,ha0,_⟩:=e1.hr.cell k a _ hk hc0;refine⟨.inl ⟨rfl,vs0,SqL.of ha0⟩,?_⟩;refine he ex bs1 h1 ρ σ H1 _ e1.hr (re.ev e1) (p1.bind λd y h2 bs2 H2 e2 ry p2=> ?_);split at p2
   ·rename_i xs hc
    split at p2
    ·rename_i hz
     obtain⟨vs,ha,rs⟩:=e2.hr.cell k a _ (e2.pre k a hk) hc;refine⟨a,vs,y,rfl,rfl,ha,by rw[rs.len];exact hz,?_⟩;have e3:=Ev.put (o:=.lst (vs++[y])) (c:=.lst (xs++[d])) e2.hr (e2.pre k a hk) hc ⟨_,dG,rs.append (.one ry)⟩;exact p2 σ bs2 _ e3 (((re.ev e1).ev e2).ev e3)
    ·exact p2.elim
   ·exact p2.elim
  ·exact p1.elim
 | _=>exact p1.elim
theorem MD(ht:SS C E t m):SS C E t (Z.DX i m):=by
 intro ex bs h ρ σ H D hr re p;unfold Z.DX at p;split at p
 ·rename_i k hk
  split at p
  ·rename_i xs hc
   obtain⟨v,hv,rv⟩:=re.2 i _ hk;simp only[RV]at rv;obtain⟨a,rfl,ha⟩:=rv;obtain⟨e1,r1⟩:=Ev.freeze hr ha hc;refine ht ex bs (h.set k none) (ρ.set i (some (.lst xs))) σ H D e1.hr ?_ (p.from e1);have r2:=(re.ev e1).set (i:=i) r1;have:σ.set i (some (.ref a))=σ:=List.ext_getElem? λj=>by
    by_cases hj:i=j
    ·subst hj;rw[qq (qb.mp hv).1,hv]
    ·rw[qm hj]
   rw[this]at r2;exact r2
  ·exact p.elim
 ·exact p.elim
end
section
variable {C : Ct} {ex bs bs1 bs2 : List Addr} {h h1 h2 : Z.MH} {H H1 H2 : Hp} {E : XK}
def ItOk(C:Ct)(bs:List Addr)(G:Hp)(J:It)(s:Option Nat×List Z.D):Prop:=
 ∀(ex2 bs2:List Addr) (h2:Z.MH) (H2:Hp),HR C ex2 bs2 h2 H2->(∀(k:Nat) (a:Addr),bs[k]?=some a->bs2[k]?=some a)->Same G (gh ex2 bs2 h2 H2)->Z.lI s.1 s.2 h2->∀i:Nat,
  (∀d,s.2[i]?=some d->J.go i H2/\∀x H3,J.yld i H2 x H3->Ev C ex2 bs2 h2 H2 bs2 h2 H3/\RV C bs2 (gh ex2 bs2 h2 H3) x d)/\(s.2.length<=i->J.stop i H2)
abbrev SI(C:Ct)(E:XK)(t:TI)(m:Z.MI):Prop:=uZ C E (ItOk C) t m
theorem I_(hg:SG C E g mg)(hb:SS C E tb mb)(hr:HR C ex bs1 h1 H1)(re:RE C bs1 (gh ex bs1 h1 H1) ρ σ)(it:ItOk C bs1 (gh ex bs1 h1 H1) J (gd,items))(p1:jea C ex E bs1 h1 H1 (Z.jg gd items mg mb items ρ h1) D):
  ∃W:Nat->Nat->St->Hp->Prop,(∃m,W 0 m σ H1)/\∀i m σ H,W i m σ H->(J.stop i H/\D.nx σ H)\/(J.go i H/\∃N:St->Hp->Prop,(∀σ' H',N σ' H'->∃m',m'<m/\W (i+1) m' σ' H')/\∀x H',J.yld i H x H'->g x σ H' λσ2 H2=>tb {D with nx:=N,ct:=N,bk:=D.nx} σ2 H2):=by
 have lo:∀(i:Nat) (hl:i<items.length),items.drop i=items[i]::items.drop (i+1):=λi hl=>zu hl;refine⟨λi m σ' H'=>m=items.length - i/\i<=items.length/\∃ρ' bs' h',Ev C ex bs1 h1 H1 bs' h' H'/\RE C bs' (gh ex bs' h' H') ρ' σ'/\jea C ex E bs' h' H' (Z.jg gd items mg mb (items.drop i) ρ' h') D,
  ⟨items.length,by simp,qz _,ρ,bs1,h1,Ev.refl hr,re,p1⟩,?_⟩
 rintro i m σ' H' ⟨rfl,hle,ρ',bs',h',ev,re',p'⟩;by_cases hlt:i<items.length
 ·rw[lo i hlt]at p'
  unfold Z.jg at p';split at p'
  case isFalse=>exact p'.elim
  rename_i okg;obtain⟨go,yl⟩:=(it ex bs' h' H' ev.hr ev.pre ev.same okg i).1 items[i] (z6 hlt);refine .inr ⟨go,λσ2 H2=>∃m',m'<items.length - i/\(m'=items.length - (i+1)/\i+1<=items.length/\∃ρ' bs' h',Ev C ex bs1 h1 H1 bs' h' H2/\RE C bs' (gh ex bs' h' H2) ρ' σ2/\jea C ex E bs' h' H2 (Z.jg gd items mg mb (items.drop (i+1)) ρ' h') D),λ_ _ q=>q,λx H3 y=> ?_⟩;obtain⟨ev3,rx⟩:=yl x H3 y;have p3:=p'.from ev3;refine hg ex bs' h' ρ' σ' H3 x items[i] ⟨_,λ_ _=>False,λ_ _=>False,λ_ _=>False⟩ ev3.hr (re'.ev ev3) rx ?_;cases e:mg items[i] ρ' h' with
  | nx ρ1 h1'=>
   rw[e]at p3;intro σ2 bs2 H2 ev2 re2;refine hb ex bs2 h1' ρ1 σ2 H2 _ ev2.hr re2 ?_;have p4:=p3.from ev2;have ev4:=(ev.trans ev3).trans ev2;cases e5:mb ρ1 h1' with
   | nx ρ2 h2'=>
    dsimp only at p4;rw[e5]at p4;exact λσ5 bs5 H5 ev5 re5=>⟨_,by omega,rfl,hlt,ρ2,bs5,h2',ev4.trans ev5,re5,p4.from ev5⟩
   | ct ρ2 h2'=>
    dsimp only at p4;rw[e5]at p4;exact λσ5 bs5 H5 ev5 re5=>⟨_,by omega,rfl,hlt,ρ2,bs5,h2',ev4.trans ev5,re5,p4.from ev5⟩
   | bk ρ2 h2'=>dsimp only at p4;rw[e5]at p4;exact p4
   | rt d h2'=>dsimp only at p4;rw[e5]at p4;exact p4
   | exc c h2'=>dsimp only at p4;rw[e5]at p4;exact p4
   | stuck=>dsimp only at p4;rw[e5]at p4;exact p4
  | rt _ _=>rw[e]at p3;exact p3.elim
  | bk _ _=>rw[e]at p3;exact p3.elim
  | ct _ _=>rw[e]at p3;exact p3.elim
  | exc _ _=>rw[e]at p3;exact p3.elim
  | stuck=>rw[e]at p3;exact p3.elim
 ·have ei:i=items.length:=by omega
  subst ei;rw[List.drop_length]at p';unfold Z.jg at p';split at p'
  case isFalse=>exact p'.elim
  rename_i okg;exact .inl ⟨(it ex bs' h' H' ev.hr ev.pre ev.same okg items.length).2 (qi _),p' σ' bs' H' (Ev.refl ev.hr) re'⟩
theorem nG(hi:SI C E wi l)(hg:SG C E g mg)(hb:SS C E tb mb):SS C E (qR wi g tb) (Z.dO l mg mb):=by
 intro ex bs h ρ σ H D hr re p;refine hi ex bs h ρ σ H _ hr re (p.bind λsrc J h1 bs1 H1 e1 it p1=> ?_);obtain⟨gd,items⟩:=src;dsimp only at p1;exact I_ hg hb e1.hr (re.ev e1) it p1
theorem P1(hc:ST C E c mc)(hb:SS C E tb mb):SS C E (KI c tb) (Z.fS mc mb):=by
 intro ex bs h ρ σ H D hr re p;have ns:Z.fS mc mb ρ h≠ .stuck:=λz=>by rw[z]at p;exact p
 obtain⟨n,en⟩:=Z.Gn ns;rw[<-en]at p;refine⟨λm σ' H'=>∃ρ' bs' h',HR C ex bs' h' H'/\RE C bs' (gh ex bs' h' H') ρ' σ'/\jea C ex E bs' h' H' (Z.eH mc mb m ρ' h') D,⟨n,ρ,bs,h,hr,re,p⟩,?_⟩;rintro m σ' H' ⟨ρ',bs',h',hr',re',p'⟩;cases m with
 | zero=>exact p'.elim
 | succ m=>
  unfold Z.eH at p';refine hc ex bs' h' ρ' σ' H' _ hr' re' ?_;cases e:mc ρ' h' with
  | exc x h1=>rw[e]at p';exact p'
  | stuck=>rw[e]at p';exact p'
  | ok b h1=>
   rw[e]at p';rintro b' bs1 H1 e1 rfl;have p1:=p'.from e1;cases b' with
   | false=>exact p1 σ' bs1 H1 (Ev.refl e1.hr) (re'.ev e1)
   | true=>
    dsimp only at p1;refine⟨λσ2 H2=>∃m',m'<m+1/\∃ρ' bs' h',HR C ex bs' h' H2/\RE C bs' (gh ex bs' h' H2) ρ' σ2/\jea C ex E bs' h' H2 (Z.eH mc mb m' ρ' h') D,λ_ _ q=>q,?_⟩;refine hb ex bs1 h1 ρ' σ' H1 _ e1.hr (re'.ev e1) ?_;cases e5:mb ρ' h1 with
    | nx ρ2 h2=>rw[e5]at p1;exact λσ5 bs5 H5 ev5 re5=>⟨m,by omega,ρ2,bs5,h2,ev5.hr,re5,p1.from ev5⟩
    | ct ρ2 h2=>rw[e5]at p1;exact λσ5 bs5 H5 ev5 re5=>⟨m,by omega,ρ2,bs5,h2,ev5.hr,re5,p1.from ev5⟩
    | bk ρ2 h2=>rw[e5]at p1;exact p1
    | rt d h2=>rw[e5]at p1;exact p1
    | exc c h2=>rw[e5]at p1;exact p1
    | stuck=>rw[e5]at p1;exact p1
noncomputable def hid(l:Addr)(H:Hp):Hp:=λb=>if b=l then none else H b
theorem oP(n:b≠l):hid l H b=H b:=if_neg n
theorem C1:gh ex bs h (hid l H)=gh (l::ex) bs h H:=by
 funext x;unfold gh;by_cases q:x∈ex\/lv bs h x
 ·rw[if_pos q,if_pos (q.imp (qg _) id)]
 ·by_cases e:x=l
  ·subst e
   rw[if_neg q,if_pos (.inl (qj ..))];exact if_pos rfl
  ·rw[if_neg q,oP e,if_neg]
   rintro(z|z)
   ·rcases qr.mp z with z|z
    ·exact e z
    ·exact q (.inl z)
   ·exact q (.inr z)
theorem HR.hid(hl:l∉ex)(r:HR C (l::ex) bs h H):HR C ex bs h (hid l H):=by
 have lb:l∉bs:=r.sep l (qj ..);have nb:∀{a},a∈bs->a≠l:=fun{a} m z=>lb (by rw[<-z];exact m);refine⟨r.len,r.inj,λa m=>r.sep a (qg _ m),λa m=> ?_,λa m=> ?_,λk a c e1 e2=> ?_⟩
 ·rw[oP (nb m)];exact r.dom a m
 ·rw[oP (λz=>hl (by rw[<-z];exact m))];exact r.domx a (qg _ m)
 ·rw[C1]
  exact(r.cell k a c e1 e2).mono (λ_ _ e=>e) (Same.refl _) (by rw[oP (nb (qt e1))])
theorem K_(hl:H l=none):gh (l::ex) bs h (a9 H l o)=gh ex bs h H:=by
 rw[<-C1];have:hid l (a9 H l o)=H:=by
  funext x;unfold hid;by_cases e:x=l
  ·rw[if_pos e,e,hl]
  ·rw[if_neg e,br e]
 rw[this]
theorem HR.show(hl:H l=none)(r:HR C ex bs h H):HR C (l::ex) bs h (a9 H l o):=by
 have lb:l∉bs:=λm=>r.dom l m hl;have lx:l∉ex:=λm=>r.domx l m hl;have nb:∀{a},a∈bs->a≠l:=fun{a} m z=>lb (by rw[<-z];exact m);refine⟨r.len,r.inj,λa m=> ?_,λa m=> ?_,λa m=> ?_,λk a c e1 e2=> ?_⟩
 ·rcases qr.mp m with m|m
  ·rw[m];exact lb
  ·exact r.sep a m
 ·rw[br (nb m)];exact r.dom a m
 ·rcases qr.mp m with m|m
  ·rw[m,dG];exact λz=>nomatch z
  ·rw[br (λz=>lx (by rw[<-z];exact m))];exact r.domx a m
 ·rw[K_ hl]
  exact(r.cell k a c e1 e2).mono (λ_ _ e=>e) (Same.refl _) (by rw[br (nb (qt e1))])
theorem GK:gh (l::ex) bs h (a9 H l o)=gh (l::ex) bs h H:=by
 funext x;unfold gh;by_cases q:x∈l::ex\/lv bs h x
 ·rw[if_pos q,if_pos q]
 ·rw[if_neg q,if_neg q,br (λz=>q (.inl (by rw[z];exact qj ..)))]
theorem HR.exput(r:HR C (l::ex) bs h H):HR C (l::ex) bs h (a9 H l o):=by
 have lb:l∉bs:=r.sep l (qj ..);have nb:∀{a},a∈bs->a≠l:=fun{a} m z=>lb (by rw[<-z];exact m);refine⟨r.len,r.inj,r.sep,λa m=> ?_,λa m=> ?_,λk a c e1 e2=> ?_⟩
 ·rw[br (nb m)];exact r.dom a m
 ·by_cases e:a=l
  ·rw[e,dG];exact λz=>nomatch z
  ·rw[br e];exact r.domx a m
 ·rw[GK]
  exact(r.cell k a c e1 e2).mono (λ_ _ e=>e) (Same.refl _) (by rw[br (nb (qt e1))])
theorem RE.mono(hb:∀(k:Nat) (a:Addr),bs[k]?=some a->bs'[k]?=some a)(hs:Same G G')(r:RE C bs G ρ σ):RE C bs' G' ρ σ:=
 ⟨r.1,λi d q=>by obtain⟨v,h1,h2⟩:=r.2 i d q;exact⟨v,h1,h2.mono hb hs⟩⟩
theorem RE.caps(nt:Nat)(idx:List Nat)(r:RE C bs G ρ σ):RE C bs G (List.replicate nt none++Z.caps idx ρ) (List.replicate nt none++jt idx σ):=by
 refine⟨by simp[Z.caps,jt],λi d hi=> ?_⟩;by_cases hn:i<nt
 ·rw[z8 (by simpa using hn),zy]at hi
  simp[hn]at hi
 ·rw[ze (by simp;omega)]at hi ⊢
  simp only[kh]at hi ⊢;unfold Z.caps at hi;unfold jt;rw[z5]at hi ⊢;cases e:idx[i - nt]? with
  | none=>rw[e]at hi;cases hi
  | some j=>
   rw[e]at hi;simp only[wz,Option.some.injEq]at hi ⊢;cases e2:ρ[j]? with
   | none=>rw[e2]at hi;cases hi
   | some z=>
    rw[e2]at hi;simp only[Option.getD_some]at hi;subst hi;obtain⟨v,h1,h2⟩:=r.2 j d e2;exact⟨v,by rw[h1];rfl,h2⟩
theorem Ir(q:Option Nat)(all:List Z.D)(g:Z.MG)(t:Z.MT)(m:Z.ME)(ρ0:Z.Ro):∀(ds:List Z.D) (h:Z.MH) (c:String) (h':Z.MH),Z.eZ q all g t m ρ0 ds h≠ .exc c h'
 | [],h,c,h'=>by unfold Z.eZ;split<;>exact λz=>nomatch z
 | d::ds,h,c,h'=>by
  unfold Z.eZ;split
  case isFalse=>exact λz=>nomatch z
  split
  ·split
   ·split
    ·split
     ·exact λz=>nomatch z
     ·exact λz=>nomatch z
    ·exact λz=>nomatch z
   ·exact Ir q all g t m ρ0 ds _ c h'
   ·exact λz=>nomatch z
  ·exact λz=>nomatch z
theorem ON{mt:Z.MT}(hg:SG C E0 g mg)(ht:ST C E0 tc mt)(he:SE C E0 te me)(hr:HR C ex bs1 h1 H1)(re:RE C bs1 (gh ex bs1 h1 H1) ρ σ)(it:ItOk C bs1 (gh ex bs1 h1 H1) J (gd,items))(hz:items.length<16777216)
  (p1:jdc C ex E bs1 h1 H1 (Z.eZ gd items mg mt me (List.replicate nt none++Z.caps idx ρ) items h1) Q):∀l,H1 l=none->
 ∃W:Nat->Nat->List V->Hp->Prop,(∃m,W 0 m [] (a9 H1 l (.lst [])))/\∀i m ys H2,W i m ys H2->H2 l=some (.lst ys)/\ys.length<sizeLine/\
  ((J.stop i H2/\Q (.ref l) H2)\/(J.go i H2/\∀x H3,J.yld i H2 x H3->g x (List.replicate nt none++jt idx σ) H3 λσ4 H4=>tc σ4 H4 λc H5=>
   if c=true then te σ4 H5 λy H6=>H6 l=some (.lst ys)/\∃m',m'<m/\W (i+1) m' (ys++[y]) (a9 H6 l (.lst (ys++[y])))else ∃m',m'<m/\W (i+1) m' ys H5)):=by
 intro a ha;have hax:a∉ex:=λm=>hr.domx a m ha;cases ec:Z.eZ gd items mg mt me (List.replicate nt none++Z.caps idx ρ) items h1 with
 | exc _ _=>
  exact absurd ec (Ir _ _ _ _ _ _ items h1 _ _)
 | stuck=>rw[ec]at p1;exact p1.elim
 | ok all hf=>
  rw[ec]at p1;have lo:∀(i:Nat) (hl:i<items.length),items.drop i=items[i]::items.drop (i+1):=λi hl=>zu hl;refine⟨λi m ys H2=>m=items.length - i/\i<=items.length/\∃bs' h' dys rest,HR C (a::ex) bs' h' H2/\(∀(k:Nat) (b:Addr),bs1[k]?=some b->bs'[k]?=some b)/\Same (gh ex bs1 h1 H1) (gh (a::ex) bs' h' H2)/\(∀b∈ex,H2 b=H1 b)/\
    H2 a=some (.lst ys)/\RVs C bs' (gh (a::ex) bs' h' H2) ys dys/\ys.length<=i/\Z.eZ gd items mg mt me (List.replicate nt none++Z.caps idx ρ) (items.drop i) h'=.ok rest hf/\dys++rest=all,
   ⟨items.length,by simp,qz _,bs1,h1,[],all,hr.show ha,λ_ _ e=>e,by rw[K_ ha];exact Same.refl _,λb m=>by rw[br (λz=>hax (by rw[<-z];exact m))],dG,by simp only[RVs],qz _,ec,rfl⟩,?_⟩
  rintro i m ys H2 ⟨rfl,hle,bs',h',dys,rest,hr',pre,sm,exs,hl,rv,hy,er,eall⟩;refine⟨hl,by have:sizeLine=16777216:=rfl;omega,?_⟩;by_cases hlt:i<items.length
  ·rw[lo i hlt]at er
   unfold Z.eZ at er;split at er
   case isFalse=>cases er
   rename_i okg;obtain⟨go,yl⟩:=(it (a::ex) bs' h' H2 hr' pre sm okg i).1 items[i] (z6 hlt);refine .inr ⟨go,λx H3 y=> ?_⟩;obtain⟨ev3,rx⟩:=yl x H3 y;have re0:=(((re.mono pre sm).ev ev3).caps nt idx);refine hg (a::ex) bs' h' _ _ H3 x items[i] ⟨_,λ_ _=>False,λ_ _=>False,λ_ _=>False⟩ ev3.hr re0 rx ?_;cases e:mg items[i] (List.replicate nt none++Z.caps idx ρ) h' with
   | nx ρ1 h1'=>
    rw[e]at er;dsimp only at er;intro σ4 bs4 H4 ev4 re4;refine ht (a::ex) bs4 h1' ρ1 σ4 H4 _ ev4.hr re4 ?_;cases e5:mt ρ1 h1' with
    | exc _ _=>rw[e5]at er;cases er
    | stuck=>rw[e5]at er;cases er
    | ok c h5=>
     rw[e5]at er;rintro c' bs5 H5 ev5 rfl;cases c' with
     | false=>
      dsimp only at er;have ev:=(ev3.trans ev4).trans ev5;exact⟨_,by omega,rfl,hlt,bs5,h5,dys,rest,ev5.hr,λk b q=>ev.pre k b (pre k b q),sm.trans ev.same,λb m=>(ev.exs b (qg _ m)).trans (exs b m),
       (ev.exs a (qj ..)).trans hl,rv.ev ev,by omega,er,eall⟩
     | true=>
      dsimp only at er;refine he (a::ex) bs5 h5 ρ1 σ4 H5 _ ev5.hr (re4.ev ev5) ?_;cases e6:me ρ1 h5 with
      | exc _ _=>rw[e6]at er;cases er
      | stuck=>rw[e6]at er;cases er
      | ok d h6=>
       rw[e6]at er;dsimp only at er;intro v bs6 H6 ev6 rv6;have ev:=((ev3.trans ev4).trans ev5).trans ev6;have hl6:=(ev.exs a (qj ..)).trans hl;refine⟨hl6,?_⟩;cases e7:Z.eZ gd items mg mt me (List.replicate nt none++Z.caps idx ρ) (items.drop (i+1)) h6 with
       | exc _ _=>rw[e7]at er;cases er
       | stuck=>rw[e7]at er;cases er
       | ok rest' hf'=>
        rw[e7]at er;dsimp only at er;cases er;refine⟨_,by omega,rfl,hlt,bs6,h6,dys++[d],rest',ev6.hr.exput,λk b q=>ev.pre k b (pre k b q),by rw[GK];exact sm.trans ev.same,λb m=> ?_,dG,?_,by simp;omega,e7,by simpa using eall⟩
        ·rw[br (λz=>hax (by rw[<-z];exact m))]
         exact(ev.exs b (qg _ m)).trans (exs b m)
        ·rw[GK];exact(rv.ev ev).append (.one rv6)
   | rt _ _=>rw[e]at er;cases er
   | bk _ _=>rw[e]at er;cases er
   | ct _ _=>rw[e]at er;cases er
   | exc _ _=>rw[e]at er;cases er
   | stuck=>rw[e]at er;cases er
  ·have ei:i=items.length:=by omega
   subst ei;rw[List.drop_length]at er;unfold Z.eZ at er;split at er
   case isFalse=>cases er
   rename_i okg;cases er;rw[zr]at eall;subst eall;refine .inl ⟨(it (a::ex) bs' _ H2 hr' pre sm okg items.length).2 (qi _),?_⟩;have q:=p1 a ys bs' (hid a H2) ⟨pre,hr'.hid hax,by rw[C1];exact sm,λb m=>by rw[oP (λz=>hax (by rw[<-z];exact m))];exact exs b m⟩ (if_pos rfl) (by rw[C1];exact rv);have eq:a9 (hid a H2) a (.lst ys)=H2:=by
    funext x;by_cases e:x=a
    ·rw[e,dG,hl]
    ·rw[br e,oP e]
   rw[eq]at q;exact q
theorem fR{mt:Z.MT}(hi:SI C E wi l)(hg:SG C E0 g mg)(ht:ST C E0 tc mt)(he:SE C E0 te me):
  SN C E (GB nt idx wi g tc te) (Z.dv nt idx l mg mt me):=by
 intro ex bs h ρ σ H Q hr re p;refine hi ex bs h ρ σ H _ hr re (jdc.bind p λsrc J h1 bs1 H1 e1 it p1=> ?_);obtain⟨gd,items⟩:=src;obtain⟨hz,p1⟩:=p1.chk;dsimp only at hz p1;exact ON hg ht he e1.hr (re.ev e1) it hz p1
end
end L2
namespace L2
open PySem PySem.Spec PyProof.Rows
section
variable {C : Ct} {ex bs bs1 bs2 : List Addr} {h h1 h2 : Z.MH} {H H1 H2 : Hp} {E : XK}
theorem uG{α:Type}{l:List α}{a:α}(e:(l.take n)[k]?=some a):l[k]?=some a/\k<n:=by
 rw[List.getElem?_take]at e;by_cases hk:k<n
 ·rw[if_pos hk]at e;exact⟨e,hk⟩
 ·rw[if_neg hk]at e;cases e
theorem Km{α:Type}{l:List α}{a:α}(e:l[k]?=some a)(hk:k<n):(l.take n)[k]?=some a:=by
 rw[List.getElem?_take,if_pos hk];exact e
mutual
theorem RV.bnd{G:Hp}{n:Nat}:∀{d:Z.D} {v:V},RV C bs G v d->Z.D.bnd n d=true->RV C (bs.take n) G v d
 | .non,v,h,_=>by simp only[RV]at h ⊢;exact h
 | .bl b,v,h,_=>by simp only[RV]at h ⊢;exact h
 | .int i,v,h,_=>by simp only[RV]at h ⊢;exact h
 | .str x,v,h,_=>by simp only[RV]at h ⊢;exact h
 | .tup ds,v,h,q=>by
  simp only[RV]at h ⊢;simp only[Z.D.bnd]at q;obtain⟨a,vs,h1,h2,h3⟩:=h;exact⟨a,vs,h1,h2,RVs.bnd h3 q⟩
 | .lst ds,v,h,q=>by
  simp only[RV]at h ⊢;simp only[Z.D.bnd]at q;obtain⟨a,vs,h1,h2,h3⟩:=h;exact⟨a,vs,h1,h2,RVs.bnd h3 q⟩
 | .arg ns,v,h,_=>by simp only[RV]at h ⊢;exact h
 | .ref k,v,h,q=>by
  simp only[RV]at h ⊢;simp only[Z.D.bnd,decide_eq_true_eq]at q;obtain⟨a,h1,h2⟩:=h;exact⟨a,h1,Km h2 q⟩
 | .ty n,v,h,_=>by simp only[RV]at h ⊢;exact h
 | .cls n,v,h,_=>by simp only[RV]at h ⊢;exact h
 | .exc n,v,h,_=>by simp only[RV]at h ⊢;exact h
 | .obj c fs,v,h,q=>by
  simp only[RV]at h ⊢;simp only[Z.D.bnd]at q;obtain⟨a,dx,fvs,h1,h2,h3⟩:=h;exact⟨a,dx,fvs,h1,h2,RVf.bnd h3 q⟩
 | .dic kvs,v,h,_=>by simp only[RV]at h ⊢;exact h
theorem RVs.bnd{G:Hp}{n:Nat}:∀{ds:List Z.D} {vs:List V},RVs C bs G vs ds->Z.D.bnds n ds=true->RVs C (bs.take n) G vs ds
 | [],[],_,_=>by simp only[RVs]
 | d::ds,v::vs,h,q=>by
  simp only[RVs]at h ⊢;simp only[Z.D.bnds,qu]at q;exact⟨RV.bnd h.1 q.1,RVs.bnd h.2 q.2⟩
 | [],_::_,h,_=>by simp only[RVs]at h
 | _::_,[],h,_=>by simp only[RVs]at h
theorem RVf.bnd{G:Hp}{n:Nat}:∀{ds:List (Str×Z.D)} {vs:List (Str×V)},RVf C bs G vs ds->Z.D.bndf n ds=true->RVf C (bs.take n) G vs ds
  | [],[],_,_=>by simp only[RVf]
  | (y,d)::ds,(x,v)::vs,h,q=>by
    simp only[RVf]at h ⊢;simp only[Z.D.bndf,qu]at q;exact⟨h.1,RV.bnd h.2.1 q.1,RVf.bnd h.2.2 q.2⟩
  | [],_::_,h,_=>by simp only[RVf]at h
  | _::_,[],h,_=>by simp only[RVf]at h
end
theorem JX:∀(fs:List (Str×Z.D)),Z.D.bndf n fs=Z.D.bnds n (fs.map (·.2))
  | []=>by simp only[Z.D.bndf,zk,Z.D.bnds]
  | (y,d)::fs=>by simp only[Z.D.bndf,List.map_cons,Z.D.bnds,JX fs]
theorem RVk.bnd{G:Hp}{n:Nat}:∀{ds:List (Sum Int Str×Z.D)} {vs:List (cH×V)},RVk C bs G vs ds->Z.D.bnds n (ds.map (·.2))=true->RVk C (bs.take n) G vs ds
  | [],[],_,_=>by simp only[RVk]
  | (y,d)::ds,(x,v)::vs,h,q=>by
    simp only[RVk]at h ⊢;simp only[List.map_cons,Z.D.bnds,qu]at q;exact⟨h.1,RV.bnd h.2.1 q.1,RVk.bnd h.2.2 q.2⟩
  | [],_::_,h,_=>by simp only[RVk]at h
  | _::_,[],h,_=>by simp only[RVk]at h
theorem jew.bnd(hc:jew C bs G H a c)(q:Z.Cell.bnd n (some c)=true):jew C (bs.take n) G H a c:=by
 cases c with
 | lst ds=>obtain⟨vs,h1,h2⟩:=hc;exact⟨vs,h1,h2.bnd q⟩
 | dct kvs=>obtain⟨vs,h1,h2⟩:=hc;exact⟨vs,h1,h2.bnd q⟩
 | ins c fs=>obtain⟨dx,vs,h1,h2⟩:=hc;exact⟨dx,vs,h1,h2.bnd (by rw[JX];exact q)⟩
 | fdc kvs=>obtain⟨o,vs,h1,h2,h3⟩:=hc;exact⟨o,vs,h1,h2,h3.bnd q⟩
theorem Gj(n:Nat):Same (gh ex bs h H) (gh ex (bs.take n) (h.take n) H):=λa o e=>by
 obtain⟨h1,h2,h3⟩:=dQ.mp e;exact dQ.mpr ⟨h1,λ⟨k,c,e1,e2,l2⟩=>h2 ⟨k,c,(uG e1).1,(uG e2).1,l2⟩,h3⟩
theorem HR.take(r:HR C ex bs h H)(q:(h.take n).all (Z.Cell.bnd n)=true):HR C ex (bs.take n) (h.take n) H:=by
 refine⟨by simp[r.len],λi j a e1 e2=>r.inj i j a (uG e1).1 (uG e2).1,λa m z=>r.sep a m (ko z),λa m=>r.dom a (ko m),r.domx,λk a c e1 e2=> ?_⟩;have hc:=r.cell k a c (uG e1).1 (uG e2).1;have qc:Z.Cell.bnd n (some c)=true:=List.all_eq_true.mp q _ (qt e2);exact(hc.bnd qc).mono (λ_ _ e=>e) (Gj n) rfl
theorem Ev.take(hr:HR C ex bs h H)(e:Ev C ex bs h H bs' h' H')(q:(h'.take h.length).all (Z.Cell.bnd h.length)=true):Ev C ex bs h H (bs'.take h.length) (h'.take h.length) H':=
 ⟨λk a z=>Km (e.pre k a z) (by rw[<-hr.len];exact(qb.mp z).1),e.hr.take q,e.same.trans (Gj _),e.exs⟩
theorem IE{Q:VK}(hr:HR C ex bs h H)(p:Post C ex E bs h H (RV C) (Z.fin h.length d h') Q)(e:Ev C ex bs h H bs' h' H')(rv:RV C bs' (gh ex bs' h' H') v d):Q v H':=by
 unfold Z.fin at p;split at p
 ·exact p v bs' H' e rv
 ·split at p
  ·rename_i q
   rw[qu]at q;exact p v _ H' (e.take hr q.2) ((rv.bnd q.1).mono (λ_ _ e=>e) (Gj _))
  ·exact p v bs' H' e rv
theorem RE.start(r:RVs C bs G vs ds)(hn:ds.length<=N.length):RE C bs G (ds.map some++List.replicate (N.length - ds.length) none) (L2.start N vs):=by
 have hl:=r.len;unfold L2.start;refine⟨by simp[hl],λi d hi=> ?_⟩;by_cases hlt:i<ds.length
 ·rw[z8 (by simpa using hlt),z5]at hi
  rw[z8 (by simp;omega),z5];cases e:ds[i]? with
  | none=>rw[e]at hi;cases hi
  | some z=>
   rw[e]at hi;simp at hi;subst hi;obtain⟨v,h1,h2⟩:=r.get e;exact⟨v,by rw[h1];rfl,h2⟩
 ·rw[ze (by simp;omega),zy]at hi
  split at hi<;>cases hi
theorem Ov{K:W.Frag}{mg:Str->Option Value}{st:Stmt}(F:Fun K x qual st f fd)(S:FnScope N ps (bC st))
  (hz:z=Z.aH np nn b) (hp:ps.length=np) (hn:N.length=nn) (hle:np<=nn)
  (hb:∀(cdv:Value) (A:Around) (outer:List Env) (s:Shared) (H:Hp) (E:XK),Room k (A.deeper (envOfC qual (bC st) s.heap.objs.size f cdv))->
   ∃t,PSs (bL (CXE P w) P w K mg base N qual (bC st) f cdv A outer s H E) (jq st) t/\SS C E t b):FnOk P w K mg base (CXE P w) (k+1) f fd ps (bG C z):=by
 subst hz;refine F.okE S (λvs H Q E q=> ?_) λcdv A outer s H vs Q E hr q=> ?_
 ·obtain⟨ex,bs,h,ds,hr,rv,p⟩:=q
  unfold Z.aH at p;split at p
  ·rename_i hd;rw[rv.len,hd,hp]
  ·exact p.elim
 ·obtain⟨ex,bs,h,ds,hr',rv,p⟩:=q
  obtain⟨t,hps,hss⟩:=hb cdv A outer s H E hr;refine⟨t,hps,?_⟩;unfold Z.aH at p;split at p
  ·rename_i hd
   refine hss ex bs h (ds.map some++List.replicate (nn - ds.length) none) (L2.start N vs) H _ hr' (by rw[<-hn];exact RE.start rv (by omega)) ?_;cases e:b (ds.map some++List.replicate (nn - ds.length) none) h with
   | nx ρ' h'=>rw[e]at p;exact λσ' bs' H' ev re=>IE hr' p ev (by simp only[RV])
   | rt d h'=>rw[e]at p;exact λv bs' H' ev rv=>IE hr' p ev rv
   | exc c h'=>
    rw[e]at p;intro bs' H' ev;dsimp only at p;split at p
    ·exact p bs' H' ev
    ·split at p
     ·rename_i q;exact p _ H' (ev.take hr' q)
     ·exact p bs' H' ev
   | bk _ _=>rw[e]at p;exact p.elim
   | ct _ _=>rw[e]at p;exact p.elim
   | stuck=>rw[e]at p;exact p.elim
  ·exact p.elim
theorem vi(hr:HR C ex bs h H)(r:RV C bs (gh ex bs h H) v d)(e:Z.eF h d=some xs):∃a vs,v=.ref a/\(SqL C.K H a vs\/SqT C.K H a vs)/\RVs C bs (gh ex bs h H) vs xs:=by
 cases d with
 | lst ds=>
  simp only[RV]at r;obtain⟨a,vs,rfl,ga,rs⟩:=r;cases e;exact⟨a,vs,rfl,.inl (SqL.of (cC _ _ ga)),rs⟩
 | tup ds=>
  simp only[RV]at r;obtain⟨a,vs,rfl,ga,rs⟩:=r;cases e;exact⟨a,vs,rfl,.inr (SqT.of (cC _ _ ga)),rs⟩
 | arg ns=>
  simp only[RV]at r;obtain⟨a,rfl,ga⟩:=r;cases e;refine⟨a,_,rfl,.inl (cC.sql ga),?_⟩;clear ga hr
  induction ns with
  | nil=>simp only[zk,RVs]
  | cons n ns ih=>simp only[List.map_cons,RVs,RV];exact⟨trivial,ih⟩
 | ref k=>
  simp only[RV]at r;obtain⟨a,rfl,hk⟩:=r;simp only[Z.eF]at e;split at e
  ·rename_i ys hc
   cases e
   obtain⟨vs,ha,rs⟩:=hr.cell k a _ hk hc;exact⟨a,vs,rfl,.inl (SqL.of ha),rs⟩
  ·cases e
 | _=>cases e
theorem ItOk.list(hq:SqL C.K G a vs)(r:RVs C bs G vs ds):ItOk C bs G (Fg C.K a) (none,ds):=by
 intro ex2 bs2 h2 H2 hr pre sm _ i;have hq2:SqL C.K H2 a vs:=(sm.trans cC).sql hq;refine⟨λd e=> ?_,λhle=>⟨vs,hq2,by rw[r.len];exact hle⟩⟩;obtain⟨v,hv,rv⟩:=r.get e;refine⟨⟨vs,v,hq2,hv⟩,λx H3 y=> ?_⟩;obtain⟨rfl,y⟩:=y;have:=y vs hq2;rw[hv]at this;cases this;exact⟨Ev.refl hr,rv.mono pre sm⟩
theorem Same.sqt{K:W.Frag}(e:Same H H')(h:SqT K H a xs):SqT K H' a xs:=by
 rcases h with(h|⟨o,h⟩)|h
 ·exact .inl (.inl (e _ _ h))
 ·exact .inl (.inr ⟨o,e _ _ h⟩)
 ·exact .inr h
theorem ItOk.tup(hq:SqT C.K G a vs)(r:RVs C bs G vs ds):ItOk C bs G (Gy C.K a) (none,ds):=by
 intro ex2 bs2 h2 H2 hr pre sm _ i;have hq2:SqT C.K H2 a vs:=(sm.trans cC).sqt hq;refine⟨λd e=> ?_,λhle=>⟨vs,hq2,by rw[r.len];exact hle⟩⟩;obtain⟨v,hv,rv⟩:=r.get e;refine⟨⟨vs,v,hq2,hv⟩,λx H3 y=> ?_⟩;obtain⟨rfl,y⟩:=y;have:=y vs hq2;rw[hv]at this;cases this;exact⟨Ev.refl hr,rv.mono pre sm⟩
theorem ItOk.rng{lo:Int}:ItOk C bs G (Dq lo n) (none,Z.rng lo n):=by
 intro ex2 bs2 h2 H2 hr pre sm _ i;unfold Z.rng;refine⟨λd e=> ?_,λhle=>by show n<=i;simpa using hle⟩;rw[z5]at e;cases e2:(List.range n)[i]? with
 | none=>rw[e2]at e;cases e
 | some j=>
  rw[e2]at e;simp at e;subst e;obtain⟨hi,hj⟩:=qb.mp e2;simp at hi hj;subst hj;refine⟨hi,λx H3 y=> ?_⟩;obtain⟨rfl,rfl⟩:=y;exact⟨Ev.refl hr,by simp only[RV]⟩
theorem cN(ht:SE C E t m):SI C E (iV C.K t) (Z.dH m):=by
 intro ex bs h ρ σ H Q hr re p;refine ht ex bs h ρ σ H _ hr re (p.bind λd x h1 bs1 H1 e1 rx p1=> ?_);cases d with
 | lst ds=>
  simp only[RV]at rx;obtain⟨a,vs,rfl,ga,rs⟩:=rx;exact .inl ⟨a,rfl,.inl ⟨⟨vs,SqL.of (cC _ _ ga)⟩,Post.now e1.hr p1 (.list (SqL.of ga) rs)⟩⟩
 | tup ds=>
  simp only[RV]at rx;obtain⟨a,vs,rfl,ga,rs⟩:=rx;exact .inl ⟨a,rfl,.inr ⟨⟨vs,SqT.of (cC _ _ ga)⟩,Post.now e1.hr p1 (.tup (SqT.of ga) rs)⟩⟩
 | arg ns=>
  have:=vi e1.hr rx (xs:=ns.map .int) rfl;simp only[RV]at rx;obtain⟨a,rfl,ga⟩:=rx;refine .inl ⟨a,rfl,.inl ⟨⟨_,cC.sql ga⟩,Post.now e1.hr p1 (.list ga ?_)⟩⟩;clear this ga p1 p
  induction ns with
  | nil=>simp only[zk,RVs]
  | cons n ns ih=>simp only[List.map_cons,RVs,RV];exact⟨trivial,ih⟩
 | str z=>
  simp only[RV]at rx;subst rx;refine .inr ⟨z,rfl,Post.now e1.hr p1 ?_⟩;intro ex2 bs2 h2 H2 hr pre sm _ i;refine⟨λd e=> ?_,λhle=>by show z.length<=i;simpa [Str.length]using hle⟩;rw[z5]at e;cases e2:z.cps.toList[i]? with
  | none=>rw[e2]at e;cases e
  | some c=>
   rw[e2]at e;simp at e;subst e;have hi:=(qb.mp e2).1;refine⟨by show i<z.length;simpa [Str.length]using hi,λx H3 y=> ?_⟩;obtain⟨rfl,c',hc,rfl⟩:=y;have:z.cps[i]?=some c:=by simpa using e2
   rw[this]at hc;cases hc;exact⟨Ev.refl hr,by simp only[RV]⟩
 | ref k=>
  simp only[RV]at rx;obtain⟨a,rfl,hk⟩:=rx;dsimp only at p1;split at p1
  ·rename_i xs hc
   obtain⟨vs,ha,rs⟩:=e1.hr.cell k a _ hk hc;refine .inl ⟨a,rfl,.inl ⟨⟨vs,SqL.of ha⟩,Post.now e1.hr p1 ?_⟩⟩;intro ex2 bs2 h2 H2 hr pre sm okg i;obtain⟨ws,ha2,rs2⟩:=hr.cell k a _ (pre k a hk) okg;refine⟨λd e=> ?_,λhle=>⟨ws,SqL.of ha2,by rw[rs2.len];exact hle⟩⟩;obtain⟨v,hv,rv⟩:=rs2.get e;refine⟨⟨ws,v,SqL.of ha2,hv⟩,λx H3 y=> ?_⟩;obtain⟨rfl,y⟩:=y;have:=y ws (SqL.of ha2);rw[hv]at this;cases this;exact⟨Ev.refl hr,rv⟩
  ·exact p1.elim
 | _=>exact p1.elim
theorem yR(ht:SA C E t m):SI C E (oG t) (Z.jr m):=by
 intro ex bs h ρ σ H Q hr re p;refine ht ex bs h ρ σ H _ hr re (p.bind λds xs h1 bs1 H1 e1 rx p1=> ?_);split at p1
 ·rename_i j
  obtain⟨hj,p1⟩:=p1.chk;cases xs with
  | nil=>simp only[RVs]at rx
  | cons v vs=>
   cases vs with
   | cons _ _=>simp only[RVs]at rx;exact rx.2.elim
   | nil=>
    simp only[RVs,RV]at rx;rw[rx.1];exact⟨j,rfl,by omega,by omega,Post.now e1.hr p1 .rng⟩
 ·exact p1.elim
end
section
variable {C : Ct} {ex bs bs1 bs2 : List Addr} {h h1 h2 : Z.MH} {H H1 H2 : Hp} {E : XK}
theorem CL{f:Int->Int->Int}:S2 C (eT λi j=>.int (f i j)) (Z.iG f):=by
 intro ex bs h H E x y dx dy Q hr rx ry p;unfold Z.iG at p;split at p
 ·simp only[RV]at rx ry
  exact⟨_,_,rx,ry,p.now hr (by simp only[RV])⟩
 ·exact p.elim
theorem vT{c c':Int->Int->Prop}[∀i j,Decidable (c i j)]{f:Int->Int->Int}(hc:∀i j,c i j->c' i j):S2 C (rI c' λi j=>.int (f i j)) (Z.nO c f):=by
 intro ex bs h H E x y dx dy Q hr rx ry p;unfold Z.nO at p;split at p
 ·obtain⟨q,p⟩:=p.chk
  simp only[RV]at rx ry;exact⟨_,_,rx,ry,hc _ _ q,p.now hr (by simp only[RV])⟩
 ·exact p.elim
theorem Cz{f:Int->Int->Bool}:S2 C (eT λi j=>.bl (f i j)) (Z.iR f):=by
 intro ex bs h H E x y dx dy Q hr rx ry p;unfold Z.iR at p;split at p
 ·simp only[RV]at rx ry
  exact⟨_,_,rx,ry,p.now hr (by simp only[RV])⟩
 ·exact p.elim
theorem nN:S2 C (eT λi j=>.int (i - j)) Z.cq:=CL
theorem nW:S2 C (eT λi j=>.int (Builtin.bitAnd i j)) Z.dR:=CL
theorem nI:S2 C (eT λi j=>.int (Builtin.bitOr i j)) Z.iD:=CL
theorem tU:S2 C (eT λi j=>.int (Builtin.bitXor i j)) Z.ye:=CL
theorem eJ:S2 C (rI Ca λi j=>.int (i / j)) Z.bf:=vT λ_ _ q=>q
theorem cQ:S2 C (rI (λ_ j=>0<j) λi j=>.int (i % j)) Z.aF:=vT λ_ _ q=>q
theorem Jo(q:Z.mL i j):iQ i j:=by unfold Z.mL at q;unfold iQ;exact⟨q.1,q.2.1,by have:=q.2.2;omega⟩
theorem OF(q:Z.kT i j):CMul i j:=by unfold Z.kT at q;unfold CMul;omega
theorem Gi:S2 C (rI iQ λi j=>.int (i^j.toNat)) Z.fA:=vT λ_ _ q=>Jo q
theorem kQ:S2 C (rI iQ λi j=>.int (i*2^j.toNat)) Z.dr:=vT λ_ _ q=>Jo q
theorem uk:S2 C (rI (λ_ j=>0<=j) λi j=>.int (i / 2^j.toNat)) Z.xH:=vT λ_ _ q=>q
theorem m6:S2 C (eT λi j=>.bl (decide (i<j))) Z.F3:=Cz
theorem Br:S2 C (eT λi j=>.bl (decide (i<=j))) Z.uP:=Cz
theorem Df:S2 C (eT λi j=>.bl (decide (j<i))) Z.m_:=Cz
theorem Ed:S2 C (eT λi j=>.bl (decide (j<=i))) Z.iA:=Cz
theorem FZ:S1 C (rU λi=>.int (-i)) Z.fC:=by
 intro ex bs h H E x dx Q hr rx p;unfold Z.fC at p;split at p
 ·simp only[RV]at rx;exact⟨_,rx,p.now hr (by simp only[RV])⟩
 ·exact p.elim
theorem FC:S1 C (rU λi=>.int (Builtin.bitNot i)) Z.gU:=by
 intro ex bs h H E x dx Q hr rx p;unfold Z.gU at p;split at p
 ·simp only[RV]at rx;exact⟨_,rx,p.now hr (by simp only[RV])⟩
 ·exact p.elim
theorem LN(r:RV C bs G v d):decide (v=.non)=Z.mG d:=by
 cases d<;>simp only[RV]at r
 case non=>subst r;rfl
 case bl=>subst r;rfl
 case int=>subst r;rfl
 case str=>subst r;rfl
 case tup=>obtain⟨_,_,rfl,_⟩:=r;rfl
 case lst=>obtain⟨_,_,rfl,_⟩:=r;rfl
 case arg=>obtain⟨_,rfl,_⟩:=r;rfl
 case ref=>obtain⟨_,rfl,_⟩:=r;rfl
 case ty=>subst r;rfl
 case cls=>subst r;rfl
 case exc=>obtain⟨_,_,_,rfl,_⟩:=r;rfl
 case obj=>obtain⟨_,_,_,rfl,_⟩:=r;rfl
 case dic=>obtain⟨_,_,rfl,_⟩:=r;rfl
theorem xM:S2 C (λx y H Q=>(y=.non/\Q (.bl (decide (x=.non))) H)\/∃a b,x=.bl a/\y=.bl b/\Q (.bl ((a==b))) H) Z.uK:=by
 intro ex bs h H E x y dx dy Q hr rx ry p;unfold Z.uK at p;split at p
 ·simp only[RV]at rx ry
  exact .inr ⟨_,_,rx,ry,p.now hr (by simp only[RV])⟩
 ·simp only[RV]at ry
  exact .inl ⟨ry,by rw[LN rx];exact p.now hr (by simp only[RV])⟩
 ·exact p.elim
theorem mW(hr:HR C ex bs h H)(r:RV C bs (gh ex bs h H) v d)(e:Z.g_ h d=some xs):∃a vs,v=.ref a/\H a=some (.lst vs)/\RVs C bs (gh ex bs h H) vs xs:=by
 cases d with
 | lst ds=>
  simp only[RV]at r;obtain⟨a,vs,rfl,ga,rs⟩:=r;cases e;exact⟨a,vs,rfl,cC _ _ ga,rs⟩
 | ref k=>
  simp only[RV]at r;obtain⟨a,rfl,hk⟩:=r;simp only[Z.g_]at e;split at e
  ·rename_i ys hc
   cases e
   obtain⟨vs,ha,rs⟩:=hr.cell k a _ hk hc;exact⟨a,vs,rfl,ha,rs⟩
  ·cases e
 | _=>cases e
theorem Post.tree{Q:VK}(hr:HR C ex bs h H)(q:Post C ex E bs h H (RV C) (.ok (.lst ds) h) Q)(hp:H p=none)(r:RVs C bs (gh ex bs h H) vs ds):Q (.ref p) (a9 H p (.lst vs)):=by
 obtain⟨e2,g⟩:=Ev.alloc (o:=.lst vs) hr hp;exact q (.ref p) bs _ e2 (by simp only[RV];exact⟨p,vs,rfl,g,r.ev e2⟩)
theorem Post.ttup{Q:VK}(hr:HR C ex bs h H)(q:Post C ex E bs h H (RV C) (.ok (.tup ds) h) Q)(hp:H p=none)(r:RVs C bs (gh ex bs h H) vs ds):Q (.ref p) (a9 H p (.tup vs)):=by
 obtain⟨e2,g⟩:=Ev.alloc (o:=.tup vs) hr hp;exact q (.ref p) bs _ e2 (by simp only[RV];exact⟨p,vs,rfl,g,r.ev e2⟩)
theorem bB:S2 C (mJ C.K) Z.au:=by
 intro ex bs h H E x y dx dy Q hr rx ry p;unfold Z.au at p;split at p
 ·simp only[RV]at rx ry
  subst rx ry;exact p.now hr (by simp only[RV])
 ·obtain⟨q,p⟩:=p.chk
  simp only[RV]at rx ry;subst rx ry;exact⟨q,p.now hr (by simp only[RV])⟩
 ·obtain⟨q,p⟩:=p.chk
  simp only[RV]at rx ry;obtain⟨a,vs,rfl,ga,rs⟩:=rx;obtain⟨b,ws,rfl,gb,qs⟩:=ry;have hl:=rs.len;have hl':=qs.len;refine .inr ⟨a,b,vs,ws,rfl,rfl,SqT.of (cC _ _ ga),SqT.of (cC _ _ gb),λz=>q.1 (kq (by rw[<-hl,z];rfl)),by rw[hl,hl'];exact q.2,λz=> ?_,λ_ l hl=>Post.ttup hr p hl (rs.append qs)⟩;subst z;refine p.now hr ?_;simp only[RV];have:=rs.append qs;rw[zr]at this;exact⟨a,vs,rfl,ga,this⟩
 ·obtain⟨xs,e1,p⟩:=p.oR
  obtain⟨ys,e2,p⟩:=p.oR;obtain⟨q,p⟩:=p.chk;obtain⟨a,vs,rfl,ha,rs⟩:=mW hr rx e1;obtain⟨b,ws,rfl,hb,qs⟩:=mW hr ry e2;exact .inl ⟨a,b,vs,ws,rfl,rfl,ha,hb,by rw[rs.len,qs.len];exact q,λl hl=>Post.tree hr p hl (rs.append qs)⟩
theorem RVs.rep(r:RVs C bs G vs ds):∀n:Nat,RVs C bs G (List.replicate n vs).flatten (List.replicate n ds).flatten
 | 0=>by simp[RVs]
 | n+1=>by
  rw[zq,zq,w9,w9];exact r.append (RVs.rep r n)
theorem uC:S2 C o_ Z.df:=by
 intro ex bs h H E x y dx dy Q hr rx ry p;unfold Z.df at p;split at p
 ·obtain⟨q,p⟩:=p.chk
  simp only[RV]at rx ry;subst rx ry;exact⟨OF q,p.now hr (by simp only[RV])⟩
 ·obtain⟨q,p⟩:=p.chk
  simp only[RV]at rx ry;subst rx ry;exact⟨q.1,q.2,p.now hr (by simp only[RV])⟩
 ·obtain⟨xs,e1,p⟩:=p.oR
  obtain⟨q,p⟩:=p.chk;obtain⟨a,vs,rfl,ha,rs⟩:=mW hr rx e1;simp only[RV]at ry;subst ry;exact⟨a,_,vs,rfl,rfl,ha,by have:=q.1;omega,by have:=q.1;omega,by rw[rs.len];exact q.2,λl hl=>Post.tree hr p hl (rs.rep _)⟩
 ·exact p.elim
theorem RVk.len:∀{ds:List (Sum Int Str×Z.D)} {vs:List (cH×V)},RVk C bs G vs ds->vs.length=ds.length
  | [],[],_=>rfl
  | (_,_)::ds,(_,_)::vs,h=>by simp only[RVk]at h;simp[RVk.len h.2.2]
  | [],_::_,h=>by simp only[RVk]at h
  | _::_,[],h=>by simp only[RVk]at h
theorem Jr(hr:HR C ex bs h H)(r:RV C bs (gh ex bs h H) v d)(e:Z.iO h d=some k):fD C.K v H k:=by
 have sq:∀{xs:List Z.D},Z.eF h d=some xs->k= !xs.isEmpty->fD C.K v H k:=fun{xs} e1 e2=>by
  obtain⟨a,vs,rfl,hq,rs⟩:=vi hr r e1;have:k= !vs.isEmpty:=by
   rw[e2];have:=rs.len;cases vs<;>cases xs<;>first|rfl|(simp at this)
  rcases hq with hq|hq
  ·exact .inl ⟨vs,hq,this⟩
  ·exact .inr (.inl ⟨vs,hq,this⟩)
 cases d with
 | non=>simp only[RV]at r;subst r;cases e;rfl
 | bl b=>simp only[RV]at r;subst r;cases e;rfl
 | int i=>simp only[RV]at r;subst r;cases e;rfl
 | str y=>
  simp only[RV]at r;subst r;simp only[Z.iO]at e;split at e
  ·rename_i hz;cases e;exact⟨hz,rfl⟩
  ·cases e
 | lst xs=>simp only[Z.iO,Z.eF,Option.some.injEq]at e;exact sq rfl e.symm
 | tup xs=>simp only[Z.iO,Z.eF,Option.some.injEq]at e;exact sq rfl e.symm
 | arg ns=>simp only[Z.iO,Z.eF,Option.some.injEq]at e;exact sq rfl e.symm
 | ref j=>
  simp only[Z.iO]at e;split at e
  ·rename_i xs hx
   simp only[Option.some.injEq]at e;exact sq hx e.symm
  ·simp only[Z.DQ]at e
   split at e
   ·rename_i kvs hc
    simp only[wz,Option.some.injEq]at e;simp only[RV]at r;obtain⟨a,rfl,hk⟩:=r;obtain⟨kws,ha,rk⟩:=hr.cell j a _ hk hc;refine .inr (.inr ⟨kws,ha,?_⟩);rw[<-e];have:=rk.len;cases kws<;>cases kvs<;>first|rfl|(simp at this)
   ·cases e
 | ty n=>simp[Z.iO,Z.eF]at e
 | cls n=>simp[Z.iO,Z.eF]at e
 | exc n=>simp[Z.iO,Z.eF]at e
 | obj c fs=>simp[Z.iO,Z.eF]at e
 | dic kvs=>simp[Z.iO,Z.eF]at e
theorem ft(ht:SE C E t m):ST C E (λσ H Q=>t σ H λx H'=>∃k,fD C.K x H' k/\Q k H') (Z.b8 m):=by
 intro ex bs h ρ σ H Q hr re p;refine ht ex bs h ρ σ H _ hr re (p.bind λd x h1 bs1 H1 e1 rx p1=> ?_);obtain⟨k,ek,p1⟩:=p1.oR1;exact⟨k,Jr e1.hr rx ek,Post.now e1.hr p1 rfl⟩
theorem JV(ht:SE C E t m):SE C E (λσ H Q=>t σ H λx H1=>∃k,fD C.K x H1 k/\Q (.bl (!k)) H1) (Z.Hq m):=by
 intro ex bs h ρ σ H Q hr re p;refine ht ex bs h ρ σ H _ hr re (p.bind λd x h1 bs1 H1 e1 rx p1=> ?_);obtain⟨k,ek,p1⟩:=p1.oR;exact⟨k,Jr e1.hr rx ek,p1.now e1.hr (by simp only[RV])⟩
mutual
theorem RV.rep{G:Hp}:∀{d:Z.D} {v:V} {q:PyData},RV C bs G v d->d.py=some q->Rep G v q
 | .non,v,q,h,e=>by simp only[RV]at h;simp only[Z.D.py,Option.some.injEq]at e;subst e;simp only[Rep];exact h
 | .bl b,v,q,h,e=>by simp only[RV]at h;simp only[Z.D.py,Option.some.injEq]at e;subst e;simp only[Rep];exact h
 | .int i,v,q,h,e=>by simp only[RV]at h;simp only[Z.D.py,Option.some.injEq]at e;subst e;simp only[Rep];exact h
 | .str x,v,q,h,e=>by
  simp only[RV]at h;simp only[Z.D.py]at e;split at e
  ·simp only[Option.some.injEq]at e;subst e;simp only[Rep];exact h
  ·cases e
 | .tup ds,v,q,h,e=>by
  simp only[RV]at h;simp only[Z.D.py]at e;obtain⟨a,vs,h1,h2,h3⟩:=h;cases e2:Z.D.pys ds with
  | none=>rw[e2]at e;cases e
  | some ps=>
   rw[e2]at e;simp only[wz,Option.some.injEq]at e;subst e;simp only[Rep];exact⟨a,vs,h1,h2,RVs.reps h3 e2⟩
 | .lst ds,v,q,h,e=>by
  simp only[RV]at h;simp only[Z.D.py]at e;obtain⟨a,vs,h1,h2,h3⟩:=h;cases e2:Z.D.pys ds with
  | none=>rw[e2]at e;cases e
  | some ps=>
   rw[e2]at e;simp only[wz,Option.some.injEq]at e;subst e;simp only[Rep];exact⟨a,vs,h1,h2,RVs.reps h3 e2⟩
 | .arg _,_,_,_,e=>by simp only[Z.D.py]at e;cases e
 | .ref _,_,_,_,e=>by simp only[Z.D.py]at e;cases e
 | .ty _,_,_,_,e=>by simp only[Z.D.py]at e;cases e
 | .cls _,_,_,_,e=>by simp only[Z.D.py]at e;cases e
 | .exc _,_,_,_,e=>by simp only[Z.D.py]at e;cases e
 | .obj _ _,_,_,_,e=>by simp only[Z.D.py]at e;cases e
 | .dic _,_,_,_,e=>by simp only[Z.D.py]at e;cases e
theorem RVs.reps{G:Hp}:∀{ds:List Z.D} {vs:List V} {qs:List PyData},RVs C bs G vs ds->Z.D.pys ds=some qs->Reps G vs qs
 | [],[],qs,_,e=>by simp only[Z.D.pys,Option.some.injEq]at e;subst e;simp only[Reps]
 | d::ds,v::vs,qs,h,e=>by
  simp only[RVs]at h;simp only[Z.D.pys]at e;split at e
  ·rename_i p ps e1 e2
   simp only[Option.some.injEq]at e;subst e;simp only[Reps];exact⟨RV.rep h.1 e1,RVs.reps h.2 e2⟩
  ·cases e
 | [],_::_,_,h,_=>by simp only[RVs]at h
 | _::_,[],_,h,_=>by simp only[RVs]at h
end
mutual
theorem Gg:∀{d e:Z.D} {p q:PyData},d.py=some p->e.py=some q->PyData.eqv p q=d.eq e
  | .non,e,p,q,hd,he=>by
    simp only[Z.D.py,Option.some.injEq]at hd;subst hd;cases e<;>simp only[Z.D.py,Option.some.injEq]at he<;>(try cases he)<;>first
      | (subst he;simp[PyData.eqv,Z.D.eq];done)
      | (split at he<;>first|(cases he;simp[PyData.eqv,Z.D.eq];done)|cases he)
      | (simp only[qk]at he;obtain⟨_,_,rfl⟩:=he;simp[PyData.eqv,Z.D.eq];done)
      | (simp[PyData.eqv,Z.D.eq];done)
  | .bl b,e,p,q,hd,he=>by
    simp only[Z.D.py,Option.some.injEq]at hd;subst hd;cases e<;>simp only[Z.D.py,Option.some.injEq]at he<;>(try cases he)<;>first
      | (subst he;simp[PyData.eqv,Z.D.eq];done)
      | (split at he<;>first|(cases he;simp[PyData.eqv,Z.D.eq];done)|cases he)
      | (simp only[qk]at he;obtain⟨_,_,rfl⟩:=he;simp[PyData.eqv,Z.D.eq];done)
      | (simp[PyData.eqv,Z.D.eq];done)
  | .int b,e,p,q,hd,he=>by
    simp only[Z.D.py,Option.some.injEq]at hd;subst hd;cases e<;>simp only[Z.D.py,Option.some.injEq]at he<;>(try cases he)<;>first
      | (subst he;simp[PyData.eqv,Z.D.eq];done)
      | (split at he<;>first|(cases he;simp[PyData.eqv,Z.D.eq];done)|cases he)
      | (simp only[qk]at he;obtain⟨_,_,rfl⟩:=he;simp[PyData.eqv,Z.D.eq];done)
      | (simp[PyData.eqv,Z.D.eq];done)
  | .str b,e,p,q,hd,he=>by
    simp only[Z.D.py]at hd;split at hd
    · cases hd
      cases e<;>simp only[Z.D.py,Option.some.injEq]at he<;>(try cases he)<;>first
        | (subst he;simp[PyData.eqv,Z.D.eq];done)
        | (split at he<;>first|(cases he;simp[PyData.eqv,Z.D.eq];done)|cases he)
        | (simp only[qk]at he;obtain⟨_,_,rfl⟩:=he;simp[PyData.eqv,Z.D.eq];done)
        | (simp[PyData.eqv,Z.D.eq];done)
    · cases hd
  | .tup xs,e,p,q,hd,he=>by
    simp only[Z.D.py,qk]at hd;obtain⟨ps,h1,rfl⟩:=hd;cases e with
    | tup ys=>
      simp only[Z.D.py,qk]at he;obtain⟨qs,h2,rfl⟩:=he;simp only[PyData.eqv,Z.D.eq];exact EK h1 h2
    | _=>
      simp only[Z.D.py,Option.some.injEq]at he<;>(try cases he)<;>first
        | (subst he;simp[PyData.eqv,Z.D.eq];done)
        | (split at he<;>first|(cases he;simp[PyData.eqv,Z.D.eq];done)|cases he)
        | (simp only[qk]at he;obtain⟨_,_,rfl⟩:=he;simp[PyData.eqv,Z.D.eq];done)
        | (simp[PyData.eqv,Z.D.eq];done)
  | .lst xs,e,p,q,hd,he=>by
    simp only[Z.D.py,qk]at hd;obtain⟨ps,h1,rfl⟩:=hd;cases e with
    | lst ys=>
      simp only[Z.D.py,qk]at he;obtain⟨qs,h2,rfl⟩:=he;simp only[PyData.eqv,Z.D.eq];exact EK h1 h2
    | _=>
      simp only[Z.D.py,Option.some.injEq]at he<;>(try cases he)<;>first
        | (subst he;simp[PyData.eqv,Z.D.eq];done)
        | (split at he<;>first|(cases he;simp[PyData.eqv,Z.D.eq];done)|cases he)
        | (simp only[qk]at he;obtain⟨_,_,rfl⟩:=he;simp[PyData.eqv,Z.D.eq];done)
        | (simp[PyData.eqv,Z.D.eq];done)
  | .arg _,_,_,_,e,_=>by simp only[Z.D.py]at e;cases e
  | .ref _,_,_,_,e,_=>by simp only[Z.D.py]at e;cases e
  | .ty _,_,_,_,e,_=>by simp only[Z.D.py]at e;cases e
  | .cls _,_,_,_,e,_=>by simp only[Z.D.py]at e;cases e
  | .exc _,_,_,_,e,_=>by simp only[Z.D.py]at e;cases e
  | .obj _ _,_,_,_,e,_=>by simp only[Z.D.py]at e;cases e
  | .dic _,_,_,_,e,_=>by simp only[Z.D.py]at e;cases e
theorem EK:∀{ds es:List Z.D} {ps qs:List PyData},Z.D.pys ds=some ps->Z.D.pys es=some qs->PyData.eqvAll ps qs=Z.D.eqs ds es
 | [],[],ps,qs,h1,h2=>by
  simp only[Z.D.pys,Option.some.injEq]at h1 h2;subst h1 h2;simp only[PyData.eqvAll,Z.D.eqs]
 | d::ds,e::es,ps,qs,h1,h2=>by
  simp only[Z.D.pys]at h1 h2;split at h1
  ·split at h2
   ·rename_i p1 ps1 a1 a2 _ _ q1 qs1 b1 b2
    simp only[Option.some.injEq]at h1 h2;subst h1 h2;simp only[PyData.eqvAll,Z.D.eqs];rw[Gg a1 b1,EK a2 b2]
   ·cases h2
  ·cases h1
 | [],e::es,ps,qs,h1,h2=>by
  simp only[Z.D.pys]at h1 h2;split at h2
  ·simp only[Option.some.injEq]at h1 h2;subst h1 h2;simp only[PyData.eqvAll,Z.D.eqs]
  ·cases h2
 | d::ds,[],ps,qs,h1,h2=>by
  simp only[Z.D.pys]at h1 h2;split at h1
  ·simp only[Option.some.injEq]at h1 h2;subst h1 h2;simp only[PyData.eqvAll,Z.D.eqs]
  ·cases h1
end
end
section
variable {C : Ct} {ex bs bs1 bs2 : List Addr} {h h1 h2 : Z.MH} {H H1 H2 : Hp} {E : XK}
mutual
theorem Kb:∀{d:Z.D} {q:PyData},d.py=some q->q.canLay0=true/\q.depth=d.deep
 | .non,q,e=>by simp only[Z.D.py,Option.some.injEq]at e;subst e;exact⟨by simp only[PyData.canLay0],by simp only[PyData.depth,Z.D.deep]⟩
 | .bl b,q,e=>by simp only[Z.D.py,Option.some.injEq]at e;subst e;exact⟨by simp only[PyData.canLay0],by simp only[PyData.depth,Z.D.deep]⟩
 | .int b,q,e=>by simp only[Z.D.py,Option.some.injEq]at e;subst e;exact⟨by simp only[PyData.canLay0],by simp only[PyData.depth,Z.D.deep]⟩
 | .str b,q,e=>by
  simp only[Z.D.py]at e;split at e
  ·rename_i hs;cases e;exact⟨by simp only[PyData.canLay0];exact hs,by simp only[PyData.depth,Z.D.deep]⟩
  ·cases e
 | .tup ds,q,e=>by
  simp only[Z.D.py,qk]at e;obtain⟨ps,h1,rfl⟩:=e;have:=E6 h1;exact⟨by simp only[PyData.canLay0];exact this.1,by simp only[PyData.depth,Z.D.deep];rw[this.2]⟩
 | .lst ds,q,e=>by
  simp only[Z.D.py,qk]at e;obtain⟨ps,h1,rfl⟩:=e;have:=E6 h1;exact⟨by simp only[PyData.canLay0];exact this.1,by simp only[PyData.depth,Z.D.deep];rw[this.2]⟩
 | .arg _,_,e=>by simp only[Z.D.py]at e;cases e
 | .ref _,_,e=>by simp only[Z.D.py]at e;cases e
 | .ty _,_,e=>by simp only[Z.D.py]at e;cases e
 | .cls _,_,e=>by simp only[Z.D.py]at e;cases e
 | .exc _,_,e=>by simp only[Z.D.py]at e;cases e
 | .obj _ _,_,e=>by simp only[Z.D.py]at e;cases e
 | .dic _,_,e=>by simp only[Z.D.py]at e;cases e
theorem E6:∀{ds:List Z.D} {qs:List PyData},Z.D.pys ds=some qs->PyData.canLayAll0 qs=true/\PyData.depthAll qs=Z.D.deeps ds
 | [],qs,e=>by simp only[Z.D.pys,Option.some.injEq]at e;subst e;exact⟨by simp only[PyData.canLayAll0],by simp only[PyData.depthAll,Z.D.deeps]⟩
 | d::ds,qs,e=>by
  simp only[Z.D.pys]at e;split at e
  ·rename_i p ps e1 e2
   simp only[Option.some.injEq]at e;subst e;have a:=Kb e1;have b:=E6 e2;exact⟨by simp only[PyData.canLayAll0,a.1,b.1,Bool.and_self],by simp only[PyData.depthAll,Z.D.deeps,a.2,b.2]⟩
  ·cases e
end
theorem Eu{d:Z.D}(e:d.dat=true):∃q,d.py=some q/\oE q:=by
 unfold Z.D.dat at e;rw[qu,decide_eq_true_eq,zx]at e;obtain⟨⟨q,hq⟩,hd⟩:=e;refine⟨q,hq,?_⟩;have:=Kb hq;show SeqAt.shaped q=true;unfold SeqAt.shaped;rw[qu,decide_eq_true_eq];exact⟨this.1,by rw[this.2];exact hd⟩
mutual
theorem Jq(hr:HR C ex bs h H):∀(n:Nat) {d:Z.D} {v:V} {q:PyData},RV C bs (gh ex bs h H) v d->(Z.res n h d).py=some q->Rep H v q
 | 0,d,v,q,r,e=>by unfold Z.res at e;exact(r.rep e).same cC
 | n+1,.ref k,v,q,r,e=>by
  unfold Z.res at e;split at e
  ·rename_i xs hc
   simp only[RV]at r;obtain⟨a,rfl,hk⟩:=r;obtain⟨vs,ha,rs⟩:=hr.cell k a _ hk hc;simp only[Z.D.py,qk]at e;obtain⟨ps,h1,rfl⟩:=e;simp only[Rep];exact⟨a,vs,rfl,ha,DY hr n rs h1⟩
  ·simp only[Z.D.py]at e;cases e
 | n+1,.tup xs,v,q,r,e=>by
  unfold Z.res at e;simp only[RV]at r;obtain⟨a,vs,rfl,ga,rs⟩:=r;simp only[Z.D.py,qk]at e;obtain⟨ps,h1,rfl⟩:=e;simp only[Rep];exact⟨a,vs,rfl,cC _ _ ga,DY hr n rs h1⟩
 | n+1,.lst xs,v,q,r,e=>by
  unfold Z.res at e;simp only[RV]at r;obtain⟨a,vs,rfl,ga,rs⟩:=r;simp only[Z.D.py,qk]at e;obtain⟨ps,h1,rfl⟩:=e;simp only[Rep];exact⟨a,vs,rfl,cC _ _ ga,DY hr n rs h1⟩
 | n+1,.non,v,q,r,e=>by unfold Z.res at e;exact(r.rep e).same cC
 | n+1,.bl _,v,q,r,e=>by unfold Z.res at e;exact(r.rep e).same cC
 | n+1,.int _,v,q,r,e=>by unfold Z.res at e;exact(r.rep e).same cC
 | n+1,.str _,v,q,r,e=>by unfold Z.res at e;exact(r.rep e).same cC
 | n+1,.arg _,v,q,r,e=>by unfold Z.res at e;exact(r.rep e).same cC
 | n+1,.ty _,v,q,r,e=>by unfold Z.res at e;exact(r.rep e).same cC
 | n+1,.cls _,v,q,r,e=>by unfold Z.res at e;exact(r.rep e).same cC
 | n+1,.exc _,v,q,r,e=>by unfold Z.res at e;exact(r.rep e).same cC
 | n+1,.obj _ _,v,q,r,e=>by unfold Z.res at e;exact(r.rep e).same cC
 | n+1,.dic _,v,q,r,e=>by unfold Z.res at e;exact(r.rep e).same cC
theorem DY(hr:HR C ex bs h H):∀(n:Nat) {ds:List Z.D} {vs:List V} {qs:List PyData},RVs C bs (gh ex bs h H) vs ds->Z.D.pys (ds.map (Z.res n h))=some qs->Reps H vs qs
 | n,[],[],qs,_,e=>by simp only[zk,Z.D.pys,Option.some.injEq]at e;subst e;simp only[Reps]
 | n,d::ds,v::vs,qs,r,e=>by
  simp only[RVs]at r;simp only[List.map_cons,Z.D.pys]at e;split at e
  ·rename_i p ps e1 e2
   simp only[Option.some.injEq]at e;subst e;simp only[Reps];exact⟨Jq hr n r.1 e1,DY hr n r.2 e2⟩
  ·cases e
 | n,[],_::_,_,r,_=>by simp only[RVs]at r
 | n,_::_,[],_,r,_=>by simp only[RVs]at r
end
theorem J7(hr:HR C ex bs h H)(r:RV C bs (gh ex bs h H) v d)(e:(Z.uE h d).dat=true):∃q,(Z.uE h d).py=some q/\Rep H v q/\oE q:=by
 obtain⟨q,h1,h2⟩:=Eu e;exact⟨q,h1,Jq hr 8 r h1,h2⟩
theorem Jb(hr:HR C ex bs h H)(rx:RV C bs (gh ex bs h H) x dx)(ry:RV C bs (gh ex bs h H) y dy):Z.bH dx dy h=.stuck\/∃b,Z.bH dx dy h=.ok (.bl b) h/\
  ((jC x y=true/\decide (x=y)=b)\/∃d e,Rep H x d/\Rep H y e/\oE d/\oE e/\PyData.eqv d e=b):=by
 unfold Z.bH;split
 ·simp only[RV]at rx ry;subst rx ry
  exact .inr ⟨_,rfl,.inl ⟨rfl,by simp⟩⟩
 ·simp only[RV]at rx ry;subst rx ry
  exact .inr ⟨_,rfl,.inl ⟨rfl,by simp⟩⟩
 ·simp only[RV]at rx ry;subst rx ry
  exact .inr ⟨_,rfl,.inl ⟨rfl,FX⟩⟩
 ·split
  ·rename_i q
   obtain⟨d,h1,h3⟩:=Eu q.1;obtain⟨e,k1,k3⟩:=Eu q.2;exact .inr ⟨_,rfl,.inr ⟨d,e,(rx.rep h1).same cC,(ry.rep k1).same cC,h3,k3,Gg h1 k1⟩⟩
  ·unfold Z.chk
   split
   ·rename_i q
    obtain⟨d,h1,h2,h3⟩:=J7 hr rx q.1;obtain⟨e,k1,k2,k3⟩:=J7 hr ry q.2;exact .inr ⟨_,rfl,.inr ⟨d,e,h2,k2,h3,k3,Gg h1 k1⟩⟩
   ·exact .inl rfl
theorem cw:S2 C KR Z.bH:=by
 intro ex bs h H E x y dx dy Q hr rx ry p;rcases Jb hr rx ry with e|⟨b,e,q⟩
 ·rw[e]at p;exact p.elim
 ·rw[e]at p
  have:=p.now (b:=.bl b) hr (by simp only[RV]);rcases q with⟨q1,q2⟩|⟨d,e,h1,h2,h3,h4,h5⟩
  ·exact .inl ⟨q1,by rw[q2];exact this⟩
  ·exact .inr ⟨d,e,h1,h2,h3,h4,by rw[h5];exact this⟩
theorem hX:S2 C Jj Z.dg:=by
 intro ex bs h H E x y dx dy Q hr rx ry p;unfold Z.dg at p;rcases Jb hr rx ry with e|⟨b,e,q⟩
 ·rw[e]at p;exact p.elim
 ·rw[e]at p
  have:=Post.now (b:=.bl (!b)) hr p (by simp only[RV]);rcases q with⟨q1,q2⟩|⟨d,e,h1,h2,h3,h4,h5⟩
  ·exact .inl ⟨q1,by rw[q2];exact this⟩
  ·exact .inr ⟨d,e,h1,h2,h3,h4,by rw[h5];exact this⟩
theorem Jy(r:RV C bs G v d)(f:Z.iH d=true):fv d=some v/\lh v=true:=by
 cases d<;>simp only[RV]at r<;>first|(subst r;exact⟨rfl,rfl⟩)|(cases f)
theorem GZ(f:fv d=some v):RV C bs G v d:=by
 cases d<;>simp only[fv,Option.some.injEq]at f<;>first|(subst f;simp only[RV];done)|(cases f)
theorem vM(a:fv d=some v)(b:fv e=some u):kZ v u=Z.jj d e:=by
 cases d<;>simp only[fv,Option.some.injEq]at a<;>(try cases a)<;>cases e<;>simp only[fv,Option.some.injEq]at b<;>(try cases b)<;>(try subst a)<;>(try subst b)<;>rfl
theorem J0{G:Hp}{e:Z.D}{u:V}(b:fv e=some u):∀{ds:List Z.D} {vs:List V},RVs C bs G vs ds->ds.all Z.iH=true->vs.all lh=true/\(vs.any λy=>kZ y u)=ds.any λy=>Z.jj y e
 | [],[],_,_=>⟨rfl,rfl⟩
 | d::ds,v::vs,h,f=>by
  simp only[RVs]at h;rw[wb,qu]at f;obtain⟨h1,h2⟩:=Jy h.1 f.1;obtain⟨h3,h4⟩:=J0 b h.2 f.2;rw[wb,wl,wl,h2,h3,h4,vM h1 b];exact⟨rfl,rfl⟩
 | [],_::_,h,_=>by simp only[RVs]at h
 | _::_,[],h,_=>by simp only[RVs]at h
theorem EA(r:RV C bs G v d)(e:Z.A0 d=some k):v=kV k:=by
 cases d<;>simp only[Z.A0,Option.some.injEq]at e<;>(try cases e)<;>simp only[RV]at r<;>exact r
theorem RVk.val:∀{ds:List (Sum Int Str×Z.D)} {vs:List (cH×V)},RVk C bs G vs ds->
    (Z.dA ds k=none/\de vs k=none)\/∃d v,Z.dA ds k=some d/\de vs k=some v/\RV C bs G v d
  | [],[],_=>.inl ⟨rfl,rfl⟩
  | (y,d)::ds,(x,v)::vs,h=>by
    simp only[RVk]at h;obtain⟨rfl,h1,h2⟩:=h;unfold Z.dA de;rw[zm,zm];by_cases e:x=k
    · simp only[e,decide_true]
      exact .inr ⟨d,v,rfl,rfl,h1⟩
    · simp only[e,decide_false]
      exact RVk.val h2
  | [],_::_,h=>by simp only[RVk]at h
  | _::_,[],h=>by simp only[RVk]at h
theorem RVk.of:∀{ds:List (Sum Int Str×Z.D)} {vs:List (cH×V)},ds.map (λp=>(p.1,fv p.2))=vs.map (λp=>(p.1,some p.2))->RVk C bs G vs ds
  | [],[],_=>by simp only[RVk]
  | (y,d)::ds,(x,v)::vs,e=>by
    simp only[List.map_cons,List.cons.injEq,Prod.mk.injEq]at e;simp only[RVk];exact⟨e.1.1.symm,GZ e.1.2,RVk.of e.2⟩
  | [],_::_,e=>by simp at e
  | _::_,[],e=>by simp at e
theorem Kk(hr:HR C ex bs h H)(r:RV C bs (gh ex bs h H) v d)(e:Z.DH h d=some kvs)(k:Sum Int Str):∃a,v=.ref a/\
  ((Z.dA kvs k=none/\C7 C.P C.w C.K H a (kV k) none)\/∃d' v',Z.dA kvs k=some d'/\C7 C.P C.w C.K H a (kV k) (some v')/\RV C bs (gh ex bs h H) v' d'):=by
 cases d with
 | dic kvs'=>
  simp only[RV]at r;obtain⟨a,kws,rfl,hk,em⟩:=r;cases e;refine⟨a,rfl,?_⟩;rcases RVk.val (k:=k) (RVk.of (C:=C) (bs:=bs) (G:=gh ex bs h H) em)with⟨h1,h2⟩|⟨d',v',h1,h2,h3⟩
  ·exact .inl ⟨h1,.inr (.inl ⟨kws,k,hk,rfl,h2.symm⟩)⟩
  ·exact .inr ⟨d',v',h1,.inr (.inl ⟨kws,k,hk,rfl,h2.symm⟩),h3⟩
 | ref j=>
  simp only[RV]at r;obtain⟨a,rfl,hj⟩:=r;simp only[Z.DH]at e;split at e
  ·rename_i kvs' hc
   cases e
   obtain⟨kws,ha,rk⟩:=hr.cell j a _ hj hc;refine⟨a,rfl,?_⟩;rcases rk.val (k:=k)with⟨h1,h2⟩|⟨d',v',h1,h2,h3⟩
   ·exact .inl ⟨h1,.inl (by rw[<-h2];exact DGet.k ha)⟩
   ·exact .inr ⟨d',v',h1,.inl (by rw[<-h2];exact DGet.k ha),h3⟩
  ·rename_i kvs' hc
   cases e
   obtain⟨o,kws,hg,_,rk⟩:=hr.cell j a _ hj hc;have ha:=cC _ _ hg;refine⟨a,rfl,?_⟩;rcases rk.val (k:=k)with⟨h1,h2⟩|⟨d',v',h1,h2,h3⟩
   ·exact .inl ⟨h1,.inr (.inr ⟨o,kws,k,ha,rfl,h2.symm⟩)⟩
   ·exact .inr ⟨d',v',h1,.inr (.inr ⟨o,kws,k,ha,rfl,h2.symm⟩),h3⟩
  ·cases e
 | _=>cases e
theorem vj:S2 C (zX C.P C.w C.K neg) (Z.eX neg):=by
 intro ex bs h H E x y dx dy Q hr rx ry p;unfold Z.eX at p;split at p
 ·simp only[RV]at rx ry;subst rx ry
  exact .inr (.inl ⟨_,_,rfl,rfl,p.now hr (by simp only[RV])⟩)
 ·split at p
  ·rename_i ys hy
   obtain⟨q,p⟩:=p.chk;obtain⟨a,vs,rfl,hq,rs⟩:=vi hr ry hy;obtain⟨fx,fx'⟩:=Jy rx q.1;obtain⟨h1,h2⟩:=J0 fx rs q.2;refine .inl ⟨a,vs,rfl,hq,fx',h1,?_⟩;unfold Ho;rw[h2];exact p.now hr (by simp only[RV])
  ·split at p
   ·rename_i kvs k e1 e2
    obtain⟨a,rfl,hd⟩:=Kk hr ry e1 k;have ek:=EA rx e2;subst ek;rcases hd with⟨h1,h2⟩|⟨d',v',h1,h2,h3⟩
    ·refine .inr (.inr ⟨a,none,rfl,h2,?_⟩)
     rw[h1]at p;exact p.now hr (by simp only[RV];rfl)
    ·refine .inr (.inr ⟨a,some v',rfl,h2,?_⟩)
     rw[h1]at p;exact p.now hr (by simp only[RV];rfl)
   ·exact p.elim
theorem EJ(r:RVs C bs G vs ds)(e:Z.cU ds i=some d):∃v,cU vs i=some v/\RV C bs G v d:=by
 unfold Z.cU at e;unfold cU;rw[r.len];have:gC ds.length i=Z.gC ds.length i:=rfl;rw[this];cases e2:Z.gC ds.length i with
 | none=>rw[e2]at e;cases e
 | some j=>
  rw[e2]at e;exact r.get e
theorem Cj:S2 C (v8 C.P C.w C.K) Z.aS:=by
 intro ex bs h H E x y dx dy Q hr rx ry p;unfold Z.aS at p;split at p
 ·obtain⟨q,p⟩:=p.chk
  obtain⟨c,e1,p⟩:=p.oR;simp only[RV]at rx ry;subst rx ry;exact .inl (.inr (.inr ⟨_,_,c,rfl,rfl,q,e1,p.now hr (by simp only[RV])⟩))
 ·split at p
  ·rename_i xs hx
   split at p
   ·obtain⟨d,e1,p⟩:=p.oR1
    obtain⟨a,vs,rfl,hq,rs⟩:=vi hr rx hx;obtain⟨v,hv,rv⟩:=EJ rs e1;simp only[RV]at ry;subst ry;rcases hq with hq|hq
    ·exact .inl (.inl ⟨a,vs,_,v,rfl,rfl,hq,hv,p.now hr rv⟩)
    ·exact .inl (.inr (.inl ⟨a,vs,_,v,rfl,rfl,hq,hv,p.now hr rv⟩))
   ·exact p.elim
  ·split at p
   ·rename_i kvs k e1 e2
    obtain⟨d,ev,p⟩:=p.oR1;obtain⟨a,rfl,hd⟩:=Kk hr rx e1 k;have ek:=EA ry e2;subst ek;rcases hd with⟨h1,h2⟩|⟨d',v',h1,h2,h3⟩
    ·rw[h1]at ev;cases ev
    ·rw[h1]at ev;cases ev
     exact .inr ⟨a,v',rfl,h2,p.now hr h3⟩
   ·exact p.elim
theorem aR(ha:SE C E ta ma)(hb:SE C E tb mb):SE C E (nc (v8 C.P C.w C.K) ta tb) (Z.ae Z.aS ma mb):=ah Cj ha hb
theorem e8:SO C E KD Z.cz:=λex bs h ρ σ H Q hr re p=>Post.now hr p rfl
theorem d8(ht:SE C E t m):SO C E (pd t) (Z.b_ m):=by
 intro ex bs h ρ σ H Q hr re p;refine ht ex bs h ρ σ H _ hr re (p.bind λd x h1 bs1 H1 e1 rx p1=> ?_);cases d with
 | int i=>simp only[RV]at rx;exact⟨i,rx,Post.now e1.hr p1 rfl⟩
 | _=>exact p1.elim
theorem RVs.cut(r:RVs C bs G vs ds)(l u:Option Int):RVs C bs G (gx vs l u) (Z.cut ds l u):=by
 unfold gx Z.cut;rw[r.len];exact(r.drop _).take _
theorem Io(hr:HR C ex bs h H)(r:RV C bs (gh ex bs h H) v d)(nt:∀ds,d=.tup ds->False)(e:Z.eF h d=some xs):∃a vs,v=.ref a/\SqL C.K H a vs/\RVs C bs (gh ex bs h H) vs xs:=by
 cases d with
 | lst ds=>
  simp only[RV]at r;obtain⟨a,vs,rfl,ga,rs⟩:=r;cases e;exact⟨a,vs,rfl,SqL.of (cC _ _ ga),rs⟩
 | tup ds=>exact(nt ds rfl).elim
 | arg ns=>
  simp only[RV]at r;obtain⟨a,rfl,ga⟩:=r;cases e;refine⟨a,_,rfl,cC.sql ga,?_⟩;clear ga hr nt
  induction ns with
  | nil=>simp only[zk,RVs]
  | cons n ns ih=>simp only[List.map_cons,RVs,RV];exact⟨trivial,ih⟩
 | ref k=>
  simp only[RV]at r;obtain⟨a,rfl,hk⟩:=r;simp only[Z.eF]at e;split at e
  ·rename_i ys hc
   cases e
   obtain⟨vs,ha,rs⟩:=hr.cell k a _ hk hc;exact⟨a,vs,rfl,SqL.of ha,rs⟩
  ·cases e
 | _=>cases e
theorem cL(ht:SE C E t m)(hl:SO C E tl ml)(hh:SO C E th mh):SE C E (Jv (sI C.K) t tl th) (Z.cF m ml mh):=by
 intro ex bs h ρ σ H Q hr re p;refine ht ex bs h ρ σ H _ hr re (p.bind λd x h1 bs1 H1 e1 rx p1=> ?_);refine hl ex bs1 h1 ρ σ H1 _ e1.hr (re.ev e1) (p1.bind λl l' h2 bs2 H2 e2 rl p2=> ?_);refine hh ex bs2 h2 ρ σ H2 _ e2.hr ((re.ev e1).ev e2) (p2.bind λu u' h3 bs3 H3 e3 ru p3=> ?_);cases rl;cases ru;have rx3:=(rx.ev e2).ev e3;split at p3
 ·rename_i ds
  obtain⟨q,p3⟩:=p3.chk;simp only[RV]at rx3;obtain⟨a,vs,rfl,ga,rs⟩:=rx3;refine .inl (.inr ⟨a,vs,rfl,SqT.of (cC _ _ ga),by rw[rs.len];exact q,λp hp=>Post.ttup e3.hr p3 hp (rs.cut l u)⟩)
 ·rename_i z
  obtain⟨q,p3⟩:=p3.chk;simp only[RV]at rx3;exact .inr ⟨z,rx3,q,p3.now e3.hr (by simp only[RV])⟩
 ·rename_i hnt hns
  obtain⟨xs,e4,p3⟩:=p3.oR;obtain⟨a,vs,ea,hq,rs⟩:=Io e3.hr rx3 hnt e4;subst ea;exact .inl (.inl ⟨a,vs,rfl,hq,λp hp=>Post.tree e3.hr p3 hp (rs.cut l u)⟩)
theorem Et{G:Hp}:∀{ds:List Z.D} {vs:List V} {ns:List Int},RVs C bs G vs ds->Z.tS ds=some ns->vs=ns.map V.int
  | [],[],ns,_,e=>by cases e;rfl
  | d::ds,v::vs,ns,h,e=>by
    simp only[RVs]at h;cases d<;>simp only[Z.tS,qk]at e<;>first
      | (obtain⟨ms,h1,rfl⟩:=e
         simp only[RV]at h;rw[List.map_cons,<-Et h.2 h1,h.1])
      | cases e
  | [],_::_,_,h,_=>by simp only[RVs]at h
  | _::_,[],_,h,_=>by simp only[RVs]at h
theorem HI{G:Hp}:∀{ds:List Z.D} {vs:List V} {ns:List Str},RVs C bs G vs ds->Z.mH ds=some ns->vs=ns.map V.str
  | [],[],ns,_,e=>by cases e;rfl
  | d::ds,v::vs,ns,h,e=>by
    simp only[RVs]at h;cases d<;>simp only[Z.mH,qk]at e<;>first
      | (obtain⟨ms,h1,rfl⟩:=e
         simp only[RV]at h;rw[List.map_cons,<-HI h.2 h1,h.1])
      | cases e
  | [],_::_,_,h,_=>by simp only[RVs]at h
  | _::_,[],_,h,_=>by simp only[RVs]at h
theorem Ep{G:Hp}:∀{ds:List Z.D} {vs:List V} {ns:List Bool},RVs C bs G vs ds->Z.oV ds=some ns->vs=ns.map V.bl
  | [],[],ns,_,e=>by cases e;rfl
  | d::ds,v::vs,ns,h,e=>by
    simp only[RVs]at h;cases d<;>simp only[Z.oV,qk]at e<;>first
      | (obtain⟨ms,h1,rfl⟩:=e
         simp only[RV]at h;rw[List.map_cons,<-Ep h.2 h1,h.1])
      | cases e
  | [],_::_,_,h,_=>by simp only[RVs]at h
  | _::_,[],_,h,_=>by simp only[RVs]at h
theorem I0:∀(ns:List Int),RVs C bs G (ns.map V.int) (ns.map Z.D.int)
 | []=>by simp only[zk,RVs]
 | n::ns=>by simp only[List.map_cons,RVs,RV];exact⟨trivial,I0 ns⟩
theorem II:∀(ns:List Str),RVs C bs G (ns.map V.str) (ns.map Z.D.str)
 | []=>by simp only[zk,RVs]
 | n::ns=>by simp only[List.map_cons,RVs,RV];exact⟨trivial,II ns⟩
theorem Jw(hr:HR C ex bs h H)(r:RV C bs (gh ex bs h H) v d)(e:Z.qE h d=some ns):∃a,v=.ref a/\SqL C.K H a (ns.map V.int):=by
 have gen:(Z.g_ h d).bind Z.tS=some ns->∃a,v=.ref a/\SqL C.K H a (ns.map V.int):=λe=>by
  cases e2:Z.g_ h d with
  | none=>rw[e2]at e;cases e
  | some ds=>
   rw[e2]at e;obtain⟨a,vs,rfl,ha,rs⟩:=mW hr r e2;exact⟨a,rfl,by rw[<-Et rs e];exact SqL.of ha⟩
 cases d with
 | arg ms=>
  cases e
  simp only[RV]at r;obtain⟨a,rfl,ga⟩:=r;exact⟨a,rfl,cC.sql ga⟩
 | _=>exact gen e
theorem Ev.ext(hr:HR C ex bs h H)(sm:Same H H'):Ev C ex bs h H bs h H':=by
 have eq:∀{a},H a≠none->H' a=H a:=fun{a} q=>by
  cases e:H a with
  | none=>exact absurd e q
  | some o=>exact sm a o e
 have sg:Same (gh ex bs h H) (gh ex bs h H'):=λa o e=>by
  obtain⟨h1,h2,h3⟩:=dQ.mp e;exact dQ.mpr ⟨h1,h2,sm a o h3⟩
 exact⟨λ_ _ e=>e,⟨hr.len,hr.inj,hr.sep,λa m=>by rw[eq (hr.dom a m)];exact hr.dom a m,λa m=>by rw[eq (hr.domx a m)];exact hr.domx a m,
  λk a c e1 e2=>(hr.cell k a c e1 e2).mono (λ_ _ e=>e) sg (eq (hr.dom a (qt e1)))⟩,sg,λa m=>eq (hr.domx a m)⟩
theorem Np(hp:H p=none)(sm:Same H H'):Same H (hid p H'):=λa o e=>by
 rw[oP (λz=>by rw[z,hp]at e;cases e)];exact sm a o e
theorem LD(e:H' p=some o):a9 (hid p H') p o=H':=by
 funext x;by_cases q:x=p
 ·rw[q,dG,e]
 ·rw[br q,oP q]
theorem jdc.ext(hr:HR C ex bs h H)(q:jdc C ex E bs h H (.ok ds h) Q)(hp:H p=none)(e:H' p=some (.lst vs))(sm:Same H H')(r:RVs C bs (gh ex bs h H) vs ds):Q (.ref p) H':=by
 have ev:=Ev.ext hr (Np hp sm);have:=q p vs bs (hid p H') ev (if_pos rfl) (r.ev ev);rw[LD e]at this;exact this
theorem Post.ext{Q:VK}(hr:HR C ex bs h H)(q:Post C ex E bs h H (RV C) (.ok (.lst ds) h) Q)(hp:H p=none)(e:H' p=some (.lst vs))(sm:Same H H')(r:RVs C bs (gh ex bs h H) vs ds):Q (.ref p) H':=by
 have ev:=Ev.ext hr sm;have np:p∉ex:=λm=>hr.domx p m hp;have nb:p∉bs:=λm=>hr.dom p m hp;exact q (.ref p) bs H' ev (by simp only[RV];exact⟨p,vs,rfl,dQ.mpr ⟨np,λ⟨k,c,e1,_⟩=>nb (qt e1),e⟩,r.ev ev⟩)
noncomputable def rn(K:W.Frag)(te:TE)(tl th ts:TO):TE:=λσ H Q=>te σ H λx H1=>tl σ H1 λl H2=>th σ H2 λu H3=>ts σ H3 λk H4=>∃(a:Addr) (ns:List Int) (st:Int),x=.ref a/\k=some st/\0<st/\SqL K H4 a (ns.map V.int)/\
 ∀p H',H4 p=none->H' p=some (.lst ((Z.vz ns l u st).map V.int))->Same H4 H'->Q (.ref p) H'
theorem Ib{ns:List Int}(r:Vals (ns.map V.int) its):∀(l:List Nat),Vals ((l.filterMap (ns[·]?)).map V.int) (l.filterMap (its.toArray[·]?))
 | []=>.nil
 | i::l=>by
  have ih:=Ib r l;have hl:=r.length;rw[qd]at hl;rw[wc,wc];by_cases hi:i<ns.length
  ·have e1:ns[i]?=some ns[i]:=z6 hi
   have e2:its.toArray[i]?=some its[i]:=by simp[show i<its.length by omega]
   obtain⟨t,e3,_⟩:=F8 r (i:=i) (v:=its[i]) (by simp[show i<its.length by omega]);rw[e1,e2,e3];have e4:ns.getD i 0=ns[i]:=by simp[List.getD,e1]
   rw[e4,List.map_cons];exact .cons ⟨t,rfl⟩ ih
  ·have e1:ns[i]?=none:=wm (by omega)
   have e2:its.toArray[i]?=none:=by simp;omega
   rw[e1,e2];exact ih
theorem LA{lo hi:Option Expr}{st:Expr}(he:PE X e te)(hl:PO X lo tl)(hu:PO X hi th)(hs:PO X (some st) ts):
  PE X (.Subscript e (.Slice lo hi (some st) p2) pos) (rn X.K te tl th ts):=by
 intro pins s σ H Q I h;refine Subscript_ (bE (he pins s σ H _ I h) λv s1 ⟨x,H1,I1,r1,q1⟩=> ?_);refine wpAny_Slice (bE (hl pins s1 σ H1 _ I1 q1) λvl s2 ⟨l,H2,I2,pl,q2⟩=>bE (hu pins s2 σ H2 _ I2 q2) λvu s3 ⟨u,H3,I3,pu,q3⟩=>bE (hs pins s3 σ H3 _ I3 q3) λvk s4 ⟨k,H4,I4,pk,q4⟩=> ?_);obtain⟨a,ns,st',ex,ek,hk,hq,q4⟩:=q4;subst ex ek;cases r1;have I5:Inv X pins σ H4 {s4 with heap:=s4.heap.push {cls:=.type "slice",data:=.fields #[vl,vu,vk]}}:=I4.kept (t':=s4.toks) λb ob q=>qe _ q;show wpAny (model X.prog X.w) X.A (subscriptTail e (.Slice lo hi (some st) p2) (.ref a) (.ref s4.heap.objs.size)) (EP X pins σ Q) X.xe {s4 with heap:=s4.heap.push {cls:=.type "slice",data:=.fields #[vl,vu,vk]}};obtain⟨its,r,pl',hz⟩:=I5.list hq;have hlen:=r.length;rw[qd]at hlen hz;refine tail_any (ops:=[.ref a,.ref s4.heap.objs.size]) pl'.isList.typeIs slot_list_getitem.lookup ?_ (by with_unfolding_all rfl);refine wpAny_getItem_list_slice (lo:=l) (hi:=u) (st:=some st') pl'.isList (Heap.IsSliceOf.new ..) pl pu pk (by simp;omega) ?_ (by rw[qo]<;>omega);have hsz:=slicePick_size_le its.toArray l u (some st');have e:slicePick its.toArray l u (some st')=((sliceRange (sliceBounds l u (some st') its.toArray.size).1 (sliceBounds l u (some st') its.toArray.size).2.1 (sliceBounds l u (some st') its.toArray.size).2.2).filterMap (its.toArray[·]?)).toArray:=rfl;have rm:=Ib r (sliceRange (sliceBounds l u (some st') its.toArray.size).1 (sliceBounds l u (some st') its.toArray.size).2.1 (sliceBounds l u (some st') its.toArray.size).2.2);have en:its.toArray.size=ns.length:=by rw[qo];exact hlen.symm
 rw[e];rw[e,qo]at hsz;have hr:=rm.length;have ec:(sliceRange (sliceBounds l u (some st') its.toArray.size).1 (sliceBounds l u (some st') its.toArray.size).2.1 (sliceBounds l u (some st') its.toArray.size).2.2).filterMap (ns[·]?)=Z.vz ns l u st':=by rw[en];rfl
 rw[ec]at rm hr;refine⟨.ref _,_,I5.lnew (t':=s4.toks) rm (by rw[hr];exact z9 hsz (by rw[qo];omega)),rfl,q4 _ _ I5.fresh dG λb o e=>by rw[br (eD e I5.fresh)];exact e⟩
theorem pj(ht:SE C E t m)(hl:SO C E tl ml)(hh:SO C E th mh)(hs:SO C E ts ms):SE C E (rn C.K t tl th ts) (Z.jR m ml mh ms):=by
 intro ex bs h ρ σ H Q hr re p;refine ht ex bs h ρ σ H _ hr re (p.bind λd x h1 bs1 H1 e1 rx p1=> ?_);refine hl ex bs1 h1 ρ σ H1 _ e1.hr (re.ev e1) (p1.bind λl l' h2 bs2 H2 e2 rl p2=> ?_);refine hh ex bs2 h2 ρ σ H2 _ e2.hr ((re.ev e1).ev e2) (p2.bind λu u' h3 bs3 H3 e3 ru p3=> ?_);refine hs ex bs3 h3 ρ σ H3 _ e3.hr (((re.ev e1).ev e2).ev e3) (p3.bind λk k' h4 bs4 H4 e4 rk p4=> ?_);cases rl;cases ru;cases rk;have rx4:=((rx.ev e2).ev e3).ev e4;cases k with
 | none=>exact p4.elim
 | some k=>
  obtain⟨q,p4⟩:=Post.chk p4;obtain⟨ns,e5,p4⟩:=p4.oR;obtain⟨a,rfl,hq⟩:=Jw e4.hr rx4 e5;exact⟨a,ns,k,rfl,rfl,q,hq,λp H' hp hp' sm=>Post.ext e4.hr p4 hp hp' sm (I0 _)⟩
end
section
variable {C : Ct} {ex bs bs1 bs2 : List Addr} {h h1 h2 : Z.MH} {H H1 H2 : Hp} {E : XK}
theorem ij(r:RVs C bs G vs [d]):∃v,vs=[v]/\RV C bs G v d:=by
 match vs,r with
 | [v],r=>simp only[RVs]at r;exact⟨v,rfl,r.1⟩
 | [],r=>simp only[RVs]at r
 | _::_::_,r=>simp only[RVs]at r;exact r.2.elim
theorem DZ(r:RVs C bs G vs [d,e]):∃v u,vs=[v,u]/\RV C bs G v d/\RV C bs G u e:=by
 match vs,r with
 | [v,u],r=>simp only[RVs]at r;exact⟨v,u,rfl,r.1,r.2.1⟩
 | [],r=>simp only[RVs]at r
 | [_],r=>simp only[RVs]at r;exact r.2.elim
 | _::_::_::_,r=>simp only[RVs]at r;exact r.2.2.elim
def G2(P:Program)(w:World)(K:W.Frag):List V->Hp->VK->Prop:=λxs H Q=>nA P w K xs H Q\/∃a kvs,xs=[V.ref a]/\H a=some (.dK kvs)/\Q (.int kvs.length) H
theorem OT:jcp X (.builtin "len") (G2 X.prog X.w X.K):=jcp.or NY Mn
theorem gZ:SL C (G2 C.P C.w C.K) Z.b9:=by
 intro ex bs h H E xs ds Q hr rs p;unfold Z.b9 at p;split at p
 ·obtain⟨q,p⟩:=p.chk
  obtain⟨v,rfl,r⟩:=ij rs;simp only[RV]at r;subst r;exact .inl (.inr ⟨_,rfl,q,p.now hr (by simp only[RV])⟩)
 ·obtain⟨v,rfl,r⟩:=ij rs
  split at p
  ·rename_i ys hy
   obtain⟨a,vs,rfl,hq,qs⟩:=vi hr r hy;exact .inl (.inl ⟨a,vs,rfl,hq,p.now hr (by simp only[RV];rw[qs.len])⟩)
  ·split at p
   ·obtain⟨kvs,e,p⟩:=p.oR
    simp only[Z.DQ]at e;split at e
    ·rename_i kvs' hc
     cases e
     simp only[RV]at r;obtain⟨a,rfl,hk⟩:=r;obtain⟨kws,ha,rk⟩:=hr.cell _ a _ hk hc;exact .inr ⟨a,kws,rfl,ha,p.now hr (by simp only[RV];rw[rk.len])⟩
    ·cases e
   ·exact p.elim
 ·exact p.elim
theorem FA:SL C (qV C.K) Z.fT:=by
 intro ex bs h H E xs ds Q hr rs p;unfold Z.fT at p;split at p
 ·obtain⟨v,rfl,r⟩:=ij rs
  obtain⟨ns,e,p⟩:=p.oR;obtain⟨a,rfl,hq⟩:=Jw hr r e;exact⟨a,ns,rfl,hq,p.now hr (by simp only[RV])⟩
 ·exact p.elim
theorem HY:∀(ns:List Int),0<ns.length->Z.cP ns∈ns
 | [a],_=>by simp[Z.cP]
 | a::b::r,_=>by
  have ih:=HY (b::r) (by simp);unfold Z.cP;split
  ·exact qg _ ih
  ·exact qj ..
theorem IL:∀(ns:List Int),∀a∈ns,a<=Z.cP ns
 | [a],x,hx=>by simp at hx;subst hx;simp[Z.cP]
 | a::b::r,x,hx=>by
  have ih:=IL (b::r);unfold Z.cP;rcases qr.mp hx with rfl|hx
  ·split<;>omega
  ·have:=ih x hx
   split<;>omega
theorem pH:SL C (uc C.K) Z.rQ:=by
 intro ex bs h H E xs ds Q hr rs p;unfold Z.rQ at p;split at p
 ·obtain⟨v,u,rfl,r1,r2⟩:=DZ rs
  simp only[RV]at r1 r2;subst r1 r2;exact .inl ⟨_,_,rfl,p.now hr (by simp only[RV])⟩
 ·obtain⟨v,rfl,r⟩:=ij rs
  obtain⟨ns,e,p⟩:=p.oR;obtain⟨q,p⟩:=p.chk;simp only[RV]at r;obtain⟨a,vs,rfl,ga,qs⟩:=r;have:=Et qs e;subst this;refine .inr ⟨a,ns,rfl,SqT.of (cC _ _ ga),q,λM hm hle=> ?_⟩;have e1:M=Z.cP ns:=by
   have h1:=IL ns M hm;have h2:=hle _ (HY ns q);omega
  rw[e1];exact p.now hr (by simp only[RV])
 ·exact p.elim
theorem KA:SL C (ur C.K) Z.lG:=by
 intro ex bs h H E xs ds Q hr rs p;unfold Z.lG at p;split at p
 ·obtain⟨v,rfl,r⟩:=ij rs
  obtain⟨bb,e,p⟩:=p.oR;rw[z4]at e;obtain⟨ys,e1,e2⟩:=e;obtain⟨a,vs,rfl,ha,qs⟩:=mW hr r e1;have:=Ep qs e2;subst this;exact⟨a,bb,rfl,SqL.of ha,p.now hr (by simp only[RV])⟩
 ·exact p.elim
theorem JO:SL C vE Z.fH:=by
 intro ex bs h H E xs ds Q hr rs p;unfold Z.fH at p;split at p
 ·obtain⟨v,rfl,r⟩:=ij rs
  simp only[RV]at r;subst r;exact .inl (.inl ⟨_,rfl,p.now hr (by simp only[RV])⟩)
 ·obtain⟨v,rfl,r⟩:=ij rs
  simp only[RV]at r;subst r;exact .inl (.inr ⟨_,rfl,p.now hr (by simp only[RV])⟩)
 ·obtain⟨q,p⟩:=p.chk
  obtain⟨n,e,p⟩:=p.oR;obtain⟨v,rfl,r⟩:=ij rs;simp only[RV]at r;subst r;exact .inr ⟨_,n,rfl,q,e,p.now hr (by simp only[RV])⟩
 ·exact p.elim
theorem fe:SL C xC Z.aV:=by
 intro ex bs h H E xs ds Q hr rs p;unfold Z.aV at p;split at p
 ·obtain⟨q,p⟩:=p.chk
  obtain⟨v,rfl,r⟩:=ij rs;simp only[RV]at r;subst r;exact⟨_,rfl,q,p.now hr (by simp only[RV];rfl)⟩
 ·exact p.elim
theorem q_(hl:SA C E tl ml):SN C E (Eb (λxs H Q=>∃p ys,xs=[.ref p]/\(SqL C.K H p ys\/SqT C.K H p ys)/\∀l,H l=none->Q (.ref l) (a9 H l (.lst ys))) tl) (Z.nE ml):=by
 intro ex bs h ρ σ H Q hr re p;refine hl ex bs h ρ σ H _ hr re (jdc.bind p λds xs h1 bs1 H1 e1 rx p1=> ?_);split at p1
 ·obtain⟨v,rfl,r⟩:=ij rx
  rename_i d;cases e:Z.eF h1 d with
  | none=>rw[e]at p1;exact p1.elim
  | some ys=>
   rw[e]at p1;obtain⟨a,vs,rfl,hq,qs⟩:=vi e1.hr r e;exact⟨a,vs,rfl,hq,λl hl=>jdc.now e1.hr p1 hl qs⟩
 ·exact p1.elim
theorem P4:SL C (λxs H Q=>∃p ys,xs=[.ref p]/\((SqL C.K H p ys/\∀l,H l=none->Q (.ref l) (a9 H l (.tup ys)))\/(SqT C.K H p ys/\Q (.ref p) H))) Z.Er:=by
 intro ex bs h H E xs ds Q hr rs p;unfold Z.Er at p;split at p
 ·obtain⟨v,rfl,r⟩:=ij rs
  have r':=r;simp only[RV]at r;obtain⟨a,vs,rfl,ga,qs⟩:=r;exact⟨a,vs,rfl,.inr ⟨SqT.of (cC _ _ ga),p.now hr r'⟩⟩
 ·rename_i d hnt
  obtain⟨v,rfl,r⟩:=ij rs;obtain⟨ys,e,p⟩:=p.oR;obtain⟨a,vs,rfl,hq,qs⟩:=Io hr r (λds z=>hnt ds (by rw[z])) e;exact⟨a,vs,rfl,.inl ⟨hq,λl hl=>Post.ttup hr p hl qs⟩⟩
 ·exact p.elim
def SM(C:Ct)(r:V->List V->Hp->VK->Prop)(f:Str->List Z.D->Z.MH->Z.Res Z.D):Prop:=∀(ex bs:List Addr) (h:Z.MH) (H:Hp) (E:XK) (z:Str) (xs:List V) (ds:List Z.D) (Q:VK),HR C ex bs h H->RVs C bs (gh ex bs h H) xs ds->Post C ex E bs h H (RV C) (f z ds h) Q->r (.str z) xs H Q
theorem ig{r:V->List V->Hp->VK->Prop}{f:Str->List Z.D->Z.MH->Z.Res Z.D}(o:SM C r f)(ho:SE C E to mo)(hl:SA C E tl ml):SE C E (uN C.K "str" r to tl) (Z.lq f mo ml):=by
 intro ex bs h ρ σ H Q hr re p;refine ho ex bs h ρ σ H _ hr re (p.bind λd x h1 bs1 H1 e1 rx p1=> ?_);cases d with
 | str z=>
  simp only[RV]at rx;subst rx;refine⟨rfl,hl ex bs1 h1 ρ σ H1 _ e1.hr (re.ev e1) (p1.bind λds xs h2 bs2 H2 e2 rs p2=> ?_)⟩;exact o ex bs2 h2 H2 E z xs ds Q e2.hr rs p2
 | _=>exact p1.elim
theorem qB:SM C (Gd C.K) Z.gy:=by
 intro ex bs h H E z xs ds Q hr rs p;unfold Z.gy at p;split at p
 ·obtain⟨ys,e,p⟩:=p.oR
  obtain⟨q,p⟩:=p.chk;obtain⟨v,rfl,r⟩:=ij rs;rw[z4]at e;obtain⟨ds',e1,e2⟩:=e;obtain⟨a,vs,rfl,ha,qs⟩:=mW hr r e1;have:=HI qs e2;subst this;exact⟨z,a,ys,rfl,rfl,SqL.of ha,q,p.now hr (by simp only[RV])⟩
 ·exact p.elim
theorem KQ(ho:SE C E to mo)(hl:SA C E tl ml):SN C E (uN C.K "str" IV to tl) (Z.u4 mo ml):=by
 intro ex bs h ρ σ H Q hr re p;refine ho ex bs h ρ σ H _ hr re (jdc.bind p λd x h1 bs1 H1 e1 rx p1=> ?_);cases d with
 | str z=>
  simp only[RV]at rx;subst rx;refine⟨rfl,hl ex bs1 h1 ρ σ H1 _ e1.hr (re.ev e1) (jdc.bind p1 λds xs h2 bs2 H2 e2 rs p2=> ?_)⟩;split at p2
  ·rename_i y
   obtain⟨q,p2⟩:=p2.chk;obtain⟨v,rfl,r⟩:=ij rs;simp only[RV]at r;subst r;exact⟨z,y,rfl,rfl,q.1,q.2.1,q.2.2,λa H' ha ha' sm=>jdc.ext e2.hr p2 ha ha' sm (II _)⟩
  ·exact p2.elim
 | _=>exact p1.elim
def SJ(C:Ct)(E:XK)(t:TJ)(m:Z.MJ):Prop:=∀out:Str,uZ C E G5 (t out) (m out)
theorem Jg:SJ C E nJ Z.lz:=λout ex bs h ρ σ H Q hr re p=>Post.now hr p rfl
theorem CW(ht:SE C E t m)(hj:SJ C E j mj):SJ C E (HD t j) (Z.sL m mj):=by
 intro out ex bs h ρ σ H Q hr re p;refine ht ex bs h ρ σ H _ hr re (p.bind λd x h1 bs1 H1 e1 rx p1=> ?_);cases d with
 | str y=>
  simp only[RV]at rx;obtain⟨q,p1⟩:=Post.chk p1;exact⟨y,rx,q,hj (out++y) ex bs1 h1 ρ σ H1 Q e1.hr (re.ev e1) p1⟩
 | _=>exact p1.elim
theorem wM(hj:SJ C E j mj):SE C E (Kq j) (Z.CY mj):=by
 intro ex bs h ρ σ H Q hr re p;refine hj Str.empty ex bs h ρ σ H _ hr re (p.bind λz z' h1 bs1 H1 e1 rz p1=> ?_);cases rz;obtain⟨q,p1⟩:=Post.chk p1;exact⟨q,Post.now e1.hr p1 (by simp only[RV])⟩
theorem nZ(ht:SE C E t m):SE C E (BM t) (Z.mV m):=by
 intro ex bs h ρ σ H Q hr re p;refine ht ex bs h ρ σ H _ hr re (p.bind λd x h1 bs1 H1 e1 rx p1=> ?_);cases d with
 | int i=>
  simp only[RV]at rx;obtain⟨q,p1⟩:=Post.chk p1;exact .inl ⟨i,rx,q,Post.now e1.hr p1 (by simp only[RV];rfl)⟩
 | str z=>
  simp only[RV]at rx;obtain⟨q,p1⟩:=Post.chk p1;exact .inr ⟨z,rx,q,Post.now e1.hr p1 (by simp only[RV])⟩
 | _=>exact p1.elim
theorem dX(ea:C.cm c=a)(ht:SE C E t m):SS C E (Iw a E t) (Z.dt c m):=by
 intro ex bs h ρ σ H D hr re p;refine ht ex bs h ρ σ H _ hr re (p.bind λd x h1 bs1 H1 e1 rx p1=> ?_);exact⟨x,rfl,by rw[<-ea];exact p1 bs1 H1 (Ev.refl e1.hr)⟩
theorem pU:SE C E Im Z.oJ:=by
 intro ex bs h ρ σ H Q hr re p;intro a ha;have e2:=Ev.cell (o:=.dK []) (c:=.dct []) hr ha ⟨[],dG,by simp only[RVk]⟩;refine p (.ref a) (bs++[a]) _ e2 ?_;simp only[RV];exact⟨a,rfl,by rw[<-hr.len];simp⟩
end
noncomputable def spL(K:W.Frag):Sp:=λvs H Q _=>∃(a:Addr) (ns:List Int),vs=[.ref a]/\SqL K H a (ns.map V.int)/\ns.length<=63/\∀H',Q (.bl true) H'
theorem spL_of(K:W.Frag)(H:Hp)(a:Addr)(ns:List Int)(hl:ns.length<=63)(hO:jz H)(hS:SqL K H a (ns.map V.int)):spL K [.ref a] H (λv _=>v=.bl true) λ_ _ _=>False:=⟨a,ns,rfl,hS,hl,λ_=>rfl⟩
theorem uu:gh [] [] [] H=H:=by
 funext x;unfold gh;rw[if_neg];rintro(z|⟨k,c,z,_⟩)
 ·cases z
 ·simp at z
theorem law_ok{mg:Str->Option Value}(F:FnOk P w C.K mg base CX k f fd ps (bG C z))
  (hz:∀ns:List Int,ns.length<=63->∃h,z [.arg ns] []=.ok (.bl true) h):FnOk P w C.K mg base CX k f fd ps (spL C.K):=by
 refine F.imp λvs H Q E q=> ?_;obtain⟨a,ns,rfl,hS,hl,q⟩:=q;obtain⟨h,e⟩:=hz ns hl;refine⟨[],[],[],[.arg ns],⟨rfl,λi j a e=>by simp at e,λa m=>(by cases m),λa m=>(by cases m),λa m=>(by cases m),λk a c e=>by simp at e⟩,?_,?_⟩
 ·rw[uu];simp only[RVs,RV];exact⟨⟨a,rfl,hS⟩,trivial⟩
 ·rw[e]
  intro v bs' H' _ rv;simp only[RV]at rv;subst rv;exact q H'
theorem walk_ofE{l:W.OpenLaw}{XP:(Str->Option Value)->Heap->Prop}{YP:World->Heap->Prop}{K:Params->W.Frag}{CX:World->jb}{sp:W.Frag->Sp}
  (hn:l.most=some n) (hn2:n<=sizeLine) (hdf:d.params.defaults=[]) (hr:Room k callerA)
  (hY:∀(w:World) (h:Heap),YP w h->(K w.params).In h)
  (F:∀(w:World) (mg:Str->Option Value) (fa:Addr) (h:Heap),(K w.params).In h->h.Ns mainGlobals mg->mg d.name=some (.ref fa)->
   ∃fd:FuncData,(∀(s:Shared) (u:Value),BindsTo s fd ⟨[u],[]⟩ [(x,u)])/\
    ∀base:Heap,(K w.params).In base->base.Ns mainGlobals mg->FnOk l.prog w (K w.params) mg base (CX w) k fa fd [x] (sp (K w.params)))
  (hsp:∀(K:W.Frag) (H:Hp) (a:Addr) (ns:List Int),ns.length<=n->jz H->SqL K H a (ns.map V.int)->sp K [.ref a] H (λv _=>v=.bl true) λ_ _ _=>False)
  (hCX:∀(w:World) (H:Hp) (s:Shared) (e:Value) (s':Shared),CX w [] H s (λ_ _ _=>False) e s'->False):
  W.WalkO q loose XP YP l.row.toRowW d [] (λf vs=>PySem.call f vs):=
 O8 (K:=K) (CX:=CX) (sp:=λw=>sp (K w.params)) hn hn2 hdf hr hY F (λw H a ns h1 h2 h3=>hsp (K w.params) H a ns h1 h2 h3) hCX
def EW:List DictEntry->List (cH×V)->Prop
 | [],[]=>True
 | e::es,(k,v)::r=>(∃x t,e.key=.str x t/\k=Sum.inr x)/\RelV v e.val/\EW es r
 | _,_=>False
theorem IH:∀{es:List DictEntry} {kvs:List (cH×V)},EW es kvs->∃vs:List (cH×Value),KV kvs vs/\Pairs (eY P w) es vs/\vs.map (·.1)=kvs.map (·.1)
 | [],[],_=>⟨[],.nil,.nil,rfl⟩
 | e::es,(k,v)::r,h=>by
  obtain⟨⟨x,t,h1,h2⟩,h3,h4⟩:=h;obtain⟨vs,a,b,c⟩:=IH (P:=P) (w:=w) h4;refine⟨(k,e.val)::vs,.cons ⟨rfl,h3⟩ a,.cons ?_ rfl b,by simp[c]⟩;rw[h1,h2];exact F_ P w x t
 | [],_::_,h=>h.elim
 | _::_,[],h=>h.elim
theorem kdict_of{K:W.Frag}(hl:K.lookup a=some ⟨.type "dict",none,.dict es n,#[]⟩)(ha:(a==sysModules)=false)
  (hk:W.KeysLit w.params es.toList) (hp:EW es.toList kvs) (nd:(kvs.map (·.1)).Nodup):Di P w K a kvs:=by
 intro h X;obtain⟨vs,a1,b,c⟩:=IH (P:=P) (w:=w) hp;refine⟨ha,vs,a1,_,es,n,X _ _ hl,⟨rfl,rfl,rfl⟩,rfl,λe he=> ?_,b,by rw[c];exact nd⟩;obtain⟨x,t,e1,e2⟩:=hk.all e (Array.mem_toList_iff.mpr he);exact⟨.inr x,by rw[e1];exact F_ P w x t,e2⟩
theorem gF:ST C E aU Z.aU:=λex bs h ρ σ H Q hr re p=>Post.now hr p rfl
section
variable {X : Cx} {P : Program} {w : World} {K : W.Frag}
theorem bA(k:X.K=K):cG X (binaryOp .Add) (mJ K):=by subst k;exact M7
theorem Fb(p:X.prog=P)(w':X.w=w)(k:X.K=K)(hu:X.A.units+64<cLine):IxR X (v8 P w K):=by subst p w' k;exact Hn hu
theorem Gb(p:X.prog=P)(w':X.w=w)(k:X.K=K)(hu:X.A.units+64<cLine):cG X (compareOp .In) (zX P w K false):=by subst p w' k;exact pJ hu
theorem Gq(p:X.prog=P)(w':X.w=w)(k:X.K=K)(hu:X.A.units+64<cLine):cG X (compareOp .NotIn) (zX P w K true):=by subst p w' k;exact Ly hu
theorem cO(k:X.K=K):SlR X (sI K):=by subst k;exact Hx
theorem Lv{r:V->List V->Hp->VK->Prop}(k:X.K=K)(h:PE X e (mO X.K T r to)):PE X e (mO K T r to):=by subst k;exact h
theorem HP{lo hi:Option Expr}{st:Expr}(k:X.K=K)(he:PE X e te)(hl:PO X lo tl)(hu:PO X hi th)(hs:PO X (some st) ts):
  PE X (.Subscript e (.Slice lo hi (some st) p2) pos) (rn K te tl th ts):=by subst k;exact LA he hl hu hs
theorem gR(p:X.prog=P)(w':X.w=w)(k:X.K=K):jcp X (.builtin "len") (G2 P w K):=by subst p w' k;exact OT
theorem E2(k:X.K=K)(hc:X.calm=true):jcp X (.builtin "sum") (qV K):=by subst k;exact NK hc
theorem L7(k:X.K=K)(hc:X.calm=true):jcp X (.builtin "max") (uc K):=by subst k;exact NN hc
theorem KH(k:X.K=K)(hc:X.calm=true):jcp X (.builtin "all") (ur K):=by subst k;exact Nt hc
theorem Pa(k:X.K=K):jcp X (.type "list") (λxs H Q=>∃p ys,xs=[.ref p]/\(SqL K H p ys\/SqT K H p ys)/\∀l,H l=none->Q (.ref l) (a9 H l (.lst ys))):=by subst k;exact Pg
theorem Lr(k:X.K=K):jcp X (.type "tuple") (λxs H Q=>∃p ys,xs=[.ref p]/\((SqL K H p ys/\∀l,H l=none->Q (.ref l) (a9 H l (.tup ys)))\/(SqT K H p ys/\Q (.ref p) H))):=by subst k;exact Ob
theorem qA(k:X.K=K):tD X "str.join" (Gd K):=by subst k;exact OR
theorem fw(k:X.K=K)(ha:PE X a ta)(he:∀whole,isTrue a X.env whole=(do let v<-whole;standAt a.pos;holding [v] (truthy v))):
  PT X a (λσ H Q=>ta σ H λx H'=>∃k,fD K x H' k/\Q k H'):=by subst k;exact LI ha he
theorem Ij(k:X.K=K)(ha:PE X a ta):PE X (.UnaryOp .Not a pos) (λσ H Q=>ta σ H λx H1=>∃k,fD K x H1 k/\Q (.bl (!k)) H1):=by subst k;exact Pc ha
theorem cR(k:X.K=K)(hl:PE X l tl):PI X tg l (iV K tl):=by subst k;exact GO hl
theorem kW{r:V->List V->Hp->VK->Prop}(k:X.K=K)(h:PE X e (uN X.K T r to t)):PE X e (uN K T r to t):=by subst k;exact h
end
section
variable {C : Ct} {E : XK} {ex bs bs1 : List Addr} {h : Z.MH} {H : Hp} {α β : Type} {R : List Addr -> Hp -> β -> α -> Prop}
theorem Post.noX{Q:β->Hp->Prop}(p:Post C ex E bs h H R r.noX Q):Post C ex E0 bs h H R r Q:=by
 cases r with
 | ok a h'=>exact p
 | exc c h'=>exact p.elim
 | stuck=>exact p
theorem tT(q:SA C E0 t m):SA C E t (Z.kC m):=λex bs hh ρ σ H Q hr re p=>q ex bs hh ρ σ H Q hr re p.noX
def SX(C:Ct)(t:FK->TS)(m:Z.MS):Prop:=
 ∀(ex bs:List Addr) (h:Z.MH) (ρ:Z.Ro) (σ:St) (H:Hp) (D:Ends) (F:FK),HR C ex bs h H->RE C bs (gh ex bs h H) ρ σ->jea C ex (FE (F σ)) bs h H (m ρ h) D->t F D σ H
def Ji(C:Ct)(t:(Addr->Hp->Prop)->TE)(m:Z.ME):Prop:=∀F,SE C (FE F) (t F) m
theorem Mf{t:(Addr->Hp->Prop)->TE}(q:Ji C t m):SX C (IT t) (Z.jW m):=λex bs h ρ σ H D F hr re p=>lC (q (F σ)) ex bs h ρ σ H D hr re p
theorem tL{t:FK->TS}(q:SX C t m):SX C (nD t (λ_=>Eg)) m:=λex bs h ρ σ H D F hr re p=>q ex bs h ρ σ H D F hr re p
def qN(C:Ct)(W:Addr)(tab:List (String×Bool)):Prop:=∀c b,tab.lookup c=some b->PySem.W.subIn C.K (.ref (C.cm c)) (.ref W)=some b
theorem OX:qN C W []:=λ_ _ e=>nomatch e
theorem Og(q:PySem.W.subIn C.K (.ref (C.cm c)) (.ref W)=some b)(r:qN C W tab):qN C W ((c,b)::tab):=by
 intro x y e;by_cases z:x=c
 ·subst z
  simp at e;subst e;exact q
 ·rw[ki,beq_eq_false_iff_ne.mpr z]at e;exact r x y e
theorem RE.unset(r:RE C bs G ρ σ):RE C bs G (ρ.set i none) (σ.set i none):=by
 refine⟨by simp[r.1],λj e hj=> ?_⟩;by_cases hij:i=j
 ·subst hij
  rw[List.getElem?_set_self']at hj;cases q:ρ[i]? with
  | none=>rw[q]at hj;simp at hj
  | some o=>rw[q]at hj;simp at hj
 ·rw[qm hij]at hj
  obtain⟨u,h1,h2⟩:=r.2 j e hj;exact⟨u,by rw[qm hij];exact h1,h2⟩
theorem jea.gone(p:jea C ex E bs h H (r.noX.gone i) D):jea C ex E0 bs h H r (D.gone i):=by
 cases r with
 | nx ρ1 h1=>exact λσ' bs' H' e' re'=>p _ bs' H' e' re'.unset
 | bk ρ1 h1=>exact λσ' bs' H' e' re'=>p _ bs' H' e' re'.unset
 | ct ρ1 h1=>exact λσ' bs' H' e' re'=>p _ bs' H' e' re'.unset
 | rt d h1=>exact p
 | exc c h1=>exact p.elim
 | stuck=>exact p.elim
theorem ri:SS C E (Bj (C.cm c)) (Z.An c):=λex bs h ρ σ H D hr re p=>p.elim
theorem Bn{rest:Addr->TS}{r:String->Z.MS}(ht:qN C W tab)(hm:SS C E0 th m)(hrest:∀c,SS C E (rest (C.cm c)) (r c))(c:String):
  SS C E (DS C.K W i th rest (C.cm c)) (Z.FF tab i m r c):=by
 intro ex bs h ρ σ H D hr re p;unfold Z.FF at p;cases e:tab.lookup c with
 | none=>rw[e]at p;exact p.elim
 | some b=>
  rw[e]at p;refine⟨b,ht c b e,?_⟩;cases b with
  | false=>exact hrest c ex bs h ρ σ H D hr re p
  | true=>
   intro ea oe hn hc;obtain⟨e2,g⟩:=Ev.alloc (o:=.frz oe (.own 0)) hr hn;exact hm ex bs h _ _ _ (D.gone i) e2.hr ((re.ev e2).set (v:=.ref ea) (d:=.exc c) (by simp only[RV];exact⟨ea,oe,_,rfl,g,hc⟩)) ((jea.gone p).from e2)
theorem tJ{tb:FK->TS}{th:Addr->TS}{f:String->Z.MS}(hb:SX C tb m)(hh:∀c,SS C E (th (C.cm c)) (f c)):SS C E (xX tb th) (Z.tj m f):=by
 intro ex bs h ρ σ H D hr re p;refine hb ex bs h ρ σ H D _ hr re ?_;unfold Z.tj at p;cases e:m ρ h with
 | exc c h1=>rw[e]at p;exact λbs' H' e'=>⟨C.cm c,rfl,hh c ex bs' h1 ρ σ H' D e'.hr (re.ev e') (p.from e')⟩
 | nx ρ1 h1=>rw[e]at p;exact p
 | rt d h1=>rw[e]at p;exact p
 | bk ρ1 h1=>rw[e]at p;exact p
 | ct ρ1 h1=>rw[e]at p;exact p
 | stuck=>rw[e]at p;exact p
def zY(K:PySem.W.Frag):List V->Hp->VK->Prop:=λxs H Q=>∃a v2 cv oe u C b,xs=[.ref a,v2]/\((∃W,v2=.ref W/\cv=.ref W)\/∃n,v2=.ty n/\cv=.type n)/\H a=some (.frz oe u)/\oe.cls=.ref C/\IsiC K C/\PySem.W.kitOne K (.ref C) cv=some b/\Q (.bl b) H
theorem gG{K:PySem.W.Frag}(k:X.K=K):jcp X (.builtin "isinstance") (zY K):=by
 subst k;intro pins s σ H xs us Q I r h;obtain⟨a,v2,cv,oe,u,C,b,rfl,hv,hH,hc,ic,hk,q⟩:=h;cases r with
 | cons r1 rr=>
  cases rr with
  | cons r2 rr=>
   cases rr
   cases r1
   rcases hv with⟨W,rfl,rfl⟩|⟨n,rfl,rfl⟩
   ·cases r2;exact JI I hH hc ic hk λtk=>⟨.bl b,H,I.tok tk,rfl,q⟩
   ·cases r2;exact JI I hH hc ic hk λtk=>⟨.bl b,H,I.tok tk,rfl,q⟩
def nC(C:Ct)(tab:List ((String×Bool×String)×Bool)):Prop:=∀c k n b,tab.lookup (c,k,n)=some b->IsiC C.K (C.cm c)/\W.kitOne C.K (.ref (C.cm c)) (if k=true then .ref (C.cm n)else .type n)=some b
theorem Oo:nC C []:=λ_ _ _ _ e=>nomatch e
theorem LX(q:IsiC C.K (C.cm c))(q2:W.kitOne C.K (.ref (C.cm c)) (if k=true then .ref (C.cm n)else .type n)=some b)(r:nC C tab):nC C (((c,k,n),b)::tab):=by
 intro x k' n' y e;by_cases z:(x,k',n')=(c,k,n)
 ·cases z
  simp at e;subst e;exact⟨q,q2⟩
 ·rw[ki,beq_eq_false_iff_ne.mpr z]at e;exact r x k' n' y e
theorem gI(ht:nC C tab):SL C (zY C.K) (Z.cV tab):=by
 intro ex bs h H E xs ds Q hr rs p;unfold Z.cV at p;split at p
 ·obtain⟨b,e,p⟩:=p.oR
  obtain⟨v,u,rfl,r1,r2⟩:=DZ rs;simp only[RV]at r1 r2;subst r2;obtain⟨a,oe,u,rfl,g,hc⟩:=r1;obtain⟨i1,i2⟩:=ht _ _ _ _ e;exact⟨a,_,_,oe,u,_,b,rfl,.inl ⟨_,rfl,rfl⟩,cC _ _ g,hc,i1,by simpa using i2,p.now hr (by simp only[RV])⟩
 ·obtain⟨b,e,p⟩:=p.oR
  obtain⟨v,u,rfl,r1,r2⟩:=DZ rs;simp only[RV]at r1 r2;subst r2;obtain⟨a,oe,u,rfl,g,hc⟩:=r1;obtain⟨i1,i2⟩:=ht _ _ _ _ e;exact⟨a,_,_,oe,u,_,b,rfl,.inr ⟨_,rfl,rfl⟩,cC _ _ g,hc,i1,by simpa using i2,p.now hr (by simp only[RV])⟩
 ·exact p.elim
theorem qX{K:PySem.W.Frag}{tr:Addr->TS}(k:X.K=K)(q:PH X hs (DS X.K W i th tr)):PH X hs (DS K W i th tr):=by subst k;exact q
end
end L2
namespace L2
open PySem PySem.Spec
section
variable {C : Ct} {ex bs bs1 bs2 : List Addr} {h h1 h2 : Z.MH} {H H1 H2 : Hp} {E : XK}
theorem RVf.lookup:∀{fs:List (Str×Z.D)} {vs:List (Str×V)},RVf C bs G vs fs->(∀d,fs.lookup f=some d->∃v,vs.lookup f=some v/\RV C bs G v d)/\(fs.lookup f=none->vs.lookup f=none)
  | [],[],_=>⟨λd e=>by simp at e,λ_=>rfl⟩
  | (y,d)::ds,(x,v)::vs,r=>by
    simp only[RVf]at r;obtain⟨rfl,r1,r2⟩:=r;have ih:=RVf.lookup (f:=f) r2;by_cases q:(f==x)=true
    · simp only[List.lookup,q]
      exact⟨λd' e=>by cases e;exact⟨v,rfl,r1⟩,λe=>by cases e⟩
    · have q':(f==x)=false:=by simpa using q
      simp only[List.lookup,q'];exact ih
  | [],_::_,r=>by simp only[RVf]at r
  | _::_,[],r=>by simp only[RVf]at r
theorem RVf.put(rv:RV C bs G v d):∀{fs:List (Str×Z.D)} {vs:List (Str×V)},RVf C bs G vs fs->RVf C bs G (bD f v vs) (Z.bD f d fs)
  | [],[],_=>by simp only[bD,Z.bD,RVf];exact⟨trivial,rv,trivial⟩
  | (y,e)::ds,(x,u)::vs,r=>by
    simp only[RVf]at r;obtain⟨rfl,r1,r2⟩:=r;simp only[bD,Z.bD];by_cases q:x=f
    · rw[if_pos q,if_pos q];simp only[RVf];exact⟨trivial,rv,r2⟩
    · rw[if_neg q,if_neg q];simp only[RVf];exact⟨trivial,r1,RVf.put rv r2⟩
  | [],_::_,r=>by simp only[RVf]at r
  | _::_,[],r=>by simp only[RVf]at r
theorem RVf.len:∀{fs:List (Str×Z.D)} {vs:List (Str×V)},RVf C bs G vs fs->vs.length=fs.length
  | [],[],_=>rfl
  | (y,d)::ds,(x,v)::vs,r=>by simp only[RVf]at r;simp[RVf.len r.2.2]
  | [],_::_,r=>by simp only[RVf]at r
  | _::_,[],r=>by simp only[RVf]at r
theorem Kz(hr:HR C ex bs h H)(rx:RV C bs (gh ex bs h H) x d)(e:Z.pC h d=some (c,fs)):
  ∃a dx fvs,x=.ref a/\H a=some (.ins (C.cm c) dx fvs)/\RVf C bs (gh ex bs h H) fvs fs:=by
 cases d with
 | obj c' fs'=>
  simp only[Z.pC,Option.some.injEq,Prod.mk.injEq]at e;obtain⟨rfl,rfl⟩:=e;simp only[RV]at rx;obtain⟨a,dx,fvs,h1,h2,h3⟩:=rx;exact⟨a,dx,fvs,h1,cC _ _ h2,h3⟩
 | ref k=>
  simp only[RV]at rx;obtain⟨a,rfl,hk⟩:=rx;simp only[Z.pC]at e;split at e
  ·rename_i c' fs' hc
   simp only[Option.some.injEq,Prod.mk.injEq]at e;obtain⟨rfl,rfl⟩:=e;obtain⟨dx,fvs,h1,h2⟩:=hr.cell k a _ hk hc;exact⟨a,dx,fvs,rfl,h1,h2⟩
  ·cases e
 | _=>simp[Z.pC]at e
def fQ(C:Ct)(f:Str)(tab:List String):Prop:=∀c∈tab,Cls C.K (C.cm c)/\jc0 C.K (C.cm c) f
theorem kL:fQ C f []:=λc m=>by simp at m
theorem PM(a:Cls C.K (C.cm c))(b:jc0 C.K (C.cm c) f)(r:fQ C f tab):fQ C f (c::tab):=λc' m=>by
 rcases qr.mp m with rfl|m
 ·exact⟨a,b⟩
 ·exact r c' m
theorem cj(ok:fQ C f tab)(ht:SE C E t m):SE C E (lK C.K t f) (Z.aG tab f m):=by
 intro ex bs h ρ σ H Q hr re p;refine ht ex bs h ρ σ H _ hr re (p.bind λd x h1 bs1 H1 e1 rx p1=> ?_);obtain⟨⟨c,fs⟩,eo,p1⟩:=p1.oR;obtain⟨hc,p1⟩:=p1.chk;obtain⟨v,el,p1⟩:=p1.oR1;obtain⟨a,dx,fvs,rfl,ha,rf⟩:=Kz e1.hr rx eo;obtain⟨u,hu,ru⟩:=rf.lookup.1 v el;exact⟨a,_,dx,fvs,u,rfl,ha,(ok c hc).1,(ok c hc).2,hu,Post.now e1.hr p1 ru⟩
theorem fc(ok:fQ C f tab)(ho:SE C E to mo)(he:SE C E te me):SS C E (lN C.K to te f) (Z.eI tab f mo me):=by
 intro ex bs h ρ σ H D hr re p;refine he ex bs h ρ σ H _ hr re (p.bind λd v h0 bs0 H0 e0 rv p0=> ?_);refine ho ex bs0 h0 ρ σ H0 _ e0.hr (re.ev e0) (p0.bind λo x h1 bs1 H1 e1 rx p1=> ?_);cases o with
 | ref k=>
  simp only[RV]at rx;obtain⟨a,rfl,hk⟩:=rx;dsimp only at p1;split at p1
  ·rename_i c fs hc
   split at p1
   case isFalse=>exact p1.elim
   rename_i q;obtain⟨dx,fvs,ha,rf⟩:=e1.hr.cell k a _ hk hc;refine⟨a,_,dx,fvs,rfl,ha,(ok c q.1).1,(ok c q.1).2,by rw[rf.len];exact q.2,?_⟩;have e2:=Ev.put (o:=.ins (C.cm c) dx (bD f v fvs)) (c:=.ins c (Z.bD f d fs)) e1.hr hk hc ⟨dx,_,dG,RVf.put (rv.ev e1) rf⟩;exact p1 σ bs1 _ e2 ((re.ev e0).ev (e1.trans e2))
  ·exact p1.elim
 | _=>exact p1.elim
def dn(C:Ct)(mg:Str->Option Value)(base:Heap)(k:Nat)(m:Str)(tab:List (String×Z.MF)):Prop:=
 ∀c z,tab.lookup c=some z->Cls C.K (C.cm c)/\oN C.P C.w C.K mg base (CXE C.P C.w) k (C.cm c) m (bG C z)
theorem d6{mg:Str->Option Value}:dn C mg base k m []:=λc z e=>by simp at e
theorem OB{mg:Str->Option Value}(a:Cls C.K (C.cm c))(b:Meth C.K (C.cm c) m f)(F:FnOk C.P C.w C.K mg base (CXE C.P C.w) j f fd ps (bG C z))(hj:j<=k)(B:jfn C.K fd ps [])(r:dn C mg base k m tab):
  dn C mg base k m ((c,z)::tab):=λc' z' e=>by
 by_cases q:(c'==c)=true
 ·simp only[List.lookup,q]at e
  cases e
  have:c'=c:=by simpa using q
  subst this;exact⟨a,f,fd,ps,b,F.mono hj,B⟩
 ·have q':(c'==c)=false:=by simpa using q
  simp only[List.lookup,q']at e;exact r c' z' e
theorem cy{mg:Str->Option Value}(ok:dn C mg base k f tab)(ho:SE C E to m)(hl:SA C E ta l):
  SE C E (oy C.P C.w C.K mg base (CXE C.P C.w) k f E to ta) (Z.aQ tab f m l):=by
 intro ex bs h ρ σ H Q hr re p;refine ho ex bs h ρ σ H _ hr re (p.bind λd x h1 bs1 H1 e1 rx p1=> ?_);obtain⟨⟨c,fs⟩,eo,p1⟩:=p1.oR;obtain⟨z,ez,p1⟩:=p1.oR;obtain⟨hn,p1⟩:=p1.chk;obtain⟨a,dx,fvs,rfl,ha,rf⟩:=Kz e1.hr rx eo;obtain⟨k1,k2⟩:=ok c z ez;refine⟨a,_,dx,fvs,_,rfl,ha,k1,k2,rf.lookup.2 hn,?_⟩;refine hl ex bs1 h1 ρ σ H1 _ e1.hr (re.ev e1) (p1.bind λds xs h2 bs2 H2 e2 rxs p2=> ?_);exact⟨ex,bs2,h2,d::ds,e2.hr,by simp only[RVs];exact⟨rx.ev e2,rxs⟩,p2⟩
theorem Ev.freezeI(hr:HR C ex bs h H)(hk:bs[k]?=some a)(h0:h[k]?=some (some (.ins c fs))):
  Ev C ex bs h H bs (h.set k none) H/\RV C bs (gh ex bs (h.set k none) H) (.ref a) (.obj c fs):=by
 have ab:a∈bs:=qt hk;have lvs:∀x,lv bs (h.set k none) x->lv bs h x/\x≠a:=λx ⟨j,c',e1,e2,l2⟩=>by
  by_cases hj:k=j
  ·subst hj;rw[qq (qb.mp h0).1]at e2;cases e2
  ·rw[qm hj]at e2
   exact⟨⟨j,c',e1,e2,l2⟩,λz=>hj (hr.inj k j a hk (by rw[<-z];exact e1))⟩
 have sm:Same (gh ex bs h H) (gh ex bs (h.set k none) H):=λx u e=>by
  obtain⟨h1,h2,h3⟩:=dQ.mp e;exact dQ.mpr ⟨h1,λl=>h2 (lvs x l).1,h3⟩
 obtain⟨dx,vs,h1,h2⟩:=hr.cell k a _ hk h0;refine⟨⟨λ_ _ e=>e,⟨by simp[hr.len],hr.inj,hr.sep,hr.dom,hr.domx,λj x c' e1 e2=> ?_⟩,sm,λ_ _=>rfl⟩,?_⟩
 ·by_cases hj:k=j
  ·subst hj;rw[qq (qb.mp h0).1]at e2;cases e2
  ·rw[qm hj]at e2
   exact(hr.cell j x c' e1 e2).mono (λ_ _ e=>e) sm rfl
 ·simp only[RV]
  exact⟨a,dx,vs,rfl,dQ.mpr ⟨λm=>hr.sep a m ab,λl=>(lvs a l).2 rfl,h1⟩,h2.mono (λ_ _ e=>e) sm⟩
theorem Ev.born(hr:HR C ex bs h H)(hx:H x=none)(hd:H dx=none)(ne:dx≠x):
  Ev C ex bs h H (bs++[x]) (h++[some (.ins c [])]) (a9 (a9 H dx (.own x)) x (.ins (C.cm c) dx [])):=by
 obtain⟨e1,_⟩:=Ev.alloc (o:=.own x) hr hd;exact e1.trans (Ev.cell e1.hr (by rw[br (Ne.symm ne)];exact hx) ⟨dx,[],dG,by simp only[RVf]⟩)
theorem uy(ea:C.cm c=a)(hl:SA C E tl ml):SE C E (vt a (bG C z) [] E tl) (Z.jh c z ml):=by
 intro ex bs h ρ σ H Q hr re p;refine hl ex bs h ρ σ H _ hr re (p.bind λds xs h1 bs1 H1 e1 rx p1=> ?_);intro x dx hx hd ne;rw[<-ea];have e2:=Ev.born (c:=c) e1.hr hx hd ne;have kx:(bs1++[x])[h1.length]?=some x:=by rw[<-e1.hr.len];simp
 refine⟨ex,bs1++[x],h1++[some (.ins c [])],.ref h1.length::ds,e2.hr,?_,?_⟩
 ·simp only[RVs,RV]
  exact⟨⟨x,rfl,kx⟩,by rw[zr];exact rx.ev e2⟩
 ·refine(p1.from e2).bind (R1:=RV C) λd v h2 bs2 H2 e3 rv p3=> ?_
  cases d with
  | non=>
   simp only[RV]at rv;refine⟨rv,?_⟩;dsimp only at p3;split at p3
   ·rename_i c' fs hc
    obtain⟨e4,r4⟩:=Ev.freezeI e3.hr (e3.pre _ _ kx) hc;exact p3 (.ref x) bs2 H2 e4 r4
   ·exact p3.elim
  | _=>exact p3.elim
theorem Kg(ea:C.cm c=a)(hl:SA C E tl ml):SE C E (vt a (bG C z) [] E tl) (Z.uB c z ml):=by
 intro ex bs h ρ σ H Q hr re p;refine hl ex bs h ρ σ H _ hr re (p.bind λds xs h1 bs1 H1 e1 rx p1=> ?_);intro x dx hx hd ne;rw[<-ea];have e2:=Ev.born (c:=c) e1.hr hx hd ne;have kx:(bs1++[x])[h1.length]?=some x:=by rw[<-e1.hr.len];simp
 refine⟨ex,bs1++[x],h1++[some (.ins c [])],.ref h1.length::ds,e2.hr,?_,?_⟩
 ·simp only[RVs,RV]
  exact⟨⟨x,rfl,kx⟩,by rw[zr];exact rx.ev e2⟩
 ·refine(p1.from e2).bind (R1:=RV C) λd v h2 bs2 H2 e3 rv p3=> ?_
  cases d with
  | non=>
   simp only[RV]at rv;exact⟨rv,Post.now e3.hr p3 (by simp only[RV];exact⟨x,rfl,e3.pre _ _ kx⟩)⟩
  | _=>exact p3.elim
theorem uY{mg:Str->Option Value}:FnOk P w K mg base CX k f fd ps (bG C (λ_ _=>.stuck)):=
 ⟨λvs H Q E ⟨_,_,_,_,_,_,p⟩=>p.elim,λA outer s H args us vs Q E _ _ _ _ ⟨_,_,_,_,_,_,p⟩=>p.elim⟩
theorem Ox(ds:List Z.D)(i:Nat):(Z.jX ds)[i]?=(ds[i]?).map λd=>Z.D.tup [.int i,d]:=by
 unfold Z.jX;rw[List.getElem?_mapIdx]
theorem ItOk.enum(hq:SqL C.K G a vs)(r:RVs C bs G vs ds):ItOk C bs G (Fc C.K a) (none,Z.jX ds):=by
 intro ex2 bs2 h2 H2 hr pre sm _ i;have hq2:SqL C.K H2 a vs:=(sm.trans cC).sql hq;refine⟨λd e=> ?_,λhle=>⟨vs,hq2,by rw[r.len];simpa [Z.jX]using hle⟩⟩;rw[Ox]at e;cases e2:ds[i]? with
 | none=>rw[e2]at e;cases e
 | some d0=>
  rw[e2]at e;simp only[wz,Option.some.injEq]at e;subst e;obtain⟨v,hv,rv⟩:=r.get e2;refine⟨⟨vs,v,hq2,hv⟩,λx H3 y=> ?_⟩;obtain⟨p,x',hp,hx',rfl,rfl⟩:=y;have:=hx' vs hq2;rw[hv]at this;cases this;obtain⟨e3,g⟩:=Ev.alloc (o:=.tup [.int i,v]) hr hp;refine⟨e3,?_⟩;simp only[RV,RVs];exact⟨p,_,rfl,g,by simp only[RVs,RV];exact⟨trivial,(rv.mono pre sm).ev e3,trivial⟩⟩
theorem RVs.only(r:RVs C bs G xs [d]):∃x,xs=[x]/\RV C bs G x d:=by
 cases xs with
 | nil=>simp only[RVs]at r
 | cons x xs=>
  simp only[RVs]at r;cases xs with
  | nil=>exact⟨x,rfl,r.1⟩
  | cons y ys=>exact absurd r.2 (by simp only[RVs];exact id)
theorem Oc(ht:SA C E t m):SI C E (Dn C.K t) (Z.nj m):=by
 intro ex bs h ρ σ H Q hr re p;refine ht ex bs h ρ σ H _ hr re (p.bind λds xs h1 bs1 H1 e1 rx p1=> ?_);split at p1
 ·obtain⟨x,rfl,ry⟩:=rx.only
  simp only[RV]at ry;obtain⟨a,vs,rfl,ga,rs⟩:=ry;exact⟨a,vs,rfl,SqL.of (cC _ _ ga),Post.now e1.hr p1 (.enum (SqL.of ga) rs)⟩
 ·rename_i ns
  obtain⟨x,rfl,ry⟩:=rx.only;simp only[RV]at ry;obtain⟨a,rfl,ga⟩:=ry;refine⟨a,_,rfl,cC.sql ga,Post.now e1.hr p1 (.enum ga ?_)⟩;clear ga p1 p rx
  induction ns with
  | nil=>simp only[zk,RVs]
  | cons n ns ih=>simp only[List.map_cons,RVs,RV];exact⟨trivial,ih⟩
 ·exact p1.elim
end
end L2
namespace L2
open PySem PyProof
variable {C : Ct} {E : XK} {ex bs bs1 : List Addr} {h h1 : Z.MH} {H H1 : Hp}
theorem jdc.oR{α:Type}{o:Option α}{f:α->Z.MH->Z.Res (List Z.D)}(p:jdc C ex E bs h H ((Z.oR o h1).bind f) Q):∃a,o=some a/\jdc C ex E bs h H (f a h1) Q:=by
 cases o with
 | none=>exact p.elim
 | some a=>exact⟨a,rfl,p⟩
theorem ph(ha:SE C E ta ma)(hb:SE C E tb mb):SN C E (nc (mJ C.K) ta tb) (Z.kN ma mb):=by
 intro ex bs h ρ σ H Q hr re p;refine ha ex bs h ρ σ H _ hr re (jdc.bind p λdx x h1 bs1 H1 e1 rx p1=> ?_);refine hb ex bs1 h1 ρ σ H1 _ e1.hr (re.ev e1) (jdc.bind p1 λdy y h2 bs2 H2 e2 ry p2=> ?_);obtain⟨xs,a1,p2⟩:=p2.oR;obtain⟨ys,a2,p2⟩:=p2.oR;obtain⟨q,p2⟩:=p2.chk;obtain⟨a,vs,rfl,ha',rs⟩:=mW e2.hr (rx.ev e2) a1;obtain⟨b,ws,rfl,hb',qs⟩:=mW e2.hr ry a2;exact .inl ⟨a,b,vs,ws,rfl,rfl,ha',hb',by rw[rs.len,qs.len];exact q,λl hl=>jdc.now e2.hr p2 hl (rs.append qs)⟩
end L2
namespace L2
open PySem PySem.Spec
section
variable {C : Ct} {ex bs bs1 bs2 : List Addr} {h h1 h2 : Z.MH} {H H1 H2 : Hp} {E : XK}
theorem rX(ho:SE C E to mo):SE C E (mO C.K "int" oY to) (Z.oz mo):=by
 intro ex bs h ρ σ H Q hr re p;refine ho ex bs h ρ σ H _ hr re (p.bind λd x h1 bs1 H1 e1 rx p1=> ?_);cases d with
 | int i=>
  simp only[RV]at rx;subst rx;exact⟨rfl,i,rfl,rfl,Post.now e1.hr p1 (by simp only[RV])⟩
 | _=>exact p1.elim
end
end L2
namespace L2
open PySem PySem.Spec PyProof.Rows
structure FnM (K:W.Frag) (x q:Str) (st:Stmt) (f:Addr) (fd:FuncData) (ps:List Str):Prop where
 F:Fun K x q st f fd
 B:jfn K fd ps []
structure FnT (K:W.Frag) (mg:Str->Option Value) (x q:Str) (st:Stmt) (f:Addr) (fd:FuncData) (ps:List Str):Prop where
 F:Fun K x q st f fd
 B:jfn K fd ps []
 m:mg x=some (.ref f)
structure ClsT (K:W.Frag) (mg:Str->Option Value) (x:Str) (c:Addr):Prop where
 cl:Cls K c
 mc:mg x=some (.ref c)
 ms:W.makesIn K c=true
 kc:W.keepIn K (.ref c)=true
section
variable {K : W.Frag} {h : Heap} {mg : Str -> Option Value} {x q : Str} {st : Stmt} {f c : Addr} {oc : Value} {od an : Option Addr} {osl : Array (Option Value)} {kV doc pm cdv ct : Value} {ps : List Str}
theorem lenN{P:List Value->Prop}(h:P []):∀us:List Value,us.length=([]:List Str).length->P us
 | [],_=>h
theorem lenC{P:List Value->Prop}{x:Str}{ps:List Str}(h:∀a,∀us:List Value,us.length=ps.length->P (a::us)):∀us:List Value,us.length=(x::ps).length->P us
 | a::us,e=>h a us (Nat.succ.inj e)
theorem fnm(l:K.lookup f=some ⟨oc,od,.func (W.fnOf x q (lZ st) (jq st) (bC st) .none kV doc pm an cdv ct),osl⟩)
  (c:W.codeIn K cdv q=true) (k:W.keepIn K (.ref f)=true)
  (b:∀(kV doc pm:Value) (an:Option Addr) (cdv ct:Value) (us:List Value),us.length=ps.length->bindArgs (W.fnOf x q (lZ st) (jq st) (bC st) .none kV doc pm an cdv ct) ⟨us,[]⟩=pure (ps.zip us):=by intro _ _ _ _ _ _;repeat (first | exact lenN rfl | refine lenC λ_=> ?_)):
  FnM K x q st f (W.fnOf x q (lZ st) (jq st) (bC st) .none kV doc pm an cdv ct) ps:=⟨HU l c k,(HU l c k).binds b⟩
theorem fnt(X:K.In h)(G:h.Ns mainGlobals mg)(a:W.nsIn K mainGlobals x=some (some (.ref f)))(M:FnM K x q st f (W.fnOf x q (lZ st) (jq st) (bC st) .none kV doc pm an cdv ct) ps):
  FnT K mg x q st f (W.fnOf x q (lZ st) (jq st) (bC st) .none kV doc pm an cdv ct) ps:=⟨M.F,M.B,W.mg_of X G a⟩
theorem clm(X:K.In h)(G:h.Ns mainGlobals mg)(a:W.nsIn K mainGlobals x=some (some (.ref c)))(pg:W.plainGet K c Str.empty=true)(hd:W.hasDictIn K c=true)(po:W.plainOver K c=true)
  (sa:W.findIn K (.ref c) "__setattr__"=some (some (.builtin "object.__setattr__"))) (mk:W.makesIn K c=true) (kc:W.keepIn K (.ref c)=true):ClsT K mg x c:=⟨⟨pg,hd,po,sa⟩,W.mg_of X G a,mk,kc⟩
theorem naOf(h:W.findIn K (.ref c) a=some none):jc0 K c a:=h
theorem ClsT.k(C:ClsT K mg x c):GV mg x (.ref c):=⟨_,C.mc,rfl⟩
theorem ClsT.mkk(C:ClsT K mg x c)(M:Meth K c "__init__" f):Mk K c f:=⟨C.ms,M.at_,M.fn,C.kc⟩
end
theorem bX{K:W.Frag}{mg:Str->Option Value}{st:Stmt}(H:FnT K mg x q st f fd ps)(o:FnOk P w K mg base CX k f fd ps sp):KG P w K mg base CX k x sp:=⟨f,fd,ps,o,H.m,H.F.kp,H.B⟩
theorem oX{K:W.Frag}{mg:Str->Option Value}{st:Stmt}(C:ClsT K mg x c)(M:Meth K c "__init__" f)(H:FnM K y q st f fd ps)(o:FnOk P w K mg base CX k f fd ps sp):GC P w K mg base CX k x c sp:=⟨f,fd,ps,C.mkk M,o,C.mc,H.B⟩
theorem aM{N P:List Str}{sc:Scope}(a:sc.kind=.function:=by rfl)(b:sc.isCoroutine=false:=by rfl)(c:sc.isGenerator=false:=by rfl)(d:N.Nodup:=by decide+kernel)(e:N.take P.length=P:=by rfl)
  (f:∀x∈P,sc.names.lookup x=some .local\/sc.names.lookup x=some .cell:=by decide+kernel) (g:∀y∈sc.names,y.2≠ .free:=by decide+kernel):FnScope N P sc:=⟨a,b,c,d,e,f,g⟩
theorem aN{C:Ct}{P:Program}{w:World}{K:W.Frag}{mg:Str->Option Value}{base:Heap}{x qual:Str}{st:Stmt}{f:Addr}{fd:FuncData}{N ps:List Str}{k np nn:Nat}{b:Z.MS}{z:Z.MF}(F:Fun K x qual st f fd)(S:FnScope N ps (bC st))
  (hb:∀(cdv:Value) (A:Around) (outer:List Env) (s:Shared) (H:Hp) (E:XK),Room k (A.deeper (envOfC qual (bC st) s.heap.objs.size f cdv))->
   ∃t,PSs (bL (CXE P w) P w K mg base N qual (bC st) f cdv A outer s H E) (jq st) t/\SS C E t b)
  (hz:z=Z.aH np nn b:=by rfl) (hp:ps.length=np:=by rfl) (hn:N.length=nn:=by rfl) (hle:np<=nn:=by decide):FnOk P w K mg base (CXE P w) (k+1) f fd ps (bG C z):=
 Ov F S hz hp hn hle hb
theorem hm{j k:Nat}{A:Around}(r:Room k A)(h:j<=k:=by decide):Room j A:=r.mono h
theorem b7(P:Program)(w:World)(K:W.Frag){X:Cx}{a b:Expr}{ta tb:TE}{pos:Pos}(hu:X.A.units+64<cLine)(ha:PE X a ta)(hb:PE X b tb)(hs:Kh b:=by exact λ_ _=>rfl)(p:X.prog=P:=by rfl)(w':X.w=w:=by rfl)(k:X.K=K:=by rfl):PE X (.Subscript a b pos) (nc (v8 P w K) ta tb):=zK (Fb p w' k hu) ha hb hs
theorem cE(P:Program)(w:World)(K:W.Frag)(mg:Str->Option Value)(base:Heap)(k:Nat){X:Cx}{m:Str}{E:XK}{e:Expr}{ta:TE}{t:TA}(h:PE X e (oy X.prog X.w X.K X.mg X.base (CXE P w) k m E ta t))(h1:X.prog=P:=by rfl)(h2:X.w=w:=by rfl)(h3:X.K=K:=by rfl)(h4:X.mg=mg:=by rfl)(h5:X.base=base:=by rfl):PE X e (oy P w K mg base (CXE P w) k m E ta t):=rV h1 h2 h3 h4 h5 h
section
variable {C : Ct} {ex bs bs1 bs2 : List Addr} {h h1 h2 : Z.MH} {H H1 H2 : Hp} {E : XK}
theorem N8{mg:Str->Option Value}(ok:dn C mg base k f tab)(ho:∀F,SE C (FE F) to m)(hl:SA C E0 ta l):
  Ji C (CN C.P C.w C.K mg base k f to ta) (Z.aQ tab f m (Z.kC l)):=λF=>cy ok (ho F) (tT hl)
def NoD(G G':Hp):Prop:=∀x u,G x=some u->(∃o kw,u=.frz o (.dK kw)/\o.cls=.type "dict")\/G' x=some u
def vx(a:Addr)(G G':Hp):Prop:=NoD G G'/\∀x u,x≠a->G x=some u->G' x=some u
theorem NoD.sql{K:W.Frag}(e:NoD G G')(h:SqL K G a xs):SqL K G' a xs:=by
 rcases h with(h|⟨o,h⟩)|h
 ·rcases e _ _ h with⟨_,_,z,_⟩|z
  ·cases z
  ·exact .inl (.inl z)
 ·rcases e _ _ h with⟨_,_,z,_⟩|z
  ·cases z
  ·exact .inl (.inr ⟨o,z⟩)
 ·exact .inr h
mutual
theorem RV.noD{G G':Hp}(hs:NoD G G'):∀{d:Z.D} {v:V},RV C bs G v d->RV C bs G' v d
 | .non,v,h=>by simp only[RV]at h ⊢;exact h
 | .bl b,v,h=>by simp only[RV]at h ⊢;exact h
 | .int i,v,h=>by simp only[RV]at h ⊢;exact h
 | .str x,v,h=>by simp only[RV]at h ⊢;exact h
 | .tup ds,v,h=>by
  simp only[RV]at h ⊢;obtain⟨a,vs,h1,h2,h3⟩:=h;rcases hs _ _ h2 with⟨_,_,z,_⟩|z
  ·cases z
  ·exact⟨a,vs,h1,z,RVs.noD hs h3⟩
 | .lst ds,v,h=>by
  simp only[RV]at h ⊢;obtain⟨a,vs,h1,h2,h3⟩:=h;rcases hs _ _ h2 with⟨_,_,z,_⟩|z
  ·cases z
  ·exact⟨a,vs,h1,z,RVs.noD hs h3⟩
 | .arg ns,v,h=>by
  simp only[RV]at h ⊢;obtain⟨a,h1,h2⟩:=h;exact⟨a,h1,hs.sql h2⟩
 | .ref k,v,h=>by simp only[RV]at h ⊢;exact h
 | .ty n,v,h=>by simp only[RV]at h ⊢;exact h
 | .cls n,v,h=>by simp only[RV]at h ⊢;exact h
 | .exc c,v,h=>by
  simp only[RV]at h ⊢;obtain⟨a,oe,u,h1,h2,h3⟩:=h;rcases hs _ _ h2 with⟨_,_,z,zc⟩|z
  ·cases z;rw[h3]at zc;cases zc
  ·exact⟨a,oe,u,h1,z,h3⟩
 | .obj c fs,v,h=>by
  simp only[RV]at h ⊢;obtain⟨a,dx,fvs,h1,h2,h3⟩:=h;rcases hs _ _ h2 with⟨_,_,z,_⟩|z
  ·cases z
  ·exact⟨a,dx,fvs,h1,z,RVf.noD hs h3⟩
 | .dic kvs,v,h=>by simp only[RV]at h ⊢;exact h
theorem RVs.noD{G G':Hp}(hs:NoD G G'):∀{ds:List Z.D} {vs:List V},RVs C bs G vs ds->RVs C bs G' vs ds
 | [],[],_=>by simp only[RVs]
 | d::ds,v::vs,h=>by
  simp only[RVs]at h ⊢;exact⟨RV.noD hs h.1,RVs.noD hs h.2⟩
 | [],_::_,h=>by simp only[RVs]at h
 | _::_,[],h=>by simp only[RVs]at h
theorem RVf.noD{G G':Hp}(hs:NoD G G'):∀{ds:List (Str×Z.D)} {vs:List (Str×V)},RVf C bs G vs ds->RVf C bs G' vs ds
  | [],[],_=>by simp only[RVf]
  | (y,d)::ds,(x,v)::vs,h=>by
    simp only[RVf]at h ⊢;exact⟨h.1,RV.noD hs h.2.1,RVf.noD hs h.2.2⟩
  | [],_::_,h=>by simp only[RVf]at h
  | _::_,[],h=>by simp only[RVf]at h
theorem RVk.noD{G G':Hp}(hs:NoD G G'):∀{ds:List (Sum Int Str×Z.D)} {vs:List (cH×V)},RVk C bs G vs ds->RVk C bs G' vs ds
  | [],[],_=>by simp only[RVk]
  | (y,d)::ds,(x,v)::vs,h=>by
    simp only[RVk]at h ⊢;exact⟨h.1,RV.noD hs h.2.1,RVk.noD hs h.2.2⟩
  | [],_::_,h=>by simp only[RVk]at h
  | _::_,[],h=>by simp only[RVk]at h
end
theorem RVk.get:∀{ds:List (Sum Int Str×Z.D)} {vs:List (cH×V)},RVk C bs G vs ds->ds.length=vs.length/\∀(i:Nat) (d:Z.D),(ds.map (·.2))[i]?=some d->∃k v,vs[i]?=some (k,v)/\RV C bs G v d
  | [],[],_=>⟨rfl,λi d e=>by simp at e⟩
  | (y,d)::ds,(x,v)::vs,h=>by
    simp only[RVk]at h;obtain⟨h1,h2,h3⟩:=h;obtain⟨i1,i2⟩:=RVk.get h3;refine⟨by simp[i1],λi d' e=> ?_⟩;cases i with
    | zero=>simp at e;subst e;exact⟨x,v,rfl,h2⟩
    | succ i=>exact i2 i d' (by simpa using e)
  | [],_::_,h=>by simp only[RVk]at h
  | _::_,[],h=>by simp only[RVk]at h
theorem ItOk.vals(hg:G a=some (.frz o (.dK kws)))(r:RVk C bs G kws kvs):ItOk C bs G (pZ a o kws) (none,kvs.map (·.2)):=by
 intro ex2 bs2 h2 H2 hr pre sm _ i;have ha:H2 a=some (.frz o (.dK kws)):=cC _ _ (sm _ _ hg);obtain⟨hl,hget⟩:=r.get;refine⟨λd e=> ?_,λhle=>⟨ha,by simp at hle;omega⟩⟩;obtain⟨k,v,hv,rv⟩:=hget i d e;refine⟨⟨ha,(qb.mp hv).1⟩,λx H3 y=> ?_⟩;obtain⟨rfl,y⟩:=y;rw[hv]at y;simp at y;subst y;exact⟨Ev.refl hr,rv.mono pre sm⟩
theorem jew.noD(hn:vx b G G')(na:a≠b)(e:H1 a=H a)(q:jew C bs G H a c):jew C bs G' H1 a c:=by
 have hs:=hn.1;cases c with
 | lst ds=>obtain⟨vs,h1,h2⟩:=q;exact⟨vs,by rw[e];exact h1,h2.noD hs⟩
 | dct kvs=>obtain⟨vs,h1,h2⟩:=q;exact⟨vs,by rw[e];exact h1,h2.noD hs⟩
 | ins c fs=>obtain⟨dx,vs,h1,h2⟩:=q;exact⟨dx,vs,by rw[e];exact h1,h2.noD hs⟩
 | fdc kvs=>obtain⟨o,vs,h1,hc,h2⟩:=q;exact⟨o,vs,hn.2 _ _ na h1,hc,h2.noD hs⟩
theorem Ev.froze(hr:HR C ex bs h H)(hk:bs[k]?=some a)(h0:h[k]?=some (some (.dct kvs)))(ha:H a=some (.dK kws)):
  Ev C ex bs h H bs (h.set k none) (a9 H a (.frz o (.dK kws)))/\gh ex bs (h.set k none) (a9 H a (.frz o (.dK kws))) a=some (.frz o (.dK kws)):=by
 have ab:a∈bs:=qt hk;have lk:=(qb.mp h0).1;have lvs:∀x,lv bs (h.set k none) x->lv bs h x/\x≠a:=λx ⟨j,c',e1,e2,l2⟩=>by
  by_cases hj:k=j
  ·subst hj;rw[qq lk]at e2;cases e2
  ·rw[qm hj]at e2
   exact⟨⟨j,c',e1,e2,l2⟩,λz=>hj (hr.inj k j a hk (by rw[<-z];exact e1))⟩
 have la:lv bs h a:=⟨k,_,hk,h0,rfl⟩;have sm:Same (gh ex bs h H) (gh ex bs (h.set k none) (a9 H a (.frz o (.dK kws)))):=λx u e=>by
  obtain⟨h1,h2,h3⟩:=dQ.mp e;have:x≠a:=λz=>h2 (z▸la);exact dQ.mpr ⟨h1,λl=>h2 (lvs x l).1,by rw[br this];exact h3⟩
 refine⟨⟨λ_ _ e=>e,⟨by simp[hr.len],hr.inj,hr.sep,λx m=> ?_,λx m=> ?_,λj x c' e1 e2=> ?_⟩,sm,λx m=> ?_⟩,dQ.mpr ⟨λm=>hr.sep a m ab,λl=>(lvs a l).2 rfl,dG⟩⟩
 ·by_cases q:x=a
  ·subst q;rw[dG];simp
  ·rw[br q];exact hr.dom x m
 ·have:x≠a:=λz=>hr.sep x m (z▸ab)
  rw[br this];exact hr.domx x m
 ·by_cases hj:k=j
  ·subst hj;rw[qq lk]at e2;cases e2
  ·rw[qm hj]at e2
   have:x≠a:=λz=>hj (hr.inj k j a hk (by rw[<-z];exact e1));exact(hr.cell j x c' e1 e2).mono (λ_ _ e=>e) sm (br this)
 ·exact br λz=>hr.sep x m (z▸ab)
theorem Ev.thawed(hr:HR C ex bs h H)(hk:bs[k]?=some a)(h0:h[k]?=some (some (.dct kvs)))(rk:RVk C bs (gh ex bs h H) kws kvs)(hc:o.cls=.type "dict")
  (ev:Ev C ex bs h H bs1 h1 H1) (lk:k<h1.length) (ha:H1 a=some (.frz o (.dK kws))):NoD (gh ex bs1 h1 H1) (gh ex bs1 (h1.set k (some (.dct kvs))) (a9 H1 a (.dK kws)))/\Ev C ex bs h H bs1 (h1.set k (some (.dct kvs))) (a9 H1 a (.dK kws)):=by
 have hk1:=ev.pre k a hk;have ab:a∈bs1:=qt hk1;have lvs:∀x,lv bs1 (h1.set k (some (.dct kvs))) x->lv bs1 h1 x\/x=a:=λx ⟨j,c',e1,e2,l2⟩=>by
  by_cases hj:k=j
  ·subst hj;rw[hk1]at e1;cases e1;exact .inr rfl
  ·rw[qm hj]at e2
   exact .inl ⟨j,c',e1,e2,l2⟩
 have nd:NoD (gh ex bs1 h1 H1) (gh ex bs1 (h1.set k (some (.dct kvs))) (a9 H1 a (.dK kws))):=λx u e=>by
  obtain⟨q1,q2,q3⟩:=dQ.mp e;by_cases q:x=a
  ·subst q;rw[ha]at q3;cases q3;exact .inl ⟨o,kws,rfl,hc⟩
  ·exact .inr (dQ.mpr ⟨q1,λl=>(lvs x l).elim q2 q,by rw[br q];exact q3⟩)
 have nda:vx a (gh ex bs1 h1 H1) (gh ex bs1 (h1.set k (some (.dct kvs))) (a9 H1 a (.dK kws))):=⟨nd,λx u q e=>by
  obtain⟨q1,q2,q3⟩:=dQ.mp e;exact dQ.mpr ⟨q1,λl=>(lvs x l).elim q2 q,by rw[br q];exact q3⟩⟩
 have la:lv bs h a:=⟨k,_,hk,h0,rfl⟩;refine⟨nd,ev.pre,⟨by simp[ev.hr.len],ev.hr.inj,ev.hr.sep,λx m=> ?_,λx m=> ?_,λj x c' e1 e2=> ?_⟩,λx u e=> ?_,λx m=> ?_⟩
 ·by_cases q:x=a
  ·subst q;rw[dG];simp
  ·rw[br q];exact ev.hr.dom x m
 ·have:x≠a:=λz=>ev.hr.sep x m (z▸ab)
  rw[br this];exact ev.hr.domx x m
 ·by_cases hj:k=j
  ·subst hj
   rw[qq lk]at e2;cases e2;rw[hk1]at e1;cases e1;exact⟨kws,dG,(rk.mono ev.pre ev.same).noD nd⟩
  ·rw[qm hj]at e2
   have:x≠a:=λz=>hj (ev.hr.inj k j a hk1 (by rw[<-z];exact e1));exact(ev.hr.cell j x c' e1 e2).noD nda this (br this)
 ·rcases nd x u (ev.same x u e)with⟨o',kw,rfl,_⟩|z
  ·obtain⟨q1,q2,q3⟩:=dQ.mp (ev.same x _ e)
   obtain⟨p1,p2,p3⟩:=dQ.mp e;have:x≠a:=λz=>p2 (z▸la);exact dQ.mpr ⟨q1,λl=>(lvs x l).elim q2 this,by rw[br this];exact q3⟩
  ·exact z
 ·have:x≠a:=λz=>ev.hr.sep x m (z▸ab)
  rw[br this];exact ev.exs x m
theorem O_(ho:SE C E to mo)(hg:SG C E g mg)(hb:SS C E tb mb):SS C E (oZ to g tb) (Z.nY mo mg mb):=by
 intro ex bs h ρ σ H D hr re p N;refine ho ex bs h ρ σ H _ hr re (p.bind λd x h1 bs1 H1 e1 rx p1=> ?_);cases d with
 | ref k=>
  simp only[RV]at rx;obtain⟨a,rfl,hk⟩:=rx;dsimp only at p1;split at p1
  ·rename_i kvs h0
   obtain⟨kws,ha,rk⟩:=e1.hr.cell k a _ hk h0;refine⟨a,kws,rfl,ha,λo oc na=> ?_⟩;obtain⟨e2,ga⟩:=Ev.froze (o:=o) e1.hr hk h0 ha;refine I_ (gd:=none) (items:=kvs.map (·.2)) hg hb e2.hr ((re.ev e1).ev e2) (.vals ga (rk.mono e2.pre e2.same)) ?_;rw[Z.CT];have hfz:∀{bs':List Addr} {h':Z.MH} {H':Hp},Ev C ex bs1 (h1.set k none) (a9 H1 a (.frz o (.dK kws))) bs' h' H'->H' a=some (.frz o (.dK kws)):=λev=>cC _ _ (ev.same _ _ ga);cases er:Z.dS mg mb (kvs.map (·.2)) ρ (h1.set k none)with
   | nx ρ' h'=>
    rw[er]at p1;dsimp only[Z.Hd]at p1;split at p1
    ·rename_i hn
     intro σ' bs' H' ev re';obtain⟨nd,e3⟩:=Ev.thawed e1.hr hk h0 rk oc (e2.trans ev) (qb.mp hn).1 (hfz ev);exact⟨a,o,kws,na,hfz ev,p1 σ' bs' _ e3 ⟨re'.1,λi d q=>by obtain⟨v,q1,q2⟩:=re'.2 i d q;exact⟨v,q1,q2.noD nd⟩⟩⟩
    ·exact p1.elim
   | rt d h'=>
    rw[er]at p1;dsimp only[Z.Hd]at p1;split at p1
    ·rename_i hn
     intro v bs' H' ev rv;obtain⟨nd,e3⟩:=Ev.thawed e1.hr hk h0 rk oc (e2.trans ev) (qb.mp hn).1 (hfz ev);exact⟨a,o,kws,na,hfz ev,p1 v bs' _ e3 (rv.noD nd)⟩
    ·exact p1.elim
   | exc c h'=>
    rw[er]at p1;exact λbs' H' ev=>p1 bs' H' (e2.trans ev)
   | bk ρ' h'=>rw[er]at p1;exact p1.elim
   | ct ρ' h'=>rw[er]at p1;exact p1.elim
   | stuck=>rw[er]at p1;exact p1.elim
  ·exact p1.elim
 | _=>exact p1.elim
end
def IoL(K:W.Frag)(a:Addr):List Value->List Bool->Prop
 | v::vs,b::bs=>W.kitOne K (.ref a) v=some b/\IoL K a vs bs
 | [],[]=>True
 | _,_=>False
section
variable {C : Ct} {ex bs bs1 bs2 : List Addr} {h h1 h2 : Z.MH} {H H1 H2 : Hp} {E : XK}
theorem RVk.drop{k:Sum Int Str}:∀{ds:List (Sum Int Str×Z.D)} {vs:List (cH×V)},RVk C bs G vs ds->RVk C bs G (lS vs k) (Z.xE ds k)
  | [],[],_=>by simp only[lS,Z.xE,List.filter_nil,RVk]
  | (y,d)::ds,(x,v)::vs,h=>by
    simp only[RVk]at h;obtain⟨rfl,h2,h3⟩:=h;have ih:=RVk.drop (k:=k) h3;unfold lS Z.xE at ih ⊢;by_cases q:x=k
    · simp only[wd,q,ne_eq,not_true_eq_false,decide_false,zn,if_false];exact ih
    · simp only[wd,q,ne_eq,not_false_eq_true,decide_true,if_true,RVk];exact⟨trivial,h2,ih⟩
  | [],_::_,h=>by simp only[RVk]at h
  | _::_,[],h=>by simp only[RVk]at h
theorem MQ(ho:SE C E to mo)(hi:SE C E ti mi):SE C E (Kf to ti) (Z.Jh mo mi):=by
 intro ex bs h ρ σ H Q hr re p;refine ho ex bs h ρ σ H _ hr re (p.bind λo x h1 bs1 H1 e1 rx p1=> ?_);cases o with
 | ref k=>
  simp only[RV]at rx;obtain⟨a,rfl,hk⟩:=rx;dsimp only at p1;split at p1
  ·rename_i kv0 hc0
   obtain⟨vs0,ha0,_⟩:=e1.hr.cell k a _ hk hc0;refine⟨a,rfl,.inl ⟨_,.inl ha0⟩,?_⟩;refine hi ex bs1 h1 ρ σ H1 _ e1.hr (re.ev e1) (p1.bind λy vy h2 bs2 H2 e2 ry p2=> ?_);split at p2
   ·rename_i j hj
    split at p2
    ·rename_i kvs hc
     obtain⟨kws,ha,rk⟩:=e2.hr.cell k a _ (e2.pre k a hk) hc;have ek:=EA ry hj;subst ek;rcases RVk.val (k:=j) rk with⟨q1,q2⟩|⟨d,v,q1,q2,q3⟩
     ·rw[q1]at p2;exact p2.elim
     ·rw[q1]at p2
      refine⟨kws,j,v,ha,rfl,q2,?_⟩;have e3:=Ev.put (o:=.dK (lS kws j)) (c:=.dct (Z.xE kvs j)) e2.hr (e2.pre k a hk) hc ⟨_,dG,rk.drop⟩;exact p2 v bs2 _ e3 (q3.ev e3)
    ·exact p2.elim
   ·exact p2.elim
  ·exact p1.elim
 | _=>exact p1.elim
theorem cZ(hc:C.cm c=a)(cl:Cls C.K a)(na:jc0 C.K a f)(r:fQ C f tab):fQ C f (c::tab):=by subst hc;exact PM cl na r
theorem dq(hc:C.cm c=a)(q:PySem.W.mroIn C.K a (.ref W)=some b)(r:qN C W tab):qN C W ((c,b)::tab):=by subst hc;exact Og q r
theorem cK{mg:Str->Option Value}(hc:C.cm c=a)(cl:Cls C.K a)(b:Meth C.K a m f)(F:FnOk C.P C.w C.K mg base (CXE C.P C.w) j f fd ps (bG C z))(hj:j<=k)(B:jfn C.K fd ps [])(r:dn C mg base k m tab):dn C mg base k m ((c,z)::tab):=by subst hc;exact OB cl b F hj B r
def CI(C:Ct):List (Bool×String)->List Value->Prop
  | (k,n)::ns,v::vs=>(if k=true then Value.ref (C.cm n)else .type n)=v/\CI C ns vs
  | [],[]=>True
  | _,_=>False
def XL(C:Ct)(vs:List Value):List (String×List Bool)->Prop
  | []=>True
  | (c,bs)::r=>(IsiC C.K (C.cm c)/\IoL C.K (C.cm c) vs bs)/\XL C vs r
theorem ia{bs:List Bool}(hc:C.cm c=a)(ic:IsiC C.K a)(io:IoL C.K a vs bs)(h:XL C vs r):XL C vs ((c,bs)::r):=by subst hc;exact⟨⟨ic,io⟩,h⟩
theorem KY{c:String}{tab:List ((String×Bool×String)×Bool)}(ic:IsiC C.K (C.cm c))(r:nC C tab):∀{ns:List (Bool×String)} {vs:List Value} {bs:List Bool},CI C ns vs->IoL C.K (C.cm c) vs bs->nC C (((ns.zip bs).map λq=>((c,q.1.1,q.1.2),q.2))++tab)
  | (k,n)::ns,v::vs,b::bs,h1,h2=>by
    obtain⟨rfl,h1⟩:=h1;exact LX ic h2.1 (KY ic r h1 h2.2)
  | [],[],[],_,_=>r
  | [],[],_::_,_,h=>h.elim
  | _::_,[],_,h,_=>h.elim
  | [],_::_,_,h,_=>h.elim
  | (_,_)::_,_::_,[],_,h=>h.elim
theorem xS(h:CI C ns vs):∀{l:List (String×List Bool)},XL C vs l->nC C (Z.xT ns l)
  | [],_=>Oo
  | (c,bs)::l,q=>by
    have:=KY (c:=c) q.1.1 (xS h q.2) h q.1.2;exact this
end
section
variable {C : Ct} {ex bs bs1 bs2 : List Addr} {h h1 h2 : Z.MH} {H H1 H2 : Hp} {E : XK}
theorem Jf:∀(xs ys:List Z.D) (i:Nat) (d:Z.D),(Z.cD xs ys)[i]?=some d->∃x y,xs[i]?=some x/\ys[i]?=some y/\d=.tup [x,y]
 | x::xs,y::ys,0,d,e=>⟨x,y,rfl,rfl,by simpa [Z.cD]using e.symm⟩
 | x::xs,y::ys,i+1,d,e=>by
  obtain⟨a,b,h1,h2,h3⟩:=Jf xs ys i d (by simpa [Z.cD]using e);exact⟨a,b,by simpa using h1,by simpa using h2,h3⟩
 | [],_,i,d,e=>by simp[Z.cD]at e
 | _::_,[],i,d,e=>by simp[Z.cD]at e
theorem vA:∀(xs ys:List Z.D),(Z.cD xs ys).length=min xs.length ys.length
 | x::xs,y::ys=>by simp[Z.cD,vA xs ys]
 | [],ys=>by simp[Z.cD]
 | _::_,[]=>by simp[Z.cD]
theorem ItOk.zip(hq:SqL C.K G a vs)(r:RVs C bs G vs ds)(hq2:SqL C.K G b us)(r2:RVs C bs G us es):ItOk C bs G (Hs C.K a b) (none,Z.cD ds es):=by
 intro ex2 bs2 h2 H2 hr pre sm _ i;have q1:SqL C.K H2 a vs:=(sm.trans cC).sql hq;have q2:SqL C.K H2 b us:=(sm.trans cC).sql hq2;refine⟨λd e=> ?_,λhle=>⟨vs,us,q1,q2,?_⟩⟩
 ·obtain⟨d0,e0,e1,e2,rfl⟩:=Jf ds es i d e
  obtain⟨v,hv,rv⟩:=r.get e1;obtain⟨u,hu,ru⟩:=r2.get e2;refine⟨⟨vs,v,us,u,q1,hv,q2,hu⟩,λx H3 y=> ?_⟩;obtain⟨p,x',y',hp,hx',hy',rfl,rfl⟩:=y;have:=hx' vs q1;rw[hv]at this;cases this;have:=hy' us q2;rw[hu]at this;cases this;obtain⟨e3,g⟩:=Ev.alloc (o:=.tup [v,u]) hr hp;refine⟨e3,?_⟩;simp only[RV,RVs];exact⟨p,_,rfl,g,by simp only[RVs,RV];exact⟨(rv.mono pre sm).ev e3,(ru.mono pre sm).ev e3,trivial⟩⟩
 ·have hle:(Z.cD ds es).length<=i:=hle
  rw[vA]at hle;rw[r.len,r2.len];omega
theorem pE(ht:SA C E t m):SI C E (lX C.K t) (Z.gY m):=by
 intro ex bs h ρ σ H Q hr re p;refine ht ex bs h ρ σ H _ hr re (p.bind λds xs h1 bs1 H1 e1 rx p1=> ?_);split at p1
 ·obtain⟨x,y,rfl,rx,ry⟩:=DZ rx
  simp only[RV]at rx ry;obtain⟨a,vs,rfl,ga,rs⟩:=rx;obtain⟨b,us,rfl,gb,rs2⟩:=ry;exact⟨a,b,vs,us,rfl,SqL.of (cC _ _ ga),SqL.of (cC _ _ gb),Post.now e1.hr p1 (.zip (SqL.of ga) rs (SqL.of gb) rs2)⟩
 ·exact p1.elim
theorem qI:SL C (rR C.K) Z.rE:=by
 intro ex bs h H E xs ds Q hr rs p;unfold Z.rE at p;split at p
 ·obtain⟨v,rfl,r⟩:=ij rs
  obtain⟨bb,e,p⟩:=p.oR;rw[z4]at e;obtain⟨ys,e1,e2⟩:=e;obtain⟨a,vs,rfl,ha,qs⟩:=mW hr r e1;have:=Ep qs e2;subst this;exact⟨a,bb,rfl,SqL.of ha,p.now hr (by simp only[RV])⟩
 ·exact p.elim
end
end L2
namespace Z
open PySem
theorem jV{α:Type}(e:α->D)(r:α->Ro)(f:α->D):∀(as:List α),(∀a∈as,g (e a) ρ0 h=.nx (r a) h/\t (r a) h=.ok true h/\m (r a) h=.ok (f a) h)->compLoop g t m ρ0 (as.map e) h=.ok (as.map f) h
 | [],_=>by unfold compLoop;rfl
 | a::as,q=>by
  obtain⟨h1,h2,h3⟩:=q a (qj ..);rw[List.map_cons];unfold compLoop;simp only[h1,h2,h3,jV e r f as λb hb=>q b (qg _ hb),List.map_cons]
@[simp] theorem uI(ns:List Int):tS (ns.map D.int)=some ns:=by
 induction ns with
 | nil=>rfl
 | cons n ns ih=>simp[ih]
@[simp] theorem GG(ns:List Str):mH (ns.map D.str)=some ns:=by
 induction ns with
 | nil=>rfl
 | cons n ns ih=>simp[ih]
@[simp] theorem r_(ns:List Bool):oV (ns.map D.bl)=some ns:=by
 induction ns with
 | nil=>rfl
 | cons n ns ih=>simp[ih]
@[simp] theorem t_(lo:Int)(n:Nat):(rng lo n).length=n:=by simp[rng]
@[simp] theorem C0(n:Nat):bI (n+1) 0 (some 1)=1:=by simp[bI]
@[simp] theorem C2{α:Type}(x:α)(xs:List α):cut (x::xs) (some 1) none=xs:=by
 unfold cut;rw[show bI (x::xs).length 0 (some 1)=1 by simp[bI]];simp[bI]
@[simp] theorem xB{α:Type}(a:α)(l:List α):cU (a::l) 0=some a:=by simp[cU,gC]
@[simp] theorem DC{α:Type}(a b:α)(l:List α):cU (a::b::l) 1=some b:=by
 unfold cU gC;rw[if_pos (by decide),if_pos (by simp only[z7];omega)];rfl
@[simp] theorem Eh{α:Type}(a b c:α)(l:List α):cU (a::b::c::l) 2=some c:=by
 unfold cU gC;rw[if_pos (by decide),if_pos (by simp only[z7];omega)];rfl
theorem KS{c:Nat}:∀{a b x y:List Nat},c∉a->c∉b->a++c::x=b++c::y->a=b/\x=y
 | [],[],x,y,_,_,e=>⟨rfl,(List.cons.inj e).2⟩
 | [],k::b,x,y,_,hb,e=>by
  have:=(List.cons.inj e).1;exact absurd (by rw[this];exact qj ..) hb
 | k::a,[],x,y,ha,_,e=>by
  have:=(List.cons.inj e).1;exact absurd (by rw[<-this];exact qj ..) ha
 | k::a,j::b,x,y,ha,hb,e=>by
  obtain⟨e1,e2⟩:=List.cons.inj e;obtain⟨h1,h2⟩:=KS (λm=>ha (qg _ m)) (λm=>hb (qg _ m)) e2;exact⟨by rw[e1,h1],h2⟩
theorem Iu{c:Nat}(ha:c∉a)(e:a=b++c::x):False:=ha (by rw[e];simp)
theorem Ag{a b:Str}(h:a.cps.toList=b.cps.toList):a=b:=by
 obtain⟨⟨x⟩⟩:=a;obtain⟨⟨y⟩⟩:=b;simp at h;rw[h]
theorem tH:(Str.join ⟨#[c]⟩ (p::q::r)).cps.toList=p.cps.toList++c::(Str.join ⟨#[c]⟩ (q::r)).cps.toList:=by
 show(p++⟨#[c]⟩++Str.join ⟨#[c]⟩ (q::r)).cps.toList=_;simp only[Str.cps_append,Array.toList_append];simp
theorem Ju{c:Nat}:∀{ps qs:List Str},ps≠[]->qs≠[]->(∀p∈ps,c∉p.cps.toList)->(∀q∈qs,c∉q.cps.toList)->Str.join ⟨#[c]⟩ ps=Str.join ⟨#[c]⟩ qs->ps=qs
 | [],_,h,_,_,_,_=>absurd rfl h
 | _,[],_,h,_,_,_=>absurd rfl h
 | [p],[q],_,_,_,_,e=>by rw[show p=q from e]
 | [p],q::q'::r,_,_,hp,_,e=>by
  have:=congrArg (λz:Str=>z.cps.toList) e;rw[tH]at this;exact(Iu (hp p (qj ..)) this).elim
 | p::p'::r,[q],_,_,_,hq,e=>by
  have:=congrArg (λz:Str=>z.cps.toList) e;rw[tH]at this;exact(Iu (hq q (qj ..)) this.symm).elim
 | p::p'::r,q::q'::r',_,_,hp,hq,e=>by
  have:=congrArg (λz:Str=>z.cps.toList) e;rw[tH,tH]at this;obtain⟨h1,h2⟩:=KS (hp p (qj ..)) (hq q (qj ..)) this;have:=Ju (ps:=p'::r) (qs:=q'::r') (λz=>nomatch z) (λz=>nomatch z) (λa ha=>hp a (qg _ ha)) (λa ha=>hq a (qg _ ha)) (Ag h2);rw[this,Ag h1]
theorem zM(x y:Str):Txt.split x y≠[]:=by
 unfold Txt.split;split
 ·exact λz=>nomatch z
 ·split
  ·exact λz=>nomatch z
  ·rw[StrLaws.partsBetween_eq]
   obtain⟨p,r,e⟩:=StrLaws.partsFrom_ne x y.length 0 (Builtin.Str.occurrences x y 0 x.length (x.length+1));rw[e];exact λz=>nomatch z
theorem GU(h0:ps≠[])(h:∀p∈ps,c∉p.cps.toList):Txt.split (Str.join ⟨#[c]⟩ ps) ⟨#[c]⟩=ps:=
 Ju (zM _ _) h0 (StrLaws.split_free _ c) h (StrLaws.join_split _ _)
theorem sE(s:Str)(ps:List Str):Txt.join s ps=Str.join s ps:=StrLaws.glued_eq_join s ps
theorem uz:∀(ps:List Str),ps≠[]->(Str.join ⟨#[c]⟩ ps).length+1=(ps.map (·.length)).sum+ps.length
 | [],h=>absurd rfl h
 | [p],_=>by simp[Str.join]
 | p::q::r,_=>by
  have ih:=uz (c:=c) (q::r) (λz=>nomatch z);have e:(Str.join ⟨#[c]⟩ (p::q::r)).length=p.length+1+(Str.join ⟨#[c]⟩ (q::r)).length:=by
   show(p++⟨#[c]⟩++Str.join ⟨#[c]⟩ (q::r)).length=_;rw[Str.length_append,Str.length_append];rfl
  rw[e];simp only[List.map_cons,wx,z7]at ih ⊢;omega
theorem MP(x:Str)(c:Nat):(Txt.split x ⟨#[c]⟩).length<=x.length+1:=by
 have h:=uz (c:=c) (Txt.split x ⟨#[c]⟩) (zM _ _);rw[StrLaws.join_split]at h;omega
mutual
theorem Kd:∀{d:D} {p:PyData},d.py=some p->d.eq d=true
 | .non,_,_=>by simp[D.eq]
 | .bl b,_,_=>by simp[D.eq]
 | .int i,_,_=>by simp[D.eq]
 | .str x,_,_=>by simp[D.eq]
 | .tup ds,_,e=>by
  simp only[D.py,qk]at e;obtain⟨ps,h,_⟩:=e;simp only[D.eq];exact FP h
 | .lst ds,_,e=>by
  simp only[D.py,qk]at e;obtain⟨ps,h,_⟩:=e;simp only[D.eq];exact FP h
 | .arg _,_,e=>by simp only[D.py]at e;cases e
 | .ref _,_,e=>by simp only[D.py]at e;cases e
 | .ty _,_,e=>by simp only[D.py]at e;cases e
 | .cls _,_,e=>by simp only[D.py]at e;cases e
 | .exc _,_,e=>by simp only[D.py]at e;cases e
 | .obj _ _,_,e=>by simp only[D.py]at e;cases e
 | .dic _,_,e=>by simp only[D.py]at e;cases e
theorem FP:∀{ds:List D} {ps:List PyData},D.pys ds=some ps->D.eqs ds ds=true
 | [],_,_=>by simp[D.eqs]
 | d::ds,ps,e=>by
  simp only[D.pys]at e;split at e
  ·rename_i p qs e1 e2
   simp only[D.eqs,qu];exact⟨Kd e1,FP e2⟩
  ·cases e
end
theorem Jd{d:D}(h:d.dat=true):d.eq d=true:=by
 unfold D.dat at h;rw[qu,zx]at h;obtain⟨⟨p,hp⟩,_⟩:=h;exact Kd hp
theorem NH(h:∀d∈ds,d.py.isSome=true/\d.deep<=n):(D.pys ds).isSome=true/\D.deeps ds<=n:=by
 induction ds with
 | nil=>exact⟨by simp[D.pys],by simp[D.deeps]⟩
 | cons d ds ih=>
  obtain⟨h1,h2⟩:=h d (qj ..);obtain⟨h3,h4⟩:=ih λe he=>h e (qg _ he);rw[zx]at h1 h3;obtain⟨p,hp⟩:=h1;obtain⟨ps,hps⟩:=h3;exact⟨by simp[D.pys,hp,hps],by simp only[D.deeps];omega⟩
theorem J_(h:∀d∈ds,d.py.isSome=true/\d.deep<=n):(D.lst ds).py.isSome=true/\(D.lst ds).deep<=n+1:=by
 obtain⟨h1,h2⟩:=NH h;exact⟨by simp only[D.py];simpa using h1,by simp only[D.deep];omega⟩
theorem JD{d:D}(h:d.py.isSome=true/\d.deep<=n)(hn:n<=64):d.dat=true:=by
 unfold D.dat;rw[h.1,gg,decide_eq_true_eq];omega
mutual
theorem um(h:MH):∀(n:Nat) {d:D},D.bnd 0 d=true->res n h d=d
 | 0,d,_=>by unfold res;rfl
 | n+1,.ref k,e=>by simp[D.bnd]at e
 | n+1,.tup xs,e=>by
  simp only[D.bnd]at e;unfold res;rw[E8 h n e]
 | n+1,.lst xs,e=>by
  simp only[D.bnd]at e;unfold res;rw[E8 h n e]
 | n+1,.non,_=>by unfold res;rfl
 | n+1,.bl _,_=>by unfold res;rfl
 | n+1,.int _,_=>by unfold res;rfl
 | n+1,.str _,_=>by unfold res;rfl
 | n+1,.arg _,_=>by unfold res;rfl
 | n+1,.ty _,_=>by unfold res;rfl
 | n+1,.cls _,_=>by unfold res;rfl
 | n+1,.exc _,_=>by unfold res;rfl
 | n+1,.obj _ _,_=>by unfold res;rfl
 | n+1,.dic _,_=>by unfold res;rfl
theorem E8(h:MH):∀(n:Nat) {ds:List D},D.bnds 0 ds=true->ds.map (res n h)=ds
 | n,[],_=>rfl
 | n,d::ds,e=>by
  simp only[D.bnds,qu]at e;rw[List.map_cons,um h n e.1,E8 h n e.2]
end
end Z
namespace Clo
def sub(a b:Nat):Prop:=∀i,a.testBit i=true->b.testBit i=true
theorem sub.refl(a:Nat):sub a a:=λ_ h=>h
theorem sub.trans(h:sub a b)(g:sub b c):sub a c:=λi q=>g i (h i q)
theorem sub.antisymm(h:sub a b)(g:sub b a):a=b:=wa λi=>by
 cases x:a.testBit i with
 | true=>rw[h i x]
 | false=>cases y:b.testBit i with
  | true=>rw[g i y]at x;cases x
  | false=>rfl
theorem Hw(a b:Nat):sub a (a|||b):=λi h=>by rw[wf,h];rfl
theorem Ez(a b:Nat):sub b (a|||b):=λi h=>by rw[wf,h,Bool.or_true]
theorem J2(h:sub a c)(g:sub b c):sub (a|||b) c:=λi q=>by
 rw[wf,Bool.or_eq_true]at q;rcases q with q|q
 ·exact h i q
 ·exact g i q
theorem sub.or_eq(h:sub a b):a|||b=b:=sub.antisymm (J2 h (sub.refl _)) (Ez _ _)
theorem sub.le(h:sub a b):a<=b:=by rw[<-h.or_eq];exact Nat.left_le_or
theorem and_ne:a&&&b≠0↔∃i,a.testBit i=true/\b.testBit i=true:=by
 constructor
 ·intro h
  obtain⟨i,hi⟩:=Nat.exists_testBit_of_ne_zero h;rw[wk,qu]at hi;exact⟨i,hi⟩
 ·rintro⟨i,h1,h2⟩ e
  have:(a&&&b).testBit i=true:=by rw[wk,h1,h2];rfl
  rw[e]at this;simp at this
theorem sub.and_ne(h:sub b c)(g:a&&&b≠0):a&&&c≠0:=by
 obtain⟨i,h1,h2⟩:=Clo.and_ne.mp g;exact Clo.and_ne.mpr ⟨i,h1,h i h2⟩
def ny(ps:List Nat)(t:Nat):Prop:=∀p∈ps,p&&&t≠0->sub p t
structure Is (ps:List Nat) (s r:Nat):Prop where
 ge:sub s r
 cl:ny ps r
 le:∀t,sub s t->ny ps t->sub r t
theorem Is.uniq(a:Is ps s r)(b:Is ps s q):r=q:=sub.antisymm (a.le q b.ge b.cl) (b.le r a.ge a.cl)
noncomputable def all(ps:List Nat)(s:Nat):Nat:=ps.foldl (·|||·) s
theorem Ha:∀(ps:List Nat) (s:Nat),sub s (all ps s)
 | [],s=>sub.refl _
 | p::ps,s=>(Hw s p).trans (Ha ps (s|||p))
theorem Ig:∀(ps:List Nat) (s p:Nat),p∈ps->sub p (all ps s)
 | q::ps,s,p,m=>by
  rcases qr.mp m with rfl|m
  ·exact(Ez s p).trans (Ha ps (s|||p))
  ·exact Ig ps (s|||q) p m
theorem PC(ps:List Nat)(s:Nat):ny ps (all ps s):=λp m _=>Ig ps s p m
structure Step (ps:List Nat) (F:Nat->Nat):Prop where
 up:∀r,sub r (F r)
 lo:∀r t,ny ps t->sub r t->sub (F r) t
 fx:∀r,F r=r->ny ps r
structure Mid (ps:List Nat) (s r:Nat):Prop where
 ge:sub s r
 le:∀t,sub s t->ny ps t->sub r t
theorem Mid.start(ps:List Nat)(s:Nat):Mid ps s s:=⟨sub.refl _,λ_ h _=>h⟩
theorem Mid.step{F:Nat->Nat}(f:Step ps F)(m:Mid ps s r):Mid ps s (F r):=⟨m.ge.trans (f.up r),λt h c=>f.lo r t c (m.le t h c)⟩
theorem Mid.fin{F:Nat->Nat}(f:Step ps F)(m:Mid ps s r)(e:F r=r):Is ps s r:=⟨m.ge,f.fx r e,m.le⟩
theorem Mid.bnd(m:Mid ps s r):r<=all ps s:=(m.le _ (Ha ps s) (PC ps s)).le
theorem Step.lt{F:Nat->Nat}(f:Step ps F)(h:F r≠r):r<F r:=Nat.lt_of_le_of_ne (f.up r).le (Ne.symm h)
theorem rF{ps:List Nat}{s:Nat}{F:Nat->Nat}(f:Step ps F){P:Nat->Prop}(h1:∀r,Mid ps s r->F r=r->P r)(h2:∀r,Mid ps s r->F r≠r->P (F r)->P r):∀(n r:Nat),Mid ps s r->all ps s - r<n->P r
 | 0,r,_,h=>absurd h (Nat.not_lt_zero _)
 | n+1,r,m,h=>by
  by_cases e:F r=r
  ·exact h1 r m e
  ·have:=f.lt e
   have:=(m.step f).bnd;exact h2 r m e (rF f h1 h2 n (F r) (m.step f) (by omega))
noncomputable def cW(ps:List Nat)(r:Nat):Nat:=ps.foldl (λr p=>if p&&&r≠0 then r|||p else r) r
theorem EX:∀(ps:List Nat) (r:Nat),sub r (cW ps r)
 | [],r=>sub.refl _
 | p::ps,r=>by
  show sub r (cW ps (if p&&&r≠0 then r|||p else r));refine sub.trans ?_ (EX ps _);split
  ·exact Hw _ _
  ·exact sub.refl _
theorem Ky:∀(ps:List Nat) (r t:Nat),ny ps t->sub r t->sub (cW ps r) t
 | [],r,t,_,h=>h
 | p::ps,r,t,c,h=>by
  show sub (cW ps (if p&&&r≠0 then r|||p else r)) t;refine Ky ps _ t (λq m=>c q (qg _ m)) ?_;split
  ·rename_i n
   exact J2 h (c p qj (h.and_ne n))
  ·exact h
theorem Ip:∀(ps:List Nat) (r:Nat),cW ps r=r->ny ps r
 | [],r,_=>λp m=>by cases m
 | p::ps,r,e=>by
  have e':cW ps (if p&&&r≠0 then r|||p else r)=r:=e;have u:=EX ps (if p&&&r≠0 then r|||p else r);rw[e']at u;have k:(if p&&&r≠0 then r|||p else r)=r:=by
   by_cases n:p&&&r≠0
   ·rw[if_pos n]at u ⊢;exact sub.antisymm u (Hw _ _)
   ·rw[if_neg n]
  rw[k]at e';intro q m n;rcases qr.mp m with rfl|m
  ·rw[if_pos n]at u;exact(Ez _ _).trans u
  ·exact Ip ps r e' q m n
theorem zT(ps:List Nat):Step ps (cW ps):=⟨EX ps,Ky ps,Ip ps⟩
noncomputable def B_(s:Nat)(ps:List Nat)(f:Nat):Nat:=ps.foldl (λf p=>if s&&&p≠0 then f|||p else f) f
noncomputable def Ng(ps:List Nat)(s:Nat):Nat:=B_ s ps s
theorem ex(ps:List Nat)(s:Nat):∃r,Is ps s r:=rF (P:=λr=>Mid ps s r->∃r,Is ps s r) (zT ps) (λr _ e m=>⟨r,m.fin (zT ps) e⟩) (λr m _ h _=>h (m.step (zT ps))) _ s (Mid.start ps s) (zp _) (Mid.start ps s)
noncomputable def fL(ps:List Nat)(s:Nat):Nat:=(ex ps s).choose
theorem is(ps:List Nat)(s:Nat):Is ps s (fL ps s):=(ex ps s).choose_spec
theorem Is.eq(h:Is ps s r):r=fL ps s:=h.uniq (is ps s)
theorem Qo(ps:List Nat):fL ps 0=0:=(Is.eq ⟨sub.refl _,λp _ n=>by simp at n,λt h _=>h⟩).symm
end Clo
namespace Z
open PySem
theorem gS(a b:Nat):Builtin.bitAnd (a:Int) b=((a&&&b:Nat):Int):=by simp[Builtin.bitAnd]
theorem qS(a b:Nat):Builtin.bitOr (a:Int) b=((a|||b:Nat):Int):=by
 rw[PyProof.Rows.bitOr_and,gS];have:=PyProof.Rows.nat_or_add_and a b;omega
theorem oM(a b:Nat):Builtin.bitAnd (a:Int) (Builtin.bitNot b)=((a - (a&&&b):Nat):Int):=by
 rw[PyProof.Rows.bitAnd_not,gS];have:a&&&b<=a:=Nat.and_le_left;omega
theorem Lg(a b:Nat):a - (a&&&b)=a^^^(a&&&b):=by
 have h:(a^^^(a&&&b))+(a&&&b)=a:=by
  have h1:=PyProof.Rows.nat_or_add_and (a^^^(a&&&b)) (a&&&b);have h2:(a^^^(a&&&b))&&&(a&&&b)=0:=wa λi=>by
   simp only[wk,ka,Nat.zero_testBit];cases a.testBit i<;>cases b.testBit i<;>rfl
  have h3:(a^^^(a&&&b))|||(a&&&b)=a:=wa λi=>by
   simp only[wf,wk,ka];cases a.testBit i<;>cases b.testBit i<;>rfl
  omega
 omega
theorem Hk(a b:Nat):Builtin.bitXor (a:Int) b=((a^^^b:Nat):Int):=by
 unfold Builtin.bitXor;rw[qS,gS];have h:(a^^^b)=(a|||b) - (a&&&b):=by
  have e:a&&&b=(a|||b)&&&(a&&&b):=wa λi=>by
   simp only[wf,wk];cases a.testBit i<;>cases b.testBit i<;>rfl
  rw[e,Lg];refine wa λi=> ?_;simp only[wf,wk,ka];cases a.testBit i<;>cases b.testBit i<;>rfl
 have:a&&&b<=a|||b:=z9 Nat.and_le_left Nat.left_le_or;omega
theorem E7(a k:Nat):Builtin.bitAnd ((a:Int) / 2^((k:Int)).toNat) 1=if a.testBit k then 1 else 0:=by
 have e:((a:Int) / 2^((k:Int)).toNat)=((a / 2^k:Nat):Int):=by simp
 rw[e,show(1:Int)=((1:Nat):Int)from rfl,gS,Nat.and_one_is_mod,Nat.testBit_eq_decide_div_mod_eq];by_cases q:a / 2^k % 2=1
 ·simp[q]
 ·have:a / 2^k % 2=0:=by omega
  simp[this]
theorem Iz(a:Nat):((a:Int)!=0)=decide (a≠0):=by
 cases a with
 | zero=>rfl
 | succ n=>simp;omega
theorem mU{b:Nat}(h:b<=100):mL 1 (b:Int):=⟨by omega,by omega,by decide⟩
end Z
namespace My
open Z
noncomputable def v_:Z.D:=.dic [(.inr "bars",(.int 1)),(.inr "feed",(.int 1)),(.inr "earth",(.int 1)),(.inr "breaker",(.int 2)),(.inr "splitter",(.int 2))]
noncomputable def w_Xm:List (String×Bool):=[("Held",true),("Loaded",true),("Locked",true),("NoBar",true),("NoLock",true),("NoMeasure",true),("NoPermit",true),("NoRow",true),("NoSwitch",true),("NotDead",true),("NotEarthed",true),("NotLocked",true),("NotOpen",true),("Same",true),("Shorted",true)]
noncomputable def vF:List (Bool×String):=[(true,"NoRow"),(true,"NoMeasure"),(true,"NoBar"),(true,"Same"),(true,"NoSwitch"),(true,"NoPermit"),(true,"Loaded"),(true,"Shorted"),(true,"Locked"),(true,"Held"),(true,"NoLock"),(true,"NotOpen"),(true,"NotLocked"),(true,"NotEarthed"),(true,"NotDead"),(false,"ValueError")]
noncomputable def fJ:List ((String×Bool×String)×Bool):=xT vF [("Held",[false,false,false,false,false,false,false,false,false,true,false,false,false,false,false,true]),("Loaded",[false,false,false,false,false,false,true,false,false,false,false,false,false,false,false,true]),("Locked",[false,false,false,false,false,false,false,false,true,false,false,false,false,false,false,true]),("NoBar",[false,false,true,false,false,false,false,false,false,false,false,false,false,false,false,true]),("NoLock",[false,false,false,false,false,false,false,false,false,false,true,false,false,false,false,true]),("NoMeasure",[false,true,false,false,false,false,false,false,false,false,false,false,false,false,false,true]),("NoPermit",[false,false,false,false,false,true,false,false,false,false,false,false,false,false,false,true]),("NoRow",[true,false,false,false,false,false,false,false,false,false,false,false,false,false,false,true]),("NoSwitch",[false,false,false,false,true,false,false,false,false,false,false,false,false,false,false,true]),("NotDead",[false,false,false,false,false,false,false,false,false,false,false,false,false,false,true,true]),("NotEarthed",[false,false,false,false,false,false,false,false,false,false,false,false,false,true,false,true]),("NotLocked",[false,false,false,false,false,false,false,false,false,false,false,false,true,false,false,true]),("NotOpen",[false,false,false,false,false,false,false,false,false,false,false,true,false,false,false,true]),("Same",[false,false,false,true,false,false,false,false,false,false,false,false,false,false,false,true]),("Shorted",[false,false,false,false,false,false,false,true,false,false,false,false,false,false,false,true])]
noncomputable def mY:List String:=["Feed","Earth"]
noncomputable def oC:List String:=["Breaker","Splitter"]
noncomputable def oA:List String:=["Breaker","Splitter"]
noncomputable def jd:List String:=["Net"]
noncomputable def da:List String:=["Bundle","Board","Desk"]
noncomputable def xt:List String:=["Bundle","Board"]
noncomputable def uR:List String:=["Bundle"]
noncomputable def yI:List String:=["Bundle"]
noncomputable def vY:List String:=["Bundle"]
noncomputable def Bx:List String:=["Bundle"]
noncomputable def zC:List String:=["Bundle"]
noncomputable def nL:List String:=["Board"]
noncomputable def iE:List String:=["Board"]
noncomputable def uQ:List String:=["Board"]
noncomputable def GJ:List String:=["Board"]
noncomputable def eA:List String:=["Desk"]
noncomputable def Lm:Z.MS:=(aA (ae aF (ae au (ae df (aa 3) (ae au (ae df (mC (.int 2)) (aa 1)) (mC (.int 1013)))) (aa 4)) (mC (.int 999999000001))) (aD 3))
noncomputable def qT:Z.MS:=(aq (aA (ae au (mC (.int 1)) (ae bf (bz b9 (ag (aa 0) af)) (mC (.int 8)))) (aD 2))
      (aq (aA (ae au (ae df (mC (.int 31)) (aa 1)) (mC (.int 5))) (aD 3))
      (aq (dO (dH (jR (aa 0) (b_ (ae aF (aa 1) (aa 2))) cz (b_ (aa 2)))) (aD 4)
      Lm)
      (aw (ae aF (ae df (aa 3) (ae au (ae au (ae aF (ae bf (aa 3) (mC (.int 7))) (mC (.int 99991))) (ae df (mC (.int 3)) (aa 1))) (mC (.int 1)))) (mC (.int 999999000001)))))))
noncomputable def du:Z.MF:=aH 2 5 qT
noncomputable def iq:Z.MS:=(aq (aA (ae aF (ae bf (aa 0) (mC (.int 5))) (aa 1)) (aD 2))
      (aq (aX (kA (tB (ae F3 (ae aF (aa 0) (mC (.int 5))) (mC (.int 2)))) (tB (ae bH (aa 1) (mC (.int 1)))))
      (aw (ae au (ae aS (aZ (bO (ag (mC (.str "feed ")) (ag (mC (.str "earth ")) af)))) (ae aF (aa 0) (mC (.int 2)))) (bz aV (ag (aa 2) af))))
      bx)
      (aq (aA (ae aF (ae au (ae au (aa 2) (mC (.int 1))) (ae aF (ae bf (aa 0) (mC (.int 50))) (ae cq (aa 1) (mC (.int 1))))) (aa 1)) (aD 3))
      (aw (ae au (ae au (ae au (ae aS (aZ (bO (ag (mC (.str "breaker ")) (ag (mC (.str "splitter ")) (ag (mC (.str "breaker ")) af))))) (ae cq (ae aF (aa 0) (mC (.int 5))) (mC (.int 2)))) (bz aV (ag (aa 2) af))) (mC (.str " "))) (bz aV (ag (aa 3) af)))))))
noncomputable def eR:Z.MF:=aH 2 4 iq
noncomputable def jS:Z.MS:=(aq (aA (ae au (mC (.int 1)) (ae aF (aY du (ag (aa 0) (ag (mC (.int 0)) af))) (mC (.int 10)))) (aD 1))
      (aq (aA (ae aF (aY du (ag (aa 0) (ag (mC (.int 1)) af))) (mC (.int 13))) (aD 2))
      (aq (aA (aZ (dv 1 [1,0] (jr (ag (aa 2) af)) (aD 0) aU (aY eR (ag (ae au (bz fT (ag (jR (aa 2) (b_ (aa 0)) (b_ (mC (.int 63))) (b_ (mC (.int 12)))) af)) (aY du (ag (aa 2) (ag (ae au (mC (.int 20)) (aa 0)) af)))) (ag (aa 1) af))))) (aD 3))
      (aw (ae au (aZ (bO (ag (ae au (mC (.str "bars ")) (bz aV (ag (aa 1) af))) af))) (aa 3))))))
noncomputable def jL:Z.MF:=aH 1 4 jS
noncomputable def yw:Z.MS:=(aq (IZ (aa 2) (ae au (ae au (ae aF (aa 1) (mC (.int 4))) (mC (.int 1))) (bz fT (ag (cF (aa 2) (b_ (gD fC (mC (.int 1)))) cz) af))))
      (aA (ae bf (aa 1) (mC (.int 4))) (aD 1)))
noncomputable def kM:Z.MS:=(aq (aA (ae bf (aa 0) (mC (.int 12))) (aD 1))
      (aq (aA (uf (bO af)) (aD 2))
      (aq (dO (jr (ag (ae au (mC (.int 3)) (ae aF (ae bf (aa 0) (mC (.int 4))) (mC (.int 3)))) af)) (aD 3)
      yw)
      (DX 2 (aq (aA (ae aF (aa 1) (ae cq (bz b9 (ag (aa 2) af)) (mC (.int 1)))) (aD 4))
      (aq (aX (tB (ae bH (ae aF (aa 0) (mC (.int 2))) (mC (.int 0))))
      (aA (uf (kN (cF (aa 2) cz (b_ (ae au (aa 4) (mC (.int 1))))) (cF (aa 2) (b_ (aa 4)) cz))) (aD 2))
      (aA (uf (kN (ae au (cF (aa 2) cz (b_ (aa 4))) (aZ (bO (ag (ae aS (aa 2) (ae au (aa 4) (mC (.int 1)))) (ag (ae aS (aa 2) (aa 4)) af))))) (cF (aa 2) (b_ (ae au (aa 4) (mC (.int 2)))) cz))) (aD 2)))
      (aw (lq gy (mC (.str " ")) (ag (ae au (aZ (bO (ag (ae aS (aZ (bO (ag (mC (.str "permit")) (ag (mC (.str "locks")) af)))) (ae aF (ae bf (aa 0) (mC (.int 2))) (mC (.int 2)))) af))) (aZ (dv 1 [] (dH (aa 2)) (aD 0) aU (bz aV (ag (ae cq (aa 0) (mC (.int 1))) af))))) af)))))))))
noncomputable def r9:Z.MF:=aH 1 5 kM
noncomputable def j_:Z.MS:=(aq (aA (aZ (bO (ag (mC (.str "")) (ag (mC (.str " ")) (ag (mC (.str "show ")) (ag (mC (.str " show")) (ag (mC (.str "Show")) (ag (mC (.str "show\n")) (ag (mC (.str "live earthed")) (ag (mC (.str "bars")) (ag (mC (.str "bars ")) (ag (mC (.str "bars 1 2")) (ag (mC (.str "bars x")) af))))))))))))) (aD 1))
      (aq (aA (ae au (aa 1) (aZ (bO (ag (mC (.str "bars 01")) (ag (mC (.str "bars 1234567890")) (ag (mC (.str "bars +1")) (ag (mC (.str "bars -1")) (ag (mC (.str "bar 1")) (ag (mC (.str "feed")) (ag (mC (.str "feed ")) (ag (mC (.str "feed 0 0")) (ag (mC (.str "feed 00")) af)))))))))))) (aD 1))
      (aq (aA (ae au (aa 1) (aZ (bO (ag (mC (.str "feed 1_0")) (ag (mC (.str "reach  0")) (ag (mC (.str "back 1 1")) (ag (mC (.str "bars 2\nfeed 0")) (ag (mC (.str "feed 0\nshow")) (ag (mC (.str "turn 0\nturn 1")) af))))))))) (aD 1))
      (aq (aA (ae au (aa 1) (aZ (bO (ag (mC (.str "reach open 99")) af)))) (aD 1))
      (aq (aA (ae au (aa 1) (aZ (bO (ag (mC (.str "feeds 0")) (ag (mC (.str "Feed 0")) (ag (mC (.str "earth")) (ag (mC (.str "earth 0 1")) (ag (mC (.str "earth  0")) (ag (mC (.str "breaker 0")) (ag (mC (.str "breaker 0 1 2")) (ag (mC (.str "breaker 0 x")) af))))))))))) (aD 1))
      (aq (aA (ae au (aa 1) (aZ (bO (ag (mC (.str "splitter")) (ag (mC (.str "splitter 0 ")) (ag (mC (.str "splitter 1234567890 0")) (ag (mC (.str "joint 0 1")) (ag (mC (.str "turn")) (ag (mC (.str "turn 0 0")) (ag (mC (.str "turn x")) af)))))))))) (aD 1))
      (aq (aA (ae au (aa 1) (aZ (bO (ag (mC (.str "turn 00")) (ag (mC (.str "turn -1")) (ag (mC (.str "turn 1234567890")) (ag (mC (.str "lock")) (ag (mC (.str "lock 0 1")) (ag (mC (.str "unlock")) (ag (mC (.str "unlock +0")) (ag (mC (.str "back")) af))))))))))) (aD 1))
      (aq (aA (ae au (aa 1) (aZ (bO (ag (mC (.str "back 01")) (ag (mC (.str "permit")) (ag (mC (.str "permit ")) (ag (mC (.str "permit 1 0")) (ag (mC (.str "permit 0 0")) (ag (mC (.str "permit 0  1")) (ag (mC (.str "permit 0 x")) (ag (mC (.str "locks")) af))))))))))) (aD 1))
      (aq (aA (ae au (aa 1) (aZ (bO (ag (mC (.str "locks 1 0")) (ag (mC (.str "locks 0 0")) (ag (mC (.str "locks 99 98")) (ag (mC (.str "reach live")) (ag (mC (.str "reach 0")) (ag (mC (.str "reach live 0 1")) (ag (mC (.str "reach open 0")) af)))))))))) (aD 1))
      (aq (aA (ae au (aa 1) (aZ (bO (ag (mC (.str "permit 10 9")) (ag (mC (.str "locks 12 3")) (ag (mC (.str "permit 99 98")) (ag (mC (.str "permit 99 x")) (ag (mC (.str "locks 99 x")) (ag (mC (.str "locks 99 01")) af))))))))) (aD 1))
      (aq (aA (ae au (aa 1) (aZ (bO (ag (mC (.str "breaker 99 x")) af)))) (aD 1))
      (aq (aA (ae au (aa 1) (aZ (bO (ag (mC (.str "permit 0 2 1")) (ag (mC (.str "permit 0 1 1 2")) (ag (mC (.str "locks 0 2 2")) (ag (mC (.str "locks 0 1 2 2 3")) (ag (mC (.str "permit 00")) (ag (mC (.str "locks 0 01")) af))))))))) (aD 1))
      (aq (aA (ae au (aa 1) (aZ (bO (ag (mC (.str "permit 1234567890")) (ag (mC (.str "locks 00")) (ag (mC (.str "earthed 0")) (ag (mC (.str "locked 0")) (ag (mC (.str "turn\n0")) (ag (mC (.str "permit 0\n1")) (ag (mC (.str "reach live\n0")) af)))))))))) (aD 1))
      (aq (aA (ae au (aa 1) (aZ (bO (ag (mC (.str "reach Live 0")) (ag (mC (.str "reach live 00")) (ag (mC (.str "shut 0")) (ag (mC (.str "feed 0\nfeed 0")) (ag (mC (.str "bars 2\nbars 2")) (ag (mC (.str "turn  0")) af))))))))) (aD 1))
      (aw (ae aS (aa 1) (ae aF (aa 0) (bz b9 (ag (aa 1) af)))))))))))))))))))
noncomputable def mT:Z.MF:=aH 1 2 j_
noncomputable def kJ:Z.MS:=(aq (aA (bz aV (ag (ae au (aa 1) (ae aF (ae bf (aa 0) (mC (.int 20))) (ae aS (aZ (bO (ag (mC (.int 1)) (ag (mC (.int 3)) (ag (mC (.int 999999900)) af))))) (ae aF (ae bf (aa 0) (mC (.int 7))) (mC (.int 3)))))) af)) (aD 2))
      (aq (aA (aZ (bO (ag (ae au (mC (.str "feed ")) (aa 2)) (ag (ae au (mC (.str "earth ")) (aa 2)) (ag (ae au (ae au (mC (.str "breaker ")) (aa 2)) (mC (.str " 0"))) (ag (ae au (mC (.str "splitter 0 ")) (aa 2)) (ag (ae au (ae au (ae au (mC (.str "breaker ")) (aa 2)) (mC (.str " "))) (aa 2)) af))))))) (aD 3))
      (aw (ae aS (aa 3) (ae aF (aa 0) (mC (.int 5)))))))
noncomputable def ub:Z.MF:=aH 2 4 kJ
noncomputable def ju:Z.MS:=(aq (aA (bz aV (ag (ae au (aa 1) (ae aF (ae bf (aa 0) (mC (.int 20))) (ae aS (aZ (bO (ag (mC (.int 1)) (ag (mC (.int 3)) (ag (mC (.int 999999900)) af))))) (ae aF (ae bf (aa 0) (mC (.int 7))) (mC (.int 3)))))) af)) (aD 2))
      (aq (aA (ae au (ae au (bz aV (ag (ae cq (aa 1) (mC (.int 1))) af)) (mC (.str " "))) (aa 2)) (aD 3))
      (aq (aA (aZ (bO (ag (ae au (mC (.str "permit ")) (aa 2)) (ag (ae au (mC (.str "permit 0 ")) (aa 2)) (ag (ae au (mC (.str "locks ")) (aa 2)) (ag (ae au (mC (.str "locks 0 ")) (aa 2)) (ag (ae au (mC (.str "reach live ")) (aa 2)) af))))))) (aD 4))
      (aw (ae aS (ae au (aa 4) (aZ (bO (ag (ae au (mC (.str "reach dead ")) (aa 2)) (ag (ae au (mC (.str "reach earthed ")) (aa 2)) (ag (ae au (mC (.str "permit ")) (aa 3)) (ag (ae au (mC (.str "locks ")) (aa 3)) af))))))) (ae aF (aa 0) (mC (.int 9))))))))
noncomputable def rZ:Z.MF:=aH 2 5 ju
noncomputable def fX:Z.MS:=(aq (aA (ae aF (aa 0) (mC (.int 6))) (aD 3))
      (aq (aA (ae bf (aa 0) (mC (.int 6))) (aD 4))
      (aq (aX (tB (ae bH (aa 1) (mC (.int 0))))
      (aq (aA (aZ (bO (ag (mC (.str "show")) (ag (mC (.str "live")) (ag (mC (.str "turn 0")) (ag (mC (.str "feed 0")) (ag (mC (.str "permit 0")) (ag (mC (.str "locks 0")) (ag (mC (.str "reach live 0")) (ag (mC (.str "back 1")) (ag (mC (.str "lock 0")) (ag (mC (.str "shut")) af)))))))))))) (aD 5))
      (aq (aA (ae au (aa 5) (aZ (bO (ag (mC (.str "earthed")) (ag (mC (.str "locked")) (ag (mC (.str "unlock 0")) (ag (mC (.str "earth 0")) (ag (mC (.str "breaker 0 1")) (ag (mC (.str "splitter 0 1")) af))))))))) (aD 5))
      (aq (aX (tB (ae bH (ae aF (aa 4) (mC (.int 18))) (mC (.int 17))))
      (aw (aZ (bO (ag (ae au (mC (.str "bars ")) (bz aV (ag (ae aS (aZ (bO (ag (mC (.int 0)) (ag (mC (.int 11)) (ag (mC (.int 999999999)) af))))) (ae aF (ae bf (aa 4) (mC (.int 18))) (mC (.int 3)))) af))) (ag (mC (.int 1)) af)))))
      bx)
      (aw (aZ (bO (ag (ae aS (ae au (aa 5) (aZ (bO (ag (aY mT (ag (ae bf (aa 4) (mC (.int 18))) af)) af)))) (ae aF (aa 4) (mC (.int 18)))) (ag (mC (.int 0)) af))))))))
      bx)
      (aq (aX (cS (tB (ae bH (aa 3) (mC (.int 0)))) (tB (ae bH (ae aF (aa 4) (mC (.int 4))) (mC (.int 3)))))
      (aw (aZ (bO (ag (aY r9 (ag (ae bf (aa 4) (mC (.int 4))) af)) (ag (mC (.int 0)) af)))))
      bx)
      (aq (aX (kA (tB (ae bH (aa 3) (mC (.int 0)))) (cS (tB (ae bH (aa 3) (mC (.int 1)))) (tB (ae bH (aa 2) (mC (.int 12))))))
      (aw (aZ (bO (ag (aY mT (ag (ae bf (aa 4) (mC (.int 4))) af)) (ag (mC (.int 0)) af)))))
      bx)
      (aq (aX (tB (ae bH (aa 3) (mC (.int 1))))
      (aw (aZ (bO (ag (aY ub (ag (aa 4) (ag (aa 1) af))) (ag (mC (.int 2)) af)))))
      bx)
      (aq (aX (cS (tB (ae bH (aa 3) (mC (.int 2)))) (tB (ae bH (aa 2) (mC (.int 12)))))
      (aw (aZ (bO (ag (ae aS (aZ (bO (ag (mC (.str "feed 0")) (ag (mC (.str "feed 99")) (ag (mC (.str "breaker 0 0")) (ag (mC (.str "splitter 12 12")) af)))))) (ae aF (aa 4) (mC (.int 4)))) (ag (mC (.int 0)) af)))))
      bx)
      (aq (aX (tB (ae bH (aa 3) (mC (.int 2))))
      (aw (aZ (bO (ag (ae au (ae aS (aZ (bO (ag (mC (.str "breaker ")) (ag (mC (.str "splitter ")) af)))) (ae aF (aa 4) (mC (.int 2)))) (lq gy (mC (.str " ")) (ag (ae df (aZ (bO (ag (bz aV (ag (ae aF (ae bf (aa 4) (mC (.int 2))) (aa 1)) af)) af))) (mC (.int 2))) af))) (ag (mC (.int 3)) af)))))
      bx)
      (aq (aX (tB (ae bH (aa 3) (mC (.int 3))))
      (aw (aZ (bO (ag (ae au (mC (.str "bars ")) (bz aV (ag (ae aS (aZ (bO (ag (mC (.int 0)) (ag (mC (.int 11)) (ag (ae au (mC (.int 12)) (ae aF (ae bf (aa 4) (mC (.int 4))) (ae fA (mC (.int 10)) (mC (.int 8))))) (ag (mC (.int 999999999)) af)))))) (ae aF (aa 4) (mC (.int 4)))) af))) (ag (mC (.int 1)) af)))))
      bx)
      (aq (aX (tB (ae bH (aa 3) (mC (.int 4))))
      (aw (aZ (bO (ag (aY rZ (ag (aa 4) (ag (aa 1) af))) (ag (mC (.int 2)) af)))))
      bx)
      (aq (aA (ae aS (aZ (bO (ag (mC (.str "turn ")) (ag (mC (.str "lock ")) (ag (mC (.str "unlock ")) (ag (mC (.str "back ")) af)))))) (ae aF (aa 4) (mC (.int 4)))) (aD 6))
      (aq (aX (tB (ae bH (aa 6) (mC (.str "back "))))
      (aw (aZ (bO (ag (ae au (aa 6) (bz aV (ag (ae aF (ae bf (aa 4) (mC (.int 4))) (ae fA (mC (.int 10)) (mC (.int 9)))) af))) (ag (mC (.int 5)) af)))))
      bx)
      (aw (aZ (bO (ag (ae au (aa 6) (bz aV (ag (ae au (aa 2) (ae aF (ae bf (aa 4) (mC (.int 4))) (ae fA (mC (.int 10)) (mC (.int 8))))) af))) (ag (mC (.int 4)) af)))))))))))))))))
noncomputable def gV:Z.MF:=aH 3 7 fX
noncomputable def lB:Z.MS:=(aq (aX (cX (b8 (aa 0)))
      (aw (mC (.str "none")))
      bx)
      (aw (lq gy (mC (.str " ")) (ag (aZ (dv 1 [] (dH (aa 0)) (aD 0) aU (bz aV (ag (aa 0) af)))) af))))
noncomputable def dP:Z.MF:=aH 1 1 lB
noncomputable def pK:Z.MS:=(aq (aX (cX (tB (CU uP uP (mC (.int 1)) (bz b9 (ag (aa 0) af)) (mC (.int 9)))))
      (aw (mC (.bl false)))
      bx)
      (aq (aX (cS (tB (ae bH (ae aS (aa 0) (mC (.int 0))) (mC (.str "0")))) (tB (ae m_ (bz b9 (ag (aa 0) af)) (mC (.int 1)))))
      (aw (mC (.bl false)))
      bx)
      (aw (bz lG (ag (aZ (dv 1 [] (dH (aa 0)) (aD 0) aU (ae (eX false) (aa 0) (mC (.str "0123456789"))))) af)))))
noncomputable def iK:Z.MF:=aH 1 1 pK
noncomputable def lQ:Z.MS:=(aq (aX (cX (b8 (bz lG (ag (aZ (dv 1 [] (dH (aa 0)) (aD 0) aU (aY iK (ag (aa 0) af)))) af))))
      (dt "NoRow" (mC (.str "a word of the row is no number")))
      bx)
      (aw (aZ (dv 1 [] (dH (aa 0)) (aD 0) aU (bz fH (ag (aa 0) af))))))
noncomputable def fZ:Z.MF:=aH 1 1 lQ
noncomputable def iJ:Z.MS:=(aq (aX (tB (ae dg (bz b9 (ag (aa 0) af)) (mC (.int 1))))
      (dt "NoRow" (mC (.str "one number is due")))
      bx)
      (aw (ae aS (aY fZ (ag (aa 0) af)) (mC (.int 0)))))
noncomputable def eS:Z.MF:=aH 1 1 iJ
noncomputable def fW:Z.MS:=(aq (aA (aY fZ (ag (aa 0) af)) (aD 2))
      (aq (aX (kA (cX (b8 (aa 2))) (b8 (bz rE (ag (aZ (dv 2 [] (gY (ag (aa 2) (ag (cF (aa 2) (b_ (mC (.int 1))) cz) af))) (dY [0,1]) aU (ae iA (aa 0) (aa 1)))) af))))
      (dt "NoRow" (mC (.str "bars are due, rising, none twice")))
      bx)
      (aq (aX (tB (ae iA (ae aS (aa 2) (gD fC (mC (.int 1)))) (aa 1)))
      (dt "NoBar" (mC (.str "there is no such bar")))
      bx)
      (aw (bz fT (ag (aZ (dv 1 [] (dH (aa 2)) (aD 0) aU (ae dr (mC (.int 1)) (aa 0)))) af))))))
noncomputable def dI:Z.MF:=aH 2 3 fW
noncomputable def sO:Z.MS:=(aq (aA (aZ (u4 (aa 0) (ag (mC (.str " ")) af))) (aD 1))
      (aq (aA (ae aS (aa 1) (mC (.int 0))) (aD 2))
      (aq (aX (kA (tB (ae (eX true) (aa 2) (mC v_))) (tB (ae dg (bz b9 (ag (aa 1) af)) (ae au (mC (.int 1)) (ae aS (mC v_) (aa 2))))))
      (dt "NoRow" (mC (.str "no such row")))
      bx)
      (aw (bz Er (ag (ae au (aZ (bO (ag (aa 2) af))) (aY fZ (ag (cF (aa 1) (b_ (mC (.int 1))) cz) af))) af))))))
noncomputable def eO:Z.MF:=aH 1 3 sO
noncomputable def fK:Z.MS:=(aq (aA (aY eO (ag (aa 0) af)) (aD 1))
      (aq (aX (tB (ae dg (ae aS (aa 1) (mC (.int 0))) (mC (.str "bars"))))
      (dt "NoRow" (mC (.str "the row of the count is due")))
      bx)
      (aq (aX (cX (tB (CU uP uP (mC (.int 1)) (ae aS (aa 1) (mC (.int 1))) (mC (.int 10)))))
      (dt "NoMeasure" (mC (.str "the count of the bars is out of its bounds")))
      bx)
      (aw (ae aS (aa 1) (mC (.int 1)))))))
noncomputable def gq:Z.MF:=aH 1 2 fK
noncomputable def sN:Z.MF:=λ_ _=>.stuck
noncomputable def dZ:Z.MS:=(aq (aA (aY eO (ag (aa 0) af)) (aD 3))
      (aq (aX (tB (ae bH (ae aS (aa 3) (mC (.int 0))) (mC (.str "bars"))))
      (dt "NoRow" (mC (.str "the row of a switch is due")))
      bx)
      (aq (aX (tB (ae iA (aa 2) (mC (.int 12))))
      (dt "NoRow" (mC (.str "one switch too many")))
      bx)
      (aq (aX (tB (ae iA (bz rQ (ag (cF (aa 3) (b_ (mC (.int 1))) cz) af)) (aa 1)))
      (dt "NoBar" (mC (.str "there is no such bar")))
      bx)
      (aq (aX (cS (tB (ae bH (bz b9 (ag (aa 3) af)) (mC (.int 3)))) (tB (ae bH (ae aS (aa 3) (mC (.int 1))) (ae aS (aa 3) (mC (.int 2))))))
      (dt "Same" (mC (.str "a switch leads from a bar to itself")))
      bx)
      (aw (aa 3)))))))
noncomputable def dM:Z.MF:=aH 3 4 dZ
noncomputable def pS:Z.MS:=(aq (eI oC "one" (aa 0) (aa 1))
      (eI oA "other" (aa 0) (aa 2)))
noncomputable def pR:Z.MF:=aH 3 3 pS
noncomputable def tV:Z.MS:=(eI mY "bar" (aa 0) (aa 1))
noncomputable def pP:Z.MF:=aH 2 2 tV
noncomputable def qG:Z.MS:=(eI mY "bar" (aa 0) (aa 1))
noncomputable def rN:Z.MF:=aH 2 2 qG
noncomputable def pQ:Z.MS:=(aq (eI oC "one" (aa 0) (aa 1))
      (eI oA "other" (aa 0) (aa 2)))
noncomputable def pT:Z.MF:=aH 3 3 pQ
noncomputable def sG:Z.MS:=(aq (aA (ae aS (aa 0) (mC (.int 0))) (aD 1))
      (aq (aX (tB (ae bH (aa 1) (mC (.str "feed"))))
      (aw (jh "Feed" rN (ag (ae aS (aa 0) (mC (.int 1))) af)))
      bx)
      (aq (aX (tB (ae bH (aa 1) (mC (.str "earth"))))
      (aw (jh "Earth" pP (ag (ae aS (aa 0) (mC (.int 1))) af)))
      bx)
      (aq (aX (tB (ae bH (aa 1) (mC (.str "breaker"))))
      (aw (jh "Breaker" pR (ag (ae aS (aa 0) (mC (.int 1))) (ag (ae aS (aa 0) (mC (.int 2))) af))))
      bx)
      (aw (jh "Splitter" pT (ag (ae aS (aa 0) (mC (.int 1))) (ag (ae aS (aa 0) (mC (.int 2))) af))))))))
noncomputable def iP:Z.MF:=aH 1 2 sG
noncomputable def p5:Z.MS:=(eI jd "switches" (aa 0) (aZ (dv 1 [] (dH (ae aS (aa 1) (mC (.int 1)))) (aD 0) aU (aY iP (ag (aa 0) af)))))
noncomputable def iU:Z.MF:=aH 2 2 p5
noncomputable def jN:Z.MS:=(aq (eI da "yard" (aa 0) (dJ (ag (ae aS (aa 1) (mC (.int 0))) (ag (aZ (nE (ag (ae aS (aa 1) (mC (.int 1))) af))) af))))
      (aq (eI xt "net" (aa 0) (jh "Net" iU (ag (aG da "yard" (aa 0)) af)))
      (aq (eI nL "shut" (aa 0) (mC (.int 0)))
      (aq (eI iE "locks" (aa 0) (mC (.int 0)))
      (aq (eI uQ "given" (aa 0) oJ)
      (eI GJ "last_number" (aa 0) (mC (.int 0))))))))
noncomputable def jF:Z.MF:=aH 2 2 jN
noncomputable def kP:Z.MS:=(aq (eI da "yard" (aa 0) (aa 1))
      (aq (eI eA "board" (aa 0) (uB "Board" jF (ag (aa 1) af)))
      (aw (mC (.str "ok")))))
noncomputable def fN:Z.MF:=aH 2 2 kP
noncomputable def sV:List (String×Z.MF):=[("Desk",fN)]
noncomputable def f_:Z.MS:=(aq (aA (ae aS (aG da "yard" (aa 0)) (mC (.int 0))) (aD 2))
      (aq (aA (ae aS (aG da "yard" (aa 0)) (mC (.int 1))) (aD 3))
      (aw (aQ sV "begin" (aa 0) (ag (dJ (ag (aa 2) (ag (ae au (aa 3) (aZ (bO (ag (aY dM (ag (aa 1) (ag (aa 2) (ag (bz b9 (ag (aa 3) af)) af)))) af)))) af))) af)))))
noncomputable def ib:Z.MF:=aH 2 4 f_
noncomputable def Fj:Z.MS:=(aw (ae bH (ae dR (ae xH (aa 0) (aa 1)) (mC (.int 1))) (mC (.int 1))))
noncomputable def gT:Z.MF:=aH 2 2 Fj
noncomputable def pI:Z.MS:=(aq (aA (mC (.int 0)) (aD 1))
      (aq (nY (aG uQ "given" (aa 0)) (aD 2)
      (aA (ae iD (aa 1) (ae aS (aa 2) (mC (.int 1)))) (aD 1)))
      (aw (aa 1))))
noncomputable def kK:Z.MF:=aH 1 3 pI
noncomputable def uO:List (String×Z.MF):=[("Board",kK)]
noncomputable def ua:Z.MS:=(aq (aX (tB (ae (eX true) (aa 1) (aG uQ "given" (aa 0))))
      (dt "NoPermit" (mC (.str "no permit of that number stands")))
      bx)
      (aq (jW (Jh (aG uQ "given" (aa 0)) (aa 1)))
      (aw (aQ uO "held" (aa 0) af))))
noncomputable def jZ:Z.MF:=aH 2 2 ua
noncomputable def j5:Z.MS:=(aX (cX (tB (CU uP F3 (mC (.int 0)) (aa 1) (bz b9 (ag (ae aS (aa 0) (mC (.int 1))) af)))))
      (dt "NoSwitch" (mC (.str "there is no such switch")))
      bx)
noncomputable def eK:Z.MF:=aH 2 2 j5
noncomputable def jU:Z.MS:=(aw (mC (.int 0)))
noncomputable def gA:Z.MF:=aH 1 1 jU
noncomputable def pN:Z.MS:=(aw (ae dr (mC (.int 1)) (aG mY "bar" (aa 0))))
noncomputable def p8:Z.MF:=aH 1 1 pN
noncomputable def j7:Z.MS:=(aw (mC (.bl false)))
noncomputable def gr:Z.MF:=aH 1 1 j7
noncomputable def sy:Z.MS:=(aw (mC (.bl true)))
noncomputable def p7:Z.MF:=aH 1 1 sy
noncomputable def kY:List (String×Z.MF):=[("Switch",gA),("Feed",p8),("Earth",gA),("Breaker",gA),("Splitter",gA)]
noncomputable def kR:List (String×Z.MF):=[("Switch",gr),("Feed",gr),("Earth",gr),("Breaker",gr),("Splitter",p7)]
noncomputable def mQ:Z.MS:=(aw (Js (ae dg (aQ kY "feeds" (aa 0) af) (mC (.int 0))) (aQ kR "gentle" (aa 0) af)))
noncomputable def iI:Z.MF:=aH 1 1 mQ
noncomputable def ip:Z.MS:=(aq (jW (aY eK (ag (aG da "yard" (aa 0)) (ag (aa 1) af))))
      (aq (aX (cX (b8 (aY iI (ag (ae aS (aG jd "switches" (aG xt "net" (aa 0))) (aa 1)) af))))
      (dt "NoLock" (mC (.str "no lock can be put to a switch of this kind")))
      bx)
      (aq (aX (b8 (aY gT (ag (aG nL "shut" (aa 0)) (ag (aa 1) af))))
      (dt "NotOpen" (mC (.str "the switch is shut")))
      bx)
      (aq (aX (b8 (aY gT (ag (aG iE "locks" (aa 0)) (ag (aa 1) af))))
      (dt "Locked" (mC (.str "the switch is locked already")))
      bx)
      (aq (eI iE "locks" (aa 0) (ae iD (aG iE "locks" (aa 0)) (ae dr (mC (.int 1)) (aa 1))))
      (aw (aG iE "locks" (aa 0))))))))
noncomputable def eQ:Z.MF:=aH 2 2 ip
noncomputable def pz:Z.MS:=(aw (ae dR (aa 0) (gD fC (aa 0))))
noncomputable def iw:Z.MF:=aH 1 1 pz
noncomputable def lM:Z.MS:=(aw (mC (.int 0)))
noncomputable def iM:Z.MF:=aH 1 1 lM
noncomputable def rh:Z.MS:=(aw (ae iD (ae dr (mC (.int 1)) (aG oC "one" (aa 0))) (ae dr (mC (.int 1)) (aG oA "other" (aa 0)))))
noncomputable def ud:Z.MF:=aH 1 1 rh
noncomputable def tw:Z.MS:=(aw (ae iD (ae dr (mC (.int 1)) (aG oC "one" (aa 0))) (ae dr (mC (.int 1)) (aG oA "other" (aa 0)))))
noncomputable def rM:Z.MF:=aH 1 1 tw
noncomputable def p9:Z.MS:=(aw (aZ (dv 2 [1] (nj (ag (aG jd "switches" (aa 0)) af)) (dY [0,1]) (b8 (aY gT (ag (aa 2) (ag (aa 0) af)))) (aa 1))))
noncomputable def lH:Z.MF:=aH 2 2 p9
noncomputable def iW:List (String×Z.MF):=[("Switch",iM),("Feed",iM),("Earth",iM),("Breaker",ud),("Splitter",rM)]
noncomputable def mD:List (String×Z.MF):=[("Net",lH)]
noncomputable def pY:Z.MS:=(aq (aA (aZ (dv 1 [] (dH (aQ mD "shut_ones" (aa 0) (ag (aa 1) af))) (aD 0) aU (aQ iW "joins" (aa 0) af))) (aD 3))
      (aq (aA (aa 2) (aD 4))
      (aq (aA (mC .non) (aD 5))
      (aq (fS (tB (ae dg (aa 4) (aa 5)))
      (aq (aA (aa 4) (aD 5))
      (dO (dH (aa 3)) (aD 6)
      (aX (b8 (ae dR (aa 6) (aa 4)))
      (aA (ae iD (aa 4) (aa 6)) (aD 4))
      bx))))
      (aw (aa 4))))))
noncomputable def lD:Z.MF:=aH 3 7 pY
noncomputable def qU:List (String×Z.MF):=[("Net",lD)]
noncomputable def uv:Z.MS:=(aq (aA (mC (.int 0)) (aD 2))
      (aq (dO (dH (aQ mD "shut_ones" (aa 0) (ag (aa 1) af))) (aD 3)
      (aA (ae iD (aa 2) (aQ kY "feeds" (aa 3) af)) (aD 2)))
      (aw (aQ qU "joined_bars" (aa 0) (ag (aa 1) (ag (aa 2) af))))))
noncomputable def mz:Z.MF:=aH 2 4 uv
noncomputable def u_:List (String×Z.MF):=[("Net",mz)]
noncomputable def sH:Z.MS:=(aq (aA (ae aS (aG jd "switches" (aa 0)) (aa 2)) (aD 3))
      (aq (aX (cX (b8 (aQ kR "gentle" (aa 3) af)))
      (aw (mC (.bl false)))
      bx)
      (aq (aA (ae dR (aa 1) (gD gU (ae dr (mC (.int 1)) (aa 2)))) (aD 4))
      (aq (aA (aQ iW "joins" (aa 3) af) (aD 5))
      (aq (aX (cX (b8 (ae dR (aa 5) (aQ u_ "live_bars" (aa 0) (ag (aa 4) af)))))
      (aw (mC (.bl false)))
      bx)
      (aw (ae dg (ae dR (aa 5) (gD gU (aQ qU "joined_bars" (aa 0) (ag (aa 4) (ag (aY iw (ag (aa 5) af)) af))))) (mC (.int 0)))))))))
noncomputable def kI:Z.MF:=aH 3 6 sH
noncomputable def rB:Z.MS:=(aw (ae ye (aa 0) (ae dr (mC (.int 1)) (aa 1))))
noncomputable def kD:Z.MF:=aH 2 2 rB
noncomputable def jY:Z.MS:=(aw (mC (.int 0)))
noncomputable def fY:Z.MF:=aH 1 1 jY
noncomputable def rT:Z.MS:=(aw (ae dr (mC (.int 1)) (aG mY "bar" (aa 0))))
noncomputable def pG:Z.MF:=aH 1 1 rT
noncomputable def n_:List (String×Z.MF):=[("Switch",fY),("Feed",fY),("Earth",pG),("Breaker",fY),("Splitter",fY)]
noncomputable def tm:Z.MS:=(aq (aA (mC (.int 0)) (aD 2))
      (aq (dO (dH (aQ mD "shut_ones" (aa 0) (ag (aa 1) af))) (aD 3)
      (aA (ae iD (aa 2) (aQ n_ "earths" (aa 3) af)) (aD 2)))
      (aw (aa 2))))
noncomputable def lP:Z.MF:=aH 2 4 tm
noncomputable def Aj:List (String×Z.MF):=[("Net",lP)]
noncomputable def ui:Z.MS:=(aw (aQ qU "joined_bars" (aa 0) (ag (aa 1) (ag (aQ Aj "led_bars" (aa 0) (ag (aa 1) af)) af))))
noncomputable def lR:Z.MF:=aH 2 2 ui
noncomputable def C8:List (String×Z.MF):=[("Net",lR)]
noncomputable def qQ:Z.MS:=(aw (ae bH (ae dR (aQ u_ "live_bars" (aa 0) (ag (aa 1) af)) (aQ C8 "earthed_bars" (aa 0) (ag (aa 1) af))) (mC (.int 0))))
noncomputable def mR:Z.MF:=aH 2 2 qQ
noncomputable def G6:List (String×Z.MF):=[("Net",mR)]
noncomputable def sv:Z.MS:=(aw (Hq (aQ G6 "is_safe" (aa 0) (ag (aY kD (ag (aa 1) (ag (aa 2) af))) af))))
noncomputable def lY:Z.MF:=aH 3 3 sv
noncomputable def jH:Z.MS:=(aq (jW (aY eK (ag (aa 0) (ag (aa 2) af))))
      (aq (aA (jh "Net" iU (ag (aa 0) af)) (aD 3))
      (aq (aX (b8 (aY kI (ag (aa 3) (ag (aa 1) (ag (aa 2) af)))))
      (dt "Loaded" (mC (.str "a splitter would part or join a load")))
      bx)
      (aq (aX (b8 (aY lY (ag (aa 3) (ag (aa 1) (ag (aa 2) af)))))
      (dt "Shorted" (mC (.str "a bar would be live and earthed")))
      bx)
      (aw (aY kD (ag (aa 1) (ag (aa 2) af))))))))
noncomputable def iX:Z.MF:=aH 3 4 jH
noncomputable def fU:Z.MS:=(aq (jW (aY eK (ag (aG da "yard" (aa 0)) (ag (aa 1) af))))
      (aq (aX (b8 (aY gT (ag (aG iE "locks" (aa 0)) (ag (aa 1) af))))
      (dt "Locked" (mC (.str "the switch is locked")))
      bx)
      (aq (aX (b8 (aY gT (ag (aQ uO "held" (aa 0) af) (ag (aa 1) af))))
      (dt "Held" (mC (.str "a permit holds the switch")))
      bx)
      (aq (eI nL "shut" (aa 0) (aY iX (ag (aG da "yard" (aa 0)) (ag (aG nL "shut" (aa 0)) (ag (aa 1) af)))))
      (aw (aG nL "shut" (aa 0)))))))
noncomputable def dN:Z.MF:=aH 2 2 fU
noncomputable def tq:Z.MS:=(aq (jW (aY eK (ag (aG da "yard" (aa 0)) (ag (aa 1) af))))
      (aq (aX (cX (b8 (aY gT (ag (aG iE "locks" (aa 0)) (ag (aa 1) af)))))
      (dt "NotLocked" (mC (.str "the switch isn't locked")))
      bx)
      (aq (aX (b8 (aY gT (ag (aQ uO "held" (aa 0) af) (ag (aa 1) af))))
      (dt "Held" (mC (.str "a permit holds the switch")))
      bx)
      (aq (eI iE "locks" (aa 0) (ae dR (aG iE "locks" (aa 0)) (gD gU (ae dr (mC (.int 1)) (aa 1)))))
      (aw (aG iE "locks" (aa 0)))))))
noncomputable def kG:Z.MF:=aH 2 2 tq
noncomputable def wN:List (String×Z.MF):=[("Board",jZ)]
noncomputable def va:List (String×Z.MF):=[("Board",eQ)]
noncomputable def y3:List (String×Z.MF):=[("Board",dN)]
noncomputable def AS:List (String×Z.MF):=[("Board",kG)]
noncomputable def eh:Z.MS:=(aq (aX (tB (ae bH (aa 1) (mC (.str "turn"))))
      (aw (Jm (b8 (aY gT (ag (aQ y3 "turn" (aG eA "board" (aa 0)) (ag (aa 2) af)) (ag (aa 2) af)))) (mC (.str "shut")) (mC (.str "open"))))
      bx)
      (aq (aX (tB (ae bH (aa 1) (mC (.str "lock"))))
      (jW (aQ va "lock" (aG eA "board" (aa 0)) (ag (aa 2) af)))
      bx)
      (aq (aX (tB (ae bH (aa 1) (mC (.str "unlock"))))
      (jW (aQ AS "unlock" (aG eA "board" (aa 0)) (ag (aa 2) af)))
      bx)
      (aq (aX (tB (ae bH (aa 1) (mC (.str "back"))))
      (jW (aQ wN "give_back" (aG eA "board" (aa 0)) (ag (aa 2) af)))
      bx)
      (aw (mC (.str "ok")))))))
noncomputable def eN:Z.MF:=aH 3 3 eh
noncomputable def xc:Z.MF:=λ_ _=>.stuck
noncomputable def B9:Z.MF:=λ_ _=>.stuck
noncomputable def vD:Z.MF:=λ_ _=>.stuck
noncomputable def rO:Z.MS:=(aw (aG iE "locks" (aa 0)))
noncomputable def jJ:Z.MF:=aH 1 1 rO
noncomputable def qF:Z.MS:=(aw (aG nL "shut" (aa 0)))
noncomputable def j4:Z.MF:=aH 1 1 qF
noncomputable def DP:List (String×Z.MF):=[("Board",jJ)]
noncomputable def vb:List (String×Z.MF):=[("Board",j4)]
noncomputable def j9:Z.MS:=(aq (aX (kA (tB (ae dg (bz b9 (ag (aa 1) af)) (mC (.int 2)))) (tB (ae (eX true) (ae aS (aa 1) (mC (.int 0))) (dJ (ag (mC (.str "live")) (ag (mC (.str "dead")) (ag (mC (.str "earthed")) af)))))))
      (dt "NoRow" (mC (.str "a kind and one bar are due")))
      bx)
      (aq (aA (aY B9 (ag (ae aS (aa 1) (mC (.int 0))) (ag (aY dI (ag (cF (aa 1) (b_ (mC (.int 1))) cz) (ag (ae aS (aG da "yard" (aa 0)) (mC (.int 0))) af))) af))) (aD 2))
      (aq (aA (aY vD (ag (aG da "yard" (aa 0)) (ag (aQ vb "standing" (aG eA "board" (aa 0)) af) (ag (ae iD (aQ DP "locked" (aG eA "board" (aa 0)) af) (aQ uO "held" (aG eA "board" (aa 0)) af)) (ag (aa 2) af))))) (aD 3))
      (aq (aX (tB (ae bH (ae aS (aa 3) (mC (.int 0))) (mC (.str "never"))))
      (aw (mC (.str "never")))
      bx)
      (aw (lq gy (mC (.str " ")) (ag (ae au (aZ (bO (ag (mC (.str "plan")) af))) (aZ (dv 1 [] (dH (ae aS (aa 3) (mC (.int 1)))) (aD 0) aU (bz aV (ag (aa 0) af))))) af)))))))
noncomputable def jw:Z.MF:=aH 2 4 j9
noncomputable def r0:Z.MS:=(aw (lq gy (mC (.str " ")) (ag (ae au (aZ (bO (ag (ae aS (aa 0) (mC (.int 0))) af))) (aZ (dv 1 [] (dH (cF (aa 0) (b_ (mC (.int 1))) cz)) (aD 0) aU (bz aV (ag (aa 0) af))))) af)))
noncomputable def jc:Z.MF:=aH 1 1 r0
noncomputable def sM:Z.MS:=(aq (aA (ae aS (aa 0) (mC (.int 0))) (aD 1))
      (aw (lq gy (mC (.str "\n")) (ag (ae au (aZ (bO (ag (CY (sL (mC (.str "bars ")) (sL (mV (aa 1)) lz))) af))) (aZ (dv 1 [] (dH (ae aS (aa 0) (mC (.int 1)))) (aD 0) aU (aY jc (ag (aa 0) af))))) af))))
noncomputable def lE:Z.MF:=aH 1 2 sM
noncomputable def rK:Z.MS:=(aw (aZ (dv 1 [0] (jr (ag (oz (aa 0)) af)) (aD 0) (b8 (aY gT (ag (aa 1) (ag (aa 0) af)))) (aa 0))))
noncomputable def ir:Z.MF:=aH 1 1 rK
noncomputable def zB:Z.MF:=λ_ _=>.stuck
noncomputable def Ap:Z.MF:=λ_ _=>.stuck
noncomputable def dF:Z.MS:=(aq (aX (tB (ae bH (aa 1) (mC (.str "live"))))
      (aw (aY dP (ag (aY ir (ag (aY zB (ag (aG da "yard" (aa 0)) (ag (aQ vb "standing" (aG eA "board" (aa 0)) af) af))) af)) af)))
      bx)
      (aq (aX (tB (ae bH (aa 1) (mC (.str "earthed"))))
      (aw (aY dP (ag (aY ir (ag (aY Ap (ag (aG da "yard" (aa 0)) (ag (aQ vb "standing" (aG eA "board" (aa 0)) af) af))) af)) af)))
      bx)
      (aq (aX (tB (ae bH (aa 1) (mC (.str "locked"))))
      (aw (aY dP (ag (aY ir (ag (aQ DP "locked" (aG eA "board" (aa 0)) af) af)) af)))
      bx)
      (aq (aX (tB (ae bH (aa 1) (mC (.str "shut"))))
      (aw (aY dP (ag (aY ir (ag (aQ vb "standing" (aG eA "board" (aa 0)) af) af)) af)))
      bx)
      (aq (aX (tB (ae bH (aa 1) (mC (.str "show"))))
      (aw (aY lE (ag (aG da "yard" (aa 0)) af)))
      bx)
      (dt "NoRow" (mC (.str "no such row"))))))))
noncomputable def iS:Z.MF:=aH 2 2 dF
noncomputable def yO:List (String×Z.MF):=[("Desk",ib)]
noncomputable def xI:List (String×Z.MF):=[("Desk",eN)]
noncomputable def Cw:List (String×Z.MF):=[("Board",xc)]
noncomputable def C6:List (String×Z.MF):=[("Desk",jw)]
noncomputable def Bp:List (String×Z.MF):=[("Desk",iS)]
noncomputable def cu:Z.MS:=(aq (aA (aZ (u4 (aa 1) (ag (mC (.str " ")) af))) (aD 2))
      (aq (aA (ae aS (aa 2) (mC (.int 0))) (aD 3))
      (aq (aX (tB (ae bH (aa 3) (mC (.str "bars"))))
      (aw (aQ sV "begin" (aa 0) (ag (dJ (ag (aY gq (ag (aa 1) af)) (ag (aZ (bO af)) af))) af)))
      bx)
      (aq (aX (tB (ae uK (aG da "yard" (aa 0)) (mC .non)))
      (dt "NoRow" (mC (.str "there is no yard yet")))
      bx)
      (aq (aX (tB (ae (eX false) (aa 3) (dJ (ag (mC (.str "feed")) (ag (mC (.str "earth")) (ag (mC (.str "breaker")) (ag (mC (.str "splitter")) af)))))))
      (aw (aQ yO "add_switch" (aa 0) (ag (aa 1) af)))
      bx)
      (aq (aX (tB (ae (eX false) (aa 3) (dJ (ag (mC (.str "turn")) (ag (mC (.str "lock")) (ag (mC (.str "unlock")) (ag (mC (.str "back")) af)))))))
      (aw (aQ xI "done" (aa 0) (ag (aa 3) (ag (aY eS (ag (cF (aa 2) (b_ (mC (.int 1))) cz) af)) af))))
      bx)
      (aq (aX (tB (ae bH (aa 3) (mC (.str "permit"))))
      (aq (aA (aQ Cw "permit" (aG eA "board" (aa 0)) (ag (aY dI (ag (cF (aa 2) (b_ (mC (.int 1))) cz) (ag (ae aS (aG da "yard" (aa 0)) (mC (.int 0))) af))) af)) (aD 4))
      (aw (CY (sL (mC (.str "permit ")) (sL (mV (aa 4)) lz)))))
      bx)
      (aq (aX (tB (ae bH (aa 3) (mC (.str "locks"))))
      (aw (aY dP (ag (ae aS (aY sN (ag (aG da "yard" (aa 0)) (ag (aY dI (ag (cF (aa 2) (b_ (mC (.int 1))) cz) (ag (ae aS (aG da "yard" (aa 0)) (mC (.int 0))) af))) af))) (mC (.int 0))) af)))
      bx)
      (aq (aX (tB (ae bH (aa 3) (mC (.str "reach"))))
      (aw (aQ C6 "reach" (aa 0) (ag (cF (aa 2) (b_ (mC (.int 1))) cz) af)))
      bx)
      (aq (aX (tB (ae dg (bz b9 (ag (aa 2) af)) (mC (.int 1))))
      (dt "NoRow" (mC (.str "no such row")))
      bx)
      (aw (aQ Bp "tell" (aa 0) (ag (aa 3) af)))))))))))))
noncomputable def aT:Z.MF:=aH 2 5 cu
noncomputable def gW:List (String×Z.MF):=[("Desk",aT)]
noncomputable def wK:Z.MS:=(aX (tB (ae dg (aQ gW "say" (aa 0) (ag (aa 3) af)) (mC (.str "ok"))))
      (aw (mC (.bl false)))
      bx)
noncomputable def uW:Z.MS:=(aX (cS (tB (ae bH (cF (ae aS (aa 2) (ae au (mC (.int 1)) (aa 4))) cz (b_ (mC (.int 4)))) (mC (.str "feed")))) (tB (ae bH (ae aF (aY du (ag (aa 1) (ag (ae au (mC (.int 40)) (aa 4)) af))) (mC (.int 3))) (mC (.int 0)))))
      (aX (tB (ae dg (aQ gW "say" (aa 0) (ag (ae au (mC (.str "lock ")) (bz aV (ag (aa 4) af))) af)) (mC (.str "ok"))))
      (aw (mC (.bl false)))
      bx)
      (aX (cS (tB (ae bH (cF (ae aS (aa 2) (ae au (mC (.int 1)) (aa 4))) cz (b_ (mC (.int 4)))) (mC (.str "feed")))) (tB (ae dg (aQ gW "say" (aa 0) (ag (ae au (mC (.str "turn ")) (bz aV (ag (aa 4) af))) af)) (mC (.str "shut")))))
      (aw (mC (.bl false)))
      bx))
noncomputable def jE:Z.MS:=(aq (dO (dH (aa 2)) (aD 3)
      wK)
      (aq (dO (jr (ag (ae cq (bz b9 (ag (aa 2) af)) (mC (.int 1))) af)) (aD 4)
      uW)
      (aw (mC (.bl true)))))
noncomputable def j3:Z.MF:=aH 3 5 jE
noncomputable def j6:Z.MS:=(aq (aA (aZ (bO af)) (aD 2))
      (aq (tj (jW (aQ gW "say" (aa 0) (kC (ag (aa 1) af)))) (FF w_Xm 3
      (aq (aA (aZ (bO (ag (bz (cV fJ) (ag (aa 3) (ag (mC (.cls "NoRow")) af))) (ag (bz (cV fJ) (ag (aa 3) (ag (mC (.cls "NoMeasure")) af))) (ag (bz (cV fJ) (ag (aa 3) (ag (mC (.cls "NoBar")) af))) (ag (bz (cV fJ) (ag (aa 3) (ag (mC (.cls "Same")) af))) af)))))) (aD 2))
      (aq (aA (ae au (aa 2) (aZ (bO (ag (bz (cV fJ) (ag (aa 3) (ag (mC (.cls "NoSwitch")) af))) (ag (bz (cV fJ) (ag (aa 3) (ag (mC (.cls "NoPermit")) af))) (ag (bz (cV fJ) (ag (aa 3) (ag (mC (.cls "Loaded")) af))) (ag (bz (cV fJ) (ag (aa 3) (ag (mC (.cls "Shorted")) af))) af))))))) (aD 2))
      (aq (aA (ae au (aa 2) (aZ (bO (ag (bz (cV fJ) (ag (aa 3) (ag (mC (.cls "Locked")) af))) (ag (bz (cV fJ) (ag (aa 3) (ag (mC (.cls "Held")) af))) (ag (bz (cV fJ) (ag (aa 3) (ag (mC (.cls "NoLock")) af))) (ag (bz (cV fJ) (ag (aa 3) (ag (mC (.cls "NotOpen")) af))) af))))))) (aD 2))
      (aq (aA (ae au (aa 2) (aZ (bO (ag (bz (cV fJ) (ag (aa 3) (ag (mC (.cls "NotLocked")) af))) (ag (bz (cV fJ) (ag (aa 3) (ag (mC (.cls "NotEarthed")) af))) (ag (bz (cV fJ) (ag (aa 3) (ag (mC (.cls "NotDead")) af))) af)))))) (aD 2))
      (aA (ae au (aa 2) (aZ (bO (ag (Hq (bz (cV fJ) (ag (aa 3) (ag (mC (.ty "ValueError")) af)))) af)))) (aD 2))))))
      An))
      (aw (aa 2))))
noncomputable def hV:Z.MF:=aH 2 4 j6
noncomputable def kH:Z.MS:=(aq (eI da "yard" (aa 0) (mC .non))
      (eI eA "board" (aa 0) (mC .non)))
noncomputable def h_:Z.MF:=aH 1 1 kH
noncomputable def AB:Z.MS:=(aq (aA (aY gV (ag (aa 5) (ag (aa 3) (ag (ae cq (bz b9 (ag (aa 2) af)) (mC (.int 1))) af)))) (dY [6,7]))
      (aq (aX (tB (ae dg (aY hV (ag (aa 1) (ag (aa 6) af))) (aZ (dv 1 [7] (jr (ag (mC (.int 16)) af)) (aD 0) aU (ae bH (aa 1) (aa 0))))))
      (aw (mC (.bl false)))
      bx)
      (aX (cS (tB (ae m_ (aa 3) (mC (.int 0)))) (tB (ae dg (aZ (dv 1 [1] (dH (aZ (bO (ag (mC (.str "show")) (ag (mC (.str "shut")) (ag (mC (.str "locked")) af)))))) (aD 0) aU (aQ gW "say" (aa 1) (ag (aa 0) af)))) (aa 4))))
      (aw (mC (.bl false)))
      bx)))
noncomputable def xl:Z.MS:=(aq (aA (uB "Desk" h_ af) (aD 1))
      (aq (aA (aY jL (ag (aa 0) af)) (aD 2))
      (aq (aA (bz fH (ag (cF (ae aS (aa 2) (mC (.int 0))) (b_ (mC (.int 5))) cz) af)) (aD 3))
      (aq (aX (tB (ae bH (ae aF (aY du (ag (aa 0) (ag (mC (.int 2)) af))) (mC (.int 8))) (mC (.int 0))))
      (aA (mC (.int 0)) (aD 3))
      (aX (cX (b8 (aY j3 (ag (aa 1) (ag (aa 0) (ag (aa 2) af))))))
      (aw (mC (.bl false)))
      bx))
      (aq (aA (aZ (bO af)) (aD 4))
      (aq (aX (tB (ae m_ (aa 3) (mC (.int 0))))
      (aA (aZ (dv 1 [1] (dH (aZ (bO (ag (mC (.str "show")) (ag (mC (.str "shut")) (ag (mC (.str "locked")) af)))))) (aD 0) aU (aQ gW "say" (aa 1) (ag (aa 0) af)))) (aD 4))
      bx)
      (aq (aX (cS (tB (ae m_ (aa 3) (mC (.int 0)))) (tB (ae dg (ae aS (aa 4) (mC (.int 0))) (lq gy (mC (.str "\n")) (ag (aa 2) af)))))
      (aw (mC (.bl false)))
      bx)
      (aq (dO (dH (cF (aa 0) cz (b_ (mC (.int 63))))) (aD 5)
      AB)
      (aq (aX (kA (tB (ae bH (aa 3) (mC (.int 0)))) (tB (ae bH (bz b9 (ag (aa 2) af)) (mC (.int 13)))))
      (aw (mC (.bl true)))
      bx)
      (aq (aX (tB (ae dg (cF (aY hV (ag (aa 1) (ag (ae au (mC (.str "earth ")) (bz aV (ag (aa 3) af))) af))) cz (b_ (mC (.int 4)))) (aZ (bO (ag (mC (.bl false)) (ag (mC (.bl false)) (ag (mC (.bl true)) (ag (mC (.bl false)) af))))))))
      (aw (mC (.bl false)))
      bx)
      (aw (tQ (ae bH (aQ gW "say" (aa 1) (ag (ae au (mC (.str "earth ")) (bz aV (ag (ae cq (aa 3) (mC (.int 1))) af))) af)) (mC (.str "ok"))) (ae bH (aQ gW "say" (aa 1) (ag (mC (.str "locked")) af)) (mC (.str "none")))))))))))))))
noncomputable def Ht:Z.MF:=aH 1 8 xl
end My
namespace My
open Z PySem
noncomputable def sd(s:Str×List Int):D:=.tup (.str s.1::s.2.map .int)
def SwOk(c:Int)(s:Str×List Int):Prop:=
 (∃b,0<=b/\b<c/\(s=(("feed":Str),[b])\/s=(("earth":Str),[b])))\/∃a b,0<=a/\a<c/\0<=b/\b<c/\a≠b/\(s=(("breaker":Str),[a,b])\/s=(("splitter":Str),[a,b]))
noncomputable def Dt(c:Int)(sws:List (Str×List Int)):D:=.tup [.int c,.lst (sws.map sd)]
noncomputable abbrev W(n:Int):Str:=ar n
theorem zH:∀n:Fin 13,(W n.val).cps.toList.length<=2/\1<=(W n.val).cps.toList.length/\(32∉(W n.val).cps.toList)/\(10∉(W n.val).cps.toList):=by decide+kernel
theorem iT(h0:0<=n)(h1:n<=12):(W n).length<=2/\1<=(W n).length/\(32∉(W n).cps.toList)/\(10∉(W n).cps.toList):=by
 obtain⟨m,rfl⟩:∃m:Nat,n=m:=⟨n.toNat,by omega⟩;have:=zH ⟨m,by omega⟩;simpa [Str.length]using this
noncomputable def bh(s:Str×List Int):Str:=Str.join ⟨#[32]⟩ (s.1::s.2.map W)
theorem SwOk.bars(ok:SwOk c s):(∀b∈s.2,0<=b/\b<c)/\s.2.length<=2/\s.2≠[]/\s.1.length<=8/\(32∉s.1.cps.toList)/\(10∉s.1.cps.toList):=by
 have hs:∀k:Str,(k="feed"\/k="earth"\/k="breaker"\/k="splitter")->k.length<=8/\(32∉k.cps.toList)/\(10∉k.cps.toList):=by
  rintro k (rfl|rfl|rfl|rfl)<;>decide+kernel
 rcases ok with⟨b,h0,h1,rfl|rfl⟩|⟨a,b,h0,h1,h2,h3,_,rfl|rfl⟩
 ·exact⟨by simp;omega,by simp,by simp,hs _ (by simp)⟩
 ·exact⟨by simp;omega,by simp,by simp,hs _ (by simp)⟩
 ·exact⟨by simp;omega,by simp,by simp,hs _ (by simp)⟩
 ·exact⟨by simp;omega,by simp,by simp,hs _ (by simp)⟩
theorem p_{l:List Nat}(h:∀x∈l,x<=m):l.sum<=l.length*m:=by
 induction l with
 | nil=>simp
 | cons a l ih=>
  have h1:=h a (qj ..);have h2:=ih λx hx=>h x (qg _ hx);simp only[wx,z7,Nat.succ_mul];omega
theorem j8:Str.ofString " "=⟨#[32]⟩:=by decide+kernel
theorem E4:Str.ofString "\n"=⟨#[10]⟩:=by decide+kernel
theorem sh(s:Str×List Int)(c:Int)(hc:c<=10)(ok:SwOk c s)(h:MH):jc [sd s] h=.ok (.str (bh s)) h:=by
 obtain⟨hb,hl,hne,hk,_,_⟩:=ok.bars;have comp:compLoop (aD 0) aU (bz aV (ag (aa 0) af)) [none] (s.2.map D.int) h=.ok ((s.2.map W).map D.str) h:=by
  have:=jV (g:=aD 0) (t:=aU) (h:=h) (m:=bz aV (ag (aa 0) af)) (ρ0:=[none]) (λ(b:Int)=>D.int b) (λb=>[some (.int b)]) (λb=>D.str (W b)) s.2 (λb hm=>by
   refine⟨by simp,by simp,?_⟩;have:=hb b hm;have hl:b.natAbs.log2<1920:=zo (w5 _) (by omega);simp[chk,hl])
  rw[this,List.map_map];rfl
 have hlw:((s.1::s.2.map W).map (·.length)).sum<=16:=by
  have:((s.2.map W).map (·.length)).sum<=(s.2.map W).length*2:=by
   have:=p_ (l:=(s.2.map W).map (·.length)) (m:=2) (by
    intro x hx;simp only[qy]at hx;obtain⟨y,⟨b,hb',rfl⟩,rfl⟩:=hx;have:=hb b hb';exact(iT this.1 (by omega)).1)
   simpa using this
  simp only[List.map_cons,wx,qd]at this ⊢;omega
 have hz:s.1.length+((s.2.map W).map (·.length)).sum+(s.2.length+1)<=16777216:=by
  simp only[List.map_cons,wx]at hlw;omega
 have e1:(⟨#[32]⟩:Str).length=1:=rfl;have hl2:s.2.length+1<=16777216:=by omega
 have hl3:1+s.2.length<=16777216:=by omega
 have hl4:s.2.length<16777216:=by omega
 have sp:mH (D.str s.1::(s.2.map W).map D.str)=some (s.1::s.2.map W):=by
  rw[<-List.map_cons,GG]
 simp only[jc,r0,sd];simp[-List.map_map,j8,comp,chk,hl2,hl3,hl4,e1,hz,sE,bh]
noncomputable def cA(c:Int):Str:=bh (("bars":Str),[c])
theorem Qh(c:Int):Str.empty++Str.ofString "bars "++W c=cA c:=by
 have:Str.ofString "bars "=Str.ofString "bars"++⟨#[32]⟩:=by decide+kernel
 rw[this];refine Ag ?_;unfold cA bh;rw[List.map_cons,zk,tH];simp[Str.cps_append,Str.join,Str.empty]
noncomputable def vd(c:Int)(sws:List (Str×List Int)):Str:=Str.join ⟨#[10]⟩ (cA c::sws.map bh)
def KJ(c:Int)(sws:List (Str×List Int)):Prop:=1<=c/\c<=10/\sws.length<=12/\∀s∈sws,SwOk c s
theorem AO(hk:k.length<=8)(k32:32∉k.cps.toList)(k10:10∉k.cps.toList)(hb:∀b∈bs,0<=b/\b<=12)(hl:bs.length<=2):
  (bh (k,bs)).length<=20/\(10∉(bh (k,bs)).cps.toList)/\Txt.split (bh (k,bs)) ⟨#[32]⟩=k::bs.map W:=by
 have hw:∀p∈k::bs.map W,32∉p.cps.toList/\10∉p.cps.toList/\p.length<=8:=by
  intro p hp;rcases qr.mp hp with rfl|hp
  ·exact⟨k32,k10,hk⟩
  ·obtain⟨b,hb',rfl⟩:=qy.mp hp
   have:=iT (hb b hb').1 (hb b hb').2;exact⟨this.2.2.1,this.2.2.2,by omega⟩
 refine⟨?_,?_,GU (λz=>nomatch z) λp hp=>(hw p hp).1⟩
 ·have:=uz (c:=32) (k::bs.map W) (λz=>nomatch z)
  show(Str.join ⟨#[32]⟩ (k::bs.map W)).length<=20;have h2:((k::bs.map W).map (·.length)).sum<=8+2*2:=by
   have:=p_ (l:=(bs.map W).map (·.length)) (m:=2) (by
    intro x hx;simp only[qy]at hx;obtain⟨y,⟨b,hb',rfl⟩,rfl⟩:=hx;exact(iT (hb b hb').1 (hb b hb').2).1)
   simp only[qd]at this;simp only[List.map_cons,wx];omega
  simp only[z7,qd]at this;omega
 ·unfold bh
  have gen:∀ps:List Str,(∀p∈ps,10∉p.cps.toList)->10∉(Str.join ⟨#[32]⟩ ps).cps.toList:=by
   intro ps
   induction ps with
   | nil=>intro _;simp[Str.join,Str.empty]
   | cons p ps ih=>
    intro hp;cases ps with
    | nil=>exact hp p (qj ..)
    | cons q r=>
     rw[tH];intro hm;rcases zb.mp hm with hm|hm
     ·exact hp p (qj ..) hm
     ·rcases qr.mp hm with hm|hm
      ·exact absurd hm (by decide)
      ·exact ih (λa ha=>hp a (qg _ ha)) hm
  exact gen _ λp hp=>(hw p hp).2.1
theorem jG:("bars":Str).length<=8/\32∉("bars":Str).cps.toList/\10∉("bars":Str).cps.toList:=by decide+kernel
theorem N1(ok:KJ c sws)(h:MH):lE [Dt c sws] h=.ok (.str (vd c sws)) h:=by
 obtain⟨c1,c2,cl,cs⟩:=ok;have comp:compLoop (aD 0) aU (aY jc (ag (aa 0) af)) [none] (sws.map sd) h=.ok ((sws.map bh).map D.str) h:=by
  have:=jV (g:=aD 0) (t:=aU) (h:=h) (m:=aY jc (ag (aa 0) af)) (ρ0:=[none]) sd (λs=>[some (sd s)]) (λs=>D.str (bh s)) sws (λs hm=>by
   refine⟨by simp,by simp,?_⟩;simp;exact sh s c c2 (cs s hm) h)
  rw[this,List.map_map];rfl
 have hlog:c.natAbs.log2<1920:=zo (w5 _) (by omega);have hbr:=AO (k:="bars") (bs:=[c]) jG.1 jG.2.1 jG.2.2 (by simp;omega) (by simp);have hsum:(cA c).length+((sws.map bh).map (·.length)).sum+(sws.length+1)<=16777216:=by
  have h1:(cA c).length<=20:=hbr.1;have h2:=p_ (l:=(sws.map bh).map (·.length)) (m:=20) (by
   intro x hx;simp only[qy]at hx;obtain⟨y,⟨s,hs,rfl⟩,rfl⟩:=hx;obtain⟨a1,a2,_,a4,a5,a6⟩:=(cs s hs).bars;exact(AO (k:=s.1) (bs:=s.2) a4 a5 a6 (λb hb=>⟨(a1 b hb).1,by have:=(a1 b hb).2;omega⟩) a2).1)
  simp only[qd]at h2;omega
 have e1:(⟨#[10]⟩:Str).length=1:=rfl;have bt:=Qh c;have l1:(Str.empty++Str.ofString "bars ").length<=16777216:=by decide+kernel
 have l2:(cA c).length<=16777216:=z9 hbr.1 (by decide);simp only[lE,sM,Dt];simp[-List.map_map,E4,comp,chk,hlog,l1,bt,l2,show sws.length<16777216 by omega,show 1+sws.length<=16777216 by omega,e1,hsum,sE,vd]
noncomputable def je(c:Nat):Bool:=decide (48<=c/\c<=57)
noncomputable def di(w:Str):Bool:=decide (1<=w.length)&&decide (w.length<=9)&& !(decide (w.cps.toList[0]?=some 48)&&decide (1<w.length))&&w.cps.toList.all je
theorem G1(c:Nat):(!(Builtin.Str.occurrences ("0123456789":Str) ⟨#[c]⟩ 0 ("0123456789":Str).length 1).isEmpty)=je c:=by
 rw[StrLaws.found_one];have e:("0123456789":Str).cps.toList=[48,49,50,51,52,53,54,55,56,57]:=by decide+kernel
 rw[e];unfold je;by_cases h:48<=c/\c<=57
 ·rw[decide_eq_true h,decide_eq_true]
  simp;omega
 ·rw[decide_eq_false h,decide_eq_false]
  simp;omega
theorem F1(c:Nat):decide ((⟨#[c]⟩:Str)=Str.ofString "0")=decide (c=48):=by
 have e:Str.ofString "0"=⟨#[48]⟩:=by decide+kernel
 rw[e];simp
theorem LP(w:Str)(h:MH)(hw:w.length<16777216):iK [.str w] h=.ok (.bl (di w)) h:=by
 have hl:w.cps.toList.length=w.length:=by simp[Str.length]
 have hle:w.length<=16777216:=by omega
 have hsz:w.cps.size<16777216:=hw;have comp:compLoop (aD 0) aU (ae (eX false) (aa 0) (mC (.str "0123456789"))) [none] (w.cps.toList.map λc=>D.str ⟨#[c]⟩) h=.ok ((w.cps.toList.map je).map D.bl) h:=by
  have:=jV (g:=aD 0) (t:=aU) (h:=h) (m:=ae (eX false) (aa 0) (mC (.str "0123456789"))) (ρ0:=[none]) (λc:Nat=>D.str ⟨#[c]⟩) (λc=>[some (D.str ⟨#[c]⟩)]) (λc=>D.bl (je c)) w.cps.toList (λc hm=>by
   refine⟨by simp,by simp,?_⟩;simp only[ae,aa,mC,eX,gE,zz];have:=G1 c;simp only[zn,if_false];rw[this])
  rw[this,List.map_map];rfl
 have hlt:(w.cps.toList.map λc=>D.str ⟨#[c]⟩).length<16777216:=by rw[qd,hl];exact hw
 have e9:((w.length:Int)<=9)↔w.length<=9:=by omega
 have eall:(w.cps.toList.map je).all id=w.cps.toList.all je:=by simp[List.all_map]
 simp only[iK,pK];unfold di;by_cases h1:1<=w.length
 ·by_cases h2:w.length<=9
  ·obtain⟨c,r,ec⟩:∃c r,w.cps.toList=c::r:=by
    cases e:w.cps.toList with
    | nil=>rw[e]at hl;simp at hl;omega
    | cons c r=>exact⟨c,r,rfl⟩
   have i0:cU w.cps.toList 0=some c:=by rw[ec];simp
   have g0:w.cps.toList[0]?=some c:=by rw[ec];rfl
   have h1':(1:Int)<=(w.length:Int):=by omega
   have h2':(w.length:Int)<=9:=by omega
   by_cases h3:c=48
   ·by_cases h4:1<w.length
    ·have h4':(1:Int)<(w.length:Int):=by omega
     simp[-List.map_map, -Array.toList_map,chk,hle,h1,h2,h1',h2',i0,F1,h3,h4,h4',g0]
    ·have h4':¬(1:Int)<(w.length:Int):=by omega
     simp[-List.map_map, -Array.toList_map,chk,hle,h1,h2,h1',h2',i0,F1,h3,h4,h4',g0,comp,hsz]
   ·simp[-List.map_map, -Array.toList_map,chk,hle,h1,h2,h1',h2',i0,F1,h3,g0,comp,hsz]
  ·have h2':¬(w.length:Int)<=9:=by omega
   have h1':(1:Int)<=(w.length:Int):=by omega
   simp[chk,hle,h1,h2,h1',h2']
 ·have h1':¬(1:Int)<=(w.length:Int):=by omega
  simp[chk,hle,h1,h1']
noncomputable def dC(k:Str):Option Int:=if k="bars"then some 1 else if k="feed"then some 1 else if k="earth"then some 1 else if k="breaker"then some 2 else if k="splitter"then some 2 else none
theorem pM(k:Str):∃kvs,v_=.dic kvs/\dA kvs (.inr k)=(dC k).map D.int:=by
 refine⟨_,rfl,?_⟩;unfold dA dC;simp only[zm,List.find?_nil];by_cases h1:k="bars"
 ·subst h1;simp
 by_cases h2:k="feed"
 ·subst h2;rfl
 by_cases h3:k="earth"
 ·subst h3;rfl
 by_cases h4:k="breaker"
 ·subst h4;rfl
 by_cases h5:k="splitter"
 ·subst h5;rfl
 have e:∀x:Str,k≠x->¬(x=k):=λx hx z=>hx z.symm;simp[e _ h1,e _ h2,e _ h3,e _ h4,e _ h5,h1,h2,h3,h4,h5]
noncomputable def cJ(w:Str):Int:=(intText? w).getD 0
theorem JJ(h:di w=true):intText? w=some (cJ w)/\w.length<=640:=by
 unfold di at h;simp only[qu,decide_eq_true_eq]at h;obtain⟨⟨⟨h1,h2⟩,_⟩,h4⟩:=h;have hd:PySem.NumText.AllDigits w.cps.toList:=by
  intro c hc;have:=List.all_eq_true.mp h4 c hc;unfold je at this;exact of_decide_eq_true this
 have hne:w.cps.toList≠[]:=by
  intro e;have:w.cps.toList.length=w.length:=by simp[Str.length]
  rw[e]at this;simp at this;omega
 have:=intText_digits hd hne (by omega);unfold cJ;rw[this];exact⟨rfl,by omega⟩
noncomputable def jm(ws:List Str):Option (Str×List Int):=match ws with
 | []=>none
 | k::r=>match dC k with
  | none=>none
  | some n=>if(r.length:Int)=n then(if r.all di=true then some (k,r.map cJ)else none)else none
theorem P5{l:List Nat}(h:x∈l):x<=l.sum:=by
 induction l with
 | nil=>cases h
 | cons a l ih=>
  rcases qr.mp h with rfl|h
  ·simp
  ·have:=ih h;simp;omega
theorem Jc(h:p∈Txt.split x ⟨#[c]⟩):p.length<=x.length:=by
 have e:=uz (c:=c) (Txt.split x ⟨#[c]⟩) (zM _ _);rw[StrLaws.join_split]at e;have h1:p.length<=((Txt.split x ⟨#[c]⟩).map (·.length)).sum:=P5 (qy.mpr ⟨p,h,rfl⟩);have h2:(Txt.split x ⟨#[c]⟩).length≠0:=λz=>zM x ⟨#[c]⟩ (kq z);omega
theorem yZ(r:List Str)(h:MH)(hs:∀w∈r,w.length<16777216)(hl:r.length<16777216):fZ [.lst (r.map D.str)] h=if r.all di=true then .ok (.lst ((r.map cJ).map D.int)) h else .exc "NoRow" h:=by
 have comp:compLoop (aD 0) aU (aY iK (ag (aa 0) af)) [none] (r.map D.str) h=.ok ((r.map di).map D.bl) h:=by
  have:=jV (g:=aD 0) (t:=aU) (h:=h) (m:=aY iK (ag (aa 0) af)) (ρ0:=[none]) (λw:Str=>D.str w) (λw=>[some (D.str w)]) (λw=>D.bl (di w)) r (λw hm=>by
   refine⟨by simp,by simp,?_⟩;simp;exact LP w h (hs w hm))
  rw[this,List.map_map];rfl
 have compI:r.all di=true->compLoop (aD 0) aU (bz fH (ag (aa 0) af)) [none] (r.map D.str) h=.ok ((r.map cJ).map D.int) h:=λhall=>by
  have:=jV (g:=aD 0) (t:=aU) (h:=h) (m:=bz fH (ag (aa 0) af)) (ρ0:=[none]) (λw:Str=>D.str w) (λw=>[some (D.str w)]) (λw=>D.int (cJ w)) r (λw hm=>by
   refine⟨by simp,by simp,?_⟩;obtain⟨q1,q2⟩:=JJ (List.all_eq_true.mp hall w hm);simp[chk,q1,q2])
  rw[this,List.map_map];rfl
 have eall:(r.map di).all id=r.all di:=by simp[List.all_map]
 by_cases hall:r.all di=true
 ·simp[-List.map_map, -List.all_eq_true,fZ,lQ,chk,hall,comp,compI hall,hl,eall]
 ·simp[-List.map_map, -List.all_eq_true,fZ,lQ,chk,hall,comp,hl,eall]
theorem yQ(row:Str)(h:MH)(hr:row.length+1<16777216):eO [.str row] h=match jm (Txt.split row ⟨#[32]⟩)with
  | some s=>.ok (sd s) h
  | none=>.exc "NoRow" h:=by
 have hsl:=MP row 32;have hsh:=λp (hp:p∈Txt.split row ⟨#[32]⟩)=>Jc hp;have hne:=zM row ⟨#[32]⟩;generalize ew:Txt.split row ⟨#[32]⟩=ws at*;have l32:¬((⟨#[32]⟩:Str).length=0):=by decide
 have hr0:row.length<=16777216:=by omega
 have hw0:ws.length<=16777216:=by omega
 have es:u4 (aa 0) (ag (mC (.str " ")) af) [some (.str row),none,none] h=.ok (ws.map D.str) h:=by
  simp[j8,chk,l32,hr0,ew,hw0]
 cases ws with
 | nil=>exact absurd rfl hne
 | cons k r=>
  obtain⟨kvs,ek,ev⟩:=pM k;have hrl:r.length<16777216:=by simp at hw0;omega
  have nt:=yZ r h (λw hm=>by have:=hsh w (qg _ hm);omega) hrl;have es':u4 (aa 0) (ag (mC (.str " ")) af) [some (.str row),none,none] h=.ok (D.str k::r.map D.str) h:=es;unfold jm;simp only[eO,sO,aH,z7,ke,if_pos,List.map_cons,zk,aq,aA,aZ];simp only[List.replicate,gj,List.nil_append,Nat.reduceAdd,Nat.reduceSub,es',gE,mX,aD,List.set_cons_succ,List.set_cons_zero];cases ec:dC k with
  | none=>
   rw[ec]at ev;simp[ek,ev,chk]
  | some n=>
   rw[ec]at ev;have hcm:n+1=1+n:=Int.add_comm ..;by_cases hl:(r.length:Int)=n
   ·by_cases hall:r.all di=true
    ·rw[if_pos hall]at nt
     simp[-List.map_map, -List.all_eq_true,ek,ev,chk,hl,hcm,hall,nt,hrl,show 1+r.length<=16777216 by omega,sd]
    ·rw[if_neg hall]at nt
     simp[-List.map_map, -List.all_eq_true,ek,ev,chk,hl,hcm,hall,nt,hrl]
   ·have hl':¬((r.length:Int)+1=1+n):=by omega
    simp[-List.map_map,ek,ev,chk,hl,hl']
theorem wG:∀n:Fin 13,di (W n.val)=true:=by decide+kernel
theorem G0(h0:0<=n)(h1:n<=12):di (W n)=true/\cJ (W n)=n:=by
 constructor
 ·obtain⟨m,rfl⟩:∃m:Nat,n=m:=⟨n.toNat,by omega⟩
  exact wG ⟨m,by omega⟩
 ·unfold cJ
  have:=PySem.W.KIN.num_reads (n:=n) h0 (by omega);show(intText? (Str.ofString (toString n))).getD 0=n;rw[this];rfl
theorem Ma(hk:dC k=some m)(hm:(bs.length:Int)=m)(hb:∀b∈bs,0<=b/\b<=12):jm (k::bs.map W)=some (k,bs):=by
 unfold jm;simp only[hk];rw[if_pos (by rw[qd];exact hm),if_pos]
 ·have:(bs.map W).map cJ=bs:=by
   rw[List.map_map]
   conv=>rhs;rw[<-List.map_id bs]
   exact wv λb hb'=>(G0 (hb b hb').1 (hb b hb').2).2
  rw[this]
 ·rw[List.all_eq_true]
  intro w hw;obtain⟨b,hb',rfl⟩:=qy.mp hw;exact(G0 (hb b hb').1 (hb b hb').2).1
theorem IF(h:MH)(hk:dC k=some m)(hm:(bs.length:Int)=m)(hb:∀b∈bs,0<=b/\b<=12)(kl:k.length<=8)(k32:32∉k.cps.toList)(k10:10∉k.cps.toList)(hl:bs.length<=2):
  eO [.str (bh (k,bs))] h=.ok (sd (k,bs)) h:=by
 obtain⟨f1,_,f3⟩:=AO kl k32 k10 hb hl;rw[yQ _ h (by omega),f3,Ma hk hm hb]
theorem E9:(Str.ofString "feed"≠Str.ofString "bars")/\(Str.ofString "earth"≠Str.ofString "bars")/\(Str.ofString "breaker"≠Str.ofString "bars")/\(Str.ofString "splitter"≠Str.ofString "bars"):=by decide+kernel
theorem Lq(c:Int)(h:MH)(h1:1<=c)(h2:c<=10):gq [.str (cA c)] h=.ok (.int c) h:=by
 have hp:=IF (k:="bars") (bs:=[c]) h (m:=1) rfl rfl (by simp;omega) jG.1 jG.2.1 jG.2.2 (by simp);have hp':eO [.str (cA c)] h=.ok (.tup [.str "bars",.int c]) h:=hp;simp[gq,fK,hp',h1,h2,chk]
theorem SwOk.cnt(ok:SwOk c s):∃m,dC s.1=some m/\(s.2.length:Int)=m:=by
 rcases ok with⟨b,_,_,rfl|rfl⟩|⟨a,b,_,_,_,_,_,rfl|rfl⟩
 ·exact⟨1,rfl,rfl⟩
 ·exact⟨1,rfl,rfl⟩
 ·exact⟨2,rfl,rfl⟩
 ·exact⟨2,rfl,rfl⟩
theorem Mv(s:Str×List Int)(c:Int)(n:Nat)(h:MH)(h1:1<=c)(h2:c<=10)(ok:SwOk c s)(hn:n<12):dM [.str (bh s),.int c,.int n] h=.ok (sd s) h:=by
 obtain⟨a1,a2,a3,a4,a5,a6⟩:=ok.bars;obtain⟨m,m1,m2⟩:=ok.cnt;have hp:=IF (k:=s.1) (bs:=s.2) h m1 m2 (λb hb=>⟨(a1 b hb).1,by have:=(a1 b hb).2;omega⟩) a4 a5 a6 a2;have hp':eO [.str (bh s)] h=.ok (sd s) h:=hp;have hn':¬((12:Int)<=(n:Int)):=by omega
 obtain⟨e1,e2,e3,e4⟩:=E9;rcases ok with⟨b,b0,b1,rfl|rfl⟩|⟨a,b,b0,b1,b2,b3,ne,rfl|rfl⟩
 ·simp[dM,dZ,hp',sd,chk,e1,hn',cP,show ¬c<=b by omega]
 ·simp[dM,dZ,hp',sd,chk,e2,hn',cP,show ¬c<=b by omega]
 ·have:¬c<=(if b>a then b else a):=by split<;>omega
  simp[dM,dZ,hp',sd,chk,e3,hn',cP,this,ne]
 ·have:¬c<=(if b>a then b else a):=by split<;>omega
  simp[dM,dZ,hp',sd,chk,e4,hn',cP,this,ne]
inductive Sw where
 | feed (b:Nat)|earth (b:Nat)|breaker (a b:Nat)|splitter (a b:Nat)
noncomputable def Sw.d:Sw->D
 | .feed b=>.tup [.str "feed",.int b]
 | .earth b=>.tup [.str "earth",.int b]
 | .breaker a b=>.tup [.str "breaker",.int a,.int b]
 | .splitter a b=>.tup [.str "splitter",.int a,.int b]
noncomputable def Sw.o:Sw->D
 | .feed b=>.obj "Feed" [("bar",.int b)]
 | .earth b=>.obj "Earth" [("bar",.int b)]
 | .breaker a b=>.obj "Breaker" [("one",.int a),("other",.int b)]
 | .splitter a b=>.obj "Splitter" [("one",.int a),("other",.int b)]
noncomputable def Sw.pair:Sw->Nat
 | .breaker a b=>2^a|||2^b
 | .splitter a b=>2^a|||2^b
 | _=>0
noncomputable def Sw.fed:Sw->Nat
 | .feed b=>2^b
 | _=>0
noncomputable def Sw.led:Sw->Nat
 | .earth b=>2^b
 | _=>0
def Sw.ok(n:Nat):Sw->Prop
 | .feed b=>b<n
 | .earth b=>b<n
 | .breaker a b=>a<n/\b<n/\a≠b
 | .splitter a b=>a<n/\b<n/\a≠b
theorem Gx:¬(Str.ofString "earth"=Str.ofString "feed"):=by decide+kernel
theorem EU:¬(Str.ofString "breaker"=Str.ofString "feed"):=by decide+kernel
theorem EH:¬(Str.ofString "breaker"=Str.ofString "earth"):=by decide+kernel
theorem Hu:¬(Str.ofString "splitter"=Str.ofString "feed"):=by decide+kernel
theorem FQ:¬(Str.ofString "splitter"=Str.ofString "earth"):=by decide+kernel
theorem GY:¬(Str.ofString "splitter"=Str.ofString "breaker"):=by decide+kernel
theorem EF:¬(Str.ofString "one"=Str.ofString "other"):=by decide+kernel
theorem nS:(Str.ofString "other"==Str.ofString "one")=false:=by decide+kernel
theorem O5(s:Sw)(h:MH)(hb:h.all (Cell.bnd h.length)=true):iP [s.d] h=.ok s.o h:=by
 have hb':∀x∈h,Cell.bnd h.length x=true:=by simpa using hb
 cases s<;>simp[iP,sG,Sw.d,Sw.o,rN,qG,pP,tV,pR,pS,pT,pQ,Gx,EU,EH,Hu,FQ,GY,EF,mY,oC,oA,bD,D.bnd,D.bndf]<;>rw[if_neg (by omega),if_pos hb']
theorem F5{α:Type}(e:α->D)(r:α->Ro)(tt:α->Bool)(f:α->D):∀(as:List α),(∀a∈as,g (e a) ρ0 h=.nx (r a) h/\t (r a) h=.ok (tt a) h/\m (r a) h=.ok (f a) h)->compLoop g t m ρ0 (as.map e) h=.ok ((as.filter tt).map f) h
 | [],_=>rfl
 | a::as,q=>by
  obtain⟨h1,h2,h3⟩:=q a (qj ..);have ih:=F5 e r tt f as λb hb=>q b (qg _ hb);rw[List.map_cons];unfold compLoop;rw[h1];cases y:tt a with
  | true=>simp only[h2,y,h3,ih,wd,if_true,List.map_cons]
  | false=>simp only[h2,y,ih,wd,if_false,zn]
noncomputable def yd(n:Nat)(sws:List Sw):D:=.tup [.int n,.lst (sws.map Sw.d)]
noncomputable def bw(sws:List Sw):D:=.obj "Net" [("switches",.lst (sws.map Sw.o))]
def Hb(h:MH):Prop:=∀n,h.length<=n->h.all (Cell.bnd n)=true
theorem Hb.nil:Hb []:=λ_ _=>rfl
theorem Hb.snoc(a:Hb h)(b:∀n,h.length<n->Cell.bnd n c=true):Hb (h++[c]):=λn hn=>by
 simp only[zd,z7,ke,gn,wb,List.all_nil,km,qu]at hn ⊢;exact⟨a n (by omega),b n (by omega)⟩
theorem M_(n:Nat)(sws:List Sw)(h:MH)(hl:sws.length<=12)(hb:Hb h):iU [.ref h.length,yd n sws] (h++[some (.ins "Net" [])])=.ok .non (h++[some (.ins "Net" [("switches",.lst (sws.map Sw.o))])]):=by
 have hb2:Hb (h++[some (.ins "Net" [])]):=hb.snoc λn _=>by simp[Cell.bnd,D.bnds]
 have comp:compLoop (aD 0) aU (aY iP (ag (aa 0) af)) [none] (sws.map Sw.d) (h++[some (.ins "Net" [])])=.ok (sws.map Sw.o) (h++[some (.ins "Net" [])]):=
  jV (g:=aD 0) (t:=aU) (m:=aY iP (ag (aa 0) af)) (ρ0:=[none]) Sw.d (λs=>[some s.d]) Sw.o sws (λs _=>by
   refine⟨by simp,by simp,?_⟩;have:=O5 s _ (hb2 _ (qi _));simp[this])
 simp[-List.map_map,iU,p5,yd,comp,jd,bD,show sws.length<16777216 by omega]
theorem KP(n:Nat)(sws:List Sw)(hl:sws.length<=12)(hb:Hb h)(e:m ρ h=.ok (yd n sws) h):jh "Net" iU (ag m af) ρ h=.ok (bw sws) (h++[none]):=by
 have:=M_ n sws h hl hb;simp[e,this,bw]
noncomputable def fO(st:Nat)(sws:List Sw):List (Sw×Nat):=sws.zipIdx.filter λp=>st.testBit p.2
theorem PU(sws:List Sw)(f:Sw->D):jX (sws.map f)=sws.zipIdx.map λp=>.tup [.int (p.2:Int),f p.1]:=by
 unfold jX;rw[List.mapIdx_eq_zipIdx_map,List.zipIdx_map,List.map_map];rfl
theorem sr(st k:Nat)(h:MH):gT [.int st,.int k] h=.ok (.bl (st.testBit k)) h:=by
 have:=E7 st k;cases q:st.testBit k<;>simp[q]at this<;>simp[gT,Fj,this]
theorem HM(sws:List Sw)(st:Nat)(h:MH)(hl:sws.length<=12):lH [bw sws,.int st] h=.ok (.lst ((fO st sws).map λp=>p.1.o)) h:=by
 have comp:compLoop (dY [0,1]) (b8 (aY gT (ag (aa 2) (ag (aa 0) af)))) (aa 1) [none,none,some (.int st)] (jX (sws.map Sw.o)) h=.ok ((fO st sws).map λp=>p.1.o) h:=by
  rw[PU];refine F5 (λp:Sw×Nat=>.tup [.int (p.2:Int),p.1.o]) (λp=>[some (.int p.2),some p.1.o,some (.int st)]) (λp=>st.testBit p.2) (λp=>p.1.o) sws.zipIdx λp _=> ?_;have:=sr st p.2 h;refine⟨by simp,?_,by simp⟩;simp[this]
 have h2:(jX (sws.map Sw.o)).length=sws.length:=by simp[jX]
 simp[-List.map_map,lH,p9,bw,comp,jd,h2,show sws.length<16777216 by omega]
theorem As:(Str.ofString "joins"==Str.ofString "bar")=false:=by decide+kernel
theorem BB:(Str.ofString "joins"==Str.ofString "one")=false:=by decide+kernel
theorem vO:(Str.ofString "joins"==Str.ofString "other")=false:=by decide+kernel
theorem m7(s:Sw)(hn:n<=10)(ok:s.ok n)(h:MH):aQ iW "joins" (aa 0) af [some s.o] h=.ok (.int s.pair) h:=by
 cases s with
 | feed b=>simp[Sw.o,iW,As,iM,lM,Sw.pair,List.lookup]
 | earth b=>simp[Sw.o,iW,As,iM,lM,Sw.pair,List.lookup]
 | breaker a b=>
  obtain⟨h1,h2,_⟩:=ok;have:=qS (2^a) (2^b);simp[Sw.o,iW,BB,vO,nS,ud,rh,Sw.pair,List.lookup,oC,oA,mU (show a<=100 by omega),mU (show b<=100 by omega)]at this ⊢;exact this
 | splitter a b=>
  obtain⟨h1,h2,_⟩:=ok;have:=qS (2^a) (2^b);simp[Sw.o,iW,BB,vO,nS,rM,tw,Sw.pair,List.lookup,oC,oA,mU (show a<=100 by omega),mU (show b<=100 by omega)]at this ⊢;exact this
noncomputable def i_(st:Nat)(sws:List Sw):List Nat:=(fO st sws).map λp=>p.1.pair
noncomputable def cB:MT:=(tB (ae dg (aa 4) (aa 5)))
noncomputable def fB:MS:=(aX (b8 (ae dR (aa 6) (aa 4))) (aA (ae iD (aa 4) (aa 6)) (aD 4)) bx)
theorem Jn(a b c d e:Option D)(h:MH):∀(ps:List Nat) (r:Nat) (x:Option D),∃x',dS (aD 6) fB (ps.map λp:Nat=>D.int p) [a,b,c,d,some (.int r),e,x] h=.nx [a,b,c,d,some (.int (Clo.cW ps r:Nat)),e,x'] h
 | [],r,x=>⟨x,rfl⟩
 | p::ps,r,x=>by
  obtain⟨x',ih⟩:=Jn a b c d e h ps (if p&&&r≠0 then r|||p else r) (some (.int p));refine⟨x',?_⟩;rw[List.map_cons];unfold dS;have e1:=gS p r;have e2:=qS r p;have e3:=Iz (p&&&r);by_cases q:p&&&r≠0
  ·rw[if_pos q]at ih
   have:Clo.cW (p::ps) r=Clo.cW ps (r|||p):=by show Clo.cW ps (if p&&&r≠0 then r|||p else r)=_;rw[if_pos q]
   rw[this];have fb:fB [a,b,c,d,some (.int r),e,some (.int p)] h=.nx [a,b,c,d,some (.int (r|||p:Nat)),e,some (.int p)] h:=by
    simp[fB,e1,e2,e3,q]
   simp[fb];exact ih
  ·rw[if_neg q]at ih
   have:Clo.cW (p::ps) r=Clo.cW ps r:=by show Clo.cW ps (if p&&&r≠0 then r|||p else r)=_;rw[if_neg q]
   rw[this];have q':p&&&r=0:=by simpa using q
   have fb:fB [a,b,c,d,some (.int r),e,some (.int p)] h=.nx [a,b,c,d,some (.int r),e,some (.int p)] h:=by
    simp[fB,e1,e3,q']
   simp[fb];exact ih
noncomputable def wB:MS:=(aq (aA (aa 4) (aD 5)) (dO (dH (aa 3)) (aD 6) fB))
theorem om(a b c:Option D)(ps:List Nat)(h:MH)(r:Nat)(y x:Option D):∃x',wB [a,b,c,some (.lst (ps.map λp:Nat=>D.int p)),some (.int r),y,x] h=.nx [a,b,c,some (.lst (ps.map λp:Nat=>D.int p)),some (.int (Clo.cW ps r:Nat)),some (.int r),x'] h:=by
 obtain⟨x',e⟩:=Jn a b c (some (.lst (ps.map λp:Nat=>D.int p))) (some (.int r)) h ps r x;exact⟨x',by simp[wB,e]⟩
theorem PK(a b c:Option D)(ps:List Nat)(s:Nat)(h:MH)(y:Option D)(hy:y=some .non)(x:Option D):∃x',fS cB wB [a,b,c,some (.lst (ps.map λp:Nat=>D.int p)),some (.int s),y,x] h=.nx [a,b,c,some (.lst (ps.map λp:Nat=>D.int p)),some (.int (Clo.fL ps s:Nat)),some (.int (Clo.fL ps s:Nat)),x'] h:=by
 have W:∀x,∃x',fS cB wB [a,b,c,some (.lst (ps.map λp:Nat=>D.int p)),some (.int (Clo.cW ps s:Nat)),some (.int s),x] h=.nx [a,b,c,some (.lst (ps.map λp:Nat=>D.int p)),some (.int (Clo.fL ps s:Nat)),some (.int (Clo.fL ps s:Nat)),x'] h:=by
  refine Clo.rF (P:=λr=>∀x,∃x',fS cB wB [a,b,c,some (.lst (ps.map λp:Nat=>D.int p)),some (.int (Clo.cW ps r:Nat)),some (.int r),x] h=.nx [a,b,c,some (.lst (ps.map λp:Nat=>D.int p)),some (.int (Clo.fL ps s:Nat)),some (.int (Clo.fL ps s:Nat)),x'] h) (Clo.zT ps) ?_ ?_ _ s (Clo.Mid.start ps s) (zp _)
  ·intro r m e x
   have er:=(m.fin (Clo.zT ps) e).eq;refine⟨x,?_⟩;rw[e,<-er];exact NM (by simp[cB])
  ·intro r m ne ih x
   obtain⟨x1,e1⟩:=om a b c ps h (Clo.cW ps r) (some (.int r)) x;obtain⟨x2,e2⟩:=ih x1;exact⟨x2,by rw[KZ (h1:=h) (by simp[cB];omega) e1,e2]⟩
 obtain⟨x1,e1⟩:=om a b c ps h s y x;obtain⟨x2,e2⟩:=W x1;exact⟨x2,by rw[KZ (h1:=h) (by subst hy;simp[cB,D.dat,D.py,D.deep,D.eq]) e1,e2]⟩
def c_(n:Nat)(sws:List Sw):Prop:=1<=n/\n<=10/\sws.length<=12/\∀s∈sws,s.ok n
theorem FH(h:p∈fO st sws):p.1∈sws:=by
 unfold fO at h;have:=(wy.mp h).1;exact(List.mem_zipIdx this).2.2▸we _
theorem GQ:(Str.ofString "joined_bars"==Str.ofString "switches")=false:=by decide+kernel
theorem x_:(Str.ofString "shut_ones"==Str.ofString "switches")=false:=by decide+kernel
theorem ND(st:Nat)(sws:List Sw):(fO st sws).length<=sws.length:=by
 unfold fO;exact z9 (List.length_filter_le _ _) (by simp)
theorem Mb(ok:c_ n sws)(st s:Nat)(h:MH):lD [bw sws,.int st,.int s] h=.ok (.int (Clo.fL (i_ st sws) s:Nat)) h:=by
 obtain⟨h1,h2,h3,h4⟩:=ok;have e1:=HM sws st h h3;have comp:compLoop (aD 0) aU (aQ iW "joins" (aa 0) af) [none] ((fO st sws).map λp=>p.1.o) h=.ok ((i_ st sws).map λp:Nat=>D.int p) h:=by
  unfold i_;rw[List.map_map];exact jV (g:=aD 0) (t:=aU) (m:=aQ iW "joins" (aa 0) af) (ρ0:=[none]) (λp:Sw×Nat=>p.1.o) (λp=>[some p.1.o]) (λp=>.int (p.1.pair:Nat)) (fO st sws) λp hp=>⟨by simp,by simp,m7 p.1 h2 (h4 _ (FH hp)) h⟩
 obtain⟨x',ew⟩:=PK (some (bw sws)) (some (.int st)) (some (.int s)) (i_ st sws) s h (some .non) rfl none;have hl:=ND st sws;have a1:aQ mD "shut_ones" (aa 0) (ag (aa 1) af) [some (bw sws),some (.int st),some (.int s),none,none,none,none] h=.ok (.lst ((fO st sws).map λp=>p.1.o)) h:=by
  simp only[bw]at e1;simp[-List.map_map,bw,mD,List.lookup,x_,e1]
 have eb:pY=aq (aA (aZ (dv 1 [] (dH (aQ mD "shut_ones" (aa 0) (ag (aa 1) af))) (aD 0) aU (aQ iW "joins" (aa 0) af))) (aD 3)) (aq (aA (aa 2) (aD 4)) (aq (aA (mC .non) (aD 5)) (aq (fS cB wB) (aw (aa 4))))):=rfl;simp[-List.map_map, -aQ,lD,eb,a1,comp,ew,show(fO st sws).length<16777216 by omega]
theorem Cc:(Str.ofString "feeds"==Str.ofString "bar")=false:=by decide+kernel
theorem A2:(Str.ofString "feeds"==Str.ofString "one")=false:=by decide+kernel
theorem BR:(Str.ofString "feeds"==Str.ofString "other")=false:=by decide+kernel
theorem oh(s:Sw)(hn:n<=10)(ok:s.ok n)(e:m ρ h=.ok s.o h):aQ kY "feeds" m af ρ h=.ok (.int s.fed) h:=by
 cases s with
 | feed b=>
  have:b<n:=ok;simp[e,Sw.o,kY,Cc,p8,pN,Sw.fed,List.lookup,mY,mU (show b<=100 by omega)]
 | earth b=>simp[e,Sw.o,kY,Cc,gA,jU,Sw.fed,List.lookup]
 | breaker a b=>simp[e,Sw.o,kY,A2,BR,gA,jU,Sw.fed,List.lookup]
 | splitter a b=>simp[e,Sw.o,kY,A2,BR,gA,jU,Sw.fed,List.lookup]
noncomputable def Ds(st:Nat)(sws:List Sw):Nat:=Clo.all ((fO st sws).map λp=>p.1.fed) 0
noncomputable def ji(st:Nat)(sws:List Sw):Nat:=Clo.fL (i_ st sws) (Ds st sws)
theorem Fp(val:Sw->Nat)(a b:Option D)(h:MH)(hJ:∀s:Sw,s.ok n->∀f:Nat,J [a,b,some (.int f),some s.o] h=.ok (.int (val s)) h):∀(ps:List (Sw×Nat)) (f:Nat) (x:Option D),(∀p∈ps,p.1.ok n)->
  ∃x',dS (aD 3) (aA (ae iD (aa 2) J) (aD 2)) (ps.map λp=>p.1.o) [a,b,some (.int f),x] h=.nx [a,b,some (.int (Clo.all (ps.map λp=>val p.1) f:Nat)),x'] h
 | [],f,x,_=>⟨x,rfl⟩
 | p::ps,f,x,hp=>by
  obtain⟨x',ih⟩:=Fp val a b h hJ ps (f|||val p.1) (some p.1.o) λq m=>hp q (qg _ m);refine⟨x',?_⟩;have e1:=hJ p.1 (hp p (qj ..)) f;have e2:=qS f (val p.1);rw[List.map_cons,List.map_cons];unfold dS;simp[-List.map_map,e1,e2];exact ih
theorem HN(sws:List Sw)(st:Nat)(h:MH)(hl:sws.length<=12)(e1:m ρ h=.ok (bw sws) h)(e2:l ρ h=.ok (.int st) h):aQ mD "shut_ones" m (ag l af) ρ h=.ok (.lst ((fO st sws).map λp=>p.1.o)) h:=by
 have:=HM sws st h hl;unfold bw at e1 this;simp[-List.map_map,e1,e2,mD,List.lookup,x_,this]
theorem E5(ok:c_ n sws)(st s:Nat)(h:MH)(e1:m ρ h=.ok (bw sws) h)(e2:l ρ h=.ok (.int st) h)(e3:k ρ h=.ok (.int s) h):aQ qU "joined_bars" m (ag l (ag k af)) ρ h=.ok (.int (Clo.fL (i_ st sws) s:Nat)) h:=by
 have:=Mb ok st s h;unfold bw at e1 this;simp[-List.map_map,e1,e2,e3,qU,List.lookup,GQ,this]
theorem NV(ok:c_ n sws)(st:Nat)(h:MH):mz [bw sws,.int st] h=.ok (.int (ji st sws:Nat)) h:=by
 obtain⟨x',e⟩:=Fp (J:=aQ kY "feeds" (aa 3) af) Sw.fed (n:=n) (some (bw sws)) (some (.int st)) h (λs hs f=>oh s ok.2.1 hs (by simp)) (fO st sws) 0 none λp hp=>ok.2.2.2 _ (FH hp);have e1:=HN sws st h ok.2.2.1 (m:=aa 0) (l:=aa 1) (ρ:=[some (bw sws),some (.int st),some (.int 0),none]) (by simp) (by simp);have e2:=E5 ok st (Ds st sws) h (m:=aa 0) (l:=aa 1) (k:=aa 2) (ρ:=[some (bw sws),some (.int st),some (.int (Ds st sws:Nat)),x']) (by simp) (by simp) (by simp);have f0:Clo.all ((fO st sws).map λp=>p.1.fed) 0=Ds st sws:=rfl;rw[f0]at e;simp at e;simp[-List.map_map, -aQ,mz,uv,e1,e,e2,ji]
theorem Gm:(Str.ofString "live_bars"==Str.ofString "switches")=false:=by decide+kernel
theorem KL(ok:c_ n sws)(st:Nat)(h:MH)(e1:m ρ h0=.ok (bw sws) h)(e2:l ρ h=.ok (.int st) h):aQ u_ "live_bars" m (ag l af) ρ h0=.ok (.int (ji st sws:Nat)) h:=by
 have:=NV ok st h;unfold bw at e1 this;simp[-List.map_map,e1,e2,u_,List.lookup,Gm,this]
theorem Ac:(Str.ofString "earths"==Str.ofString "bar")=false:=by decide+kernel
theorem xn:(Str.ofString "earths"==Str.ofString "one")=false:=by decide+kernel
theorem vP:(Str.ofString "earths"==Str.ofString "other")=false:=by decide+kernel
theorem qZ(s:Sw)(hn:n<=10)(ok:s.ok n)(e:m ρ h=.ok s.o h):aQ n_ "earths" m af ρ h=.ok (.int s.led) h:=by
 cases s with
 | earth b=>
  have:b<n:=ok;simp[e,Sw.o,n_,Ac,pG,rT,Sw.led,List.lookup,mY,mU (show b<=100 by omega)]
 | feed b=>simp[e,Sw.o,n_,Ac,fY,jY,Sw.led,List.lookup]
 | breaker a b=>simp[e,Sw.o,n_,xn,vP,fY,jY,Sw.led,List.lookup]
 | splitter a b=>simp[e,Sw.o,n_,xn,vP,fY,jY,Sw.led,List.lookup]
noncomputable def vo(st:Nat)(sws:List Sw):Nat:=Clo.all ((fO st sws).map λp=>p.1.led) 0
noncomputable def oS(st:Nat)(sws:List Sw):Nat:=Clo.fL (i_ st sws) (vo st sws)
theorem Pz(ok:c_ n sws)(st:Nat)(h:MH):lP [bw sws,.int st] h=.ok (.int (vo st sws:Nat)) h:=by
 obtain⟨x',e⟩:=Fp (J:=aQ n_ "earths" (aa 3) af) Sw.led (n:=n) (some (bw sws)) (some (.int st)) h (λs hs f=>qZ s ok.2.1 hs (by simp)) (fO st sws) 0 none λp hp=>ok.2.2.2 _ (FH hp);have e1:=HN sws st h ok.2.2.1 (m:=aa 0) (l:=aa 1) (ρ:=[some (bw sws),some (.int st),some (.int 0),none]) (by simp) (by simp);have f0:Clo.all ((fO st sws).map λp=>p.1.led) 0=vo st sws:=rfl;rw[f0]at e;simp at e;simp[-List.map_map, -aQ,lP,tm,e1,e]
theorem G8:(Str.ofString "led_bars"==Str.ofString "switches")=false:=by decide+kernel
theorem r6(ok:c_ n sws)(st:Nat)(h:MH)(e1:m ρ h0=.ok (bw sws) h)(e2:l ρ h=.ok (.int st) h):aQ Aj "led_bars" m (ag l af) ρ h0=.ok (.int (vo st sws:Nat)) h:=by
 have:=Pz ok st h;unfold bw at e1 this;simp[-List.map_map,e1,e2,Aj,List.lookup,G8,this]
theorem LQ(ok:c_ n sws)(st:Nat)(h:MH):lR [bw sws,.int st] h=.ok (.int (oS st sws:Nat)) h:=by
 have e1:=r6 ok st h (m:=aa 0) (l:=aa 1) (ρ:=[some (bw sws),some (.int st)]) (h0:=h) (by simp) (by simp);have e2:=E5 ok st (vo st sws) h (m:=aa 0) (l:=aa 1) (k:=aQ Aj "led_bars" (aa 0) (ag (aa 1) af)) (ρ:=[some (bw sws),some (.int st)]) (by simp) (by simp) e1;simp[-List.map_map, -aQ,lR,ui,e2,oS]
theorem G3:(Str.ofString "earthed_bars"==Str.ofString "switches")=false:=by decide+kernel
theorem N7(ok:c_ n sws)(st:Nat)(h:MH)(e1:m ρ h0=.ok (bw sws) h)(e2:l ρ h=.ok (.int st) h):aQ C8 "earthed_bars" m (ag l af) ρ h0=.ok (.int (oS st sws:Nat)) h:=by
 have:=LQ ok st h;unfold bw at e1 this;simp[-List.map_map,e1,e2,C8,List.lookup,G3,this]
noncomputable def mI(st:Nat)(sws:List Sw):Bool:=decide (ji st sws&&&oS st sws=0)
theorem OC(ok:c_ n sws)(st:Nat)(h:MH):mR [bw sws,.int st] h=.ok (.bl (mI st sws)) h:=by
 have e1:=KL ok st h (h0:=h) (m:=aa 0) (l:=aa 1) (ρ:=[some (bw sws),some (.int st)]) (by simp) (by simp);have e2:=N7 ok st h (h0:=h) (m:=aa 0) (l:=aa 1) (ρ:=[some (bw sws),some (.int st)]) (by simp) (by simp);have e3:=gS (ji st sws) (oS st sws);have e4:((ji st sws&&&oS st sws:Nat):Int)=0↔ji st sws&&&oS st sws=0:=by omega
 simp[-aQ,mR,qQ,e1,e2,e3,mI]
theorem rJ{α:Type}{xs:List α}{k:Nat}{x:α}(e:xs[k]?=some x):cU xs (k:Int)=some x:=by
 obtain⟨hk,e'⟩:=qb.mp e;simp[cU,gC,hk,e']
noncomputable def Sw.gen:Sw->Bool
 | .splitter _ _=>true
 | _=>false
theorem xR:(Str.ofString "gentle"==Str.ofString "bar")=false:=by decide+kernel
theorem AN:(Str.ofString "gentle"==Str.ofString "one")=false:=by decide+kernel
theorem wD:(Str.ofString "gentle"==Str.ofString "other")=false:=by decide+kernel
theorem IQ(s:Sw)(e:m ρ h=.ok s.o h):aQ kR "gentle" m af ρ h=.ok (.bl s.gen) h:=by
 cases s with
 | splitter a b=>simp[e,Sw.o,kR,AN,wD,p7,sy,Sw.gen,List.lookup]
 | feed b=>simp[e,Sw.o,kR,xR,gr,j7,Sw.gen,List.lookup]
 | earth b=>simp[e,Sw.o,kR,xR,gr,j7,Sw.gen,List.lookup]
 | breaker a b=>simp[e,Sw.o,kR,AN,wD,gr,j7,Sw.gen,List.lookup]
theorem tP(s:Sw)(hn:n<=10)(ok:s.ok n)(e:m ρ h=.ok s.o h):aQ iW "joins" m af ρ h=.ok (.int s.pair) h:=by
 have:=m7 s hn ok h;unfold aQ at this ⊢;rw[e];simpa using this
noncomputable def oa(a b:Nat):Nat:=2^min a b
theorem NR:∀a b:Fin 10,a≠b->Builtin.bitAnd ((2^a.val|||2^b.val:Nat):Int) (-((2^a.val|||2^b.val:Nat):Int))=((2^min a.val b.val:Nat):Int):=by decide+kernel
theorem LF(hn:n<=10)(ha:a<n)(hb:b<n)(ab:a≠b)(h:MH):iw [.int (2^a|||2^b:Nat)] h=.ok (.int (oa a b:Nat)) h:=by
 have e:=NR ⟨a,by omega⟩ ⟨b,by omega⟩ (λz=>ab (by simpa using z));simp only at e;have:iw [.int (2^a|||2^b:Nat)] h=.ok (.int (Builtin.bitAnd ((2^a|||2^b:Nat):Int) (-((2^a|||2^b:Nat):Int)))) h:=by simp[iw,pz]
 rw[this,e];rfl
noncomputable def apart(st k:Nat):Nat:=st - (st&&&2^k)
noncomputable def oj(st k:Nat)(w:Sw)(sws:List Sw):Bool:=match w with
 | .splitter a b=>decide ((2^a|||2^b)&&&ji (apart st k) sws≠0)&&decide ((2^a|||2^b) - ((2^a|||2^b)&&&Clo.fL (i_ (apart st k) sws) (oa a b))≠0)
 | _=>false
theorem Of(ok:c_ n sws)(st k:Nat)(w:Sw)(hw:sws[k]?=some w)(h:MH):kI [bw sws,.int st,.int k] h=.ok (.bl (oj st k w sws)) h:=by
 have wok:w.ok n:=ok.2.2.2 w (qt hw);have hk:k<sws.length:=(qb.mp hw).1;have hl:=ok.2.2.1;have hx:cU (sws.map Sw.o) (k:Int)=some w.o:=rJ (by rw[z5,hw];rfl);have f1:ae aS (aG jd "switches" (aa 0)) (aa 2) [some (bw sws),some (.int st),some (.int k),none,none,none] h=.ok w.o h:=by simp[-List.map_map,bw,jd,hx]
 have g1:=IQ w (m:=aa 3) (ρ:=[some (bw sws),some (.int st),some (.int k),some w.o,none,none]) (h:=h) (by simp);have eb:sH=(aq (aA (ae aS (aG jd "switches" (aa 0)) (aa 2)) (aD 3))
   (aq (aX (cX (b8 (aQ kR "gentle" (aa 3) af)))
   (aw (mC (.bl false)))
   bx)
   (aq (aA (ae dR (aa 1) (gD gU (ae dr (mC (.int 1)) (aa 2)))) (aD 4))
   (aq (aA (aQ iW "joins" (aa 3) af) (aD 5))
   (aq (aX (cX (b8 (ae dR (aa 5) (aQ u_ "live_bars" (aa 0) (ag (aa 4) af)))))
   (aw (mC (.bl false)))
   bx)
   (aw (ae dg (ae dR (aa 5) (gD gU (aQ qU "joined_bars" (aa 0) (ag (aa 4) (ag (aY iw (ag (aa 5) af)) af))))) (mC (.int 0))))))))):=rfl
 by_cases q:w.gen=false
 ·have:oj st k w sws=false:=by cases w<;>first|rfl|(simp[Sw.gen]at q)
  rw[this];rw[q]at g1;simp[-List.map_map, -aQ, -aG, -aS,kI,eb];simp[-List.map_map, -aQ, -aG, -aS]at f1;simp[-aQ, -aG, -aS,f1,g1]
 ·cases w with
  | splitter a b=>
   obtain⟨h1,h2,h3⟩:=wok;let pr:=2^a|||2^b;have epr:(Sw.splitter a b).pair=pr:=rfl;have j1:=tP (.splitter a b) ok.2.1 ⟨h1,h2,h3⟩ (m:=aa 3) (ρ:=[some (bw sws),some (.int st),some (.int k),some (Sw.splitter a b).o,some (.int (apart st k:Nat)),none]) (h:=h) (by simp);rw[epr]at j1;have l1:=KL ok (apart st k) h (h0:=h) (m:=aa 0) (l:=aa 4) (ρ:=[some (bw sws),some (.int st),some (.int k),some (Sw.splitter a b).o,some (.int (apart st k:Nat)),some (.int (pr:Nat))]) (by simp) (by simp);have lo:=LF ok.2.1 h1 h2 h3 h;have c1:=E5 ok (apart st k) (oa a b) h (m:=aa 0) (l:=aa 4) (k:=aY iw (ag (aa 5) af)) (ρ:=[some (bw sws),some (.int st),some (.int k),some (Sw.splitter a b).o,some (.int (apart st k:Nat)),some (.int (pr:Nat))]) (by simp) (by simp) (by simpa using lo);have d1:=oM st (2^k);have d2:=gS pr (ji (apart st k) sws);have d3:=oM pr (Clo.fL (i_ (apart st k) sws) (oa a b));have d4:=Iz (pr&&&ji (apart st k) sws);have o1:=mU (show k<=100 by omega);have el:oj st k (.splitter a b) sws=(decide (pr&&&ji (apart st k) sws≠0)&&decide (pr - (pr&&&Clo.fL (i_ (apart st k) sws) (oa a b))≠0)):=rfl;rw[el];have ap:st - (st&&&2^k)=apart st k:=rfl;rw[ap]at d1;simp at d1;clear_value pr;have d5:((pr - (pr&&&Clo.fL (i_ (apart st k) sws) (oa a b)):Nat):Int)=0↔pr - (pr&&&Clo.fL (i_ (apart st k) sws) (oa a b))=0:=by omega
   generalize pr - (pr&&&Clo.fL (i_ (apart st k) sws) (oa a b))=u at d3 d5 ⊢;simp[-List.map_map, -aQ, -aG, -aS,kI,eb];simp[-List.map_map, -aQ, -aG, -aS]at f1;rw[show(Sw.splitter a b).gen=true from rfl]at g1;simp[-aQ, -aG, -aS,f1,g1,o1,d1,j1,l1,d2,d4];by_cases q2:pr&&&ji (apart st k) sws=0
   ·simp[-aQ,q2]
   ·simp[-aQ,q2,c1,d3]
  | _=>simp[Sw.gen]at q
theorem K0(st k:Nat)(hk:k<=100)(h:MH):kD [.int st,.int k] h=.ok (.int (st^^^2^k:Nat)) h:=by
 have:=Hk st (2^k);simp at this;simp[kD,rB,mU hk,this]
theorem xy:(Str.ofString "is_safe"==Str.ofString "switches")=false:=by decide+kernel
theorem Lp(ok:c_ n sws)(st k:Nat)(hk:k<=100)(h:MH):lY [bw sws,.int st,.int k] h=.ok (.bl (!mI (st^^^2^k) sws)) h:=by
 have e1:=K0 st k hk h;have e2:=OC ok (st^^^2^k) h;unfold bw at e2;simp[-List.map_map,lY,sv,e1,bw,G6,List.lookup,xy,e2]
noncomputable def FJ(st k:Nat)(w:Sw)(sws:List Sw)(h:MH):Res D:=
 if oj st k w sws=true then .exc "Loaded" h else if mI (st^^^2^k) sws=true then .ok (.int (st^^^2^k:Nat)) h else .exc "Shorted" h
theorem Gr(k:Nat)(hk:k<sws.length)(h:MH):eK [yd n sws,.int k] h=.ok .non h:=by
 simp[-List.map_map,eK,j5,yd,hk]
theorem Gp(k:Int)(hk:k<0\/(sws.length:Int)<=k)(h:MH):eK [yd n sws,.int k] h=.exc "NoSwitch" h:=by
 by_cases h0:k<0
 ·have:¬0<=k:=by omega
  simp[-List.map_map,eK,j5,yd,this]
 ·have h1:0<=k:=by omega
  have:¬k<(sws.length:Int):=by omega
  simp[-List.map_map,eK,j5,yd,h1,this]
theorem Pt(ok:c_ n sws)(st k:Nat)(w:Sw)(hw:sws[k]?=some w)(h:MH)(hb:Hb h):iX [yd n sws,.int st,.int k] h=FJ st k w sws h:=by
 have hk:k<sws.length:=(qb.mp hw).1;have hl:=ok.2.2.1;have e0:=Gr (n:=n) k hk h;have e1:=KP (m:=aa 0) (ρ:=[some (yd n sws),some (.int st),some (.int k),none]) (h:=h) n sws ok.2.2.1 hb (by simp);have e2:=Of ok st k w hw (h++[none]);have e3:=Lp ok st k (by omega) (h++[none]);have e4:=K0 st k (by omega) (h++[none]);have hb2:∀x∈h,Cell.bnd h.length x=true:=by simpa using hb h.length (qi _)
 unfold FJ;unfold yd at e0 e1;cases q1:oj st k w sws with
 | true=>
  rw[q1]at e2;simp[-List.map_map, -jh,iX,jH,yd,e0,e1,e2,hk];rw[if_neg (by omega),if_pos hb2]
 | false=>
  rw[q1]at e2;cases q2:mI (st^^^2^k) sws with
  | true=>
   rw[q2]at e3;simp[-List.map_map, -jh,iX,jH,yd,e0,e1,e2,e3,e4,hk,D.bnd];rw[if_neg (by omega),if_pos hb2]
  | false=>
   rw[q2]at e3;simp[-List.map_map, -jh,iX,jH,yd,e0,e1,e2,e3,e4,hk];rw[if_neg (by omega),if_pos hb2]
theorem FG:∀{ds:List D},(∀d∈ds,D.bnd n d=true)->D.bnds n ds=true
 | [],_=>by simp[D.bnds]
 | d::ds,h=>by
  simp only[D.bnds,qu];exact⟨h d (qj ..),FG λx m=>h x (qg _ m)⟩
theorem N4{α:Type}{h:List α}{x:α}(hc:h[c]?=some x):h.set c x=h:=List.ext_getElem? λi=>by
 by_cases q:c=i
 ·subst q;rw[qq (qb.mp hc).1,hc]
 ·rw[qm q]
theorem Lz(hl:ds.length=np)(e:b (ds.map some++List.replicate (nn - ds.length) none) h=.rt d (h++J))(hb:Hb h)(hd:d.bnd h.length=true):aH np nn b ds h=.ok d h:=by
 unfold aH;rw[if_pos hl,e];show fin h.length d (h++J)=_;unfold fin;by_cases q:(h++J).length<=h.length
 ·rw[if_pos q]
  have:J=[]:=by
   cases J with
   | nil=>rfl
   | cons _ _=>simp at q;omega
  rw[this,zr]
 ·rw[if_neg q,if_pos]
  ·rw[List.take_left']
   rfl
  ·rw[hd,gg,List.take_left' rfl]
   exact hb _ (qi _)
@[simp] theorem QL:(Str.ofString "net"==Str.ofString "yard")=false:=by decide+kernel
@[simp] theorem Qv:¬(Str.ofString "yard"=Str.ofString "net"):=by decide+kernel
@[simp] theorem QN:(Str.ofString "shut"==Str.ofString "yard")=false:=by decide+kernel
@[simp] theorem Qz:¬(Str.ofString "yard"=Str.ofString "shut"):=by decide+kernel
@[simp] theorem QO:(Str.ofString "shut"==Str.ofString "net")=false:=by decide+kernel
@[simp] theorem QE:¬(Str.ofString "net"=Str.ofString "shut"):=by decide+kernel
@[simp] theorem QP:(Str.ofString "locks"==Str.ofString "yard")=false:=by decide+kernel
@[simp] theorem Qu:¬(Str.ofString "yard"=Str.ofString "locks"):=by decide+kernel
@[simp] theorem QF:(Str.ofString "locks"==Str.ofString "net")=false:=by decide+kernel
@[simp] theorem QX:¬(Str.ofString "net"=Str.ofString "locks"):=by decide+kernel
@[simp] theorem QQ:(Str.ofString "locks"==Str.ofString "shut")=false:=by decide+kernel
@[simp] theorem QI:¬(Str.ofString "shut"=Str.ofString "locks"):=by decide+kernel
@[simp] theorem QV:(Str.ofString "given"==Str.ofString "yard")=false:=by decide+kernel
@[simp] theorem QD:¬(Str.ofString "yard"=Str.ofString "given"):=by decide+kernel
@[simp] theorem Qy:(Str.ofString "given"==Str.ofString "net")=false:=by decide+kernel
@[simp] theorem QJ:¬(Str.ofString "net"=Str.ofString "given"):=by decide+kernel
@[simp] theorem QM:(Str.ofString "given"==Str.ofString "shut")=false:=by decide+kernel
@[simp] theorem QG:¬(Str.ofString "shut"=Str.ofString "given"):=by decide+kernel
@[simp] theorem QW:(Str.ofString "given"==Str.ofString "locks")=false:=by decide+kernel
@[simp] theorem QA:¬(Str.ofString "locks"=Str.ofString "given"):=by decide+kernel
@[simp] theorem QH:(Str.ofString "last_number"==Str.ofString "yard")=false:=by decide+kernel
@[simp] theorem Qt:¬(Str.ofString "yard"=Str.ofString "last_number"):=by decide+kernel
@[simp] theorem Qx:(Str.ofString "last_number"==Str.ofString "net")=false:=by decide+kernel
@[simp] theorem QR:¬(Str.ofString "net"=Str.ofString "last_number"):=by decide+kernel
@[simp] theorem QC:(Str.ofString "last_number"==Str.ofString "shut")=false:=by decide+kernel
@[simp] theorem QK:¬(Str.ofString "shut"=Str.ofString "last_number"):=by decide+kernel
@[simp] theorem Qw:(Str.ofString "last_number"==Str.ofString "locks")=false:=by decide+kernel
@[simp] theorem QB:¬(Str.ofString "locks"=Str.ofString "last_number"):=by decide+kernel
@[simp] theorem QU:(Str.ofString "last_number"==Str.ofString "given")=false:=by decide+kernel
@[simp] theorem QS:¬(Str.ofString "given"=Str.ofString "last_number"):=by decide+kernel
structure Bd where
 n:Nat
 sws:List Sw
 st:Nat
 lk:Nat
 gv:List (Nat×Nat×Nat)
 la:Nat
noncomputable def lF(gv:List (Nat×Nat×Nat)):List (Sum Int Str×D):=gv.map λg=>(.inl (g.1:Int),.tup [.int (g.2.1:Nat),.int (g.2.2:Nat)])
noncomputable def Bd.f(b:Bd)(r:Nat):List (Str×D):=[(Str.ofString "yard",yd b.n b.sws),(Str.ofString "net",bw b.sws),(Str.ofString "shut",.int b.st),(Str.ofString "locks",.int b.lk),(Str.ofString "given",.ref r),(Str.ofString "last_number",.int b.la)]
noncomputable def Bd.cell(b:Bd)(r:Nat):Option Cell:=some (.ins "Board" (b.f r))
theorem uV(n:Nat)(sws:List Sw)(m:Nat):(yd n sws).bnd m=true:=by
 simp only[yd,D.bnd,D.bnds,gg,km];exact FG λd hd=>by
  obtain⟨s,_,rfl⟩:=qy.mp hd;cases s<;>simp[Sw.d,D.bnd,D.bnds]
theorem K8(sws:List Sw)(m:Nat):(bw sws).bnd m=true:=by
 have:D.bnds m (sws.map Sw.o)=true:=FG λd hd=>by
  obtain⟨s,_,rfl⟩:=qy.mp hd;cases s<;>simp[Sw.o,D.bnd,D.bnds,D.bndf]
 simp[bw,D.bnd,D.bnds,D.bndf,this]
@[simp] theorem D7:"Board"∈da:=by decide
@[simp] theorem FT:"Board"∈xt:=by decide
@[simp] theorem Dm:"Board"∈nL:=by decide
@[simp] theorem yU:"Board"∈iE:=by decide
@[simp] theorem Ck:"Board"∈uQ:=by decide
@[simp] theorem CS:"Board"∈GJ:=by decide
@[simp] theorem Dy(b:Bd)(r:Nat):(b.f r).lookup ("yard":Str)=some (yd b.n b.sws):=by simp[Bd.f,List.lookup]
@[simp] theorem Fv(b:Bd)(r:Nat):(b.f r).lookup ("net":Str)=some (bw b.sws):=by simp[Bd.f,List.lookup]
@[simp] theorem Dd(b:Bd)(r:Nat):(b.f r).lookup ("shut":Str)=some (.int b.st):=by simp[Bd.f,List.lookup]
@[simp] theorem AV(b:Bd)(r:Nat):(b.f r).lookup ("locks":Str)=some (.int b.lk):=by simp[Bd.f,List.lookup]
@[simp] theorem yt(b:Bd)(r:Nat):(b.f r).lookup ("given":Str)=some (.ref r):=by simp[Bd.f,List.lookup]
@[simp] theorem Cu(b:Bd)(r:Nat):(b.f r).lookup ("last_number":Str)=some (.int b.la):=by simp[Bd.f,List.lookup]
@[simp] theorem CA(b:Bd)(r s:Nat):bD ("shut":Str) (.int s) (b.f r)=({b with st:=s}).f r:=by simp[Bd.f,bD]
@[simp] theorem yx(b:Bd)(r s:Nat):bD ("locks":Str) (.int s) (b.f r)=({b with lk:=s}).f r:=by simp[Bd.f,bD]
@[simp] theorem Ej(b:Bd)(r s:Nat):bD ("last_number":Str) (.int s) (b.f r)=({b with la:=s}).f r:=by simp[Bd.f,bD]
@[simp] theorem G_(b:Bd)(r:Nat):(b.f r).length=6:=rfl
theorem pe(b:Bd)(r:Nat)(h:([Str.ofString "yard",Str.ofString "net",Str.ofString "shut",Str.ofString "locks",Str.ofString "given",Str.ofString "last_number"]).contains m=false):(b.f r).lookup m=none:=by
 simp only[List.contains,List.elem_eq_mem,qr,zi,or_false,decide_eq_false_iff_not,not_or]at h;obtain⟨h1,h2,h3,h4,h5,h6⟩:=h;simp[Bd.f,List.lookup,beq_eq_false_iff_ne.mpr h1,beq_eq_false_iff_ne.mpr h2,beq_eq_false_iff_ne.mpr h3,beq_eq_false_iff_ne.mpr h4,beq_eq_false_iff_ne.mpr h5,beq_eq_false_iff_ne.mpr h6]
structure At (h:MH) (p r:Nat) (b:Bd):Prop where
 o:h[p]?=some (b.cell r)
 g:h[r]?=some (some (.dct (lF b.gv)))
 hb:Hb h
 ok:c_ b.n b.sws
theorem oB(b:Bd)(h:r<m):Cell.bnd m (b.cell r)=true:=by
 have h1:=uV b.n b.sws m;have h2:=K8 b.sws m;simp[Bd.cell,Bd.f,Cell.bnd,D.bnd,D.bnds,h1,h2,h]
theorem Hb.set(a:Hb h)(q:∀n,h.length<=n->Cell.bnd n c=true):Hb (h.set p c):=λn hn=>by
 rw[zt]at hn;have:=a n hn;rw[List.all_eq_true]at this ⊢;intro x hx;rcases List.mem_or_eq_of_mem_set hx with hx|rfl
 ·exact this x hx
 ·exact q n hn
theorem At.ne(A:At h p r b):p≠r:=λe=>by
 have h1:=A.o;rw[e,A.g]at h1;simp[Bd.cell]at h1
theorem At.lt(A:At h p r b):r<h.length:=(qb.mp A.g).1
theorem At.lt'(A:At h p r b):p<h.length:=(qb.mp A.o).1
theorem At.put(A:At h p r b)(hg:b'.gv=b.gv)(ok:c_ b'.n b'.sws):At (h.set p (b'.cell r)) p r b':=
 ⟨by rw[qq A.lt'],by rw[qm A.ne,hg];exact A.g,A.hb.set λn hn=>oB b' (qf A.lt hn),ok⟩
noncomputable def nH(gv:List (Nat×Nat×Nat)):Nat:=Clo.all (gv.map λg=>g.2.2) 0
theorem HA(a:Option D)(h:MH):∀(gv:List (Nat×Nat×Nat)) (f:Nat) (x:Option D),∃x',dS (aD 2) (aA (ae iD (aa 1) (ae aS (aa 2) (mC (.int 1)))) (aD 1)) ((lF gv).map (·.2)) [a,some (.int f),x] h=.nx [a,some (.int (Clo.all (gv.map λg=>g.2.2) f:Nat)),x'] h
 | [],f,x=>⟨x,rfl⟩
 | g::gv,f,x=>by
  obtain⟨x',ih⟩:=HA a h gv (f|||g.2.2) (some (.tup [.int (g.2.1:Nat),.int (g.2.2:Nat)]));refine⟨x',?_⟩;have e2:=qS f g.2.2;simp only[lF,List.map_cons];unfold dS;simp only[lF]at ih;simp[-List.map_map,e2];exact ih
theorem Lu(A:At h p r b):kK [.ref p] h=.ok (.int (nH b.gv:Nat)) h:=by
 obtain⟨x',e⟩:=HA (some (.ref p)) (h.set r none) b.gv 0 none;have o:h[p]?=some (some (.ins "Board" (b.f r))):=A.o;have g:=A.g;have l:∀c:Option Cell,(h.set r c)[r]?=some c:=λc=>qq A.lt;have hs:(h.set r none).set r (some (.dct (lF b.gv)))=h:=by rw[List.set_set];exact N4 g
 have f0:Clo.all (b.gv.map λg=>g.2.2) 0=nH b.gv:=rfl;rw[f0]at e;simp at e;simp[-List.map_map,kK,pI,o,g,e,l,hs]
theorem D8(A:At h p r b)(et:tab.lookup "Board"=some z)(hf:([Str.ofString "yard",Str.ofString "net",Str.ofString "shut",Str.ofString "locks",Str.ofString "given",Str.ofString "last_number"]).contains f=false)(e:m ρ h=.ok (.ref p) h)(el:l ρ h=.ok ds h):aQ tab f m l ρ h=z (.ref p::ds) h:=by
 have o:h[p]?=some (some (.ins "Board" (b.f r))):=A.o;have ea:pC h (.ref p)=some ("Board",b.f r):=by simp[o]
 have ef:=pe b r hf;simp only[aQ,e,gE,ea,Nh,et,chk,ef,if_true,el]
theorem OI(A:At h p r b):j4 [.ref p] h=.ok (.int b.st) h:=by
 have o:h[p]?=some (some (.ins "Board" (b.f r))):=A.o;simp[j4,qF,o]
theorem Mm(A:At h p r b)(v:Int)(hv:v<0\/(b.sws.length:Int)<=v):dN [.ref p,.int v] h=.exc "NoSwitch" h:=by
 have e:=Gp (n:=b.n) v hv h;have o:h[p]?=some (some (.ins "Board" (b.f r))):=A.o;simp[dN,fU,o,e]
noncomputable def Ea(b:Bd)(k:Nat)(w:Sw):Option String:=
 if b.lk.testBit k=true then some "Locked"else if(nH b.gv).testBit k=true then some "Held"else if oj b.st k w b.sws=true then some "Loaded"else if mI (b.st^^^2^k) b.sws=true then none else some "Shorted"
theorem Li(A:At h p r b)(k:Nat)(w:Sw)(hw:b.sws[k]?=some w):dN [.ref p,.int k] h=match Ea b k w with|some c=>.exc c h|none=>.ok (.int (b.st^^^2^k:Nat)) (h.set p (({b with st:=b.st^^^2^k}:Bd).cell r)):=by
 have hk:k<b.sws.length:=(qb.mp hw).1;have e0:=Gr (n:=b.n) k hk h;have e1:=Pt A.ok b.st k w hw h A.hb;have hs:=sr b.lk k h;have hh:=sr (nH b.gv) k h;have o:h[p]?=some (some (.ins "Board" (b.f r))):=A.o;have l:∀c:Option Cell,(h.set p c)[p]?=some c:=λc=>qq A.lt';have f4:aQ uO "held" (aa 0) af [some (.ref p),some (.int k)] h=.ok (.int (nH b.gv:Nat)) h:=by
  rw[D8 A (z:=kK) (ds:=[]) rfl (by decide+kernel) (by simp) (by simp)];exact Lu A
 unfold Ea FJ at*;by_cases q0:b.lk.testBit k=true
 ·rw[q0]at hs
  simp[dN,fU,o,e0,hs,q0]
 ·have q0:b.lk.testBit k=false:=by simpa using q0
  rw[q0]at hs;by_cases q1:(nH b.gv).testBit k=true
  ·rw[q1]at hh
   simp[-aQ,dN,fU,o,e0,hs,q0,f4,hh,q1]
  ·have q1:(nH b.gv).testBit k=false:=by simpa using q1
   rw[q1]at hh;cases q2:oj b.st k w b.sws with
   | true=>
    rw[q2]at e1;simp at e1;simp[-aQ,dN,fU,o,e0,hs,q0,f4,hh,q1,e1]
   | false=>
    rw[q2]at e1;cases q3:mI (b.st^^^2^k) b.sws with
    | false=>
     rw[q3]at e1;simp at e1;simp[-aQ,dN,fU,o,e0,hs,q0,f4,hh,q1,e1]
    | true=>
     rw[q3]at e1;simp at e1;generalize b.st^^^2^k=s2 at*;simp[-aQ,dN,fU,o,e0,hs,q0,f4,hh,q1,e1,l,Bd.cell]
theorem Oj(A:At h p r b):jJ [.ref p] h=.ok (.int b.lk) h:=by
 have o:h[p]?=some (some (.ins "Board" (b.f r))):=A.o;simp[jJ,rO,o]
noncomputable def Bd.new(n:Nat)(sws:List Sw):Bd:=⟨n,sws,0,0,[],0⟩
theorem Pj(ok:c_ n sws)(hb:Hb h)(e:m ρ h0=.ok (yd n sws) h):uB "Board" jF (ag m af) ρ h0=.ok (.ref h.length) (h++[(Bd.new n sws).cell (h.length+2),none,some (.dct [])]):=by
 have hb1:Hb (h++[some (Cell.ins "Board" [(Str.ofString "yard",yd n sws)])]):=hb.snoc λk hk=>by
  simp[Cell.bnd,D.bnds,uV n sws k]
 have e1:=KP (m:=aG da "yard" (aa 0)) (ρ:=[some (.ref h.length),some (yd n sws)]) (h:=h++[some (.ins "Board" [(Str.ofString "yard",yd n sws)])]) n sws ok.2.2.1 hb1 (by simp[List.lookup]);have ix:∀h:MH,aS (yd n sws) (.int 1) h=.ok (.lst (sws.map Sw.d)) h:=λh=>by simp[-List.map_map,yd]
 have ix0:∀h:MH,aS (yd n sws) (.int 0) h=.ok (.int n) h:=λh=>by simp[yd]
 have yy:D.tup [.int n,.lst (sws.map Sw.d)]=yd n sws:=rfl;have h1:=uV n sws (h.length+1);have h2:=K8 sws (h.length+1);have hbn:(h++[some (Cell.ins "Board" [])]).length=h.length+1:=by simp
 have nb:Cell.bnd (h.length+1) (some (Cell.ins "Board" (((Bd.new n sws).f (h.length+2)))))=false:=by
  simp[Bd.f,Bd.new,Cell.bnd,D.bnds,D.bnd]
 have key:jF [.ref h.length,yd n sws] (h++[some (Cell.ins "Board" [])])=.ok .non (h++[(Bd.new n sws).cell (h.length+2),none,some (.dct [])]):=by
  have eb:jN [some (.ref h.length),some (yd n sws)] (h++[some (Cell.ins "Board" [])])=.nx [some (.ref h.length),some (yd n sws)] (h++[(Bd.new n sws).cell (h.length+2),none,some (.dct [])]):=by
   simp[-List.map_map, -aS, -jh, -aG,jN,ix,ix0,yy,e1,bD,Bd.cell,Bd.f,Bd.new]
  unfold jF aH;rw[if_pos (show[D.ref h.length,yd n sws].length=2 from rfl)];have e2:jN ([D.ref h.length,yd n sws].map some++List.replicate (2 - [D.ref h.length,yd n sws].length) none) (h++[some (Cell.ins "Board" [])])=.nx [some (.ref h.length),some (yd n sws)] (h++[(Bd.new n sws).cell (h.length+2),none,some (.dct [])]):=eb;rw[e2];have tk:(h++[(Bd.new n sws).cell (h.length+2),none,some (.dct [])]).take (h++[some (Cell.ins "Board" [])]).length=h++[(Bd.new n sws).cell (h.length+2)]:=by
   rw[hbn,List.take_append,zh (gc _)];simp
  show fin _ _ _=_;unfold fin;rw[if_neg (by simp),tk,hbn,gn];have:([(Bd.new n sws).cell (h.length+2)].all (Cell.bnd (h.length+1)))=false:=by
   simp only[wb,List.all_nil,km];exact nb
  rw[this];simp
 simp[e,key]
theorem pO(ok:c_ n sws)(hb:Hb h):At (h++[(Bd.new n sws).cell (h.length+2),none,some (.dct [])]) h.length (h.length+2) (Bd.new n sws):=
 ⟨by simp,by simp[Bd.new,lF],λk hk=>by
  simp only[zd,z7,ke]at hk;rw[gn,hb k (by omega)];have:=oB (Bd.new n sws) (show h.length+2<k by omega);simp only[wb,List.all_nil,km,this];simp[Cell.bnd,D.bnds],ok⟩
noncomputable def Sw.lockable:Sw->Bool
 | .feed _=>true
 | .splitter _ _=>true
 | _=>false
theorem OG(s:Sw)(hn:n<=10)(ok:s.ok n)(h:MH):iI [s.o] h=.ok (.bl s.lockable) h:=by
 have e1:=oh s hn ok (m:=aa 0) (ρ:=[some s.o]) (h:=h) (by simp);have e2:=IQ s (m:=aa 0) (ρ:=[some s.o]) (h:=h) (by simp);have key:∀(i:Int) (g:Bool),aQ kY "feeds" (aa 0) af [some s.o] h=.ok (.int i) h->aQ kR "gentle" (aa 0) af [some s.o] h=.ok (.bl g) h->iI [s.o] h=.ok (.bl (!decide (i=0)||g)) h:=λi g e1 e2=>by
  by_cases q:i=0
  ·simp[-aQ,iI,mQ,e1,e2,q]
  ·simp[-aQ,iI,mQ,e1,e2,q]
 rw[key _ _ e1 e2];have pos:∀b:Nat,¬(((2^b:Nat):Int)=0):=λb=>by
  have:=Nat.pow_pos (n:=b) (show 0<2 by decide);omega
 cases s with
 | feed b=>simp only[Sw.fed,Sw.gen,Sw.lockable,pos b,decide_false,Bool.not_false,Bool.true_or]
 | earth b=>rfl
 | breaker a b=>rfl
 | splitter a b=>rfl
theorem MZ(A:At h p r b)(v:Int)(hv:v<0\/(b.sws.length:Int)<=v):eQ [.ref p,.int v] h=.exc "NoSwitch" h:=by
 have e:=Gp (n:=b.n) v hv h;have o:h[p]?=some (some (.ins "Board" (b.f r))):=A.o;simp[eQ,ip,o,e]
noncomputable def DL(b:Bd)(k:Nat)(w:Sw):Option String:=
 if w.lockable=false then some "NoLock"else if b.st.testBit k=true then some "NotOpen"else if b.lk.testBit k=true then some "Locked"else none
theorem MC(A:At h p r b)(k:Nat)(w:Sw)(hw:b.sws[k]?=some w):eQ [.ref p,.int k] h=match DL b k w with|some c=>.exc c h|none=>.ok (.int (b.lk|||2^k:Nat)) (h.set p (({b with lk:=b.lk|||2^k}:Bd).cell r)):=by
 have hk:k<b.sws.length:=(qb.mp hw).1;have hl:=A.ok.2.2.1;have e0:=Gr (n:=b.n) k hk h;have hs:=sr b.lk k h;have hh:=sr b.st k h;have o:h[p]?=some (some (.ins "Board" (b.f r))):=A.o;have l:∀c:Option Cell,(h.set p c)[p]?=some c:=λc=>qq A.lt';have ec:=OG w A.ok.2.1 (A.ok.2.2.2 w (qt hw)) h;have hx:cU (b.sws.map Sw.o) (k:Int)=some w.o:=rJ (by rw[z5,hw];rfl);have ix:(ae aS (aG jd "switches" (aG xt "net" (aa 0))) (aa 1)) [some (.ref p),some (.int k)] h=.ok w.o h:=by
  simp[-List.map_map,o,bw,jd,hx]
 have o1:=mU (show k<=100 by omega);have b1:=qS b.lk (2^k);simp at b1;unfold DL;cases q0:w.lockable with
 | false=>
  rw[q0]at ec;simp[-aS, -ae,eQ,ip,o,e0,ix,ec]
 | true=>
  rw[q0]at ec;cases q1:b.st.testBit k with
  | true=>
   rw[q1]at hh;simp[-aS, -ae,eQ,ip,o,e0,ix,ec,hh]
  | false=>
   rw[q1]at hh;cases q2:b.lk.testBit k with
   | true=>
    rw[q2]at hs;simp[-aS, -ae,eQ,ip,o,e0,ix,ec,hh,hs]
   | false=>
    rw[q2]at hs;have lv:(ae iD (aG iE "locks" (aa 0)) (ae dr (mC (.int 1)) (aa 1))) [some (.ref p),some (.int k)] h=.ok (.int (b.lk|||2^k:Nat)) h:=by
     simp[o,o1,b1]
    simp[-aS, -iD, -dr, -ae,eQ,ip,o,e0,ix,ec,hh,hs,lv,l,Bd.cell]
theorem Qd(A:At h p r b)(v:Int)(hv:v<0\/(b.sws.length:Int)<=v):kG [.ref p,.int v] h=.exc "NoSwitch" h:=by
 have e:=Gp (n:=b.n) v hv h;have o:h[p]?=some (some (.ins "Board" (b.f r))):=A.o;simp[kG,tq,o,e]
noncomputable def d9(x:Nat):List Nat:=(List.range (Builtin.Int.intBits (x:Int))).filter λk=>x.testBit k
theorem PN:k∈d9 x↔x.testBit k=true:=by
 unfold d9;rw[wy,w6];refine⟨λh=>h.2,λh=>⟨?_,h⟩⟩;have h0:x≠0:=λz=>by subst z;simp at h
 have h1:2^k<=x:=Nat.ge_two_pow_of_testBit h;have h2:=(Nat.le_log2 h0).mpr h1;simp[Builtin.Int.intBits,h0];omega
theorem Nw{x m:Nat}(hx:x<2^m):Builtin.Int.intBits (x:Int)<=m:=by
 by_cases h0:x=0
 ·subst h0;simp[Builtin.Int.intBits]
 ·have h2:=(gp h0).mpr hx
  simp[Builtin.Int.intBits,h0];omega
theorem Bq(m:Nat):rng 0 m=(List.range m).map λk:Nat=>D.int k:=by
 unfold rng;simp
theorem K1(x:Nat)(hx:x<2^12)(h:MH):ir [.int x] h=.ok (.lst ((d9 x).map λk:Nat=>D.int k)) h:=by
 have hl:=Nw hx;have comp:compLoop (aD 0) (b8 (aY gT (ag (aa 1) (ag (aa 0) af)))) (aa 0) [none,some (.int x)] (rng 0 (Builtin.Int.intBits (x:Int))) h=.ok ((d9 x).map λk:Nat=>D.int k) h:=by
  rw[Bq];exact F5 (g:=aD 0) (t:=b8 (aY gT (ag (aa 1) (ag (aa 0) af)))) (m:=aa 0) (ρ0:=[none,some (.int x)]) (h:=h) (λk:Nat=>D.int k) (λk=>[some (.int k),some (.int x)]) (λk=>x.testBit k) (λk:Nat=>D.int k) (List.range (Builtin.Int.intBits (x:Int))) λk _=>by
   have:=sr x k h;refine⟨by simp,?_,by simp⟩;simp[this]
 simp[-List.map_map,ir,rK,comp,show Builtin.Int.intBits (x:Int)<4611686018427387904 by omega,show Builtin.Int.intBits (x:Int)<16777216 by omega]
noncomputable def gone(gv:List (Nat×Nat×Nat))(v:Nat):List (Nat×Nat×Nat):=gv.filter λg=>decide (g.1≠v)
noncomputable def sW(gv:List (Nat×Nat×Nat))(v:Int):Bool:=gv.any λg=>decide ((g.1:Int)=v)
theorem L6(gv:List (Nat×Nat×Nat))(v:Int):(dA (lF gv) (.inl v)).isSome=sW gv v:=by
 induction gv with
 | nil=>rfl
 | cons g gv ih=>
  unfold sW dA lF at*;simp only[List.map_cons,zm,wl];by_cases q:(g.1:Int)=v
  ·simp[q]
  ·have:¬((Sum.inl (g.1:Int):Sum Int Str)=.inl v):=λz=>q (Sum.inl.inj z)
   simp only[this,q,decide_false,Bool.false_or];exact ih
theorem O2(A:At h p r b)(v:Int)(hv:sW b.gv v=false):jZ [.ref p,.int v] h=.exc "NoPermit" h:=by
 have o:h[p]?=some (some (.ins "Board" (b.f r))):=A.o;have g:=A.g;have e:dA (lF b.gv) (.inl v)=none:=Option.not_isSome_iff_eq_none.mp (by rw[L6,hv];simp);simp[jZ,ua,o,g,e]
theorem bS(e:a ρ h=.nx ρ' h'):aq a b ρ h=b ρ' h':=by simp only[aq,e]
theorem vp(e:a ρ h=.rt d h'):aq a b ρ h=.rt d h':=by simp only[aq,e]
theorem iC(hl:ds.length=np)(e:b (ds.map some++List.replicate (nn - ds.length) none) h=.rt d h')(hn:h'.length<=h.length):aH np nn b ds h=.ok d h':=by
 unfold aH;rw[if_pos hl,e];show fin h.length d h'=_;unfold fin;rw[if_pos hn]
@[simp] theorem QT:(Str.ofString "board"==Str.ofString "yard")=false:=by decide+kernel
@[simp] theorem Qs:¬(Str.ofString "yard"=Str.ofString "board"):=by decide+kernel
noncomputable def eV(y b:D):List (Str×D):=[(Str.ofString "yard",y),(Str.ofString "board",b)]
noncomputable def bo(y b:D):Option Cell:=some (.ins "Desk" (eV y b))
@[simp] theorem DM:"Desk"∈da:=by decide
@[simp] theorem zU:"Desk"∈eA:=by decide
@[simp] theorem DR(y b:D):(eV y b).lookup ("yard":Str)=some y:=by simp[eV,List.lookup]
@[simp] theorem zL(y b:D):(eV y b).lookup ("board":Str)=some b:=by simp[eV,List.lookup]
@[simp] theorem DE(y b y':D):bD ("yard":Str) y' (eV y b)=eV y' b:=by simp[eV,bD]
@[simp] theorem zG(y b b':D):bD ("board":Str) b' (eV y b)=eV y b':=by simp[eV,bD]
@[simp] theorem En(y b:D):(eV y b).length=2:=rfl
theorem Cy(y b:D)(h:([Str.ofString "yard",Str.ofString "board"]).contains m=false):(eV y b).lookup m=none:=by
 simp only[List.contains_cons,List.contains_nil,Bool.or_false,Bool.or_eq_false_iff]at h;simp only[eV,List.lookup,h.1,h.2]
theorem pX(o:h[d]?=some (bo y b))(et:tab.lookup "Desk"=some z)(hf:([Str.ofString "yard",Str.ofString "board"]).contains f=false)(em:m ρ h=.ok (.ref d) h)(el:l ρ h=.ok ds h):aQ tab f m l ρ h=z (.ref d::ds) h:=by
 unfold bo at o;simp[em,el,o,et,Cy y b hf]
structure Dk (h:MH) (d p r:Nat) (b:Bd):Prop where
 o:h[d]?=some (bo (yd b.n b.sws) (.ref p))
 a:At h p r b
theorem KW(ok:c_ n sws)(hb:Hb h)(o:h[d]?=some (bo y b))(hy:∀m,h.length<=m->b.bnd m=true):fN [.ref d,yd n sws] h=.ok (.str "ok") (((h.set d (bo (yd n sws) b))++[(Bd.new n sws).cell (h.length+2),none,some (.dct [])]).set d (bo (yd n sws) (.ref h.length))):=by
 have ld:d<h.length:=(qb.mp o).1;have hl:(h.set d (bo (yd n sws) b)).length=h.length:=zt;have hb1:Hb (h.set d (bo (yd n sws) b)):=hb.set λm hm=>by
  have h1:=uV n sws m;have h2:=hy m hm;simp[bo,eV,Cell.bnd,h1,h2,D.bnds,D.bndf]
 have mk:=Pj ok (m:=aa 1) (ρ:=[some (.ref d),some (yd n sws)]) (h0:=h.set d (bo (yd n sws) b)) hb1 (by simp);rw[hl]at mk;have o1:((h.set d (bo (yd n sws) b))++[(Bd.new n sws).cell (h.length+2),none,some (.dct [])])[d]?=some (bo (yd n sws) b):=by
  rw[z8 (by rw[hl];exact ld),qq ld]
 have key:kP [some (.ref d),some (yd n sws)] h=.rt (.str "ok") (((h.set d (bo (yd n sws) b))++[(Bd.new n sws).cell (h.length+2),none,some (.dct [])]).set d (bo (yd n sws) (.ref h.length))):=by
  unfold kP;refine(bS (ρ':=[some (.ref d),some (yd n sws)]) (h':=h.set d (bo (yd n sws) b)) (by
   unfold bo at o ⊢;simp[o])).trans ?_
  refine(bS (ρ':=[some (.ref d),some (yd n sws)]) (h':=((h.set d (bo (yd n sws) b))++[(Bd.new n sws).cell (h.length+2),none,some (.dct [])]).set d (bo (yd n sws) (.ref h.length))) (by
   generalize((h.set d (bo (yd n sws) b))++[(Bd.new n sws).cell (h.length+2),none,some (.dct [])])=H1 at*;generalize h.set d (bo (yd n sws) b)=H0 at*;unfold bo at o1 ⊢;unfold eI;rw[mk];simp[o1])).trans ?_
  simp
 unfold fN aH;rw[if_pos (show[D.ref d,yd n sws].length=2 from rfl)];have k2:kP ([D.ref d,yd n sws].map some++List.replicate (2 - [D.ref d,yd n sws].length) none) h=_:=key;rw[k2];show fin _ _ _=_;unfold fin;have l3:(((h.set d (bo (yd n sws) b))++[(Bd.new n sws).cell (h.length+2),none,some (Cell.dct [])]).set d (bo (yd n sws) (.ref h.length))).length=h.length+3:=by simp
 rw[if_neg (by omega),if_neg];intro z;have z2:=(wp.mp z).2;rw[List.all_eq_true]at z2;have:=z2 (bo (yd n sws) (.ref h.length)) (by
  refine qt (i:=d) ?_;rw[ww ld,qq (by simp;omega)])
 simp[bo,eV,Cell.bnd,D.bnd,D.bnds,D.bndf]at this
theorem Dl(o:H[d]?=some (bo y (.ref p)))(hd:d<n)(hp:n<=p):fin n x H=.ok x H:=by
 unfold fin;by_cases z:H.length<=n
 ·rw[if_pos z]
 ·rw[if_neg z,if_neg]
  intro q;have z2:=(wp.mp q).2;rw[List.all_eq_true]at z2;have:=z2 (bo y (.ref p)) (by
   refine qt (i:=d) ?_;rw[ww hd];exact o)
  simp[bo,eV,Cell.bnd,D.bnd,D.bnds,D.bndf]at this;omega
noncomputable def eL(h:MH)(d n:Nat)(sws:List Sw)(b:D):MH:=((h.set d (bo (yd n sws) b))++[(Bd.new n sws).cell (h.length+2),none,some (.dct [])]).set d (bo (yd n sws) (.ref h.length))
theorem DI(ld:d<h.length):(eL h d n sws b)[d]?=some (bo (yd n sws) (.ref h.length)):=by
 unfold eL;rw[qq (by simp;omega)]
theorem Ge(ok:c_ n sws)(hb:Hb h)(ld:d<h.length)(hy:∀m,h.length<=m->b.bnd m=true):Dk (eL h d n sws b) d h.length (h.length+2) (Bd.new n sws):=by
 have hb1:Hb (h.set d (bo (yd n sws) b)):=hb.set λm hm=>by
  have h1:=uV n sws m;have h2:=hy m hm;simp[bo,eV,Cell.bnd,h1,h2,D.bnds,D.bndf]
 have A:=pO ok hb1;have hl:(h.set d (bo (yd n sws) b)).length=h.length:=zt;rw[hl]at A;refine⟨DI ld,?_,?_,?_,ok⟩
 ·unfold eL
  rw[qm (by omega)];exact A.o
 ·unfold eL
  rw[qm (by omega)];exact A.g
 ·unfold eL
  refine A.hb.set λm hm=> ?_;have h1:=uV n sws m;simp at hm;simp[bo,eV,Cell.bnd,h1,D.bnds,D.bndf,D.bnd];omega
theorem tO(e:Txt.split row ⟨#[32]⟩=k::ws)(lr:row.length<=16777216)(lw:ws.length<=100)(d:Nat)(B:MS)(h:MH):aq (aA (aZ (u4 (aa 1) (ag (mC (.str " ")) af))) (aD 2)) (aq (aA (ae aS (aa 2) (mC (.int 0))) (aD 3)) B) [some (.ref d),some (.str row),none,none,none] h=B [some (.ref d),some (.str row),some (.lst ((k::ws).map D.str)),some (.str k),none] h:=by
 have l1:(" ":Str).length≠0:=by decide+kernel
 have l2:(Txt.split row ⟨#[32]⟩).length<=16777216:=by rw[e];simp;omega
 refine(bS (ρ':=[some (.ref d),some (.str row),some (.lst ((k::ws).map D.str)),none,none]) (h':=h) (by
  rw[<-j8]at e l2;have l3:ws.length<=16777215:=by omega
  simp[-List.map_cons,l1,lr,l3,e])).trans ?_
 exact bS (by simp)
theorem OY{n:Nat}(h1:1<=n)(h2:n<=10)(hb:Hb h)(o:h[d]?=some (bo y b))(hy:∀m,h.length<=m->b.bnd m=true):aT [.ref d,.str (cA n)] h=.ok (.str "ok") (eL h d n [] b):=by
 have ld:d<h.length:=(qb.mp o).1;have ok:c_ n []:=⟨h1,h2,by simp,λs m=>(nomatch m)⟩;obtain⟨f1,_,f3⟩:=AO (k:="bars") (bs:=[(n:Int)]) jG.1 jG.2.1 jG.2.2 (by simp;omega) (by simp);have hd:=tO (row:=cA n) (k:="bars") (ws:=[(n:Int)].map W) f3 (by have:(cA n).length<=20:=f1;omega) (by simp) d;have ci:=Lq n h (by omega) (by omega);have bg:fN [.ref d,.tup [.int (n:Int),.lst []]] h=.ok (.str "ok") (eL h d n [] b):=KW ok hb o hy;have key:cu [some (.ref d),some (.str (cA n)),none,none,none] h=.rt (.str "ok") (eL h d n [] b):=by
  unfold cu;rw[hd];refine vp ?_;have mm:=pX o (tab:=sV) (f:="begin") (z:=fN) (m:=aa 0) (l:=ag (dJ (ag (aY gq (ag (aa 1) af)) (ag (aZ (bO af)) af))) af) (ρ:=[some (.ref d),some (.str (cA n)),some (.lst ((Str.ofString "bars"::[(n:Int)].map W).map D.str)),some (.str ("bars":Str)),none]) (ds:=[.tup [.int (n:Int),.lst []]]) rfl (by decide+kernel) (by simp) (by simp[ci]);have mm:=mm.trans bg;generalize eL h d n [] b=H at*;simp only[aX,tB,ae,aa,mC,wg,zz,gE,bH,decide_true,mX,if_true,aw,mm]
 unfold aT aH;rw[if_pos (show[D.ref d,D.str (cA n)].length=2 from rfl)];have k2:cu ([D.ref d,D.str (cA n)].map some++List.replicate (5 - [D.ref d,D.str (cA n)].length) none) h=_:=key;rw[k2];exact Dl (DI ld) ld (qi _)
noncomputable def Sw.t:Sw->Str×List Int
 | .feed a=>("feed",[(a:Int)])|.earth a=>("earth",[(a:Int)])|.breaker a b=>("breaker",[(a:Int),(b:Int)])|.splitter a b=>("splitter",[(a:Int),(b:Int)])
theorem xa(s:Sw):sd s.t=s.d:=by cases s<;>rfl
theorem qM{s:Sw}(ok:s.ok n):SwOk n s.t:=by
 cases s with
 | feed a=>exact .inl ⟨a,by omega,by have:a<n:=ok;omega,.inl rfl⟩
 | earth a=>exact .inl ⟨a,by omega,by have:a<n:=ok;omega,.inr rfl⟩
 | breaker a b=>obtain⟨h1,h2,h3⟩:=ok;exact .inr ⟨a,b,by omega,by omega,by omega,by omega,by omega,.inl rfl⟩
 | splitter a b=>obtain⟨h1,h2,h3⟩:=ok;exact .inr ⟨a,b,by omega,by omega,by omega,by omega,by omega,.inr rfl⟩
noncomputable def aL(s:Sw):Str:=bh s.t
theorem Ce:¬(Str.ofString "feed"=Str.ofString "bars")/\¬(Str.ofString "earth"=Str.ofString "bars")/\¬(Str.ofString "breaker"=Str.ofString "bars")/\¬(Str.ofString "splitter"=Str.ofString "bars"):=by decide+kernel
theorem Em(hn:n<=10)(ok:s.ok n):(aL s).length<=20/\Txt.split (aL s) ⟨#[32]⟩=s.t.1::s.t.2.map W/\s.t.2.length<=2:=by
 obtain⟨b1,b2,b3,b4,b5,b6⟩:=(qM ok).bars;obtain⟨f1,_,f3⟩:=AO (k:=s.t.1) (bs:=s.t.2) b4 b5 b6 (λb m=>by have:=b1 b m;omega) b2;exact⟨f1,f3,b2⟩
theorem C_(o:h[d]?=some (bo y (.ref p)))(hy:mG y=false)(hk:¬k=Str.ofString "bars")(x1 x2 x4:Option D)(A B:MS):aq (aX (tB (ae bH (aa 3) (mC (.str "bars")))) A bx) (aq (aX (tB (ae uK (aG da "yard" (aa 0)) (mC .non))) (dt "NoRow" (mC (.str "there is no yard yet"))) bx) B) [some (.ref d),x1,x2,some (.str k),x4] h=B [some (.ref d),x1,x2,some (.str k),x4] h:=by
 refine(bS (ρ':=[some (.ref d),x1,x2,some (.str k),x4]) (h':=h) (by simp[hk])).trans ?_;have e1:aG da "yard" (aa 0) [some (.ref d),x1,x2,some (.str k),x4] h=.ok y h:=by
  unfold bo at o;simp[o]
 have e2:uK y .non h=.ok (.bl false) h:=by
  have:uK y .non h=.ok (.bl (mG y)) h:=by cases y<;>rfl
  rw[this,hy]
 refine bS ?_;simp only[aX,tB,ae,e1,mC,gE,e2,mX,zn,if_false,bx]
theorem Qp(s:Sw)(h:MH):eX false (.str s.t.1) (.tup [.str "feed",.str "earth",.str "breaker",.str "splitter"]) h=.ok (.bl true) h:=by
 cases s<;>simp[Sw.t,jj]
theorem HQ(D0:Dk h d p r b)(ok:c_ b.n b.sws)(hs:s.ok b.n)(hl:b.sws.length<12):aT [.ref d,.str (aL s)] h=.ok (.str "ok") (eL h d b.n (b.sws++[s]) (.ref p)):=by
 have ld:d<h.length:=(qb.mp D0.o).1;have lp:p<h.length:=D0.a.lt';have hn:=ok.2.1;obtain⟨f1,f2,f3⟩:=Em hn hs;have hd:=tO (row:=aL s) f2 (by omega) (by simp;omega) d;have si:=Mv s.t b.n b.sws.length h (by have:=ok.1;omega) (by omega) (qM hs) hl;rw[xa]at si;have ok2:c_ b.n (b.sws++[s]):=⟨ok.1,hn,by simp;omega,λw m=>by
  rcases zb.mp m with m|m
  ·exact ok.2.2.2 w m
  ·rw[zf.mp m];exact hs⟩
 have bg:fN [.ref d,.tup [.int (b.n:Int),.lst (b.sws.map Sw.d++[s.d])]] h=.ok (.str "ok") (eL h d b.n (b.sws++[s]) (.ref p)):=by
  have this:fN [.ref d,yd b.n (b.sws++[s])] h=.ok (.str "ok") (eL h d b.n (b.sws++[s]) (.ref p)):=KW ok2 D0.a.hb D0.o (λm hm=>by simp[D.bnd];omega);have e:yd b.n (b.sws++[s])=.tup [.int (b.n:Int),.lst (b.sws.map Sw.d++[s.d])]:=by
   unfold yd;rw[List.map_append];rfl
  rw[e]at this;exact this
 have kn:¬s.t.1=Str.ofString "bars":=by
  obtain⟨a,b,c,e⟩:=Ce;cases s<;>assumption
 have o:=D0.o;have i0:∀h,aS (yd b.n b.sws) (.int 0) h=.ok (.int (b.n:Nat)) h:=λh=>rfl;have i1:∀h,aS (yd b.n b.sws) (.int 1) h=.ok (.lst (b.sws.map Sw.d)) h:=λh=>rfl;have ad:ib [.ref d,.str (aL s)] h=.ok (.str "ok") (eL h d b.n (b.sws++[s]) (.ref p)):=by
  have key:f_ [some (.ref d),some (.str (aL s)),none,none] h=.rt (.str "ok") (eL h d b.n (b.sws++[s]) (.ref p)):=by
   have fy:∀x1 x2 x3,aG da "yard" (aa 0) [some (.ref d),x1,x2,x3] h=.ok (yd b.n b.sws) h:=λx1 x2 x3=>by
    unfold bo at o;simp[o]
   unfold f_;refine(bS (ρ':=[some (.ref d),some (.str (aL s)),some (.int (b.n:Nat)),none]) (h':=h) (by simp[-aS, -aG,fy,i0])).trans ?_;refine(bS (ρ':=[some (.ref d),some (.str (aL s)),some (.int (b.n:Nat)),some (.lst (b.sws.map Sw.d))]) (h':=h) (by simp[-aS, -aG, -List.map_map,fy,i1])).trans ?_;have ll:(b.sws.map Sw.d).length=b.sws.length:=qd ..;have mm:=pX o (tab:=sV) (f:="begin") (z:=fN) (m:=aa 0) (l:=ag (dJ (ag (aa 2) (ag (ae au (aa 3) (aZ (bO (ag (aY dM (ag (aa 1) (ag (aa 2) (ag (bz b9 (ag (aa 3) af)) af)))) af)))) af))) af) (ρ:=[some (.ref d),some (.str (aL s)),some (.int (b.n:Nat)),some (.lst (b.sws.map Sw.d))]) (ds:=[.tup [.int (b.n:Int),.lst (b.sws.map Sw.d++[s.d])]]) rfl (by decide+kernel) (by simp) (by
    have l2:b.sws.length<=16777215:=by omega
    have si:dM [.str (aL s),.int (b.n:Int),.int (b.sws.length:Int)] h=.ok s.d h:=si;generalize b.sws.map Sw.d=T at*;generalize aL s=R at*;generalize s.d=S at*;simp[ll,si,l2])
   have mm:=mm.trans bg;generalize eL h d b.n (b.sws++[s]) (.ref p)=H at*;simp only[aw,mm,mX]
  unfold ib aH;rw[if_pos (show[D.ref d,D.str (aL s)].length=2 from rfl)];have k2:f_ ([D.ref d,D.str (aL s)].map some++List.replicate (4 - [D.ref d,D.str (aL s)].length) none) h=_:=key;rw[k2];exact Dl (DI ld) ld (qi _)
 have key:cu [some (.ref d),some (.str (aL s)),none,none,none] h=.rt (.str "ok") (eL h d b.n (b.sws++[s]) (.ref p)):=by
  unfold cu;rw[hd,C_ o rfl kn];refine vp ?_;have mm:=pX o (tab:=yO) (f:="add_switch") (z:=ib) (m:=aa 0) (l:=ag (aa 1) af) (ρ:=[some (.ref d),some (.str (aL s)),some (.lst ((s.t.1::s.t.2.map W).map D.str)),some (.str s.t.1),none]) (ds:=[.str (aL s)]) rfl (by decide+kernel) (by simp) (by simp);have mm:=mm.trans ad;have i4:=Qp s h;generalize eL h d b.n (b.sws++[s]) (.ref p)=H at*;generalize s.t.1=K at*;have t4:dJ (ag (mC (.str "feed")) (ag (mC (.str "earth")) (ag (mC (.str "breaker")) (ag (mC (.str "splitter")) af)))) [some (.ref d),some (.str (aL s)),some (.lst ((K::s.t.2.map W).map D.str)),some (.str K),none] h=.ok (.tup [.str "feed",.str "earth",.str "breaker",.str "splitter"]) h:=by simp
  simp only[aX,tB,ae,aa,wg,zz,gE,t4,i4,mX,if_true,aw,mm]
 unfold aT aH;rw[if_pos (show[D.ref d,D.str (aL s)].length=2 from rfl)];have k2:cu ([D.ref d,D.str (aL s)].map some++List.replicate (5 - [D.ref d,D.str (aL s)].length) none) h=_:=key;rw[k2];exact Dl (DI ld) ld (qi _)
structure One (k:Str):Prop where
 sp:Txt.split k ⟨#[32]⟩=[k]
 ln:k.length<=10
 b:¬k=Str.ofString "bars"
 a1:¬Str.ofString "feed"=k
 a2:¬Str.ofString "earth"=k
 a3:¬Str.ofString "breaker"=k
 a4:¬Str.ofString "splitter"=k
 a5:¬Str.ofString "turn"=k
 a6:¬Str.ofString "lock"=k
 a7:¬Str.ofString "unlock"=k
 a8:¬Str.ofString "back"=k
 c1:¬k=Str.ofString "permit"
 c2:¬k=Str.ofString "locks"
 c3:¬k=Str.ofString "reach"
theorem MY:One ("show":Str):=⟨by decide+kernel,by decide+kernel,by decide+kernel,by decide+kernel,by decide+kernel,by decide+kernel,by decide+kernel,by decide+kernel,by decide+kernel,by decide+kernel,by decide+kernel,by decide+kernel,by decide+kernel,by decide+kernel⟩
theorem Nz:One ("shut":Str):=⟨by decide+kernel,by decide+kernel,by decide+kernel,by decide+kernel,by decide+kernel,by decide+kernel,by decide+kernel,by decide+kernel,by decide+kernel,by decide+kernel,by decide+kernel,by decide+kernel,by decide+kernel,by decide+kernel⟩
theorem OK:One ("locked":Str):=⟨by decide+kernel,by decide+kernel,by decide+kernel,by decide+kernel,by decide+kernel,by decide+kernel,by decide+kernel,by decide+kernel,by decide+kernel,by decide+kernel,by decide+kernel,by decide+kernel,by decide+kernel,by decide+kernel⟩
theorem Es(u:One k)(o:h[d]?=some (bo y (.ref p)))(hy:mG y=false)(et:iS [.ref d,.str k] h=.ok x h):aT [.ref d,.str k] h=.ok x h:=by
 have hd:=tO (row:=k) (ws:=[]) u.sp (by have:=u.ln;omega) (by simp) d;have mm:=pX o (tab:=Bp) (f:="tell") (z:=iS) (m:=aa 0) (l:=ag (aa 3) af) (ρ:=[some (.ref d),some (.str k),some (.lst ([k].map D.str)),some (.str k),none]) (ds:=[.str k]) rfl (by decide+kernel) (by simp) (by simp);have mm:=mm.trans et;obtain⟨_,_,b,a1,a2,a3,a4,a5,a6,a7,a8,c1,c2,c3⟩:=u;have key:cu [some (.ref d),some (.str k),none,none,none] h=.rt x h:=by
  unfold cu;rw[hd,C_ o hy b];refine(bS (ρ':=[some (.ref d),some (.str k),some (.lst ([k].map D.str)),some (.str k),none]) (h':=h) (by simp[jj,a1,a2,a3,a4])).trans ?_;refine(bS (ρ':=[some (.ref d),some (.str k),some (.lst ([k].map D.str)),some (.str k),none]) (h':=h) (by simp[jj,a5,a6,a7,a8])).trans ?_;refine(bS (ρ':=[some (.ref d),some (.str k),some (.lst ([k].map D.str)),some (.str k),none]) (h':=h) (by simp[c1])).trans ?_;refine(bS (ρ':=[some (.ref d),some (.str k),some (.lst ([k].map D.str)),some (.str k),none]) (h':=h) (by simp[c2])).trans ?_;refine(bS (ρ':=[some (.ref d),some (.str k),some (.lst ([k].map D.str)),some (.str k),none]) (h':=h) (by simp[c3])).trans ?_;refine(bS (ρ':=[some (.ref d),some (.str k),some (.lst ([k].map D.str)),some (.str k),none]) (h':=h) (by simp)).trans ?_;simp only[aw,mm,mX]
 exact iC (np:=2) (nn:=5) (b:=cu) (ds:=[.ref d,.str k]) rfl key (qi _)
theorem Qa:¬(Str.ofString "shut"=Str.ofString "live")/\¬(Str.ofString "shut"=Str.ofString "earthed")/\¬(Str.ofString "shut"=Str.ofString "locked")/\¬(Str.ofString "show"=Str.ofString "live")/\¬(Str.ofString "show"=Str.ofString "earthed")/\¬(Str.ofString "show"=Str.ofString "locked")/\¬(Str.ofString "show"=Str.ofString "shut"):=by decide+kernel
theorem Hi(n:Nat)(sws:List Sw):yd n sws=Dt n (sws.map Sw.t):=by
 unfold yd Dt;have e:sd∘Sw.t=Sw.d:=funext xa;rw[List.map_map,e]
theorem Au(ok:c_ n sws):KJ n (sws.map Sw.t):=by
 refine⟨by have:=ok.1;omega,by have:=ok.2.1;omega,by rw[qd];exact ok.2.2.1,λs m=> ?_⟩;obtain⟨w,mw,rfl⟩:=qy.mp m;exact qM (ok.2.2.2 w mw)
noncomputable def fV(n:Nat)(sws:List Sw):Str:=vd n (sws.map Sw.t)
theorem O6(D0:Dk h d p r b)(ok:c_ b.n b.sws):aT [.ref d,.str "show"] h=.ok (.str (fV b.n b.sws)) h:=by
 refine Es MY D0.o rfl ?_;have es:=N1 (Au ok) h;rw[<-Hi]at es;have o:=D0.o;obtain⟨_,_,_,s4,s5,s6,s7⟩:=Qa;have fy:aG da "yard" (aa 0) [some (.ref d),some (.str ("show":Str))] h=.ok (yd b.n b.sws) h:=by
  unfold bo at o;simp[o]
 refine iC (np:=2) (nn:=2) (b:=dF) (ds:=[.ref d,.str "show"]) rfl ?_ (qi _);show dF [some (.ref d),some (.str ("show":Str))] h=.rt (.str (vd b.n (b.sws.map Sw.t))) h;generalize yd b.n b.sws=Y at*;generalize vd b.n (b.sws.map Sw.t)=T at*;simp[-aG,dF,s4,s5,s6,s7,fy,es]
noncomputable def dB:MS:=aA (ae aF (ae au (ae df (aa 3) (ae au (ae df (mC (.int 2)) (aa 1)) (mC (.int 1013)))) (aa 4)) (mC (.int 999999000001))) (aD 3)
theorem Hz(a b c:Option D)(k:Nat)(hk:k<=100)(hb:b=some (.int k))(h:MH):∀(cs:List Int) (f:Int) (x:Option D),0<=f->f<999999000001->
  ∃f' x',0<=f'/\f'<999999000001/\dS (aD 4) dB (cs.map D.int) [a,b,c,some (.int f),x] h=.nx [a,b,c,some (.int f'),x'] h
 | [],f,x,h0,h1=>⟨f,x,h0,h1,rfl⟩
 | n::cs,f,x,h0,h1=>by
  subst hb;obtain⟨f',x',g0,g1,e⟩:=Hz a (some (.int k)) c k hk rfl h cs ((f*(2*(k:Int)+1013)+n) % 999999000001) (some (.int n)) (w4 _ (by omega)) (zv _ (by omega));refine⟨f',x',g0,g1,?_⟩;rw[List.map_cons];unfold dS;have o1:kT 2 (k:Int):=.inl (by decide);have o2:kT f (2*(k:Int)+1013):=.inl (by omega);have eb:dB [a,some (.int k),c,some (.int f),some (.int n)] h=.nx [a,some (.int k),c,some (.int ((f*(2*(k:Int)+1013)+n) % 999999000001)),some (.int n)] h:=by simp[dB,o1,o2]
  simp[eb,e]
theorem wH(ns:List Int)(k:Nat)(hk:k<=100)(h:MH):∃x:Nat,du [.arg ns,.int k] h=.ok (.int x) h:=by
 have o0:kT 31 (k:Int):=.inl (by decide);obtain⟨f,x',g0,g1,e⟩:=Hz (some (.arg ns)) (some (.int k)) (some (.int (1+(ns.length:Int) / 8))) k hk rfl h (vz ns (some ((k:Int) % (1+(ns.length:Int) / 8))) none (1+(ns.length:Int) / 8)) (31*(k:Int)+5) none (by omega) (by omega);have o1:kT 3 (k:Int):=.inl (by decide);have o2:∀y,kT f y:=λy=>.inl (by omega);have hs:0<1+(ns.length:Int) / 8:=by omega
 refine⟨(f*(f / 7 % 99991+3*(k:Int)+1) % 999999000001).toNat,?_⟩;have hz:0<=f*(f / 7 % 99991+3*(k:Int)+1) % 999999000001:=w4 _ (by omega);rw[g6 hz];have eb:qT=(aq (aA (ae au (mC (.int 1)) (ae bf (bz b9 (ag (aa 0) af)) (mC (.int 8)))) (aD 2))
   (aq (aA (ae au (ae df (mC (.int 31)) (aa 1)) (mC (.int 5))) (aD 3))
   (aq (dO (dH (jR (aa 0) (b_ (ae aF (aa 1) (aa 2))) cz (b_ (aa 2)))) (aD 4) dB)
   (aw (ae aF (ae df (aa 3) (ae au (ae au (ae aF (ae bf (aa 3) (mC (.int 7))) (mC (.int 99991))) (ae df (mC (.int 3)) (aa 1))) (mC (.int 1)))) (mC (.int 999999000001))))))):=rfl
 simp[du,eb,hs,e,o0,o1,o2]
theorem jv{x:Int}(h:0<=x):∃a:Nat,x=a:=⟨x.toNat,(g6 h).symm⟩
theorem Nv{x y n:Int}(hx:0<=x)(hx2:x<n)(hy:0<=y)(hy2:y<n - 1):(x+1+y) % n≠x:=by
 intro e;by_cases z:x+1+y<n
 ·rw[Int.emod_eq_of_lt (by omega) z]at e;omega
 ·have:(x+1+y) % n=x+1+y - n:=by rw[<-Int.sub_emod_right,Int.emod_eq_of_lt (by omega) (by omega)]
  omega
theorem PR(h:di w=true):32∉w.cps.toList:=λm=>by
 unfold di at h;simp only[qu]at h;have:=List.all_eq_true.mp h.2 32 m;simp[je]at this
theorem jO(h:di w=true):1<=w.length/\w.length<=9/\10∉w.cps.toList/\32∉w.cps.toList:=by
 refine⟨?_,?_,?_,PR h⟩
 ·unfold di at h
  simp only[qu,decide_eq_true_eq]at h;exact h.1.1.1
 ·unfold di at h
  simp only[qu,decide_eq_true_eq]at h;exact h.1.1.2
 ·intro m
  unfold di at h;simp only[qu]at h;have:=List.all_eq_true.mp h.2 10 m;simp[je]at this
theorem Jz:∀(cs:List Nat) (v:Nat),(∀c∈cs,48<=c/\c<=57)->cs.foldl (λacc c=>acc*10+(c - 48)) v<(v+1)*10^cs.length
 | [],v,_=>by simp
 | c::cs,v,h=>by
  have ih:=Jz cs (v*10+(c - 48)) λd m=>h d (qg _ m);have hc:=h c (qj ..);rw[List.foldl_cons,z7,Nat.pow_succ];refine qf ih ?_;rw[show(v+1)*(10^cs.length*10)=((v+1)*10)*10^cs.length by rw[Nat.mul_comm (10^cs.length) 10,Nat.mul_assoc]];exact Nat.mul_le_mul_right _ (by omega)
theorem gu(h0:0<=n)(h1:n<1000000000):di (ar n)=true/\cJ (ar n)=n:=by
 have hr:=W.KIN.num_reads (n:=n) h0 (by omega);have hl:=PyProof.Rows.toString_length_le h0 (k:=9) (by decide) (by omega);obtain⟨m,rfl⟩:=Int.eq_ofNat_of_zero_le h0;have hsg:=W.KIN.signs_num m;have hL:∀k,0<k->(m:Int)<10^k->(ar (m:Int)).length<=k:=λk hk h=>PyProof.Rows.toString_length_le h0 hk h;have hd:PySem.NumText.AllDigits (ar (m:Int)).cps.toList:=by
  intro c hc;unfold ar at hc;rw[hsg]at hc;obtain⟨ch,hch,e⟩:=qy.mp hc;have r:=Nat.isDigit_of_mem_toDigits (b:=10) (by decide) (by decide) hch;simp only[Char.isDigit,qu,decide_eq_true_eq]at r;have r1:48<=ch.toNat:=r.1;have r2:ch.toNat<=57:=r.2;omega
 have hne:(ar (m:Int)).cps.toList≠[]:=by
  unfold ar;rw[hsg];intro z;exact Nat.toDigits_ne_nil (g7.mp z)
 have hll:(ar (m:Int)).cps.toList.length=(ar (m:Int)).length:=by simp[Str.length]
 have hv:=intText_digits hd hne (by unfold ar;omega);have hval:m=PySem.NumText.digitsVal (ar (m:Int)).cps.toList:=by
  unfold ar at hv;rw[hr]at hv;injection hv with hv;exact Int.ofNat.inj hv
 refine⟨?_,?_⟩
 ·unfold di
  have a1:1<=(ar (m:Int)).length:=by
   rw[<-hll];exact List.length_pos_iff.mpr hne
  have a2:(ar (m:Int)).length<=9:=hl;have a3:(ar (m:Int)).cps.toList.all je=true:=List.all_eq_true.mpr λc hc=>by
   have:=hd c hc;unfold je;exact decide_eq_true this
  rw[decide_eq_true a1,decide_eq_true a2,a3];simp only[km,gg,gf,Bool.and_eq_false_iff,decide_eq_false_iff_not];apply Decidable.byContradiction;intro q;have q1:(ar (m:Int)).cps.toList[0]?=some 48:=Decidable.byContradiction λz=>q (.inl z);have q2:1<(ar (m:Int)).length:=Decidable.byContradiction λz=>q (.inr z);cases e:(ar (m:Int)).cps.toList with
  | nil=>exact hne e
  | cons c r=>
   rw[e]at q1 hval hll hd;have:c=48:=by simpa using q1
   subst this;have hb:=Jz r 0 λd md=>hd d (qg _ md);have hv2:m=r.foldl (λacc c=>acc*10+(c - 48)) 0:=by rw[hval];rfl
   rw[<-hv2]at hb;simp only[z7]at hll;have:=hL r.length (by omega) (by
    have h3:m<10^r.length:=by simpa using hb
    have h4:((10^r.length:Nat):Int)=10^r.length:=by simp
    omega)
   omega
 ·unfold cJ ar
  rw[hr];rfl
theorem zQ(hk:k.length<=8)(k32:32∉k.cps.toList)(hb:∀b∈bs,0<=b/\b<1000000000)(hl:bs.length<=12):(bh (k,bs)).length<=200/\Txt.split (bh (k,bs)) ⟨#[32]⟩=k::bs.map W:=by
 have hw:∀p∈k::bs.map W,32∉p.cps.toList/\p.length<=9:=by
  intro p hp;rcases qr.mp hp with rfl|hp
  ·exact⟨k32,by omega⟩
  ·obtain⟨b,hb',rfl⟩:=qy.mp hp
   have:=jO (gu (hb b hb').1 (hb b hb').2).1;exact⟨this.2.2.2,this.2.1⟩
 refine⟨?_,GU (λz=>nomatch z) λp hp=>(hw p hp).1⟩;have:=uz (c:=32) (k::bs.map W) (λz=>nomatch z);show(Str.join ⟨#[32]⟩ (k::bs.map W)).length<=200;have h2:=p_ (l:=(k::bs.map W).map (·.length)) (m:=9) (by
  intro x hx;obtain⟨y,hy,rfl⟩:=qy.mp hx;exact(hw y hy).2)
 simp only[qd,z7]at this h2;omega
theorem GX:∀(N:Nat) (l:List Nat),l.Nodup->(∀x∈l,x<N)->l.length<=N
 | 0,[],_,_=>qi _
 | 0,x::l,_,h=>absurd (h x (qj ..)) (Nat.not_lt_zero _)
 | N+1,l,nd,h=>by
  by_cases m:N∈l
  ·have h1:=GX N (l.erase N) (nd.erase N) λx hx=>by
    have:=nd.mem_erase_iff.mp hx;have:=h x this.2;omega
   have h2:=List.length_erase_of_mem m;omega
  ·have:=GX N l nd λx hx=>by
    have:=h x hx;have:x≠N:=λz=>m (z▸hx);omega
   omega
theorem Qe(x:Nat):(d9 x).Pairwise (·<·):=List.Pairwise.filter _ List.pairwise_lt_range
theorem LZ(x:Nat):(d9 x).Nodup:=(Qe x).imp λh=>qv h
theorem Ex(hs:st<2^L):∀k,k∈d9 st↔st.testBit k=true/\k<L:=λk=>by
 rw[PN];refine⟨λq=>⟨q,?_⟩,λq=>q.1⟩;have:=Nat.ge_two_pow_of_testBit q;exact(Nat.pow_lt_pow_iff_right (show 1<2 by decide)).mp (zo this hs)
theorem P_(hs:st<2^L):(d9 st).length<=L:=GX L _ (LZ st) λk m=>((Ex hs k).mp m).2
noncomputable abbrev iL(l:List Nat):List D:=l.map λk:Nat=>D.int k
noncomputable def jT(x:Nat):Str:=if d9 x=[]then "none"else Txt.join (" ":Str) ((d9 x).map λk:Nat=>W k)
theorem y8(l:List Nat)(hl:∀k∈l,k<=12)(hn:l.length<=12):((l.map λk:Nat=>W k).map (·.length)).sum+(l.map λk:Nat=>W k).length*(" ":Str).length<=16777216:=by
 have l1:(" ":Str).length=1:=by decide+kernel
 have:=p_ (l:=(l.map λk:Nat=>W k).map (·.length)) (m:=2) (λx m=>by
  obtain⟨s,ms,rfl⟩:=qy.mp m;obtain⟨k,mk,rfl⟩:=qy.mp ms;exact(iT (n:=k) (by omega) (by have:=hl k mk;omega)).1)
 simp only[qd]at this ⊢;rw[l1];omega
theorem OL(l:List Nat)(hl:∀k∈l,k<=12)(h:MH):compLoop (aD 0) aU (bz aV (ag (aa 0) af)) [none] (iL l) h=.ok ((l.map λk:Nat=>W k).map D.str) h:=by
 rw[List.map_map];refine jV (g:=aD 0) (t:=aU) (h:=h) (m:=bz aV (ag (aa 0) af)) (ρ0:=[none]) (λk:Nat=>D.int k) (λk=>[some (.int (k:Nat))]) (λk=>D.str (W (k:Nat))) l λk m=>⟨by simp,by simp,?_⟩;have lg:(k:Nat).log2<1920:=zo (w5 k) (by have:=hl k m;omega);simp[lg]
theorem HW:Str.ofString "bars "=Str.ofString "bars"++⟨#[32]⟩:=by decide+kernel
theorem kB(k:Str)(a:Int):k++⟨#[32]⟩++ar a=bh (k,[a]):=rfl
theorem JC:¬(Str.ofString "earthed"=Str.ofString "live")/\¬(Str.ofString "locked"=Str.ofString "live")/\¬(Str.ofString "locked"=Str.ofString "earthed")/\¬(Str.ofString "shut"=Str.ofString "live")/\¬(Str.ofString "shut"=Str.ofString "earthed")/\¬(Str.ofString "shut"=Str.ofString "locked"):=by decide+kernel
theorem gP(hl:ds.length=np)(e:b (ds.map some++List.replicate (nn - ds.length) none) h=.exc c h):aH np nn b ds h=.exc c h:=by
 unfold aH;rw[if_pos hl,e];exact if_pos (qi _)
noncomputable abbrev nB(x:Nat):List D:=(d9 x).map λk:Nat=>D.int k
section
variable {h : MH} {d p r : Nat} {b : Bd}
theorem oq(D0:Dk h d p r b)(x1:Option D):aG eA "board" (aa 0) [some (.ref d),x1] h=.ok (.ref p) h:=by
 have o:=D0.o;unfold bo at o;simp[o]
theorem NP(D0:Dk h d p r b)(hst:b.st<2^12)(ej:dP [.lst (nB b.st)] h=.ok (.str x) h):aT [.ref d,.str "shut"] h=.ok (.str x) h:=by
 refine Es Nz D0.o rfl ?_;have ni:=K1 b.st hst h;obtain⟨_,_,_,s1,s2,s3⟩:=JC;have ms:=D8 D0.a (tab:=vb) (f:="standing") (z:=j4) (m:=aG eA "board" (aa 0)) (l:=af) (ρ:=[some (.ref d),some (.str ("shut":Str))]) (ds:=[]) rfl (by decide+kernel) (oq D0 _) (by simp);have ms:=ms.trans (OI D0.a);refine iC (np:=2) (nn:=2) (b:=dF) (ds:=[.ref d,.str "shut"]) rfl ?_ (qi _);show dF [some (.ref d),some (.str ("shut":Str))] h=.rt (.str x) h;unfold nB at ej;generalize(d9 b.st).map (λk:Nat=>D.int k)=T at*;simp[-aG, -aQ,dF,s1,s2,s3,ms,ni,ej]
theorem JE(D0:Dk h d p r b)(hst:b.lk<2^12)(ej:dP [.lst (nB b.lk)] h=.ok (.str x) h):aT [.ref d,.str "locked"] h=.ok (.str x) h:=by
 refine Es OK D0.o rfl ?_;have ni:=K1 b.lk hst h;obtain⟨_,s1,s2,_⟩:=JC;have ms:=D8 D0.a (tab:=DP) (f:="locked") (z:=jJ) (m:=aG eA "board" (aa 0)) (l:=af) (ρ:=[some (.ref d),some (.str ("locked":Str))]) (ds:=[]) rfl (by decide+kernel) (oq D0 _) (by simp);have ms:=ms.trans (Oj D0.a);refine iC (np:=2) (nn:=2) (b:=dF) (ds:=[.ref d,.str "locked"]) rfl ?_ (qi _);show dF [some (.ref d),some (.str ("locked":Str))] h=.rt (.str x) h;unfold nB at ej;generalize(d9 b.lk).map (λk:Nat=>D.int k)=T at*;simp[-aG, -aQ,dF,s1,s2,ms,ni,ej]
end
structure DeedW (k:Str):Prop where
 ln:k.length<=8
 s32:32∉k.cps.toList
 s10:10∉k.cps.toList
 b:¬k=Str.ofString "bars"
 a1:¬Str.ofString "feed"=k
 a2:¬Str.ofString "earth"=k
 a3:¬Str.ofString "breaker"=k
 a4:¬Str.ofString "splitter"=k
 i4:Str.ofString "turn"=k\/Str.ofString "lock"=k\/Str.ofString "unlock"=k\/Str.ofString "back"=k
theorem HH:DeedW ("turn":Str):=⟨by decide+kernel,by decide+kernel,by decide+kernel,by decide+kernel,by decide+kernel,by decide+kernel,by decide+kernel,by decide+kernel,.inl rfl⟩
theorem IS:DeedW ("lock":Str):=⟨by decide+kernel,by decide+kernel,by decide+kernel,by decide+kernel,by decide+kernel,by decide+kernel,by decide+kernel,by decide+kernel,.inr (.inl rfl)⟩
theorem PB:DeedW ("unlock":Str):=⟨by decide+kernel,by decide+kernel,by decide+kernel,by decide+kernel,by decide+kernel,by decide+kernel,by decide+kernel,by decide+kernel,.inr (.inr (.inl rfl))⟩
theorem Pf:DeedW ("back":Str):=⟨by decide+kernel,by decide+kernel,by decide+kernel,by decide+kernel,by decide+kernel,by decide+kernel,by decide+kernel,by decide+kernel,.inr (.inr (.inr rfl))⟩
noncomputable def fm(w:Str)(k:Nat):Str:=bh (w,[(k:Int)])
theorem Nb{k:Nat}(hk:k<1000000000)(h:MH):eS [.lst [.str (W k)]] h=.ok (.int (k:Nat)) h:=by
 obtain⟨n1,n2⟩:=gu (n:=k) (by omega) (by omega);have lw:(W (k:Int)).length<=9:=(jO n1).2.1;have nt:=yZ [W k] h (by simp;omega) (by simp);have nt:fZ [.lst [.str (W k)]] h=.ok (.lst [.int (k:Nat)]) h:=by
  simp[n1,n2]at nt;exact nt
 simp[eS,iJ,nt]
theorem HZ(u:DeedW w)(o:h[d]?=some (bo y (.ref p)))(hy:mG y=false)(hk:k<1000000000):cu [some (.ref d),some (.str (fm w k)),none,none,none] h=(eN [.ref d,.str w,.int (k:Nat)] h).toS λx h1=>.rt x h1:=by
 obtain⟨f1,f3⟩:=zQ (k:=w) (bs:=[(k:Int)]) u.ln u.s32 (by simp;omega) (by simp);have hd:=tO (row:=fm w k) (k:=w) (ws:=[(k:Int)].map W) f3 (by have:(fm w k).length<=200:=f1;omega) (by simp) d;have on:=Nb hk h;obtain⟨_,_,_,b,a1,a2,a3,a4,i4⟩:=u;unfold cu;rw[hd,C_ o hy b];refine(bS (ρ':=[some (.ref d),some (.str (fm w k)),some (.lst ((w::[(k:Int)].map W).map D.str)),some (.str w),none]) (h':=h) (by simp[jj,a1,a2,a3,a4])).trans ?_;have mm:=pX o (tab:=xI) (f:="done") (z:=eN) (m:=aa 0) (l:=ag (aa 3) (ag (aY eS (ag (cF (aa 2) (b_ (mC (.int 1))) cz) af)) af)) (ρ:=[some (.ref d),some (.str (fm w k)),some (.lst ((w::[(k:Int)].map W).map D.str)),some (.str w),none]) (ds:=[.str w,.int (k:Nat)]) rfl (by decide+kernel) (by simp) (by simp[on]);have t4:tB (ae (eX false) (aa 3) (dJ (ag (mC (.str "turn")) (ag (mC (.str "lock")) (ag (mC (.str "unlock")) (ag (mC (.str "back")) af)))))) [some (.ref d),some (.str (fm w k)),some (.lst ((w::[(k:Int)].map W).map D.str)),some (.str w),none] h=.ok true h:=by
  rcases i4 with rfl|rfl|rfl|rfl<;>simp[jj]
 simp only[aq,aX,t4,mX,if_true,aw,mm];cases eN [.ref d,.str w,.int (k:Nat)] h<;>rfl
theorem HG(u:DeedW w)(o:h[d]?=some (bo y (.ref p)))(hy:mG y=false)(hk:k<1000000000)(e:eN [.ref d,.str w,.int (k:Nat)] h=.ok x H)(hl:H.length<=h.length):aT [.ref d,.str (fm w k)] h=.ok x H:=
 iC (np:=2) (nn:=5) (b:=cu) (ds:=[.ref d,.str (fm w k)]) rfl ((HZ u o hy hk).trans (by rw[e];rfl)) hl
theorem D_(u:DeedW w)(o:h[d]?=some (bo y (.ref p)))(hy:mG y=false)(hk:k<1000000000)(e:eN [.ref d,.str w,.int (k:Nat)] h=.exc c h):aT [.ref d,.str (fm w k)] h=.exc c h:=
 gP (np:=2) (nn:=5) (b:=cu) (ds:=[.ref d,.str (fm w k)]) rfl ((HZ u o hy hk).trans (by rw[e];rfl))
theorem EB(hx:x<2^12)(h:MH):dP [.lst (nB x)] h=.ok (.str (jT x)) h:=by
 have hm:∀k∈d9 x,k<=12:=λk m=>by have:=((Ex hx k).mp m).2;omega
 have hl:=P_ hx;have sc:=OL (d9 x) hm h;have ws:=y8 (d9 x) hm hl;have l1:(iL (d9 x)).length=(d9 x).length:=qd _;have sd:=GG ((d9 x).map λk:Nat=>W k);unfold nB jT;show dP [.lst (iL (d9 x))] h=_;by_cases q:d9 x=[]
 ·rw[q]
  simp[dP,lB]
 ·rw[if_neg q]
  have ne:¬(iL (d9 x))=[]:=λz=>q (g7.mp z);generalize(d9 x).map (λk:Nat=>W k)=U at*;generalize iL (d9 x)=T at*;simp[-List.map_map,dP,lB,ne,sc,sd,ws,show T.length<16777216 by omega]
theorem d_(e:a ρ h=.exc c h'):aq a b ρ h=.exc c h':=by simp only[aq,e]
noncomputable def fP:List Int->Bool
 | a::b::r=>decide (b<=a)||fP (b::r)
 | _=>false
noncomputable def xO(r:List Str):Bool:= !(r.all di)||r.isEmpty||fP (r.map cJ)
noncomputable def K4:List Str:=[Str.ofString "feed",Str.ofString "earth",Str.ofString "breaker",Str.ofString "splitter"]
noncomputable def K5:List Str:=[Str.ofString "turn",Str.ofString "lock",Str.ofString "unlock",Str.ofString "back"]
noncomputable def K3:List Str:=[Str.ofString "live",Str.ofString "dead",Str.ofString "earthed"]
noncomputable def K9:List Str:=[Str.ofString "live",Str.ofString "earthed",Str.ofString "locked",Str.ofString "shut",Str.ofString "show"]
noncomputable def gO:List Str->Bool
 | w::_=>decide (w∈K3)
 | []=>false
noncomputable def vn(k:Str)(r:List Str):Bool:=
 if k=Str.ofString "bars"then(jm (k::r)).isNone
 else if k∈K4 then(jm (k::r)).isNone
 else if k∈K5 then !(decide (r.length=1)&&r.all di)
 else if k=Str.ofString "permit"\/k=Str.ofString "locks"then xO r
 else if k=Str.ofString "reach"then !(decide (r.length=2)&&gO r)||xO r.tail
 else if r=[]then !(decide (k∈K9))else true
theorem Fo(k:Str)(l:List Str):((l.map D.str).any λy=>jj y (.str k))=decide (k∈l):=by
 induction l with
 | nil=>rfl
 | cons a l ih=>
  rw[List.map_cons,wl,ih];by_cases q:k=a
  ·subst q;simp[jj]
  ·have:¬a=k:=λz=>q z.symm
   simp[jj,this,q]
theorem Qr(l:List Str):(l.map D.str).all iH=true:=by
 rw[List.all_eq_true];intro d m;obtain⟨k,_,rfl⟩:=qy.mp m;rfl
theorem Fu(k:Str)(l:List Str)(neg:Bool)(h:MH):eX neg (.str k) (.tup (l.map D.str)) h=.ok (.bl (if neg then !decide (k∈l)else decide (k∈l))) h:=by
 have e:=Fo k l;have f:=Qr l;generalize l.map D.str=T at*;simp[-List.all_eq_true, -List.any_eq_true,f,e,eF,iH,chk]
theorem F4(a b:Str)(h:MH):bH (.str a) (.str b) h=.ok (.bl (decide (a=b))) h:=rfl
theorem EI:∀(vs:List Int) (h:MH),∃bs:List Bool,bs.any id=fP vs/\bs.length<=vs.length/\compLoop (dY [0,1]) aU (ae iA (aa 0) (aa 1)) [none,none] (cD (vs.map D.int) (vs.tail.map D.int)) h=.ok (bs.map D.bl) h
 | [],h=>⟨[],rfl,qi _,rfl⟩
 | [a],h=>⟨[],rfl,by simp,rfl⟩
 | a::b::r,h=>by
  obtain⟨bs,e1,l1,e2⟩:=EI (b::r) h;refine⟨decide (b<=a)::bs,?_,by simp at l1 ⊢;omega,?_⟩
  ·rw[wl,e1];rfl
  ·have e:cD ((a::b::r).map D.int) ((a::b::r).tail.map D.int)=.tup [.int a,.int b]::cD ((b::r).map D.int) ((b::r).tail.map D.int):=rfl
   rw[e];generalize cD ((b::r).map D.int) ((b::r).tail.map D.int)=Zz at*;have g0:dY [0,1] (.tup [.int a,.int b]) [none,none] h=.nx [some (.int a),some (.int b)] h:=by simp
   have t0:aU [some (.int a),some (.int b)] h=.ok true h:=rfl;have m0:ae iA (aa 0) (aa 1) [some (.int a),some (.int b)] h=.ok (.bl (decide (b<=a))) h:=by simp
   simp only[compLoop,g0,t0,m0,e2,List.map_cons]
theorem IW(bs:List Bool):oV (bs.map D.bl)=some bs:=by
 induction bs with
 | nil=>rfl
 | cons b bs ih=>simp[oV,ih]
theorem JZ(vs:List Int):cut (vs.map D.int) (some 1) none=vs.tail.map D.int:=by
 cases vs with
 | nil=>simp[cut,bI]
 | cons a r=>
  have:(r.map D.int).take r.length=r.map D.int:=zh (by rw[qd];exact qi _);simp[cut,bI,this]
theorem vA(xs ys:List D):(cD xs ys).length<=xs.length:=by
 induction xs generalizing ys with
 | nil=>simp[cD]
 | cons x xs ih=>
  cases ys with
  | nil=>simp[cD]
  | cons y ys=>simp[cD];exact ih ys
theorem ES(hs:∀w∈r,w.length<16777216)(hl:r.length<=1000)(pl:xO r=true)(n:Int)(h:MH):dI [.lst (r.map D.str),.int n] h=.exc "NoRow" h:=by
 have nt:=yZ r h hs (by omega);refine gP (np:=2) (nn:=3) (b:=fW) (ds:=[.lst (r.map D.str),.int n]) rfl ?_;show fW [some (.lst (r.map D.str)),some (.int n),none] h=_;unfold fW;cases q:r.all di with
 | false=>
  rw[if_neg (by rw[q];exact ql)]at nt;generalize r.map D.str=T at*;exact d_ (by simp[nt])
 | true=>
  rw[if_pos q]at nt;have pl2:r.isEmpty=true\/fP (r.map cJ)=true:=by
   unfold xO at pl;rw[q]at pl;simpa using pl
  have ll:(r.map cJ).length<=1000:=by rw[qd];exact hl
  have em:r.isEmpty=(r.map cJ).isEmpty:=by cases r<;>rfl
  rw[em]at pl2;generalize r.map cJ=vs at*;obtain⟨bs,e1,l1,e2⟩:=EI vs h;have ct:=JZ vs;have zl:=vA (vs.map D.int) (vs.tail.map D.int);have lv:(vs.map D.int).length=vs.length:=qd _;have bm:=IW bs;generalize r.map D.str=T at*;refine(bS (ρ':=[some (.lst T),some (.int n),some (.lst (vs.map D.int))]) (h':=h) (by generalize vs.map D.int=V at*;simp[nt])).trans ?_;refine d_ ?_;have lc:dv 2 [] (gY (ag (aa 2) (ag (cF (aa 2) (b_ (mC (.int 1))) cz) af))) (dY [0,1]) aU (ae iA (aa 0) (aa 1)) [some (.lst T),some (.int n),some (.lst (vs.map D.int))] h=.ok (bs.map D.bl) h:=by
   generalize vs.tail.map D.int=V2 at*;generalize vs.map D.int=V at*;simp[-ae, -iA,caps,ct,e2,show(cD V V2).length<16777216 by omega]
  by_cases z:vs=[]
  ·subst z
   simp[-nq, -gY, -ae, -iA]
  ·have z2:¬vs.map D.int=[]:=λy=>z (g7.mp y)
   have u:fP vs=true:=pl2.resolve_left (by
    intro y;cases vs with
    | nil=>exact z rfl
    | cons _ _=>cases y)
   rw[u]at e1;generalize bs.map D.bl=B at*;generalize vs.map D.int=V at*;simp[-nq, -gY, -ae, -iA,lc,z2,bm,e1]
section
variable {row k : Str} {r : List Str} (e : Txt.split row ⟨#[32]⟩ = k :: r) (lr : row.length <= 200) (lw : r.length <= 100)
include e lr
theorem NA:∀w∈r,w.length<=200:=λw m=>z9 (Jc (c:=32) (by rw[e];exact qg _ m)) lr
theorem JY(hk:k=Str.ofString "bars")(hp:jm (k::r)=none)(h:MH):gq [.str row] h=.exc "NoRow" h:=by
 have pt:=yQ row h (by omega);rw[e,hp]at pt;refine gP (np:=1) (nn:=2) (b:=fK) (ds:=[.str row]) rfl ?_;show fK [some (.str row),none] h=_;unfold fK;exact d_ (by simp[pt])
theorem Na(hp:jm (k::r)=some (Str.ofString "bars",[v]))(hv:v<1\/10<v)(h:MH):gq [.str row] h=.exc "NoMeasure" h:=by
 have pt:=yQ row h (by omega);rw[e,hp]at pt;have pt:eO [.str row] h=.ok (.tup [.str ("bars":Str),.int v]) h:=pt;refine gP (np:=1) (nn:=2) (b:=fK) (ds:=[.str row]) rfl ?_;show fK [some (.str row),none] h=_;unfold fK;refine(bS (ρ':=[some (.str row),some (.tup [.str ("bars":Str),.int v])]) (h':=h) (by simp[pt])).trans ?_;refine(bS (ρ':=[some (.str row),some (.tup [.str ("bars":Str),.int v])]) (h':=h) (by simp)).trans ?_;refine d_ ?_;rcases hv with hv|hv
 ·have:¬(1<=v):=by omega
  simp[this]
 ·have:¬(v<=10):=by omega
  by_cases q:1<=v<;>simp[this,q]
include lw
theorem ER(o:h[d]?=some (bo y b))(hk:k=Str.ofString "bars")(hc:gq [.str row] h=.exc c h):aT [.ref d,.str row] h=.exc c h:=by
 have hd:=tO e (by omega) lw d;refine gP (np:=2) (nn:=5) (b:=cu) (ds:=[.ref d,.str row]) rfl ?_;show cu [some (.ref d),some (.str row),none,none,none] h=_;unfold cu;rw[hd];refine d_ ?_;generalize(k::r).map D.str=T at*;have na:=Cy y b (m:=Str.ofString "begin") (by decide+kernel);unfold bo at o;subst hk;simp[o,na,hc,sV,List.lookup]
theorem NO(o:h[d]?=some (bo .non .non))(hk:¬k=Str.ofString "bars"):aT [.ref d,.str row] h=.exc "NoRow" h:=by
 have hd:=tO e (by omega) lw d;refine gP (np:=2) (nn:=5) (b:=cu) (ds:=[.ref d,.str row]) rfl ?_;show cu [some (.ref d),some (.str row),none,none,none] h=_;unfold cu;rw[hd];generalize(k::r).map D.str=T at*;refine(bS (ρ':=[some (.ref d),some (.str row),some (.lst T),some (.str k),none]) (h':=h) (by simp[hk])).trans ?_;refine d_ ?_;unfold bo at o;simp[o]
end
noncomputable def q5:MS:=aw (aQ xI "done" (aa 0) (ag (aa 3) (ag (aY eS (ag (cF (aa 2) (b_ (mC (.int 1))) cz) af)) af)))
noncomputable def q6:MS:=aq (aA (aQ Cw "permit" (aG eA "board" (aa 0)) (ag (aY dI (ag (cF (aa 2) (b_ (mC (.int 1))) cz) (ag (ae aS (aG da "yard" (aa 0)) (mC (.int 0))) af))) af)) (aD 4)) (aw (CY (sL (mC (.str "permit ")) (sL (mV (aa 4)) lz))))
noncomputable def q7:MS:=aw (aY dP (ag (ae aS (aY sN (ag (aG da "yard" (aa 0)) (ag (aY dI (ag (cF (aa 2) (b_ (mC (.int 1))) cz) (ag (ae aS (aG da "yard" (aa 0)) (mC (.int 0))) af))) af))) (mC (.int 0))) af))
noncomputable def q8:MS:=aw (aQ C6 "reach" (aa 0) (ag (cF (aa 2) (b_ (mC (.int 1))) cz) af))
noncomputable def q9:MS:=aw (aQ Bp "tell" (aa 0) (ag (aa 3) af))
section
variable {row k : Str} {r : List Str} (e : Txt.split row ⟨#[32]⟩ = k :: r) (lr : row.length <= 200) (lw : r.length <= 100)
noncomputable abbrev dW(d:Nat)(row k:Str)(r:List Str):Ro:=[some (.ref d),some (.str row),some (.lst ((k::r).map D.str)),some (.str k),none]
noncomputable def qD(k:Str)(r:List Str):MS:=
 if k∈K4 then aw (aQ yO "add_switch" (aa 0) (ag (aa 1) af))
 else if k∈K5 then q5 else if k=Str.ofString "permit"then q6 else if k=Str.ofString "locks"then q7 else if k=Str.ofString "reach"then q8
 else if r=[]then q9 else dt "NoRow" (mC (.str "no such row"))
include e lr lw
theorem yG(o:h[d]?=some (bo y (.ref p)))(hy:mG y=false)(hk:¬k=Str.ofString "bars")(hg:qD k r (dW d row k r) h=.exc c h):aT [.ref d,.str row] h=.exc c h:=by
 have hd:=tO e (by omega) lw d;refine gP (np:=2) (nn:=5) (b:=cu) (ds:=[.ref d,.str row]) rfl ?_;show cu [some (.ref d),some (.str row),none,none,none] h=_;unfold cu;rw[hd,C_ o hy hk];have i4:=Fu k K4 false h;have i5:=Fu k K5 false h;have i6:=F4 k ("permit":Str) h;have i7:=F4 k ("locks":Str) h;have i8:=F4 k ("reach":Str) h;have i9:dg (.int ((k::r).length:Nat)) (.int 1) h=.ok (.bl (!decide (r=[]))) h:=by
  cases r<;>simp
  omega
 have f9:b9 [.lst ((k::r).map D.str)] h=.ok (.int ((k::r).length:Nat)) h:=by
  have:((k::r).map D.str).length=(k::r).length:=qd _;rw[<-this];generalize(k::r).map D.str=T;simp
 simp only[zn,if_false]at i4 i5;have t4:tB (ae (eX false) (aa 3) (dJ (ag (mC (.str "feed")) (ag (mC (.str "earth")) (ag (mC (.str "breaker")) (ag (mC (.str "splitter")) af)))))) (dW d row k r) h=.ok (decide (k∈K4)) h:=by
  show Res.bind (eX false (.str k) (.tup (K4.map D.str)) h) _=_;rw[i4];rfl
 have t5:tB (ae (eX false) (aa 3) (dJ (ag (mC (.str "turn")) (ag (mC (.str "lock")) (ag (mC (.str "unlock")) (ag (mC (.str "back")) af)))))) (dW d row k r) h=.ok (decide (k∈K5)) h:=by
  show Res.bind (eX false (.str k) (.tup (K5.map D.str)) h) _=_;rw[i5];rfl
 have t6:tB (ae bH (aa 3) (mC (.str "permit"))) (dW d row k r) h=.ok (decide (k=Str.ofString "permit")) h:=rfl;have t7:tB (ae bH (aa 3) (mC (.str "locks"))) (dW d row k r) h=.ok (decide (k=Str.ofString "locks")) h:=rfl;have t8:tB (ae bH (aa 3) (mC (.str "reach"))) (dW d row k r) h=.ok (decide (k=Str.ofString "reach")) h:=rfl;have t9:tB (ae dg (bz b9 (ag (aa 2) af)) (mC (.int 1))) (dW d row k r) h=.ok (!decide (r=[])) h:=by
  show Res.bind (Res.bind (b9 [.lst ((k::r).map D.str)] h) λx h1=>dg x (.int 1) h1) _=_;rw[f9];show Res.bind (dg (.int ((k::r).length:Nat)) (.int 1) h) _=_;rw[i9];rfl
 unfold qD at hg;show aq _ _ (dW d row k r) h=RS.exc c h;generalize hE:dW d row k r=E at*;have ge:∀(b:Bool) (A:MS) (T:MT) (B:MS),T E h=.ok b h->aq (aX T A bx) B E h=(if b=true then aq A B E h else B E h):=λb A T B ht=>by
  cases b<;>simp[aq,aX,ht,bx]
 rw[ge _ _ _ _ t4];by_cases c4:k∈K4
 ·rw[if_pos (decide_eq_true c4)]
  rw[if_pos c4]at hg;exact d_ hg
 rw[if_neg (by rw[decide_eq_false c4];exact ql),ge _ _ _ _ t5];rw[if_neg c4]at hg;by_cases c5:k∈K5
 ·rw[if_pos (decide_eq_true c5)]
  rw[if_pos c5]at hg;exact d_ hg
 rw[if_neg (by rw[decide_eq_false c5];exact ql),ge _ _ _ _ t6];rw[if_neg c5]at hg;by_cases c6:k=Str.ofString "permit"
 ·rw[if_pos (decide_eq_true c6)]
  rw[if_pos c6]at hg;exact d_ hg
 rw[if_neg (by rw[decide_eq_false c6];exact ql),ge _ _ _ _ t7];rw[if_neg c6]at hg;by_cases c7:k=Str.ofString "locks"
 ·rw[if_pos (decide_eq_true c7)]
  rw[if_pos c7]at hg;exact d_ hg
 rw[if_neg (by rw[decide_eq_false c7];exact ql),ge _ _ _ _ t8];rw[if_neg c7]at hg;by_cases c8:k=Str.ofString "reach"
 ·rw[if_pos (decide_eq_true c8)]
  rw[if_pos c8]at hg;exact d_ hg
 rw[if_neg (by rw[decide_eq_false c8];exact ql),ge _ _ _ _ t9];rw[if_neg c8]at hg;by_cases c9:r=[]
 ·rw[if_neg (by rw[decide_eq_true c9];exact ql)]
  rw[if_pos c9]at hg;exact hg
 rw[if_pos (by rw[decide_eq_false c9];rfl)];rw[if_neg c9]at hg;exact d_ hg
end
theorem qP{r:List Str}(hs:∀w∈r,w.length<16777216)(hl:r.length<=1000)(hb:(!(decide (r.length=1)&&r.all di))=true)(h:MH):eS [.lst (r.map D.str)] h=.exc "NoRow" h:=by
 have nt:=yZ r h hs (by omega);have ll:(r.map D.str).length=r.length:=qd _;refine gP (np:=1) (nn:=1) (b:=iJ) (ds:=[.lst (r.map D.str)]) rfl ?_;show iJ [some (.lst (r.map D.str))] h=_;unfold iJ;by_cases q:r.length=1
 ·have qa:¬r.all di=true:=λz=>by rw[z,decide_eq_true q]at hb;cases hb
  rw[if_neg qa]at nt;generalize r.map D.str=T at*;have l1:T.length=1:=by omega
  refine(bS (ρ':=[some (.lst T)]) (h':=h) (by simp[l1])).trans ?_;simp[nt]
 ·generalize r.map D.str=T at*
  have l1:¬((T.length:Int)=1):=by omega
  have l2:¬T.length=1:=by omega
  exact d_ (by simp[l1,l2])
theorem Ki{r:List Str}{n:Nat}(hs:∀w∈r,w.length<16777216)(hl:r.length<=1000)(hn:r.all di=true)(hv:r.map cJ=vs++[l])(hu:fP (vs++[l])=false)(hf:(n:Int)<=l)(h:MH):dI [.lst (r.map D.str),.int (n:Nat)] h=.exc "NoBar" h:=by
 have nt:=yZ r h hs (by omega);rw[if_pos hn,hv]at nt;have lv:(vs++[l]).length<=1000:=by rw[<-hv,qd];exact hl
 obtain⟨bs,e1,l1,e2⟩:=EI (vs++[l]) h;rw[hu]at e1;have ct:=JZ (vs++[l]);have zl:=vA ((vs++[l]).map D.int) ((vs++[l]).tail.map D.int);have lv2:((vs++[l]).map D.int).length=(vs++[l]).length:=qd _;have bm:=IW bs;have ix:cU ((vs++[l]).map D.int) (-1)=some (.int l):=by
  have e:gC ((vs++[l]).map D.int).length (-1)=some vs.length:=by
   rw[lv2,zd];unfold gC;rw[if_neg (by omega),if_pos (by simp;omega)];congr 1;simp;omega
  unfold cU;rw[e];simp
 have z2:¬(vs++[l]).map D.int=[]:=by simp
 refine gP (np:=2) (nn:=3) (b:=fW) (ds:=[.lst (r.map D.str),.int (n:Nat)]) rfl ?_;show fW [some (.lst (r.map D.str)),some (.int (n:Nat)),none] h=_;unfold fW;generalize r.map D.str=T at*;refine(bS (ρ':=[some (.lst T),some (.int (n:Nat)),some (.lst ((vs++[l]).map D.int))]) (h':=h) (by generalize(vs++[l]).map D.int=V at*;simp[nt])).trans ?_;have lc:dv 2 [] (gY (ag (aa 2) (ag (cF (aa 2) (b_ (mC (.int 1))) cz) af))) (dY [0,1]) aU (ae iA (aa 0) (aa 1)) [some (.lst T),some (.int (n:Nat)),some (.lst ((vs++[l]).map D.int))] h=.ok (bs.map D.bl) h:=by
  generalize(vs++[l]).tail.map D.int=V2 at*;generalize(vs++[l]).map D.int=V at*;simp[-ae, -iA,caps,ct,e2,show(cD V V2).length<16777216 by omega]
 generalize bs.map D.bl=B at*;generalize(vs++[l]).map D.int=V at*;refine(bS (ρ':=[some (.lst T),some (.int (n:Nat)),some (.lst V)]) (h':=h) (by simp[-nq, -gY, -ae, -iA,lc,z2,bm,e1])).trans ?_;refine d_ ?_;have ng:(gD fC (mC (.int 1))) [some (.lst T),some (.int (n:Nat)),some (.lst V)] h=.ok (.int (-1)) h:=by simp
 have ix2:aS (.lst V) (.int (-1)) h=.ok (.int l) h:=by simp[ix]
 simp[-gD, -aS,ng,ix2,hf]
section
variable {row k : Str} {r : List Str} (e : Txt.split row ⟨#[32]⟩ = k :: r) (lr : row.length <= 200) (lw : r.length <= 100) {h : MH} {d p q : Nat} {b : Bd} (D0 : Dk h d p q b)
include e lr
theorem Oa(hp:jm (k::r)=none)(n m:Int):dM [.str row,.int n,.int m] h=.exc "NoRow" h:=by
 have pt:=yQ row h (by omega);rw[e,hp]at pt;refine gP (np:=3) (nn:=4) (b:=dZ) (ds:=[.str row,.int n,.int m]) rfl ?_;show dZ [some (.str row),some (.int n),some (.int m),none] h=_;unfold dZ;exact d_ (by simp[pt])
theorem Ph(hk:¬k=Str.ofString "bars")(hp:jm (k::r)=some (k,vs))(hc:(c="NoRow"/\12<=m)\/(m<12/\((c="NoBar"/\∃v,vs=[v]/\n<=v)\/(c="NoBar"/\∃v w,vs=[v,w]/\n<=max v w)\/(c="Same"/\∃v,vs=[v,v]/\v<n)))):dM [.str row,.int n,.int m] h=.exc c h:=by
 have pt:=yQ row h (by omega);rw[e,hp]at pt;have pt:eO [.str row] h=.ok (.tup (.str k::vs.map D.int)) h:=pt;refine gP (np:=3) (nn:=4) (b:=dZ) (ds:=[.str row,.int n,.int m]) rfl ?_;show dZ [some (.str row),some (.int n),some (.int m),none] h=_;unfold dZ;refine(bS (ρ':=[some (.str row),some (.int n),some (.int m),some (.tup (.str k::vs.map D.int))]) (h':=h) (by simp[pt])).trans ?_;refine(bS (ρ':=[some (.str row),some (.int n),some (.int m),some (.tup (.str k::vs.map D.int))]) (h':=h) (by simp[hk])).trans ?_;rcases hc with⟨rfl,hm⟩|⟨hm,hc⟩
 ·exact d_ (by simp[hm])
 have hm':¬(12<=m):=by omega
 refine(bS (ρ':=[some (.str row),some (.int n),some (.int m),some (.tup (.str k::vs.map D.int))]) (h':=h) (by simp[hm'])).trans ?_;rcases hc with⟨rfl,v,rfl,hv⟩|⟨rfl,v,w,rfl,hv⟩|⟨rfl,v,rfl,hv⟩
 ·have c2:cut [D.str k,.int v] (some 1) none=[.int v]:=by simp[cut,bI]
  have m1:cP [v]=v:=rfl;exact d_ (by simp[c2,hv,m1])
 ·have c3:cut [D.str k,.int v,.int w] (some 1) none=[.int v,.int w]:=by simp[cut,bI]
  have hv':n<=cP [v,w]:=by
   show n<=_;simp only[cP,List.foldl]
   repeat' split
   all_goals omega
  exact d_ (by simp[c3,hv'])
 ·have c3:cut [D.str k,.int v,.int v] (some 1) none=[.int v,.int v]:=by simp[cut,bI]
  have hv':¬(n<=cP [v,v]):=by
   simp only[cP,List.foldl]
   repeat' split
   all_goals omega
  refine(bS (ρ':=[some (.str row),some (.int n),some (.int m),some (.tup [.str k,.int v,.int v])]) (h':=h) (by simp[c3,hv'])).trans ?_;exact d_ (by simp)
end
section
variable {row k : Str} {r : List Str} {h : MH} {d p q : Nat} {b : Bd} (D0 : Dk h d p q b)
include D0
theorem sZ(hs:dM [.str row,.int (b.n:Nat),.int (b.sws.length:Nat)] h=.exc c h):ib [.ref d,.str row] h=.exc c h:=by
 have o:=D0.o;have ll:(b.sws.map Sw.d).length=b.sws.length:=qd _;have y:yd b.n b.sws=.tup [.int (b.n:Nat),.lst (b.sws.map Sw.d)]:=rfl;have na:=Cy (yd b.n b.sws) (.ref p) (m:=Str.ofString "begin") (by decide+kernel);rw[y]at o na;rw[<-ll]at hs;generalize b.sws.map Sw.d=V at*;unfold bo at o;refine gP (np:=2) (nn:=4) (b:=f_) (ds:=[.ref d,.str row]) rfl ?_;show f_ [some (.ref d),some (.str row),none,none] h=_;simp[f_,o,na,hs,sV,List.lookup]
theorem IA(hs:∀w∈r,w.length<16777216)(hl:r.length<=100)(hc:(c="NoRow"/\(decide (r.length=2)&&gO r)=false)\/((decide (r.length=2)&&gO r)=true/\dI [.lst (r.tail.map D.str),.int (b.n:Nat)] h=.exc c h)):jw [.ref d,.lst (r.map D.str)] h=.exc c h:=by
 have o:=D0.o;refine gP (np:=2) (nn:=4) (b:=j9) (ds:=[.ref d,.lst (r.map D.str)]) rfl ?_;show j9 [some (.ref d),some (.lst (r.map D.str)),none,none] h=_;unfold j9;have ll:(r.map D.str).length=r.length:=qd _;cases r with
 | nil=>
  rcases hc with⟨rfl,_⟩|⟨z,_⟩
  ·exact d_ (by simp)
  ·cases z
 | cons w rs=>
  have i3:=Fu w K3 true h;simp only[if_true]at i3;have i3:eX true (.str w) (.tup [.str ("live":Str),.str ("dead":Str),.str ("earthed":Str)]) h=.ok (.bl (!decide (w∈K3))) h:=i3;by_cases q2:(w::rs).length=2
  ·have l2:(D.str w::rs.map D.str).length=2:=by simpa using q2
   have n2:dg (.int ((D.str w::rs.map D.str).length:Nat)) (.int 2) h=.ok (.bl false) h:=by rw[l2];rfl
   by_cases q3:w∈K3
   ·rcases hc with⟨rfl,z⟩|⟨_,pt⟩
    ·rw[decide_eq_true q2]at z
     have:gO (w::rs)=true:=decide_eq_true q3;rw[this]at z;cases z
    ·rw[decide_eq_true q3]at i3
     have pt:dI [.lst (rs.map D.str),.int (b.n:Nat)] h=.exc c h:=pt;have y:yd b.n b.sws=.tup [.int (b.n:Nat),.lst (b.sws.map Sw.d)]:=rfl;rw[y]at o;rw[List.map_cons];have tk:(rs.map D.str).take rs.length=rs.map D.str:=zh (by rw[qd];exact qi _);have ct:cut (D.str w::rs.map D.str) (some 1) none=rs.map D.str:=by simp[cut,bI,tk]
     generalize rs.map D.str=T at*;generalize b.sws.map Sw.d=V at*;unfold bo at o;refine(bS (ρ':=[some (.ref d),some (.lst (.str w::T)),none,none]) (h':=h) (by simp at n2;simp[-eX,n2,i3])).trans ?_;exact d_ (by simp[o,ct,pt])
   ·rw[decide_eq_false q3]at i3
    have hc':c="NoRow":=by
     rcases hc with⟨z,_⟩|⟨z,_⟩
     ·exact z
     ·have:gO (w::rs)=false:=decide_eq_false q3
      rw[this,Bool.and_false]at z;cases z
    subst hc';rw[List.map_cons];generalize rs.map D.str=T at*;exact d_ (by simp at n2;simp[-eX,n2,i3])
  ·have hc':c="NoRow":=by
    rcases hc with⟨z,_⟩|⟨z,_⟩
    ·exact z
    ·rw[decide_eq_false q2]at z
     cases z
   subst hc';rw[List.map_cons];have l2:¬(((rs.map D.str).length:Int)+1=2):=by
    rw[qd];simp at q2;omega
   generalize rs.map D.str=T at*;exact d_ (by simp[l2])
theorem Ln(hk:¬k∈K9):iS [.ref d,.str k] h=.exc "NoRow" h:=by
 have a:¬k=Str.ofString "live"/\¬k=Str.ofString "earthed"/\¬k=Str.ofString "locked"/\¬k=Str.ofString "shut"/\¬k=Str.ofString "show":=by
  simpa [K9]using hk
 obtain⟨a1,a2,a3,a4,a5⟩:=a;refine gP (np:=2) (nn:=2) (b:=dF) (ds:=[.ref d,.str k]) rfl ?_;show dF [some (.ref d),some (.str k)] h=_;simp[dF,a1,a2,a3,a4,a5]
end
section
variable {row k : Str} {r : List Str} (e : Txt.split row ⟨#[32]⟩ = k :: r) (lr : row.length <= 200) (lw : r.length <= 100) {h : MH} {d p q : Nat} {b : Bd}
include e lr lw
theorem Fm(o:h[d]?=some (bo y (.ref p)))(et:tab.lookup "Desk"=some z)(hf:([Str.ofString "yard",Str.ofString "board"]).contains f=false)(el:l (dW d row k r) h=.ok ds h)(hz:z (.ref d::ds) h=.exc c h):aw (aQ tab f (aa 0) l) (dW d row k r) h=.exc c h:=by
 have m:=(pX o (tab:=tab) (f:=f) (z:=z) (m:=aa 0) (l:=l) (ρ:=dW d row k r) (ds:=ds) et hf rfl el).trans hz;simp only[aw,m];rfl
theorem Fq(h:MH):cF (aa 2) (b_ (mC (.int 1))) cz (dW d row k r) h=.ok (.lst (r.map D.str)) h:=by
 have tk:(r.map D.str).take r.length=r.map D.str:=zh (by rw[qd];exact qi _);have ct:cut (D.str k::r.map D.str) (some 1) none=r.map D.str:=by simp[cut,bI,tk]
 unfold dW;rw[List.map_cons];generalize r.map D.str=T at*;simp[ct]
theorem K2(D0:Dk h d p q b)(hk:k∈K4)(hs:dM [.str row,.int (b.n:Nat),.int (b.sws.length:Nat)] h=.exc c h):aT [.ref d,.str row] h=.exc c h:=by
 have nb:¬k=Str.ofString "bars":=λz=>by rw[z]at hk;exact absurd hk (by decide+kernel)
 refine yG e lr lw D0.o rfl nb ?_;unfold qD;rw[if_pos hk];exact Fm e lr lw D0.o (tab:=yO) (f:="add_switch") (z:=ib) (ds:=[.str row]) rfl (by decide+kernel) rfl (sZ D0 hs)
theorem Jk(hk:k=Str.ofString "permit"\/k=Str.ofString "locks"\/k=Str.ofString "reach"):¬k∈K4/\¬k∈K5/\¬k=Str.ofString "bars":=by
 rcases hk with rfl|rfl|rfl<;>decide+kernel
theorem ue(D0:Dk h d p q b):(ae aS (aG da "yard" (aa 0)) (mC (.int 0))) (dW d row k r) h=.ok (.int (b.n:Nat)) h:=by
 have o:=D0.o;have y:yd b.n b.sws=.tup [.int (b.n:Nat),.lst (b.sws.map Sw.d)]:=rfl;rw[y]at o;unfold dW;generalize(k::r).map D.str=T at*;generalize b.sws.map Sw.d=V at*;unfold bo at o;simp[o]
theorem E3(D0:Dk h d p q b)(hk:k=Str.ofString "permit"\/k=Str.ofString "locks")(hp:dI [.lst (r.map D.str),.int (b.n:Nat)] h=.exc c h):aT [.ref d,.str row] h=.exc c h:=by
 obtain⟨n4,n5,nb⟩:=Jk e lr lw (by rcases hk with z|z;exact .inl z;exact .inr (.inl z));refine yG e lr lw D0.o rfl nb ?_;have s1:=Fq e lr lw (d:=d) h;have y1:=ue e lr lw D0;have pl:aY dI (ag (cF (aa 2) (b_ (mC (.int 1))) cz) (ag (ae aS (aG da "yard" (aa 0)) (mC (.int 0))) af)) (dW d row k r) h=.exc c h:=by
  simp only[aY,ag,s1,y1,gE,af,hp]
 unfold qD;rw[if_neg n4,if_neg n5];have o:=D0.o;rcases hk with rfl|rfl
 ·rw[if_pos rfl]
  unfold q6;refine d_ ?_;have fb:aG eA "board" (aa 0) (dW d row ("permit":Str) r) h=.ok (.ref p) h:=by
   unfold dW;generalize(Str.ofString "permit"::r).map D.str=T at*;unfold bo at o;simp[o]
  have na:=pe b q (m:=Str.ofString "permit") (by decide+kernel);have ob:=D0.a.o;unfold Bd.cell at ob;simp only[aA,aQ,fb,gE,ag,pl];simp[ob,na,Cw,List.lookup]
 ·rw[if_neg (by decide+kernel),if_pos rfl]
  unfold q7;have fy:aG da "yard" (aa 0) (dW d row ("locks":Str) r) h=.ok (yd b.n b.sws) h:=by
   unfold dW;generalize(Str.ofString "locks"::r).map D.str=T at*;generalize yd b.n b.sws=Y at*;unfold bo at o;simp[o]
  generalize aY dI (ag (cF (aa 2) (b_ (mC (.int 1))) cz) (ag (ae aS (aG da "yard" (aa 0)) (mC (.int 0))) af))=PL at*;generalize aG da "yard" (aa 0)=FY at*;generalize yd b.n b.sws=Y at*;generalize dW d row ("locks":Str) r=E at*;simp[fy,pl]
theorem IY(D0:Dk h d p q b)(hk:k=Str.ofString "reach")(hp:jw [.ref d,.lst (r.map D.str)] h=.exc c h):aT [.ref d,.str row] h=.exc c h:=by
 obtain⟨n4,n5,nb⟩:=Jk e lr lw (.inr (.inr hk));refine yG e lr lw D0.o rfl nb ?_;have s1:=Fq e lr lw (d:=d) h;unfold qD;subst hk;rw[if_neg n4,if_neg n5,if_neg (by decide+kernel),if_neg (by decide+kernel),if_pos rfl];exact Fm e lr lw D0.o (tab:=C6) (f:="reach") (z:=jw) (ds:=[.lst (r.map D.str)]) rfl (by decide+kernel) (by simp only[ag,s1,gE,af]) hp
theorem OD(D0:Dk h d p q b)(hk:k∈K5)(hp:eS [.lst (r.map D.str)] h=.exc c h):aT [.ref d,.str row] h=.exc c h:=by
 have n4:¬k∈K4/\¬k=Str.ofString "bars":=by
  simp only[K5,qr,zi,or_false]at hk;rcases hk with rfl|rfl|rfl|rfl<;>decide+kernel
 refine yG e lr lw D0.o rfl n4.2 ?_;have s1:=Fq e lr lw (d:=d) h;unfold qD;rw[if_neg n4.1,if_pos hk];unfold q5;have o:=D0.o;have na:=Cy (yd b.n b.sws) (.ref p) (m:=Str.ofString "done") (by decide+kernel);have v0:aa 0 (dW d row k r) h=.ok (.ref d) h:=rfl;have v3:aa 3 (dW d row k r) h=.ok (.str k) h:=rfl;have on:aY eS (ag (cF (aa 2) (b_ (mC (.int 1))) cz) af) (dW d row k r) h=.exc c h:=by
  simp only[aY,ag,s1,gE,af,hp]
 generalize aY eS (ag (cF (aa 2) (b_ (mC (.int 1))) cz) af)=PL at*;generalize yd b.n b.sws=Y at*;generalize dW d row k r=E at*;unfold bo at o;simp only[aw,aQ,v0,gE,ag,v3,on];simp[o,na,xI,List.lookup]
theorem IB(D0:Dk h d p q b)(hf:vn k r=true):aT [.ref d,.str row] h=.exc "NoRow" h:=by
 have ws:=NA e lr;have ws':∀w∈r,w.length<16777216:=λw m=>by have:=ws w m;omega
 unfold vn at hf;by_cases c1:k=Str.ofString "bars"
 ·rw[if_pos c1]at hf
  exact ER e lr lw D0.o c1 (JY e lr c1 (wu.mp hf) h)
 rw[if_neg c1]at hf;by_cases c2:k∈K4
 ·rw[if_pos c2]at hf
  exact K2 e lr lw D0 c2 (Oa e lr (wu.mp hf) _ _)
 rw[if_neg c2]at hf;by_cases c3:k∈K5
 ·rw[if_pos c3]at hf
  exact OD e lr lw D0 c3 (qP ws' (by omega) hf h)
 rw[if_neg c3]at hf;by_cases c4:k=Str.ofString "permit"\/k=Str.ofString "locks"
 ·rw[if_pos c4]at hf
  exact E3 e lr lw D0 c4 (ES ws' (by omega) hf _ h)
 rw[if_neg c4]at hf;by_cases c5:k=Str.ofString "reach"
 ·rw[if_pos c5]at hf
  refine IY e lr lw D0 c5 (IA D0 ws' lw ?_);cases q1:(decide (r.length=2)&&gO r)with
  | false=>exact .inl ⟨rfl,rfl⟩
  | true=>
   rw[q1]at hf;simp only[Bool.not_true,Bool.false_or]at hf;exact .inr ⟨rfl,ES (λw m=>ws' w (List.mem_of_mem_tail m)) (by rw[List.length_tail];omega) hf _ h⟩
 rw[if_neg c5]at hf;refine yG e lr lw D0.o rfl c1 ?_;unfold qD;have c4':¬k=Str.ofString "permit"/\¬k=Str.ofString "locks":=⟨λz=>c4 (.inl z),λz=>c4 (.inr z)⟩;rw[if_neg c2,if_neg c3,if_neg c4'.1,if_neg c4'.2,if_neg c5];by_cases c6:r=[]
 ·rw[if_pos c6]at hf ⊢
  have nk:¬k∈K9:=by simpa using hf
  exact Fm e lr lw D0.o (tab:=Bp) (f:="tell") (z:=iS) (ds:=[.str k]) rfl (by decide+kernel) rfl (Ln D0 nk)
 ·rw[if_neg c6]
  simp[dt]
theorem Ko(o:h[d]?=some (bo .non .non))(hf:k=Str.ofString "bars"->vn k r=true):aT [.ref d,.str row] h=.exc "NoRow" h:=by
 by_cases c1:k=Str.ofString "bars"
 ·have hf:=hf c1
  unfold vn at hf;rw[if_pos c1]at hf;exact ER e lr lw o c1 (JY e lr c1 (wu.mp hf) h)
 ·exact NO e lr lw o c1
end
noncomputable def FL:List Str:=([""," ","show "," show","Show","show\n","live earthed","bars","bars ","bars 1 2","bars x","bars 01","bars 1234567890","bars +1","bars -1","bar 1","feed","feed ","feed 0 0","feed 00","feed 1_0","reach  0","back 1 1","bars 2\nfeed 0","feed 0\nshow","turn 0\nturn 1","reach open 99","feeds 0","Feed 0","earth","earth 0 1","earth  0","breaker 0","breaker 0 1 2","breaker 0 x","splitter","splitter 0 ","splitter 1234567890 0","joint 0 1","turn","turn 0 0","turn x","turn 00","turn -1","turn 1234567890","lock","lock 0 1","unlock","unlock +0","back","back 01","permit","permit ","permit 1 0","permit 0 0","permit 0  1","permit 0 x","locks","locks 1 0","locks 0 0","locks 99 98","reach live","reach 0","reach live 0 1","reach open 0","permit 10 9","locks 12 3","permit 99 98","permit 99 x","locks 99 x","locks 99 01","breaker 99 x","permit 0 2 1","permit 0 1 1 2","locks 0 2 2","locks 0 1 2 2 3","permit 00","locks 0 01","permit 1234567890","locks 00","earthed 0","locked 0","turn\n0","permit 0\n1","reach live\n0","reach Live 0","reach live 00","shut 0","feed 0\nfeed 0","bars 2\nbars 2","turn  0"]:List String).map Str.ofString
noncomputable def lO(row:Str):Bool:=match Txt.split row ⟨#[32]⟩with
 | k::r=>decide (row.length<=200)&&decide (r.length<=100)&&vn k r
 | []=>false
theorem rY:FL.all lO=true:=by decide+kernel
theorem EZ(h:lO row=true):∃k r,Txt.split row ⟨#[32]⟩=k::r/\row.length<=200/\r.length<=100/\vn k r=true:=by
 unfold lO at h;split at h
 ·rename_i k r e
  simp only[qu,decide_eq_true_eq]at h;exact⟨k,r,e,h.1.1,h.1.2,h.2⟩
 ·cases h
theorem LY(c:Int)(h:MH):j_ [some (.int c),none] h=(aw (ae aS (aa 1) (ae aF (aa 0) (bz b9 (ag (aa 1) af))))) [some (.int c),some (.lst (FL.map D.str))] h:=by rfl
theorem GI(c:Int)(h:MH):∃row,lO row=true/\mT [.int c] h=.ok (.str row) h:=by
 have l:(FL.map D.str).length=91:=by rw[qd];rfl
 obtain⟨i,hi⟩:=jv (x:=c % 91) (by omega);have li:i<FL.length:=by show i<91;omega
 have a:cU (FL.map D.str) (i:Int)=some (.str FL[i]):=rJ (by rw[z5,z6 li];rfl);refine⟨FL[i],List.all_eq_true.mp rY _ (we li),iC (np:=1) (nn:=2) (b:=j_) (ds:=[.int c]) rfl ?_ (qi _)⟩;show j_ [some (.int c),none] h=_;rw[LY];generalize FL.map D.str=T at*;generalize FL[i]=R at*;simp[l,hi,a]
theorem Hr:∀(xs:List Int) (a b:Int) (ys:List Int),b<=a->fP (xs++a::b::ys)=true
 | [],a,b,ys,h=>by simp[fP,h]
 | [x],a,b,ys,h=>by simp[fP,h]
 | x::y::xs,a,b,ys,h=>by
  have:=Hr (y::xs) a b ys h;simp only[gj]at this ⊢;simp only[fP,this,Bool.or_true]
structure Ris (vs:List Int):Prop where
 lo:∀v∈vs,1<=v
 up:∀v∈vs,v<=5*vs.length
 pw:vs.Pairwise (·<=·)
 nd:vs.Nodup
theorem Po(vs:List Int):∃l:Int,(vs=[]/\l=0\/∃ws,vs=ws++[l])/\(cut (vs.map D.int) (some (-1)) none)=(if vs=[]then[]else[.int l]):=by
 rcases List.eq_nil_or_concat vs with rfl|⟨ws,l,rfl⟩
 ·exact⟨0,.inl ⟨rfl,rfl⟩,by simp[cut,bI]⟩
 ·refine⟨l,.inr ⟨ws,by simp⟩,?_⟩
  have e:(ws.concat l).map D.int=ws.map D.int++[.int l]:=by simp
  have ll:(ws.map D.int++[D.int l]).length=ws.length+1:=by simp
  rw[e,if_neg (by simp)];unfold cut;have s1:bI (ws.map D.int++[D.int l]).length 0 (some (-1))=ws.length:=by
   rw[ll];simp only[bI];rw[if_pos (by omega)];omega
  have s2:bI (ws.map D.int++[D.int l]).length (ws.map D.int++[D.int l]).length none=ws.length+1:=by rw[ll];rfl
  rw[s1,s2,List.drop_left' (by simp)];simp
theorem Mo(R:Ris vs)(hl:vs=[]/\l=0\/∃ws,vs=ws++[l])(h0:0<=x)(h1:x<4):Ris (vs++[x+1+l]):=by
 have mx:∀v∈vs,v<=l:=λv m=>by
  rcases hl with⟨rfl,_⟩|⟨ws,rfl⟩
  ·cases m
  ·rcases zb.mp m with m|m
   ·have:=(kt.mp R.pw).2.2 v m l (by simp)
    exact this
   ·rw[zf.mp m];exact Int.le_refl _
 have l0:0<=l:=by
  rcases hl with⟨_,rfl⟩|⟨ws,rfl⟩
  ·exact Int.le_refl _
  ·have:=R.lo l (by simp);omega
 have lu:l<=5*vs.length:=by
  rcases hl with⟨rfl,rfl⟩|⟨ws,rfl⟩
  ·simp
  ·exact R.up l (by simp)
 refine⟨λv m=> ?_,λv m=> ?_,?_,?_⟩
 ·rcases zb.mp m with m|m
  ·exact R.lo v m
  ·rw[zf.mp m];omega
 ·rw[zd,List.length_singleton]
  rcases zb.mp m with m|m
  ·have:=R.up v m;omega
  ·rw[zf.mp m];omega
 ·rw[kt]
  exact⟨R.pw,by simp,λa ma b mb=>by rw[zf.mp mb];have:=mx a ma;omega⟩
 ·rw[List.nodup_append]
  exact⟨R.nd,by simp,λa ma b mb=>by rw[zf.mp mb];have:=mx a ma;omega⟩
theorem Lb(c:Option D){h:MH}:∀(m:Nat) (vs:List Int) (num:Int) (ks:List D) (x3:Option D),ks.length=m->vs.length+m<=10->Ris vs->∃(vs':List Int) (num':Int) (x3':Option D),Ris vs'/\vs'.length=vs.length+m/\dS (aD 3) yw ks [c,some (.int num),some (.ref h.length),x3,none] (h++[some (.lst (vs.map D.int))])=.nx [c,some (.int num'),some (.ref h.length),x3',none] (h++[some (.lst (vs'.map D.int))])
 | 0,vs,num,ks,x3,hk,_,R=>by
  have:ks=[]:=List.length_eq_zero_iff.mp hk;subst this;exact⟨vs,num,x3,R,rfl,rfl⟩
 | m+1,vs,num,k::ks,x3,hk,hl,R=>by
  obtain⟨l,el,ec⟩:=Po vs;have R1:=Mo R (x:=num % 4) el (by omega) (by omega);obtain⟨vs',num',x3',R',ll',e'⟩:=Lb c (h:=h) m (vs++[num % 4+1+l]) (num / 4) ks (some k) (by simpa using hk) (by simp;omega) R1;refine⟨vs',num',x3',R',by rw[ll'];simp;omega,?_⟩;have g0:aD 3 k [c,some (.int num),some (.ref h.length),x3,none] (h++[some (.lst (vs.map D.int))])=.nx [c,some (.int num),some (.ref h.length),some k,none] (h++[some (.lst (vs.map D.int))]):=rfl;have st:yw [c,some (.int num),some (.ref h.length),some k,none] (h++[some (.lst (vs.map D.int))])=.nx [c,some (.int (num / 4)),some (.ref h.length),some k,none] (h++[some (.lst ((vs++[num % 4+1+l]).map D.int))]):=by
   have gl:(h++[some (Cell.lst (vs.map D.int))])[h.length]?=some (some (.lst (vs.map D.int))):=by simp
   have s1:∀z,(h++[some (Cell.lst (vs.map D.int))]).set h.length z=h++[z]:=λz=>by simp
   have ap:(vs++[num % 4+1+l]).map D.int=vs.map D.int++[.int (num % 4+1+l)]:=by simp
   have ln:(vs.map D.int).length<=10:=by rw[qd];omega
   have ng:∀h',(gD fC (mC (.int 1))) [c,some (.int num),some (.ref h.length),some k,none] h'=.ok (.int (-1)) h':=λh'=>by simp
   have sm:(bz fT (ag (cF (aa 2) (b_ (gD fC (mC (.int 1)))) cz) af)) [c,some (.int num),some (.ref h.length),some k,none] (h++[some (.lst (vs.map D.int))])=.ok (.int l) (h++[some (.lst (vs.map D.int))]):=by
    by_cases z:vs=[]
    ·subst z
     rcases el with⟨_,rfl⟩|⟨ws,ew⟩
     ·simp at ec
      simp[-gD,ng,ec]
     ·simp at ew
    ·rw[if_neg z]at ec
     generalize vs.map D.int=V at*;simp[-gD,ng,gl,ec]
   rw[ap];generalize vs.map D.int=V at*;unfold yw;generalize bz fT (ag (cF (aa 2) (b_ (gD fC (mC (.int 1)))) cz) af)=S at*;refine(bS (ρ':=[c,some (.int num),some (.ref h.length),some k,none]) (h':=h++[some (.lst (V++[.int (num % 4+1+l)]))]) (by simp[sm,show V.length<16777216 by omega])).trans ?_;simp
  simp only[dS,g0,st,e']
theorem HS(X Y:List D):cut (X++Y) none (some (X.length:Int))=X:=by
 unfold cut;have s1:bI (X++Y).length 0 none=0:=rfl;have s2:bI (X++Y).length (X++Y).length (some (X.length:Int))=X.length:=by
  simp only[bI,zd];rw[if_neg (by omega)];omega
 rw[s1,s2];simp
theorem H_(X Y:List D):cut (X++Y) (some (X.length:Int)) none=Y:=by
 unfold cut;have s1:bI (X++Y).length 0 (some (X.length:Int))=X.length:=by
  simp only[bI,zd];rw[if_neg (by omega)];omega
 have s2:bI (X++Y).length (X++Y).length none=(X++Y).length:=rfl;rw[s1,s2,List.drop_left' rfl];exact zh (by simp)
theorem Mp(ws:List Int):fP (ws.map (· - 1))=fP ws:=by
 induction ws with
 | nil=>rfl
 | cons a r ih=>
  cases r with
  | nil=>rfl
  | cons b r=>
   simp only[List.map_cons]at ih ⊢;simp only[fP,ih];congr 1;by_cases q:b<=a
   ·rw[decide_eq_true q,decide_eq_true (by omega)]
   ·rw[decide_eq_false q,decide_eq_false (by omega)]
theorem JP{α:Type}(ok:lI q all h)(e:α->D)(r:α->Ro)(f:α->D):∀(as:List α),(∀a∈as,g (e a) ρ0 h=.nx (r a) h/\t (r a) h=.ok true h/\m (r a) h=.ok (f a) h)->eZ q all g t m ρ0 (as.map e) h=.ok (as.map f) h
 | [],_=>by unfold eZ;exact if_pos ok
 | a::as,H=>by
  obtain⟨h1,h2,h3⟩:=H a (qj ..);have ih:=JP ok e r f as λb m=>H b (qg _ m);rw[List.map_cons];unfold eZ;rw[if_pos ok];simp only[h1,h2,h3,ih,List.map_cons]
theorem OJ(c:Int)(hb:Hb h):∃(k:Str) (ws:List Int),(k=Str.ofString "permit"\/k=Str.ofString "locks")/\(∀w∈ws,0<=w/\w<1000)/\ws.length<=8/\fP ws=true/\r9 [.int c] h=.ok (.str (bh (k,ws))) h:=by
 obtain⟨m,hm⟩:=jv (x:=3+c / 4 % 3) (by omega);obtain⟨vs,num,x3,R,lv,e1⟩:=Lb (some (.int c)) (h:=h) m [] (c / 12) (rng 0 m) none (by rw[Bq];simp) (by simp;omega) ⟨by simp,by simp,by simp,by simp⟩;simp only[ke,Nat.zero_add]at lv;obtain⟨j,hj⟩:=jv (x:=num % ((vs.length:Int) - 1)) (w4 _ (by omega));have lj:j+1<vs.length:=by
  have:=zv num (b:=(vs.length:Int) - 1) (by omega);omega
 obtain⟨A,a,b,B,ev,lA⟩:∃(A:List Int) (a b:Int) (B:List Int),vs=A++a::b::B/\A.length=j:=by
  refine⟨vs.take j,vs[j],vs[j+1],vs.drop (j+2),?_,by rw[wt];omega⟩
  conv=>lhs;rw[<-List.take_append_drop j vs,zu (by omega),zu lj]
 have ab:a<=b:=by
  have:=R.pw;rw[ev,kt]at this;exact(List.pairwise_cons.mp this.2.1).1 b (by simp)
 obtain⟨k,hk,ek⟩:∃k:Str,(k=Str.ofString "permit"\/k=Str.ofString "locks")/\aS (.lst [.str ("permit":Str),.str ("locks":Str)]) (.int (c / 2 % 2))=λh=>.ok (.str k) h:=by
  have m2:c / 2 % 2=0\/c / 2 % 2=1:=by omega
  rcases m2 with m2|m2
  ·exact⟨_,.inl rfl,by funext h;simp[m2]⟩
  ·exact⟨_,.inr rfl,by funext h;simp[m2]⟩
 obtain⟨W2,hW,hU,lW,e2⟩:∃W2:List Int,(∀w∈W2,1<=w/\w<=25)/\fP W2=true/\W2.length<=6/\(aX (tB (ae bH (ae aF (aa 0) (mC (.int 2))) (mC (.int 0))))
   (aA (uf (kN (cF (aa 2) cz (b_ (ae au (aa 4) (mC (.int 1))))) (cF (aa 2) (b_ (aa 4)) cz))) (aD 2))
   (aA (uf (kN (ae au (cF (aa 2) cz (b_ (aa 4))) (aZ (bO (ag (ae aS (aa 2) (ae au (aa 4) (mC (.int 1)))) (ag (ae aS (aa 2) (aa 4)) af))))) (cF (aa 2) (b_ (ae au (aa 4) (mC (.int 2)))) cz))) (aD 2))) [some (.int c),some (.int num),some (.lst (vs.map D.int)),x3,some (.int (j:Nat))] (h++[none])=.nx [some (.int c),some (.int num),some (.ref (h++[none]).length),x3,some (.int (j:Nat))] (h++[none]++[some (.lst (W2.map D.int))]):=by
  have bd:∀v∈vs,1<=v/\v<=25:=λv m=>⟨R.lo v m,by have:=R.up v m;omega⟩;have ll:A.length+(B.length+2)=vs.length:=by rw[ev];simp
  have c1:cut (vs.map D.int) none (some ((j:Int)+1))=(A++[a]).map D.int:=by
   have:=HS ((A++[a]).map D.int) ((b::B).map D.int);rw[<-List.map_append]at this;rw[ev];have el:(((A++[a]).map D.int).length:Int)=(j:Int)+1:=by simp[lA]
   rw[el]at this;simpa using this
  have c2:cut (vs.map D.int) (some (j:Int)) none=(a::b::B).map D.int:=by
   have:=H_ (A.map D.int) ((a::b::B).map D.int);rw[<-List.map_append,qd,lA]at this;rw[ev];exact this
  have c3:cut (vs.map D.int) none (some (j:Int))=A.map D.int:=by
   have:=HS (A.map D.int) ((a::b::B).map D.int);rw[<-List.map_append,qd,lA]at this;rw[ev];exact this
  have c4:cut (vs.map D.int) (some ((j:Int)+2)) none=B.map D.int:=by
   have:=H_ ((A++[a,b]).map D.int) (B.map D.int);rw[<-List.map_append]at this;rw[ev];have el:(((A++[a,b]).map D.int).length:Int)=(j:Int)+2:=by simp[lA]
   rw[el]at this;simpa using this
  have i1:cU (vs.map D.int) ((j:Int)+1)=some (.int b):=by
   have:((j:Int)+1)=((j+1:Nat):Int):=by omega
   rw[this];refine rJ ?_;rw[ev,z5,<-lA];simp
  have i2:cU (vs.map D.int) (j:Int)=some (.int a):=by
   refine rJ ?_;rw[ev,z5,<-lA];simp
  by_cases q:c % 2=0
  ·refine⟨(A++[a])++(a::b::B),λw mw=> ?_,?_,by simp;omega,?_⟩
   ·refine bd w ?_
    rw[ev];simp only[zb,qr,zi,or_false]at mw ⊢
    grind
   ·have:=Hr A a a (b::B) (Int.le_refl _)
    simpa using this
   ·rw[List.map_append]
    have l1:((A++[a]).map D.int).length+((a::b::B).map D.int).length<=16777216:=by simp;omega
    generalize(A++[a]).map D.int=X at*;generalize(a::b::B).map D.int=Y at*;generalize vs.map D.int=V at*;simp[q,c1,c2,l1]
  ·refine⟨(A++[b,a])++B,λw mw=> ?_,?_,by simp;omega,?_⟩
   ·refine bd w ?_
    rw[ev];simp only[zb,qr,zi,or_false]at mw ⊢
    grind
   ·have:=Hr A b a B ab
    simpa using this
   ·have l0:(A.map D.int).length+2<=16777216:=by simp;omega
    have l1:(A.map D.int++[D.int b,D.int a]).length+(B.map D.int).length<=16777216:=by simp;omega
    have em:((A++[b,a])++B).map D.int=(A.map D.int++[D.int b,D.int a])++B.map D.int:=by simp
    rw[em];generalize A.map D.int=X at*;generalize B.map D.int=Y at*;generalize vs.map D.int=V at*;have l2:X.length<=16777214:=by omega
    have lx:(X++[D.int b,D.int a]).length=X.length+2:=by simp
    have ad:au (.lst X) (.lst [.int b,.int a]) (h++[none])=.ok (.lst (X++[.int b,.int a])) (h++[none]):=by simp[l2]
    generalize X++[D.int b,D.int a]=X2 at*;have d1:∀(z:Int) (h':MH),au (.int (j:Nat)) (.int z) h'=.ok (.int ((j:Int)+z)) h':=λz h'=>by simp
    simp[-au,q,c3,i1,i2,d1,ad,c4,show X2.length+Y.length<=16777216 by omega]
 refine⟨k,W2.map (· - 1),hk,λw m=> ?_,by rw[qd];omega,by rw[Mp];exact hU,?_⟩
 ·obtain⟨v,mv,rfl⟩:=qy.mp m
  have:=hW v mv;omega
 have key:kM [some (.int c),none,none,none,none] h=.rt (.str (bh (k,W2.map (· - 1)))) (h++[none,some (.lst (W2.map D.int))]):=by
  have ej:h++[none,some (Cell.lst (W2.map D.int))]=h++[none]++[some (.lst (W2.map D.int))]:=by simp
  rw[ej];have e1:dS (aD 3) yw (rng 0 m) [some (.int c),some (.int (c / 12)),some (.ref h.length),none,none] (h++[some (.lst [])])=.nx [some (.int c),some (.int num),some (.ref h.length),x3,none] (h++[some (.lst (vs.map D.int))]):=e1;have gl:(h++[some (Cell.lst (vs.map D.int))])[h.length]?=some (some (.lst (vs.map D.int))):=by simp
  have sl:(h++[some (Cell.lst (vs.map D.int))]).set h.length none=h++[none]:=by simp
  have lV:(vs.map D.int).length=vs.length:=qd _;have dm:aF (.int num) (.int ((vs.length:Int) - 1)) (h++[none])=.ok (.int (j:Nat)) (h++[none]):=by
   rw[<-hj];have:(0:Int)<(vs.length:Int) - 1:=by omega
   simp only[aF,nO,chk,this,if_true]
  have fl:b9 [.lst (vs.map D.int)] (h++[none])=.ok (.int (vs.length:Nat)) (h++[none]):=by
   rw[<-lV];generalize vs.map D.int=V;simp
  have wn:∀w∈W2,di (W (w - 1))=true/\(W (w - 1)).length<=9:=λw mw=>by
   have b:=hW w mw;have:=(gu (n:=w - 1) (by omega) (by omega)).1;exact⟨this,(jO this).2.1⟩
  have gw:(h++[none]++[some (Cell.lst (W2.map D.int))])[(h++[none]).length]?=some (some (.lst (W2.map D.int))):=by simp
  have sc:eZ (some (h++[none]).length) (W2.map D.int) (aD 0) aU (bz aV (ag (ae cq (aa 0) (mC (.int 1))) af)) [none] (W2.map D.int) (h++[none]++[some (.lst (W2.map D.int))])=.ok ((W2.map λw=>W (w - 1)).map D.str) (h++[none]++[some (.lst (W2.map D.int))]):=by
   rw[List.map_map];have okg:lI (some (h++[none]).length) (W2.map D.int) (h++[none]++[some (.lst (W2.map D.int))]):=gw;refine JP (g:=aD 0) (t:=aU) (m:=bz aV (ag (ae cq (aa 0) (mC (.int 1))) af)) (ρ0:=[none]) okg D.int (λw=>[some (.int w)]) (λw=>D.str (W (w - 1))) W2 λw mw=>⟨by simp,by simp,?_⟩;have b:=hW w mw;have lg:(w - 1).natAbs.log2<1920:=zo (w5 _) (by omega);simp[lg]
  have hs:=p_ (l:=(W2.map λw=>W (w - 1)).map (·.length)) (m:=9) (λx mx=>by
   obtain⟨s,ms,rfl⟩:=qy.mp mx;obtain⟨w,mw,rfl⟩:=qy.mp ms;exact(wn w mw).2)
  simp only[qd]at hs;have kl:k.length<=8:=by rcases hk with rfl|rfl<;>decide+kernel
  have sdm:=GG (k::W2.map λw=>W (w - 1));have l1:(" ":Str).length=1:=by decide+kernel
  have jn:Txt.join (" ":Str) (k::W2.map λw=>W (w - 1))=bh (k,W2.map (· - 1)):=by
   rw[sE,j8];unfold bh;rw[List.map_map];rfl
  have lW2:(W2.map D.int).length<=6:=by rw[qd];exact lW
  have lU:(W2.map λw=>W (w - 1)).length<=6:=by rw[qd];exact lW
  have s2:((k::W2.map λw=>W (w - 1)).map (·.length)).sum+(k::W2.map λw=>W (w - 1)).length*(" ":Str).length<=16777216:=by
   simp only[List.map_cons,wx,z7,l1];omega
  unfold kM;refine(bS (ρ':=[some (.int c),some (.int (c / 12)),none,none,none]) (h':=h) (by simp)).trans ?_;refine(bS (ρ':=[some (.int c),some (.int (c / 12)),some (.ref h.length),none,none]) (h':=h++[some (.lst [])]) (by simp)).trans ?_;refine(bS (ρ':=[some (.int c),some (.int num),some (.ref h.length),x3,none]) (h':=h++[some (.lst (vs.map D.int))]) ?_).trans ?_
  ·have li:jr (ag (ae au (mC (.int 3)) (ae aF (ae bf (aa 0) (mC (.int 4))) (mC (.int 3)))) af) [some (.int c),some (.int (c / 12)),some (.ref h.length),none,none] (h++[some (.lst [])])=.ok (none,rng 0 m) (h++[some (.lst [])]):=by
    have:m<4611686018427387904:=by omega
    simp[hm,this]
   rw[LJ,li];simp only[mX,CT];exact e1
  simp only[DX,wg,zz,gl,sl,List.set_cons_succ,List.set_cons_zero];generalize vs.map D.int=V at*;generalize(vs.length:Int)=LV at*;refine(bS (ρ':=[some (.int c),some (.int num),some (.lst V),x3,some (.int (j:Nat))]) (h':=h++[none]) (by simp[-b9, -aF,fl,dm])).trans ?_;refine(bS e2).trans ?_;generalize h++[none]=h1 at*;generalize h1++[some (Cell.lst (W2.map D.int))]=h2 at*;have lc:dv 1 [] (dH (aa 2)) (aD 0) aU (bz aV (ag (ae cq (aa 0) (mC (.int 1))) af)) [some (.int c),some (.int num),some (.ref h1.length),x3,some (.int (j:Nat))] h2=.ok ((W2.map λw=>W (w - 1)).map D.str) h2:=by
   have li:dH (aa 2) [some (.int c),some (.int num),some (.ref h1.length),x3,some (.int (j:Nat))] h2=.ok (some h1.length,W2.map D.int) h2:=by
    generalize W2.map D.int=T at*;simp[gw]
   rw[nq,li];simp only[gE,chk,show(W2.map D.int).length<16777216 by omega,if_true];exact sc
  rw[List.map_cons]at sdm;generalize W2.map (λw=>W (w - 1))=U at*;have u1:1+U.length<=16777216:=by omega
  have ek2:=congrFun ek h2;simp at sdm s2 jn;simp[-aS, -nq, -cq,lc,ek2,sdm,s2,jn,u1]
 exact Lz (np:=1) (nn:=5) (b:=kM) (ds:=[.int c]) rfl key hb rfl
theorem mM:Str.ofString "feed"∈K4/\Str.ofString "earth"∈K4/\Str.ofString "breaker"∈K4/\Str.ofString "splitter"∈K4:=by decide+kernel
theorem Mw:∀k∈K4,k.length<=8/\32∉k.cps.toList/\¬k=Str.ofString "bars":=by decide+kernel
theorem KN(hk:dC k=some m)(hm:(vs.length:Int)=m)(hv:∀v∈vs,0<=v/\v<1000000000):jm (k::vs.map W)=some (k,vs):=by
 unfold jm;simp only[hk];rw[if_pos (by rw[qd];exact hm),if_pos]
 ·have:(vs.map W).map cJ=vs:=by
   rw[List.map_map]
   conv=>rhs;rw[<-List.map_id vs]
   exact wv λb hb'=>(gu (hv b hb').1 (hv b hb').2).2
  rw[this]
 ·rw[List.all_eq_true]
  intro w hw;obtain⟨b,hb',rfl⟩:=qy.mp hw;exact(gu (hv b hb').1 (hv b hb').2).1
section
variable {h : MH} {d p q : Nat} {b : Bd} (D0 : Dk h d p q b)
include D0
theorem jM(hk:k∈K4)(hc:dC k=some m)(hm:(vs.length:Int)=m)(hv:∀v∈vs,0<=v/\v<1000000000)(h8:((c="NoRow"/\12<=(b.sws.length:Int))\/((b.sws.length:Int)<12/\((c="NoBar"/\∃v,vs=[v]/\(b.n:Int)<=v)\/(c="NoBar"/\∃v w,vs=[v,w]/\(b.n:Int)<=max v w)\/(c="Same"/\∃v,vs=[v,v]/\v<(b.n:Int))))))(hl:vs.length<=12):aT [.ref d,.str (bh (k,vs))] h=.exc c h:=by
 obtain⟨k8,k32,nb⟩:=Mw k hk;obtain⟨f1,f3⟩:=zQ k8 k32 hv hl;have pf:=KN hc hm hv;refine K2 f3 f1 (by rw[qd];omega) D0 hk (Ph f3 f1 nb pf h8)
theorem Ld(hk:k=Str.ofString "permit"\/k=Str.ofString "locks")(hv:∀v∈vs++[l],0<=v/\v<1000000000)(hu:fP (vs++[l])=false)(hf:(b.n:Int)<=l)(hl:vs.length<=6):aT [.ref d,.str (bh (k,vs++[l]))] h=.exc "NoBar" h:=by
 have kf:k.length<=8/\32∉k.cps.toList:=by rcases hk with rfl|rfl<;>decide+kernel
 obtain⟨f1,f3⟩:=zQ kf.1 kf.2 hv (by simp;omega);have wn:∀w∈(vs++[l]).map W,di w=true:=λw mw=>by
  obtain⟨v,mv,rfl⟩:=qy.mp mw;exact(gu (hv v mv).1 (hv v mv).2).1
 have nv:((vs++[l]).map W).map cJ=vs++[l]:=by
  rw[List.map_map]
  conv=>rhs;rw[<-List.map_id (vs++[l])]
  exact wv λv mv=>(gu (hv v mv).1 (hv v mv).2).2
 exact E3 f3 f1 (by rw[qd];simp;omega) D0 hk (Ki (λw mw=>by have:=(jO (wn w mw)).2.1;omega) (by rw[qd];simp;omega) (List.all_eq_true.mpr wn) nv hu hf h)
theorem Mx(hk:k=Str.ofString "permit"\/k=Str.ofString "locks")(hv:∀v∈ws,0<=v/\v<1000)(hu:fP ws=true)(hl:ws.length<=8):aT [.ref d,.str (bh (k,ws))] h=.exc "NoRow" h:=by
 have kf:k.length<=8/\32∉k.cps.toList:=by rcases hk with rfl|rfl<;>decide+kernel
 have hv':∀v∈ws,0<=v/\v<1000000000:=λv m=>by have:=hv v m;omega
 obtain⟨f1,f3⟩:=zQ kf.1 kf.2 hv' (by omega);have wn:∀w∈ws.map W,di w=true:=λw mw=>by
  obtain⟨v,mv,rfl⟩:=qy.mp mw;exact(gu (hv' v mv).1 (hv' v mv).2).1
 have nv:(ws.map W).map cJ=ws:=by
  rw[List.map_map]
  conv=>rhs;rw[<-List.map_id ws]
  exact wv λv mv=>(gu (hv' v mv).1 (hv' v mv).2).2
 refine E3 f3 f1 (by rw[qd];omega) D0 hk (ES (λw mw=>by have:=(jO (wn w mw)).2.1;omega) (by rw[qd];omega) ?_ _ h);unfold xO;rw[nv,hu];simp
theorem FO(hk:k∈K3)(h0:0<=l)(h9:l<1000000000)(hf:(b.n:Int)<=l):aT [.ref d,.str (Str.ofString "reach "++k++Str.ofString " "++ar l)] h=.exc "NoBar" h:=by
 have kf:∀k∈K3,k.length<=8/\32∉k.cps.toList:=by decide+kernel
 obtain⟨k8,k32⟩:=kf k hk;have nf:=jO (gu h0 h9).1;have er:Str.ofString "reach "++k++Str.ofString " "++ar l=Str.join ⟨#[32]⟩ [Str.ofString "reach",k,ar l]:=by
  have e1:Str.ofString "reach "=Str.ofString "reach"++⟨#[32]⟩:=by decide+kernel
  rw[e1,j8];show _=Str.ofString "reach"++⟨#[32]⟩++(k++⟨#[32]⟩++ar l);have as:∀a b c:Str,a++b++c=a++(b++c):=λa b c=>Ag (by simp[Str.cps_append]);simp only[as]
 rw[er];have sp:Txt.split (Str.join ⟨#[32]⟩ [Str.ofString "reach",k,ar l]) ⟨#[32]⟩=[Str.ofString "reach",k,ar l]:=GU (λz=>nomatch z) λw mw=>by
  simp only[qr,zi,or_false]at mw;rcases mw with rfl|rfl|rfl
  ·decide+kernel
  ·exact k32
  ·exact nf.2.2.2
 have jl:=uz (c:=32) [Str.ofString "reach",k,ar l] (λz=>nomatch z);have l5:("reach":Str).length=5:=by decide+kernel
 simp at jl;have n9:=nf.2.1;refine IY sp (by omega) (by simp) D0 rfl (IA D0 (λw mw=> ?_) (by simp) (.inr ⟨?_,?_⟩))
 ·simp only[qr,zi,or_false]at mw
  rcases mw with rfl|rfl<;>omega
 ·simp[gO,hk]
 ·refine Ki (r:=[ar l]) (vs:=[]) (l:=l) (λw mw=> ?_) (by simp) (by simp[(gu h0 h9).1]) (by simp[(gu h0 h9).2]) rfl hf h
  rw[zf.mp mw];omega
end
noncomputable def jB:List String:=w_Xm.map (·.1)
noncomputable def oK:List String:=["NoRow","NoMeasure","NoBar","Same","NoSwitch","NoPermit","Loaded","Shorted","Locked","Held","NoLock","NotOpen","NotLocked","NotEarthed","NotDead"]
theorem sY:∀c∈jB,∀n∈oK,fJ.lookup (c,true,n)=some (decide (c=n)):=by decide+kernel
theorem G7:∀c∈jB,fJ.lookup (c,false,"ValueError")=some true:=by decide+kernel
theorem tI:∀c∈jB,w_Xm.lookup c=some true:=by decide+kernel
noncomputable def BO(c:String):List Bool:=(oK.map λn=>decide (c=n))++[false]
theorem tK:∀i:Fin 6,oK.getD i.val ""∈jB/\BO (oK.getD i.val "")=(List.range 16).map λk=>decide (i.val=k):=by decide+kernel
theorem tY(o:h[d]?=some (bo y b))(em:m ρ h=.ok (.ref d) h)(el:l ρ h=.ok [.str row] h):aQ gW "say" m l ρ h=aT [.ref d,.str row] h:=pX o (tab:=gW) (f:="say") (z:=aT) rfl (by decide+kernel) em el
theorem HB(o:h[d]?=some (bo y p))(hc:c∈jB)(e:aT [.ref d,.str row] h=.exc c h):hV [.ref d,.str row] h=.ok (.lst ((BO c).map D.bl)) h:=by
 have m1:=tY o (m:=aa 0) (l:=kC (ag (aa 1) af)) (ρ:=[some (.ref d),some (.str row),some (.lst []),none]) (row:=row) (by simp) (by simp);have m1:=m1.trans e;have w:=tI c hc;have x:=sY c hc;have xv:=G7 c hc;simp only[oK,zg]at x;obtain⟨x1,x2,x3,x4,x5,x6,x7,x8,x9,x10,x11,x12,x13,x14,x15,_⟩:=x;refine iC (np:=2) (nn:=4) (b:=j6) (ds:=[.ref d,.str row]) rfl ?_ (qi _);show j6 [some (.ref d),some (.str row),none,none] h=_;simp[-aQ, -kC,j6,m1,w,x1,x2,x3,x4,x5,x6,x7,x8,x9,x10,x11,x12,x13,x14,x15,xv,BO,oK]
theorem Md(i:Nat)(h:MH):compLoop (aD 0) aU (ae bH (aa 1) (aa 0)) [none,some (.int (i:Nat))] (rng 0 16) h=.ok (((List.range 16).map λk=>decide (i=k)).map D.bl) h:=by
 rw[Bq,List.map_map];refine jV (g:=aD 0) (t:=aU) (h:=h) (m:=ae bH (aa 1) (aa 0)) (ρ0:=[none,some (.int (i:Nat))]) (λk:Nat=>D.int k) (λk=>[some (.int (k:Nat)),some (.int (i:Nat))]) (λk=>D.bl (decide (i=k))) (List.range 16) λk _=>⟨by simp,by simp,?_⟩;have:decide ((i:Int)=(k:Int))=decide (i=k):=by
  by_cases q:i=k
  ·rw[decide_eq_true q,decide_eq_true (by omega)]
  ·rw[decide_eq_false q,decide_eq_false (by omega)]
 simp[this]
theorem ro(bs:List Bool)(h:MH):bH (.lst (bs.map D.bl)) (.lst (bs.map D.bl)) h=.ok (.bl true) h:=by
 have hd:(D.lst (bs.map D.bl)).dat=true:=JD (n:=1) (J_ (n:=0) λd md=>by
  obtain⟨n,_,rfl⟩:=qy.mp md;simp[D.py,D.deep]) (by omega)
 have he:=Jd hd;generalize bs.map D.bl=T at*;simp[hd,he]
def gL(row:Str)(i:Nat)(h:MH)(d:Nat):Prop:=i<6/\aT [.ref d,.str row] h=.exc (oK.getD i "") h
theorem pD(o:h[d]?=some (bo y p))(r:gL row i h d)(ρ:Ro)(hd:ρ[1]?=some (some (.ref d)))(h6:ρ[6]?=some (some (.str row)))(h7:ρ[7]?=some (some (.int (i:Nat)))):(aX (tB (ae dg (aY hV (ag (aa 1) (ag (aa 6) af))) (aZ (dv 1 [7] (jr (ag (mC (.int 16)) af)) (aD 0) aU (ae bH (aa 1) (aa 0)))))) (aw (mC (.bl false))) bx) ρ h=.nx ρ h:=by
 obtain⟨hi,e⟩:=r;obtain⟨hr,hb⟩:=tK ⟨i,hi⟩;have rf:=HB o hr e;have hb:BO (oK.getD i "")=(List.range 16).map λk=>decide (i=k):=hb;rw[hb]at rf;have dc:=Md i h;have eq:=ro ((List.range 16).map λk=>decide (i=k)) h;generalize((List.range 16).map λk=>decide (i=k)).map D.bl=T at*;have lc:dv 1 [7] (jr (ag (mC (.int 16)) af)) (aD 0) aU (ae bH (aa 1) (aa 0)) ρ h=.ok T h:=by
  have li:jr (ag (mC (.int 16)) af) ρ h=.ok (none,rng 0 16) h:=by simp
  have l16:(rng 0 16).length<16777216:=by rw[Bq];simp
  have cp:caps [7] ρ=[some (.int (i:Nat))]:=by simp[caps,h7]
  rw[nq,li];simp only[gE,chk,l16,if_true,DF,cp];exact dc
 simp[-bH, -nq,hd,h6,rf,lc,eq]
theorem iv(la:a.length<=1000)(lb:b.length<=1000)(h:MH):au (.str a) (.str b) h=.ok (.str (a++b)) h:=by
 simp[show a.length+b.length<=16777216 by omega]
theorem jk(a b:Str):(a++b).length=a.length+b.length:=by simp[Str.length,Str.cps_append]
theorem jf(a b c:Str):a++b++c=a++(b++c):=Ag (by simp[Str.cps_append])
theorem HJ(c:Int){n:Nat}(h1:1<=n)(h2:n<=10):∃M:Int,(∀h,aS (.lst [.int 1,.int 3,.int 999999900]) (.int (c / 7 % 3)) h=.ok (.int M) h)/\0<M/\∃f:Nat,(n:Int)+c / 20 % M=f/\n<=f/\f<1000000000:=by
 have m3:c / 7 % 3=0\/c / 7 % 3=1\/c / 7 % 3=2:=by omega
 have key:∀M:Int,0<M->M<=999999900->∃f:Nat,(n:Int)+c / 20 % M=f/\n<=f/\f<1000000000:=λM m0 m9=>by
  have a:=w4 (c / 20) (b:=M) (by omega);have b:=zv (c / 20) m0;obtain⟨f,hf⟩:=jv (x:=(n:Int)+c / 20 % M) (by omega);exact⟨f,hf,by omega,by omega⟩
 rcases m3 with m3|m3|m3
 ·exact⟨1,λh=>by simp[m3],by decide,key 1 (by decide) (by decide)⟩
 ·exact⟨3,λh=>by simp[m3],by decide,key 3 (by decide) (by decide)⟩
 ·exact⟨999999900,λh=>by simp[m3],by decide,key 999999900 (by decide) (by decide)⟩
theorem j2:Str.ofString "feed "=Str.ofString "feed"++⟨#[32]⟩/\Str.ofString "earth "=Str.ofString "earth"++⟨#[32]⟩/\Str.ofString "breaker "=Str.ofString "breaker"++⟨#[32]⟩/\Str.ofString "splitter "=Str.ofString "splitter"++⟨#[32]⟩/\Str.ofString "permit "=Str.ofString "permit"++⟨#[32]⟩/\Str.ofString "locks "=Str.ofString "locks"++⟨#[32]⟩/\Str.ofString " 0"=⟨#[32]⟩++ar 0/\Str.ofString "splitter 0 "=Str.ofString "splitter"++⟨#[32]⟩++ar 0++⟨#[32]⟩/\Str.ofString "permit 0 "=Str.ofString "permit"++⟨#[32]⟩++ar 0++⟨#[32]⟩/\Str.ofString "locks 0 "=Str.ofString "locks"++⟨#[32]⟩++ar 0++⟨#[32]⟩:=by decide+kernel
theorem vX(k:Str)(a:Int):bh (k,[a])=k++⟨#[32]⟩++ar a:=rfl
theorem kX(k:Str)(a b:Int):bh (k,[a,b])=k++(⟨#[32]⟩++(ar a++(⟨#[32]⟩++ar b))):=by
 show k++⟨#[32]⟩++(ar a++⟨#[32]⟩++ar b)=_;simp only[jf]
theorem Ei:dC ("feed":Str)=some 1/\dC ("earth":Str)=some 1/\dC ("breaker":Str)=some 2/\dC ("splitter":Str)=some 2:=by decide+kernel
theorem PY(D0:Dk h d p q b)(hl:b.sws.length<12)(c:Int):∃row,gL row 2 h d/\ub [.int c,.int (b.n:Nat)] h=.ok (.str row) h:=by
 have ok:=D0.a.ok;obtain⟨M,eM,m0,f,ef,f1,f2⟩:=HJ c ok.1 ok.2.1;obtain⟨k1,k2,k3,k4,k5,k6,k7,k8,k9,k10⟩:=j2;obtain⟨i1,i2,i3,i4⟩:=mM;obtain⟨n1,n2,n3,n4⟩:=Ei;have nf:=jO (gu (n:=f) (by omega) (by omega)).1;have lw:(ar (f:Int)).length<=9:=nf.2.1;have lg:f.log2<1920:=by
  by_cases z:f=0
  ·subst z;decide
  ·exact qf ((gp z).mpr (show f<2^30 by omega)) (by decide)
 have rr:∀{row:Str} {c0:String},c0="NoBar"->aT [.ref d,.str row] h=.exc c0 h->gL row 2 h d:=λe s=>⟨by decide,by rw[e]at s;exact s⟩;have s0:aT [.ref d,.str (Str.ofString "feed "++ar (f:Int))] h=.exc "NoBar" h:=by
  rw[k1,<-vX];exact jM D0 i1 n1 rfl (by simp;omega) (.inr ⟨by omega,.inl ⟨rfl,_,rfl,by omega⟩⟩) (by simp)
 have s1:aT [.ref d,.str (Str.ofString "earth "++ar (f:Int))] h=.exc "NoBar" h:=by
  rw[k2,<-vX];exact jM D0 i2 n2 rfl (by simp;omega) (.inr ⟨by omega,.inl ⟨rfl,_,rfl,by omega⟩⟩) (by simp)
 have s2:aT [.ref d,.str (Str.ofString "breaker "++ar (f:Int)++Str.ofString " 0")] h=.exc "NoBar" h:=by
  have:Str.ofString "breaker "++ar (f:Int)++Str.ofString " 0"=bh (Str.ofString "breaker",[(f:Int),0]):=by rw[k3,k7,kX];simp only[jf]
  rw[this];exact jM D0 i3 n3 rfl (by simp;omega) (.inr ⟨by omega,.inr (.inl ⟨rfl,_,_,rfl,by omega⟩)⟩) (by simp)
 have s3:aT [.ref d,.str (Str.ofString "splitter 0 "++ar (f:Int))] h=.exc "NoBar" h:=by
  have:Str.ofString "splitter 0 "++ar (f:Int)=bh (Str.ofString "splitter",[0,(f:Int)]):=by rw[k8,kX];simp only[jf]
  rw[this];exact jM D0 i4 n4 rfl (by simp;omega) (.inr ⟨by omega,.inr (.inl ⟨rfl,_,_,rfl,by omega⟩)⟩) (by simp)
 have s4:aT [.ref d,.str (Str.ofString "breaker "++ar (f:Int)++Str.ofString " "++ar (f:Int))] h=.exc "NoBar" h:=by
  have:Str.ofString "breaker "++ar (f:Int)++Str.ofString " "++ar (f:Int)=bh (Str.ofString "breaker",[(f:Int),(f:Int)]):=by rw[k3,j8,kX];simp only[jf]
  rw[this];exact jM D0 i3 n3 rfl (by simp;omega) (.inr ⟨by omega,.inr (.inl ⟨rfl,_,_,rfl,by omega⟩)⟩) (by simp)
 have l0:("feed ":Str).length<=20/\("earth ":Str).length<=20/\("breaker ":Str).length<=20/\("splitter 0 ":Str).length<=20/\(" 0":Str).length<=20/\(" ":Str).length<=20:=by decide+kernel
 obtain⟨l1,l2,l3,l4,l5,l6⟩:=l0;have dm:aF (.int (c / 20)) (.int M) h=.ok (.int (c / 20 % M)) h:=by simp[m0]
 have c0:=iv (a:=Str.ofString "feed ") (b:=ar (f:Int)) (by omega) (by omega) h;have c1:=iv (a:=Str.ofString "earth ") (b:=ar (f:Int)) (by omega) (by omega) h;have c2:=iv (a:=Str.ofString "breaker ") (b:=ar (f:Int)) (by omega) (by omega) h;have c3:=iv (a:=Str.ofString "breaker "++ar (f:Int)) (b:=Str.ofString " 0") (by rw[jk];omega) (by omega) h;have c4:=iv (a:=Str.ofString "splitter 0 ") (b:=ar (f:Int)) (by omega) (by omega) h;have c5:=iv (a:=Str.ofString "breaker "++ar (f:Int)) (b:=Str.ofString " ") (by rw[jk];omega) (by omega) h;have c6:=iv (a:=Str.ofString "breaker "++ar (f:Int)++Str.ofString " ") (b:=ar (f:Int)) (by rw[jk,jk];omega) (by omega) h;have ai:au (.int (b.n:Nat)) (.int (c / 20 % M)) h=.ok (.int (f:Nat)) h:=by rw[<-ef];simp
 have d20:bf (.int c) (.int 20) h=.ok (.int (c / 20)) h:=by simp
 have d7:bf (.int c) (.int 7) h=.ok (.int (c / 7)) h:=by simp
 have m3:aF (.int (c / 7)) (.int 3) h=.ok (.int (c / 7 % 3)) h:=by simp
 have fs:aV [.int (f:Nat)] h=.ok (.str (ar (f:Int))) h:=by simp[lg]
 have five:∃row,gL row 2 h d/\cU [D.str (Str.ofString "feed "++ar (f:Int)),.str (Str.ofString "earth "++ar (f:Int)),.str (Str.ofString "breaker "++ar (f:Int)++Str.ofString " 0"),.str (Str.ofString "splitter 0 "++ar (f:Int)),.str (Str.ofString "breaker "++ar (f:Int)++Str.ofString " "++ar (f:Int))] (c % 5)=some (D.str row):=by
  have m5:c % 5=0\/c % 5=1\/c % 5=2\/c % 5=3\/c % 5=4:=by omega
  rcases m5 with m|m|m|m|m<;>rw[m]
  ·exact⟨_,rr rfl s0,rfl⟩
  ·exact⟨_,rr rfl s1,rfl⟩
  ·exact⟨_,rr rfl s2,rfl⟩
  ·exact⟨_,rr rfl s3,rfl⟩
  ·exact⟨_,rr rfl s4,rfl⟩
 obtain⟨row,hr,ha⟩:=five;refine⟨row,hr,iC (np:=2) (nn:=4) (b:=kJ) (ds:=[.int c,.int (b.n:Nat)]) rfl ?_ (qi _)⟩;show kJ [some (.int c),some (.int (b.n:Nat)),none,none] h=_;have eMh:=eM h;generalize ar (f:Int)=F at*;unfold kJ;refine(bS (ρ':=[some (.int c),some (.int (b.n:Nat)),some (.str F),none]) (h':=h) ?_).trans ?_
 ·simp[-aS, -au, -aF, -bf, -aV,d20,d7,m3,eMh,dm,ai,fs]
 obtain⟨L5,hL⟩:∃L5:List D,L5=[D.str (Str.ofString "feed "++F),.str (Str.ofString "earth "++F),.str (Str.ofString "breaker "++F++Str.ofString " 0"),.str (Str.ofString "splitter 0 "++F),.str (Str.ofString "breaker "++F++Str.ofString " "++F)]:=⟨_,rfl⟩;refine(bS (ρ':=[some (.int c),some (.int (b.n:Nat)),some (.str F),some (.lst L5)]) (h':=h) (by simp[-au,c0,c1,c2,c3,c4,c5,c6,hL])).trans ?_;rw[<-hL]at ha;simp[ha]
theorem kr:Str.ofString "reach live "=Str.ofString "reach "++Str.ofString "live"++Str.ofString " "/\Str.ofString "reach dead "=Str.ofString "reach "++Str.ofString "dead"++Str.ofString " "/\Str.ofString "reach earthed "=Str.ofString "reach "++Str.ofString "earthed"++Str.ofString " "/\Str.ofString "live"∈K3/\Str.ofString "dead"∈K3/\Str.ofString "earthed"∈K3:=by decide+kernel
theorem N5(D0:Dk h d p q b)(c:Int):∃row,gL row 2 h d/\rZ [.int c,.int (b.n:Nat)] h=.ok (.str row) h:=by
 have ok:=D0.a.ok;have n10:=ok.2.1;have n1':=ok.1;obtain⟨M,eM,m0,f,ef,f1,f2⟩:=HJ c ok.1 ok.2.1;obtain⟨k1,k2,k3,k4,k5,k6,k7,k8,k9,k10⟩:=j2;obtain⟨r1,r2,r3,i1,i2,i3⟩:=kr;have nf:=jO (gu (n:=f) (by omega) (by omega)).1;have lw:(ar (f:Int)).length<=9:=nf.2.1;obtain⟨g,hg⟩:=jv (x:=(b.n:Int) - 1) (by omega);have lv:(ar (g:Int)).length<=9:=(jO (gu (n:=g) (by omega) (by omega)).1).2.1;have lg:f.log2<1920:=by
  by_cases z:f=0
  ·subst z;decide
  ·exact qf ((gp z).mpr (show f<2^30 by omega)) (by decide)
 have lg2:g.log2<1920:=zo (w5 g) (by omega);have rr:∀{row:Str},aT [.ref d,.str row] h=.exc "NoBar" h->gL row 2 h d:=λs=>⟨by decide,s⟩;have one:∀{k:Str},(k=Str.ofString "permit"\/k=Str.ofString "locks")->aT [.ref d,.str (bh (k,[(f:Int)]))] h=.exc "NoBar" h:=λhk=>Ld D0 (vs:=[]) hk (by simp;omega) rfl (by omega) (by simp);have two:∀{k:Str} {v:Int},(k=Str.ofString "permit"\/k=Str.ofString "locks")->0<=v->v<(b.n:Int)->aT [.ref d,.str (bh (k,[v,(f:Int)]))] h=.exc "NoBar" h:=fun{k v} hk h0 h1=>Ld D0 (vs:=[v]) hk (by simp;omega) (by simp[fP];omega) (by omega) (by simp);have s0:aT [.ref d,.str (Str.ofString "permit "++ar (f:Int))] h=.exc "NoBar" h:=by rw[k5,<-vX];exact one (.inl rfl)
 have s1:aT [.ref d,.str (Str.ofString "permit 0 "++ar (f:Int))] h=.exc "NoBar" h:=by
  have:Str.ofString "permit 0 "++ar (f:Int)=bh (Str.ofString "permit",[0,(f:Int)]):=by rw[k9,kX];simp only[jf]
  rw[this];exact two (.inl rfl) (by omega) (by omega)
 have s2:aT [.ref d,.str (Str.ofString "locks "++ar (f:Int))] h=.exc "NoBar" h:=by rw[k6,<-vX];exact one (.inr rfl)
 have s3:aT [.ref d,.str (Str.ofString "locks 0 "++ar (f:Int))] h=.exc "NoBar" h:=by
  have:Str.ofString "locks 0 "++ar (f:Int)=bh (Str.ofString "locks",[0,(f:Int)]):=by rw[k10,kX];simp only[jf]
  rw[this];exact two (.inr rfl) (by omega) (by omega)
 have s4:aT [.ref d,.str (Str.ofString "reach live "++ar (f:Int))] h=.exc "NoBar" h:=by rw[r1];exact FO D0 i1 (by omega) (by omega) (by omega)
 have s5:aT [.ref d,.str (Str.ofString "reach dead "++ar (f:Int))] h=.exc "NoBar" h:=by rw[r2];exact FO D0 i2 (by omega) (by omega) (by omega)
 have s6:aT [.ref d,.str (Str.ofString "reach earthed "++ar (f:Int))] h=.exc "NoBar" h:=by rw[r3];exact FO D0 i3 (by omega) (by omega) (by omega)
 have s7:aT [.ref d,.str (Str.ofString "permit "++(ar (g:Int)++Str.ofString " "++ar (f:Int)))] h=.exc "NoBar" h:=by
  have:Str.ofString "permit "++(ar (g:Int)++Str.ofString " "++ar (f:Int))=bh (Str.ofString "permit",[(g:Int),(f:Int)]):=by rw[k5,j8,kX];simp only[jf]
  rw[this];exact two (.inl rfl) (by omega) (by omega)
 have s8:aT [.ref d,.str (Str.ofString "locks "++(ar (g:Int)++Str.ofString " "++ar (f:Int)))] h=.exc "NoBar" h:=by
  have:Str.ofString "locks "++(ar (g:Int)++Str.ofString " "++ar (f:Int))=bh (Str.ofString "locks",[(g:Int),(f:Int)]):=by rw[k6,j8,kX];simp only[jf]
  rw[this];exact two (.inr rfl) (by omega) (by omega)
 have l0:("permit ":Str).length<=20/\("permit 0 ":Str).length<=20/\("locks ":Str).length<=20/\("locks 0 ":Str).length<=20/\("reach live ":Str).length<=20/\("reach dead ":Str).length<=20/\("reach earthed ":Str).length<=20/\(" ":Str).length<=20:=by decide+kernel
 obtain⟨l1,l2,l3,l4,l5,l6,l7,l8⟩:=l0;have dm:aF (.int (c / 20)) (.int M) h=.ok (.int (c / 20 % M)) h:=by simp[m0]
 have cc:∀{a:Str},a.length<=20->au (.str a) (.str (ar (f:Int))) h=.ok (.str (a++ar (f:Int))) h:=λla=>iv (by omega) (by omega) h;have c0:=cc l1;have c1:=cc l2;have c2:=cc l3;have c3:=cc l4;have c4:=cc l5;have c5:=cc l6;have c6:=cc l7;have g0:=iv (a:=ar (g:Int)) (b:=Str.ofString " ") (by omega) (by omega) h;have g1:=iv (a:=ar (g:Int)++Str.ofString " ") (b:=ar (f:Int)) (by rw[jk];omega) (by omega) h;have ll:(ar (g:Int)++Str.ofString " "++ar (f:Int)).length<=1000:=by rw[jk,jk];omega
 have c7:=iv (a:=Str.ofString "permit ") (b:=ar (g:Int)++Str.ofString " "++ar (f:Int)) (by omega) ll h;have c8:=iv (a:=Str.ofString "locks ") (b:=ar (g:Int)++Str.ofString " "++ar (f:Int)) (by omega) ll h;have ai:au (.int (b.n:Nat)) (.int (c / 20 % M)) h=.ok (.int (f:Nat)) h:=by rw[<-ef];simp
 have sb:cq (.int (b.n:Nat)) (.int 1) h=.ok (.int (g:Nat)) h:=by rw[<-hg];simp
 have d20:bf (.int c) (.int 20) h=.ok (.int (c / 20)) h:=by simp
 have d7:bf (.int c) (.int 7) h=.ok (.int (c / 7)) h:=by simp
 have m3:aF (.int (c / 7)) (.int 3) h=.ok (.int (c / 7 % 3)) h:=by simp
 have m9:aF (.int c) (.int 9) h=.ok (.int (c % 9)) h:=by simp
 have fs:aV [.int (f:Nat)] h=.ok (.str (ar (f:Int))) h:=by simp[lg]
 have fg:aV [.int (g:Nat)] h=.ok (.str (ar (g:Int))) h:=by simp[lg2]
 have eMh:=eM h;generalize ar (f:Int)=F at*;generalize ar (g:Int)=G at*;have nine:∃row,gL row 2 h d/\cU [D.str (Str.ofString "permit "++F),.str (Str.ofString "permit 0 "++F),.str (Str.ofString "locks "++F),.str (Str.ofString "locks 0 "++F),.str (Str.ofString "reach live "++F),.str (Str.ofString "reach dead "++F),.str (Str.ofString "reach earthed "++F),.str (Str.ofString "permit "++(G++Str.ofString " "++F)),.str (Str.ofString "locks "++(G++Str.ofString " "++F))] (c % 9)=some (D.str row):=by
  have m:c % 9=0\/c % 9=1\/c % 9=2\/c % 9=3\/c % 9=4\/c % 9=5\/c % 9=6\/c % 9=7\/c % 9=8:=by omega
  rcases m with m|m|m|m|m|m|m|m|m<;>rw[m]
  ·exact⟨_,rr s0,rfl⟩
  ·exact⟨_,rr s1,rfl⟩
  ·exact⟨_,rr s2,rfl⟩
  ·exact⟨_,rr s3,rfl⟩
  ·exact⟨_,rr s4,rfl⟩
  ·exact⟨_,rr s5,rfl⟩
  ·exact⟨_,rr s6,rfl⟩
  ·exact⟨_,rr s7,rfl⟩
  ·exact⟨_,rr s8,rfl⟩
 obtain⟨row,hr,ha⟩:=nine;refine⟨row,hr,iC (np:=2) (nn:=5) (b:=ju) (ds:=[.int c,.int (b.n:Nat)]) rfl ?_ (qi _)⟩;show ju [some (.int c),some (.int (b.n:Nat)),none,none,none] h=_;unfold ju;obtain⟨GF,hGF⟩:∃GF:Str,GF=G++Str.ofString " "++F:=⟨_,rfl⟩;rw[<-hGF]at ha c7 c8 g1;refine(bS (ρ':=[some (.int c),some (.int (b.n:Nat)),some (.str F),none,none]) (h':=h) (by simp[-aS, -au, -aF, -bf, -aV,d20,d7,m3,eMh,dm,ai,fs])).trans ?_;refine(bS (ρ':=[some (.int c),some (.int (b.n:Nat)),some (.str F),some (.str GF),none]) (h':=h) (by simp[-au, -cq, -aV,sb,fg,g0,g1])).trans ?_;obtain⟨L5,hL⟩:∃L5:List D,L5=[D.str (Str.ofString "permit "++F),.str (Str.ofString "permit 0 "++F),.str (Str.ofString "locks "++F),.str (Str.ofString "locks 0 "++F),.str (Str.ofString "reach live "++F)]:=⟨_,rfl⟩;refine(bS (ρ':=[some (.int c),some (.int (b.n:Nat)),some (.str F),some (.str GF),some (.lst L5)]) (h':=h) (by simp[-au,c0,c1,c2,c3,c4,hL])).trans ?_;have ad:au (.lst L5) (.lst [.str (Str.ofString "reach dead "++F),.str (Str.ofString "reach earthed "++F),.str (Str.ofString "permit "++GF),.str (Str.ofString "locks "++GF)]) h=.ok (.lst [D.str (Str.ofString "permit "++F),.str (Str.ofString "permit 0 "++F),.str (Str.ofString "locks "++F),.str (Str.ofString "locks 0 "++F),.str (Str.ofString "reach live "++F),.str (Str.ofString "reach dead "++F),.str (Str.ofString "reach earthed "++F),.str (Str.ofString "permit "++GF),.str (Str.ofString "locks "++GF)]) h:=by
  rw[hL];simp
 generalize [D.str (Str.ofString "permit "++F),.str (Str.ofString "permit 0 "++F),.str (Str.ofString "locks "++F),.str (Str.ofString "locks 0 "++F),.str (Str.ofString "reach live "++F),.str (Str.ofString "reach dead "++F),.str (Str.ofString "reach earthed "++F),.str (Str.ofString "permit "++GF),.str (Str.ofString "locks "++GF)]=L9 at*;simp[-au, -aF,c5,c6,c7,c8,ad,m9,ha]
theorem Ik:¬(Str.ofString "lock"=Str.ofString "turn")/\¬(Str.ofString "unlock"=Str.ofString "turn")/\¬(Str.ofString "back"=Str.ofString "turn")/\¬(Str.ofString "permit"=Str.ofString "turn")/\¬(Str.ofString "unlock"=Str.ofString "lock")/\¬(Str.ofString "lock"=Str.ofString "unlock")/\¬(Str.ofString "back"=Str.ofString "lock")/\¬(Str.ofString "lock"=Str.ofString "back")/\¬(Str.ofString "back"=Str.ofString "unlock")/\¬(Str.ofString "unlock"=Str.ofString "back")/\¬(Str.ofString "turn"=Str.ofString "permit")/\¬(Str.ofString "lock"=Str.ofString "permit")/\¬(Str.ofString "unlock"=Str.ofString "permit")/\¬(Str.ofString "back"=Str.ofString "permit"):=by decide+kernel
section
variable {h : MH} {d p r : Nat} {b : Bd} (D0 : Dk h d p r b) {v : Nat}
include D0
theorem sD(x1 x2:Option D):aG eA "board" (aa 0) [some (.ref d),x1,x2] h=.ok (.ref p) h:=by
 have o:=D0.o;unfold bo at o;simp[o]
theorem Gw(w:Option D)(et:tab.lookup "Board"=some z)(hf:([Str.ofString "yard",Str.ofString "net",Str.ofString "shut",Str.ofString "locks",Str.ofString "given",Str.ofString "last_number"]).contains f=false):aQ tab f (aG eA "board" (aa 0)) (ag (aa 2) af) [some (.ref d),w,some (.int (v:Nat))] h=z [.ref p,.int (v:Nat)] h:=
 D8 D0.a (tab:=tab) (f:=f) (z:=z) (ds:=[.int (v:Nat)]) et hf (sD D0 _ _) (by simp)
theorem DK(et:tab.lookup "Board"=some z)(hf:([Str.ofString "yard",Str.ofString "net",Str.ofString "shut",Str.ofString "locks",Str.ofString "given",Str.ofString "last_number"]).contains f=false)(e:z [.ref p,.int (v:Nat)] h=.exc c h)(hw:(w=Str.ofString "turn"/\tab=y3/\f=Str.ofString "turn")\/(w=Str.ofString "lock"/\tab=va/\f=Str.ofString "lock")\/(w=Str.ofString "unlock"/\tab=AS/\f=Str.ofString "unlock")\/(w=Str.ofString "back"/\tab=wN/\f=Str.ofString "give_back")):eN [.ref d,.str w,.int (v:Nat)] h=.exc c h:=by
 have m:=(Gw D0 (v:=v) (some (.str w)) et hf).trans e;obtain⟨n1,n2,n3,n4,n5,n6,n7,n8,n9,n10,n11,n12,n13,n14⟩:=Ik;refine gP (np:=3) (nn:=3) (b:=eh) (ds:=[.ref d,.str w,.int (v:Nat)]) rfl ?_;show eh [some (.ref d),some (.str w),some (.int (v:Nat))] h=_;rcases hw with⟨rfl,rfl,rfl⟩|⟨rfl,rfl,rfl⟩|⟨rfl,rfl,rfl⟩|⟨rfl,rfl,rfl⟩<;>simp[-aQ, -aG,eh,m,n1,n2,n3,n5,n7,n9]
theorem xA(hl:H.length=h.length)(et:tab.lookup "Board"=some z)(hf:([Str.ofString "yard",Str.ofString "net",Str.ofString "shut",Str.ofString "locks",Str.ofString "given",Str.ofString "last_number"]).contains f=false)(e:z [.ref p,.int (v:Nat)] h=.ok x H)(hw:(w=Str.ofString "lock"/\tab=va/\f=Str.ofString "lock")\/(w=Str.ofString "unlock"/\tab=AS/\f=Str.ofString "unlock")\/(w=Str.ofString "back"/\tab=wN/\f=Str.ofString "give_back")):eN [.ref d,.str w,.int (v:Nat)] h=.ok (.str "ok") H:=by
 have m:=(Gw D0 (v:=v) (some (.str w)) et hf).trans e;obtain⟨n1,n2,n3,n4,n5,n6,n7,n8,n9,n10,n11,n12,n13,n14⟩:=Ik;refine iC (np:=3) (nn:=3) (b:=eh) (ds:=[.ref d,.str w,.int (v:Nat)]) rfl ?_ (wr hl);show eh [some (.ref d),some (.str w),some (.int (v:Nat))] h=_;rcases hw with⟨rfl,rfl,rfl⟩|⟨rfl,rfl,rfl⟩|⟨rfl,rfl,rfl⟩<;>simp[-aQ, -aG,eh,m,n1,n2,n3,n5,n6,n7,n8,n9,n10]
theorem Me(hl:H.length=h.length)(e:dN [.ref p,.int (v:Nat)] h=.ok (.int (s:Nat)) H):eN [.ref d,.str "turn",.int (v:Nat)] h=.ok (.str (if s.testBit v then "shut"else "open")) H:=by
 have m:=(Gw D0 (v:=v) (tab:=y3) (f:="turn") (z:=dN) (some (.str ("turn":Str))) rfl (by decide+kernel)).trans e;have hh:=sr s v H;refine iC (np:=3) (nn:=3) (b:=eh) (ds:=[.ref d,.str "turn",.int (v:Nat)]) rfl ?_ (wr hl);show eh [some (.ref d),some (.str ("turn":Str)),some (.int (v:Nat))] h=_;cases z:s.testBit v<;>rw[z]at hh<;>simp[-aQ, -aG,eh,m,hh]
end
section
variable {h : MH} {d p q : Nat} {b : Bd} (D0 : Dk h d p q b) {v : Nat} (h9 : v < 1000000000)
include D0 h9
theorem Pd(hw:w=Str.ofString "turn"\/w=Str.ofString "lock"\/w=Str.ofString "unlock")(h1:b.sws.length<=v):aT [.ref d,.str (fm w v)] h=.exc "NoSwitch" h:=by
 rcases hw with rfl|rfl|rfl
 ·exact D_ HH D0.o rfl h9 (DK D0 (tab:=y3) (f:="turn") (z:=dN) rfl (by decide+kernel) (Mm D0.a v (.inr (by omega))) (.inl ⟨rfl,rfl,rfl⟩))
 ·exact D_ IS D0.o rfl h9 (DK D0 (tab:=va) (f:="lock") (z:=eQ) rfl (by decide+kernel) (MZ D0.a v (.inr (by omega))) (.inr (.inl ⟨rfl,rfl,rfl⟩)))
 ·exact D_ PB D0.o rfl h9 (DK D0 (tab:=AS) (f:="unlock") (z:=kG) rfl (by decide+kernel) (Qd D0.a v (.inr (by omega))) (.inr (.inr (.inl ⟨rfl,rfl,rfl⟩))))
theorem Mq(hg:b.gv=[]):aT [.ref d,.str (fm ("back":Str) v)] h=.exc "NoPermit" h:=
 D_ Pf D0.o rfl h9 (DK D0 (tab:=wN) (f:="give_back") (z:=jZ) rfl (by decide+kernel) (O2 D0.a v (by rw[hg];rfl)) (.inr (.inr (.inr ⟨rfl,rfl,rfl⟩))))
end
theorem Ia(o:h[d]?=some (bo y b))(h0:0<=v)(h9:v<1000000000)(hv:v<1\/10<v):aT [.ref d,.str (Str.ofString "bars "++ar v)] h=.exc "NoMeasure" h:=by
 rw[HW,kB];obtain⟨f1,f3⟩:=zQ (k:=Str.ofString "bars") (bs:=[v]) jG.1 jG.2.1 (by simp;omega) (by simp);exact ER f3 f1 (by simp) o rfl (Na f3 f1 (KN (k:=Str.ofString "bars") (vs:=[v]) (m:=1) (by decide+kernel) rfl (by simp;omega)) hv h)
theorem BE:Str.ofString "turn "=Str.ofString "turn"++⟨#[32]⟩/\Str.ofString "lock "=Str.ofString "lock"++⟨#[32]⟩/\Str.ofString "unlock "=Str.ofString "unlock"++⟨#[32]⟩/\Str.ofString "back "=Str.ofString "back"++⟨#[32]⟩/\¬Str.ofString "turn "=Str.ofString "back "/\¬Str.ofString "lock "=Str.ofString "back "/\¬Str.ofString "unlock "=Str.ofString "back ":=by decide+kernel
theorem l_:("turn ":Str).length<=20/\("lock ":Str).length<=20/\("unlock ":Str).length<=20/\("back ":Str).length<=20/\("bars ":Str).length<=20/\("breaker ":Str).length<=20/\("splitter ":Str).length<=20/\(" ":Str).length=1:=by decide+kernel
theorem sT:Str.ofString "feed 0"=bh (Str.ofString "feed",[0])/\Str.ofString "feed 99"=bh (Str.ofString "feed",[99])/\Str.ofString "breaker 0 0"=bh (Str.ofString "breaker",[0,0])/\Str.ofString "splitter 12 12"=bh (Str.ofString "splitter",[12,12]):=by decide+kernel
theorem EC(h:f<1000000000):f.log2<1920:=by
 by_cases z:f=0
 ·subst z;decide
 ·exact qf ((gp z).mpr (show f<2^30 by omega)) (by decide)
theorem fM(h9:f<1000000000)(h:MH):aV [.int (f:Nat)] h=.ok (.str (ar (f:Int))) h:=by simp[EC h9]
theorem fG{f:Nat}(la:a.length<=20)(h9:f<1000000000)(h:MH):au (.str a) (.str (ar (f:Int))) h=.ok (.str (a++ar (f:Int))) h:=by
 have:=(jO (gu (n:=f) (by omega) (by omega)).1).2.1;exact iv (by omega) (by omega) h
section
variable {P : Str -> Nat -> Prop} {t : MT} {A B : MS} {ρ : Ro} {h : MH}
noncomputable abbrev iN(row:Str)(i:Nat):D:=.lst [.str row,.int (i:Nat)]
theorem jD(e:t ρ h=.ok false h)(H:∃row i,P row i/\B ρ h=.rt (iN row i) h):∃row i,P row i/\aq (aX t A bx) B ρ h=.rt (iN row i) h:=by
 obtain⟨row,i,p,q⟩:=H;exact⟨row,i,p,(bS (ρ':=ρ) (h':=h) (by simp[e])).trans q⟩
theorem HX(e:t ρ h=.ok true h)(H:∃row i,P row i/\A ρ h=.rt (iN row i) h):∃row i,P row i/\aq (aX t A bx) B ρ h=.rt (iN row i) h:=by
 obtain⟨row,i,p,q⟩:=H;exact⟨row,i,p,vp (by simp[e,q])⟩
theorem Dz(e:A ρ h=.nx ρ' h)(H:∃row i,P row i/\B ρ' h=.rt (iN row i) h):∃row i,P row i/\aq A B ρ h=.rt (iN row i) h:=by
 obtain⟨row,i,p,q⟩:=H;exact⟨row,i,p,(bS e).trans q⟩
theorem mK(e:t ρ h=.ok true h)(p:P row i)(H:A ρ h=.rt (iN row i) h):∃row i,P row i/\aq (aX t A bx) B ρ h=.rt (iN row i) h:=
 HX e ⟨row,i,p,H⟩
end
theorem L_{F:Str}(lw:F.length<=9):(F++(⟨#[32]⟩++F)).length<=1000:=by
 have:(⟨#[32]⟩:Str).length=1:=rfl;rw[jk,jk];omega
theorem M5(D0:Dk h d p q b)(hl:b.sws.length<12)(r:Int)(x0 x2 x3:Option D):∃row,gL row 3 h d/\(aw (aZ (bO (ag (ae au (ae aS (aZ (bO (ag (mC (.str "breaker ")) (ag (mC (.str "splitter ")) af)))) (ae aF (aa 4) (mC (.int 2)))) (lq gy (mC (.str " ")) (ag (ae df (aZ (bO (ag (bz aV (ag (ae aF (ae bf (aa 4) (mC (.int 2))) (aa 1)) af)) af))) (mC (.int 2))) af))) (ag (mC (.int 3)) af))))) [x0,some (.int (b.n:Nat)),x2,x3,some (.int r),none,none] h=.rt (iN row 3) h:=by
 have ok:=D0.a.ok;have n0:0<b.n:=ok.1;have nn:(0:Int)<(b.n:Int):=by omega
 obtain⟨v,hv⟩:=jv (x:=r / 2 % (b.n:Int)) (w4 _ (by omega));have vl:v<b.n:=by have:=zv (r / 2) nn;omega
 have v9:v<1000000000:=by have:=ok.2.1;omega
 have m2:r % 2=0\/r % 2=1:=by omega
 obtain⟨i1,i2,i3,i4⟩:=mM;obtain⟨c1,c2,c3,c4⟩:=Ei;obtain⟨k1,k2,k3,k4,_⟩:=j2;have sm:∀k,k∈K4->dC k=some 2->aT [.ref d,.str (bh (k,[(v:Int),(v:Int)]))] h=.exc "Same" h:=λk ik ck=>jM D0 ik ck rfl (by simp;omega) (.inr ⟨by omega,.inr (.inr ⟨rfl,_,rfl,by omega⟩)⟩) (by simp);have lw:=(jO (gu (n:=v) (by omega) (by omega)).1).2.1;have MV:aF (.int (r / 2)) (.int (b.n:Nat)) h=.ok (.int (v:Nat)) h:=by simp[n0,hv]
 have D2:bf (.int r) (.int 2) h=.ok (.int (r / 2)) h:=by simp
 have M2:aF (.int r) (.int 2) h=.ok (.int (r % 2)) h:=by simp
 have fs:=fM v9 h;have l8:(" ":Str).length=1:=by decide+kernel
 have jn:Txt.join (" ":Str) [ar (v:Int),ar (v:Int)]=ar (v:Int)++(⟨#[32]⟩++ar (v:Int)):=by rw[sE,j8,<-jf];rfl
 have dm:df (.lst [.str (ar (v:Int))]) (.int 2) h=.ok (.lst [.str (ar (v:Int)),.str (ar (v:Int))]) h:=by simp
 have fj:gy (" ":Str) [.lst [.str (ar (v:Int)),.str (ar (v:Int))]] h=.ok (.str (ar (v:Int)++(⟨#[32]⟩++ar (v:Int)))) h:=by
  rw[<-jn];have:(ar (v:Int)).length+(ar (v:Int)).length+2*1<=16777216:=by omega
  simp[l8,this]
 have ll:=L_ lw;have l0:("breaker ":Str).length<=1000/\("splitter ":Str).length<=1000:=by decide+kernel
 have ca:=iv l0.1 ll h;have cb:=iv l0.2 ll h;have ea:Str.ofString "breaker "++(ar (v:Int)++(⟨#[32]⟩++ar (v:Int)))=bh (Str.ofString "breaker",[(v:Int),(v:Int)]):=by rw[k3,kX];simp only[jf]
 have eb:Str.ofString "splitter "++(ar (v:Int)++(⟨#[32]⟩++ar (v:Int)))=bh (Str.ofString "splitter",[(v:Int),(v:Int)]):=by rw[k4,kX];simp only[jf]
 rw[ea]at ca;rw[eb]at cb;rcases m2 with m2|m2<;>rw[m2]at M2
 ·refine⟨bh (Str.ofString "breaker",[(v:Int),(v:Int)]),⟨by decide,sm _ i3 c3⟩,?_⟩
  generalize ar (v:Int)++(⟨#[32]⟩++ar (v:Int))=J at*;simp[-aF, -bf, -aV, -df, -gy, -au,M2,D2,MV,fs,dm,fj,ca]
 ·refine⟨bh (Str.ofString "splitter",[(v:Int),(v:Int)]),⟨by decide,sm _ i4 c4⟩,?_⟩
  generalize ar (v:Int)++(⟨#[32]⟩++ar (v:Int))=J at*;simp[-aF, -bf, -aV, -df, -gy, -au,M2,D2,MV,fs,dm,fj,cb]
theorem Oy(hb:Hb h)(D0:Dk h d p q b)(hg:b.gv=[])(c:Int):∃row i,gL row i h d/\gV [.int c,.int (b.n:Nat),.int (b.sws.length:Nat)] h=.ok (.lst [.str row,.int (i:Nat)]) h:=by
 have ok:=D0.a.ok;have ml:=ok.2.2.1;obtain⟨r,hr⟩:∃r,c / 6=r:=⟨_,rfl⟩;obtain⟨k,hk⟩:∃k,c % 6=k:=⟨_,rfl⟩;obtain⟨t,ht⟩:∃t,r / 4=t:=⟨_,rfl⟩;obtain⟨a,ha⟩:∃a,r % 4=a:=⟨_,rfl⟩;have k6:k=0\/k=1\/k=2\/k=3\/k=4\/k=5:=by omega
 have a4:a=0\/a=1\/a=2\/a=3:=by omega
 have M6:aF (.int c) (.int 6) h=.ok (.int k) h:=by simp[hk]
 have D6:bf (.int c) (.int 6) h=.ok (.int r) h:=by simp[hr]
 have M4:aF (.int r) (.int 4) h=.ok (.int a) h:=by simp[ha]
 have D4:bf (.int r) (.int 4) h=.ok (.int t) h:=by simp[ht]
 obtain⟨x8,hx8⟩:=jv (x:=t % 100000000) (by omega);obtain⟨x9,hx9⟩:=jv (x:=t % 1000000000) (by omega);have P8:fA (.int 10) (.int 8) h=.ok (.int 100000000) h:=by simp[mL]
 have P9:fA (.int 10) (.int 9) h=.ok (.int 1000000000) h:=by simp[mL]
 have M8:aF (.int t) (.int 100000000) h=.ok (.int (x8:Nat)) h:=by simp[hx8]
 have M9:aF (.int t) (.int 1000000000) h=.ok (.int (x9:Nat)) h:=by simp[hx9]
 have E0:bH (.int (b.n:Nat)) (.int 0) h=.ok (.bl false) h:=by
  have:¬(b.n:Int)=0:=by have:=ok.1;omega
  show Res.ok (D.bl (decide ((b.n:Int)=0))) h=_;rw[decide_eq_false this]
 suffices S:∃row i,gL row i h d/\fX [some (.int c),some (.int (b.n:Nat)),some (.int (b.sws.length:Nat)),none,none,none,none] h=.rt (.lst [.str row,.int (i:Nat)]) h by
  obtain⟨row,i,R,e⟩:=S;exact⟨row,i,R,iC (np:=3) (nn:=7) (b:=fX) (ds:=[.int c,.int (b.n:Nat),.int (b.sws.length:Nat)]) rfl e (qi _)⟩
 have e1:(aA (ae aF (aa 0) (mC (.int 6))) (aD 3)) [some (.int c),some (.int (b.n:Nat)),some (.int (b.sws.length:Nat)),none,none,none,none] h=.nx [some (.int c),some (.int (b.n:Nat)),some (.int (b.sws.length:Nat)),some (.int k),none,none,none] h:=by simp[-aF,M6]
 have e2:(aA (ae bf (aa 0) (mC (.int 6))) (aD 4)) [some (.int c),some (.int (b.n:Nat)),some (.int (b.sws.length:Nat)),some (.int k),none,none,none] h=.nx [some (.int c),some (.int (b.n:Nat)),some (.int (b.sws.length:Nat)),some (.int k),some (.int r),none,none] h:=by simp[-bf,D6]
 have e3:∀A:MS,(aX (tB (ae bH (aa 1) (mC (.int 0)))) A bx) [some (.int c),some (.int (b.n:Nat)),some (.int (b.sws.length:Nat)),some (.int k),some (.int r),none,none] h=.nx [some (.int c),some (.int (b.n:Nat)),some (.int (b.sws.length:Nat)),some (.int k),some (.int r),none,none] h:=λA=>by simp[-bH,E0]
 unfold fX;rw[bS e1,bS e2,bS (e3 _)];obtain⟨l1,l2,l3,l4,l5,l6,l7,l8⟩:=l_;obtain⟨s1,s2,s3,s4,n1,n2,n3⟩:=BE;by_cases k0:k=0
 ·subst k0
  by_cases q:a=3
  ·obtain⟨w,ws,hw,hv,hl,hu,e⟩:=OJ t hb
   subst q;exact mK (i:=0) (by simp[-aF,M4]) ⟨by decide,Mx D0 hw hv hu hl⟩ (by simp[-bf,D4,e])
  ·obtain⟨row,ho,e⟩:=GI t h
   obtain⟨w,ws,es,lr,lw,hf⟩:=EZ ho;exact jD (by simp[-aF,M4,q]) (mK (i:=0) (by simp) ⟨by decide,IB es lr lw D0 hf⟩ (by simp[-bf,D4,e]))
 refine jD (by simp[k0]) ?_;by_cases k1:k=1
 ·subst k1
  by_cases q:b.sws.length=12
  ·obtain⟨row,ho,e⟩:=GI t h
   obtain⟨w,ws,es,lr,lw,hf⟩:=EZ ho;exact mK (i:=0) (by simp[q]) ⟨by decide,IB es lr lw D0 hf⟩ (by simp[-bf,D4,e])
  ·have q':¬(b.sws.length:Int)=12:=by omega
   obtain⟨row,R,e⟩:=PY D0 (by omega) r;exact jD (by simp[q']) (mK (by simp) R (by simp[e]))
 refine jD (by simp[k0,k1]) (jD (by simp[k1]) ?_);by_cases k2:k=2
 ·subst k2
  by_cases q:b.sws.length=12
  ·obtain⟨i1,i2,i3,i4⟩:=mM
   obtain⟨c1,c2,c3,c4⟩:=Ei;obtain⟨f1,f2,f3,f4⟩:=sT;have h12:12<=(b.sws.length:Int):=by omega
   have key:∃row,gL row 0 h d/\cU [D.str ("feed 0":Str),.str ("feed 99":Str),.str ("breaker 0 0":Str),.str ("splitter 12 12":Str)] a=some (.str row):=by
    rcases a4 with rfl|rfl|rfl|rfl
    ·exact⟨_,⟨by decide,by rw[f1];exact jM D0 i1 c1 rfl (by decide) (.inl ⟨rfl,h12⟩) (by decide)⟩,rfl⟩
    ·exact⟨_,⟨by decide,by rw[f2];exact jM D0 i1 c1 rfl (by decide) (.inl ⟨rfl,h12⟩) (by decide)⟩,rfl⟩
    ·exact⟨_,⟨by decide,by rw[f3];exact jM D0 i3 c3 rfl (by decide) (.inl ⟨rfl,h12⟩) (by decide)⟩,rfl⟩
    ·exact⟨_,⟨by decide,by rw[f4];exact jM D0 i4 c4 rfl (by decide) (.inl ⟨rfl,h12⟩) (by decide)⟩,rfl⟩
   obtain⟨row,R,e⟩:=key;exact mK (by simp[q]) R (by simp[-aF,M4,e])
  ·have q':¬(b.sws.length:Int)=12:=by omega
   obtain⟨row,R,e⟩:=M5 D0 (by omega) r (some (.int c)) (some (.int (b.sws.length:Nat))) (some (.int 2));exact jD (by simp[q']) (mK (by simp) R e)
 refine jD (by simp[k2]) (jD (by simp[k2]) ?_);by_cases k3:k=3
 ·subst k3
  have key:∃f:Nat,f<1000000000/\((f:Int)<1\/10<(f:Int))/\cU [D.int 0,.int 11,.int (12+(x8:Int)),.int 999999999] a=some (.int (f:Nat)):=by
   rcases a4 with rfl|rfl|rfl|rfl
   ·exact⟨0,by decide,by decide,rfl⟩
   ·exact⟨11,by decide,by decide,rfl⟩
   ·exact⟨12+x8,by omega,by omega,by simp[cU,gC]⟩
   ·exact⟨999999999,by decide,by decide,rfl⟩
  obtain⟨f,f9,fv,e⟩:=key;have fs:=fM f9 h;have ca:=fG l5 f9 h;have A12:au (.int 12) (.int (x8:Nat)) h=.ok (.int (12+(x8:Int))) h:=by simp
  refine mK (i:=1) (by simp) ⟨by decide,Ia D0.o (v:=f) (by omega) (by omega) fv⟩ ?_;generalize ar (f:Int)=F at*;simp[-aF, -bf, -aV, -au, -fA,M4,D4,P8,M8,A12,e,fs,ca]
 refine jD (by simp[k3]) ?_;by_cases k4:k=4
 ·subst k4
  obtain⟨row,R,e⟩:=N5 D0 r;exact mK (by simp) R (by simp[e])
 refine jD (by simp[k4]) ?_;have f9:b.sws.length+x8<1000000000:=by omega
 have g9:x9<1000000000:=by omega
 have AM:au (.int (b.sws.length:Nat)) (.int (x8:Nat)) h=.ok (.int ((b.sws.length+x8:Nat):Int)) h:=by simp
 have fs:=fM f9 h;have gs:=fM g9 h;have key:a=3\/∃u w:Str,u=w++⟨#[32]⟩/\(w=Str.ofString "turn"\/w=Str.ofString "lock"\/w=Str.ofString "unlock")/\u.length<=20/\¬u=Str.ofString "back "/\aS (.lst [.str ("turn ":Str),.str ("lock ":Str),.str ("unlock ":Str),.str ("back ":Str)]) (.int a) h=.ok (.str u) h:=by
  rcases a4 with rfl|rfl|rfl|rfl
  ·exact .inr ⟨_,_,s1,.inl rfl,l1,n1,by simp⟩
  ·exact .inr ⟨_,_,s2,.inr (.inl rfl),l2,n2,by simp⟩
  ·exact .inr ⟨_,_,s3,.inr (.inr rfl),l3,n3,by simp⟩
  ·exact .inl rfl
 rcases key with rfl|⟨u,w,eu,hw,lu,nu,ei⟩
 ·refine⟨fm ("back":Str) x9,5,⟨by decide,Mq D0 g9 hg⟩,?_⟩
  have ca:=fG l4 g9 h;have a3:cU [D.str ("turn ":Str),.str ("lock ":Str),.str ("unlock ":Str),.str ("back ":Str)] 3=some (.str ("back ":Str)):=rfl;have er:Str.ofString "back "++ar ((x9:Nat):Int)=fm ("back":Str) x9:=by rw[s4];rfl
  rw[er]at ca;generalize ar ((x9:Nat):Int)=F at*;refine(bS (ρ':=[some (.int c),some (.int (b.n:Nat)),some (.int (b.sws.length:Nat)),some (.int k),some (.int r),none,some (.str ("back ":Str))]) (h':=h) (by simp[-aF,M4,a3])).trans ?_;exact vp (by simp[-aF, -bf, -aV, -au, -fA,D4,P9,M9,gs,ca])
 ·refine⟨fm w (b.sws.length+x8),4,⟨by decide,Pd D0 f9 hw (by omega)⟩,?_⟩
  have ca:=fG lu f9 h;have er:u++ar ((b.sws.length+x8:Nat):Int)=fm w (b.sws.length+x8):=by rw[eu];rfl
  rw[er]at ca;generalize ar ((b.sws.length+x8:Nat):Int)=F at*;refine(bS (ρ':=[some (.int c),some (.int (b.n:Nat)),some (.int (b.sws.length:Nat)),some (.int k),some (.int r),none,some (.str u)]) (h':=h) (by simp[-aF, -aS,M4,ei])).trans ?_;refine(bS (ρ':=[some (.int c),some (.int (b.n:Nat)),some (.int (b.sws.length:Nat)),some (.int k),some (.int r),none,some (.str u)]) (h':=h) (by simp[nu])).trans ?_;generalize b.sws.length+x8=f at*;simp[-aF, -bf, -aV, -au, -fA,D4,P8,M8,AM,fs,ca]
noncomputable def iB:List Str:=(["show","live","turn 0","feed 0","permit 0","locks 0","reach live 0","back 1","lock 0","shut"]:List String).map Str.ofString
noncomputable def N6:List Str:=(["earthed","locked","unlock 0","earth 0","breaker 0 1","splitter 0 1"]:List String).map Str.ofString
noncomputable def GH(row:Str):Bool:=match Txt.split row ⟨#[32]⟩with
 | k::r=>decide (row.length<=200)&&decide (r.length<=100)&& !decide (k=Str.ofString "bars")
 | []=>false
theorem Ad:(iB++N6).all GH=true:=by decide+kernel
theorem BW(o:h[d]?=some (bo .non .non))(hn:GH row=true):aT [.ref d,.str row] h=.exc "NoRow" h:=by
 unfold GH at hn;split at hn
 ·rename_i k r e
  simp only[qu,decide_eq_true_eq,gf,decide_eq_false_iff_not]at hn;exact Ko e hn.1.1 hn.1.2 o λz=>absurd z hn.2
 ·cases hn
theorem Qg(o:h[d]?=some (bo .non .non))(c m:Int):∃row i,gL row i h d/\gV [.int c,.int 0,.int m] h=.ok (iN row i) h:=by
 obtain⟨r,hr⟩:∃r,c / 6=r:=⟨_,rfl⟩;obtain⟨k,hk⟩:∃k,c % 6=k:=⟨_,rfl⟩;obtain⟨t,ht⟩:∃t,r / 18=t:=⟨_,rfl⟩;obtain⟨a,ha⟩:=jv (x:=r % 18) (by omega);have M6:aF (.int c) (.int 6) h=.ok (.int k) h:=by simp[hk]
 have D6:bf (.int c) (.int 6) h=.ok (.int r) h:=by simp[hr]
 have M18:aF (.int r) (.int 18) h=.ok (.int (a:Nat)) h:=by simp[ha]
 have D18:bf (.int r) (.int 18) h=.ok (.int t) h:=by simp[ht]
 suffices S:∃row i,gL row i h d/\fX [some (.int c),some (.int 0),some (.int m),none,none,none,none] h=.rt (iN row i) h by
  obtain⟨row,i,R,e⟩:=S;exact⟨row,i,R,iC (np:=3) (nn:=7) (b:=fX) (ds:=[.int c,.int 0,.int m]) rfl e (qi _)⟩
 unfold fX;refine Dz (ρ':=[some (.int c),some (.int 0),some (.int m),some (.int k),none,none,none]) (by simp[-aF,M6]) ?_;refine Dz (ρ':=[some (.int c),some (.int 0),some (.int m),some (.int k),some (.int r),none,none]) (by simp[-bf,D6]) ?_;refine HX (by simp) ?_;refine Dz (ρ':=[some (.int c),some (.int 0),some (.int m),some (.int k),some (.int r),some (.lst (iB.map D.str)),none]) (by simp[iB]) ?_;refine Dz (ρ':=[some (.int c),some (.int 0),some (.int m),some (.int k),some (.int r),some (.lst ((iB++N6).map D.str)),none]) (by simp[iB,N6]) ?_;by_cases q:a=17
 ·have m3:t % 3=0\/t % 3=1\/t % 3=2:=by omega
  have M3:aF (.int t) (.int 3) h=.ok (.int (t % 3)) h:=by simp
  have key:∃f:Nat,f<1000000000/\((f:Int)<1\/10<(f:Int))/\cU [D.int 0,.int 11,.int 999999999] (t % 3)=some (.int (f:Nat)):=by
   rcases m3 with m3|m3|m3<;>rw[m3]
   ·exact⟨0,by decide,by decide,rfl⟩
   ·exact⟨11,by decide,by decide,rfl⟩
   ·exact⟨999999999,by decide,by decide,rfl⟩
  obtain⟨f,f9,fv,e⟩:=key;have fs:=fM f9 h;have ca:=fG l_.2.2.2.2.1 f9 h;refine mK (i:=1) (by simp[-aF,M18,q]) ⟨by decide,Ia o (v:=f) (by omega) (by omega) fv⟩ ?_;generalize ar (f:Int)=F at*;generalize(iB++N6).map D.str=T at*;simp[-aF, -bf, -aV, -au,M3,D18,e,fs,ca]
 have q17:¬(a:Int)=17:=by omega
 refine jD (by simp[-aF,M18,q17]) ?_;obtain⟨row7,ho,e⟩:=GI t h;have key:∃row,gL row 0 h d/\cU ((iB++N6++[row7]).map D.str) (a:Int)=some (.str row):=by
  by_cases l:a<16
  ·have la:a<(iB++N6).length:=l
   refine⟨(iB++N6)[a],⟨by decide,BW o (List.all_eq_true.mp Ad _ (we la))⟩,rJ ?_⟩;rw[z5,z8 la,z6 la];rfl
  ·obtain rfl:a=16:=by omega
   obtain⟨w,ws,es,lr,lw,hf⟩:=EZ ho;exact⟨row7,⟨by decide,Ko es lr lw o λ_=>hf⟩,rfl⟩
 obtain⟨row,R,ea⟩:=key;have ad:au (.lst ((iB++N6).map D.str)) (.lst [.str row7]) h=.ok (.lst ((iB++N6++[row7]).map D.str)) h:=by simp[iB,N6]
 refine⟨row,0,R,?_⟩;generalize(iB++N6++[row7]).map D.str=T7 at*;generalize(iB++N6).map D.str=T at*;simp[-aF, -bf, -au,M18,D18,e,ad,ea]
theorem Fn(k:Str)(a b:Int):k++⟨#[32]⟩++ar a++Str.ofString " "++ar b=bh (k,[a,b]):=by
 rw[j8,kX];simp only[jf]
theorem Qc(c:Int)(n:Nat)(h1:1<=n)(h2:n<=10)(h:MH):∃s:Sw,s.ok n/\eR [.int c,.int (n:Nat)] h=.ok (.str (aL s)) h:=by
 have hn:0<n:=by omega
 have hn0:(0:Int)<(n:Int):=by omega
 obtain⟨a,ea⟩:=jv (x:=c / 5 % (n:Int)) (w4 _ (by omega));have la:a<n:=by have:=zv (c / 5) (b:=(n:Int)) hn0;omega
 have m2:c % 2=0\/c % 2=1:=by omega
 have lga:(a:Nat).log2<1920:=zo (w5 a) (by omega);have lwa:(ar (a:Int)).length<=2:=(iT (n:=a) (by omega) (by omega)).1;obtain⟨k1,k2,k3,k4,_⟩:=j2;have g1:("feed ":Str).length<=9/\("earth ":Str).length<=9/\("breaker ":Str).length<=9/\("splitter ":Str).length<=9/\(" ":Str).length<=9:=by decide+kernel
 obtain⟨g1,g2,g3,g4,g5⟩:=g1;have eq1:∀(_:n=1),bH (.int (n:Nat)) (.int 1) h=.ok (.bl true) h:=λz=>by subst z;rfl
 by_cases q0:c % 5<2\/n=1
 ·rcases m2 with m2|m2
  ·refine⟨.feed a,la,?_⟩
   have e:Str.ofString "feed "++ar (a:Int)=aL (.feed a):=by rw[k1];exact kB _ _
   have l1:("feed ":Str).length+(ar (a:Int)).length<=16777216:=by omega
   by_cases z:c % 5<2
   ·simp[eR,iq,ea,hn,z,m2,lga,l1,e]
   ·have e1:=eq1 (q0.resolve_left z)
    simp[-bH,eR,iq,ea,hn,z,e1,m2,lga,l1,e]
  ·refine⟨.earth a,la,?_⟩
   have e:Str.ofString "earth "++ar (a:Int)=aL (.earth a):=by rw[k2];exact kB _ _
   have l1:("earth ":Str).length+(ar (a:Int)).length<=16777216:=by omega
   by_cases z:c % 5<2
   ·simp[eR,iq,ea,hn,z,m2,lga,l1,e]
   ·have e1:=eq1 (q0.resolve_left z)
    simp[-bH,eR,iq,ea,hn,z,e1,m2,lga,l1,e]
 ·have z:¬c % 5<2:=λy=>q0 (.inl y)
  have n1:¬n=1:=λy=>q0 (.inr y);have n1':¬(n:Int)=1:=by omega
  have hn1:(1:Int)<(n:Int):=by omega
  obtain⟨b,eb⟩:=jv (x:=((a:Int)+1+c / 50 % ((n:Int) - 1)) % (n:Int)) (w4 _ (by omega));have lb:b<n:=by have:=zv ((a:Int)+1+c / 50 % ((n:Int) - 1)) (b:=(n:Int)) hn0;omega
  have ab:a≠b:=λy=>by
   have:=Nv (x:=a) (y:=c / 50 % ((n:Int) - 1)) (n:=n) (by omega) (by omega) (w4 _ (by omega)) (zv _ (by omega));omega
  have lgb:(b:Nat).log2<1920:=zo (w5 b) (by omega);have lwb:(ar (b:Int)).length<=2:=(iT (n:=b) (by omega) (by omega)).1;have key:∀{u w:Str} {s:Sw},u=w++⟨#[32]⟩->u.length<=9->bh (w,[(a:Int),(b:Int)])=aL s->cU [D.str ("breaker ":Str),.str ("splitter ":Str),.str ("breaker ":Str)] (c % 5 - 2)=some (.str u)->eR [.int c,.int (n:Nat)] h=.ok (.str (aL s)) h:=fun{u w s} eu lu es ei=>by
   have e:u++ar (a:Int)++Str.ofString " "++ar (b:Int)=aL s:=by rw[<-es,eu];exact Fn _ _ _
   have l1:u.length+(ar (a:Int)).length<=16777216:=by omega
   have l2:(u++ar (a:Int)).length+(" ":Str).length<=16777216:=by rw[jk];omega
   have l3:(u++ar (a:Int)++Str.ofString " ").length+(ar (b:Int)).length<=16777216:=by rw[jk,jk];omega
   simp[-Int.emod_emod_of_dvd,eR,iq,ea,eb,hn,n1,n1',hn1,z,lga,lgb,l1,l2,l3,e,ei]
  have m5:c % 5 - 2=0\/c % 5 - 2=1\/c % 5 - 2=2:=by omega
  rcases m5 with m5|m5|m5
  ·exact⟨.breaker a b,⟨la,lb,ab⟩,key k3 g3 rfl (by rw[m5];rfl)⟩
  ·exact⟨.splitter a b,⟨la,lb,ab⟩,key k4 g4 rfl (by rw[m5];rfl)⟩
  ·exact⟨.breaker a b,⟨la,lb,ab⟩,key k3 g3 rfl (by rw[m5];rfl)⟩
noncomputable abbrev ba(n:Nat)(sws:List Sw):List D:=(cA n::sws.map aL).map D.str
theorem LH(ns:List Int)(h:MH):∃n sws,c_ n sws/\jL [.arg ns] h=.ok (.lst (ba n sws)) h:=by
 obtain⟨d0,e0⟩:=wH ns 0 (by omega) h;obtain⟨d1,e1⟩:=wH ns 1 (by omega) h;obtain⟨n,hn,hb⟩:∃n:Nat,(1<=n/\n<=10)/\(n:Int)=1+(d0:Int) % 10:=⟨1+d0 % 10,by omega,by omega⟩;let M:ME:=(aY eR (ag (ae au (bz fT (ag (jR (aa 2) (b_ (aa 0)) (b_ (mC (.int 63))) (b_ (mC (.int 12)))) af)) (aY du (ag (aa 2) (ag (ae au (mC (.int 20)) (aa 0)) af)))) (ag (aa 1) af)));have one:∀k:Fin 13,∃s:Sw,s.ok n/\M [some (.int (0+(k.val:Int))),some (.int n),some (.arg ns)] h=.ok (.str (aL s)) h:=λk=>by
  obtain⟨dk,ek⟩:=wH ns (20+k.val) (by omega) h;obtain⟨s,ok,es⟩:=Qc ((vz ns (some (k.val:Int)) (some 63) 12).sum+dk) n hn.1 hn.2 h;refine⟨s,ok,?_⟩;simp at ek;simp[M,ek,es]
 have hm:d1 % 13<=12:=by omega
 let f:Nat->Sw:=λk=>if q:k<13 then(one ⟨k,q⟩).choose else .feed 0
 have comp:compLoop (aD 0) aU M [none,some (.int n),some (.arg ns)] (rng 0 (d1 % 13)) h=.ok ((((List.range (d1 % 13)).map f).map aL).map D.str) h:=by
  unfold rng;rw[List.map_map,List.map_map];refine jV (λ(k:Nat)=>D.int (0+(k:Int))) (λk=>[some (.int (0+(k:Int))),some (.int n),some (.arg ns)]) (λk=>D.str (aL (f k))) (List.range (d1 % 13)) (λk hk=>⟨by simp,by simp,?_⟩);have hk':k<13:=by have:=w6.mp hk;omega
  simp only[f,dif_pos hk'];exact(one ⟨k,hk'⟩).choose_spec.2
 refine⟨n,(List.range (d1 % 13)).map f,⟨hn.1,hn.2,by simp;omega,λs hs=> ?_⟩,?_⟩
 ·obtain⟨k,hk,rfl⟩:=qy.mp hs
  have hk':k<13:=by have:=w6.mp hk;omega
  simp only[f,dif_pos hk'];exact(one ⟨k,hk'⟩).choose_spec.1
 ·have eb:jS=(aq (aA (ae au (mC (.int 1)) (ae aF (aY du (ag (aa 0) (ag (mC (.int 0)) af))) (mC (.int 10)))) (aD 1))
   (aq (aA (ae aF (aY du (ag (aa 0) (ag (mC (.int 1)) af))) (mC (.int 13))) (aD 2))
   (aq (aA (aZ (dv 1 [1,0] (jr (ag (aa 2) af)) (aD 0) aU M)) (aD 3))
   (aw (ae au (aZ (bO (ag (ae au (mC (.str "bars ")) (bz aV (ag (aa 1) af))) af))) (aa 3)))))):=rfl
  have hb3:((d1:Int) % 13).natAbs<4611686018427387904:=by omega
  have et:((d1:Int) % 13).toNat=d1 % 13:=by omega
  have hl:d1 % 13<16777216:=by omega
  have fs:=fM (f:=n) (by omega) h;have ca:=fG (f:=n) l_.2.2.2.2.1 (by omega) h;have er:Str.ofString "bars "++ar (n:Int)=cA n:=by rw[HW,kB];rfl
  rw[er]at ca;have ln:((((List.range (d1 % 13)).map f).map aL).map D.str).length<=12:=by simp;omega
  have hr:ba n ((List.range (d1 % 13)).map f)=.str (cA n)::(((List.range (d1 % 13)).map f).map aL).map D.str:=rfl;rw[hr];have ad:au (.lst [.str (cA n)]) (.lst ((((List.range (d1 % 13)).map f).map aL).map D.str)) h=.ok (.lst (.str (cA n)::(((List.range (d1 % 13)).map f).map aL).map D.str)) h:=by
   generalize(((List.range (d1 % 13)).map f).map aL).map D.str=T at*;simp[show 1+T.length<=16777216 by omega]
  generalize(((List.range (d1 % 13)).map f).map aL).map D.str=T at*;clear_value M;clear hr er;have fi:fin h.length (D.lst (.str (cA n)::T)) h=.ok (.lst (.str (cA n)::T)) h:=by simp[fin]
  generalize cA (n:Int)=B at*;generalize ar (n:Int)=F at*;simp at e0 e1;refine iC (np:=1) (nn:=4) (b:=jS) (ds:=[.arg ns]) rfl ?_ (qi _);show jS [some (.arg ns),none,none,none] h=_;rw[eb];refine(bS (ρ':=[some (.arg ns),some (.int (n:Nat)),none,none]) (h':=h) (by simp[e0,hb])).trans ?_;refine(bS (ρ':=[some (.arg ns),some (.int (n:Nat)),some (.int ((d1:Int) % 13)),none]) (h':=h) (by simp[e1])).trans ?_;refine(bS (ρ':=[some (.arg ns),some (.int (n:Nat)),some (.int ((d1:Int) % 13)),some (.lst T)]) (h':=h) (by simp[hb3,et,hl,comp])).trans ?_;simp[-au, -aV,fs,ca,ad]
theorem J3:∀(l:List Nat),(∀p∈l,p=0)->Clo.all l 0=0
 | [],_=>rfl
 | a::l,h=>by
  have:a=0:=h a (qj ..);subst this;exact J3 l λp m=>h p (qg _ m)
theorem Lj(hf:∀j,st.testBit j=true->∃a,sws[j]?=some (.feed a)):mI st sws=true:=by
 have le:vo st sws=0:=J3 _ λp hp=>by
  obtain⟨q,hq,rfl⟩:=qy.mp hp;unfold fO at hq;obtain⟨hq,tb⟩:=wy.mp hq;obtain⟨a,ha⟩:=hf _ tb;have:=List.mem_zipIdx_iff_getElem?.mp hq;rw[ha]at this;rw[<-Option.some.inj this];rfl
 unfold mI oS;rw[le,Clo.Qo];simp
theorem Dk.ne(D0:Dk h d p r b):d≠p:=λe=>by
 subst e;have:=D0.o.symm.trans D0.a.o;simp[bo,Bd.cell]at this
theorem Dk.put(D0:Dk h d p r b)(hg:b'.gv=b.gv)(hn:b'.n=b.n)(hs:b'.sws=b.sws):Dk (h.set p (b'.cell r)) d p r b':=
 ⟨by rw[qm (Ne.symm D0.ne),hn,hs];exact D0.o,D0.a.put hg (by rw[hn,hs];exact D0.a.ok)⟩
structure Beg (n:Nat) (sws:List Sw) (k:Nat) (b:Bd):Prop where
 hn:b.n=n
 hs:b.sws=sws
 hg:b.gv=[]
 st:∀j,b.st.testBit j=true->j<k/\∃a,sws[j]?=some (.feed a)
 lk:∀j,b.lk.testBit j=true->j<k
noncomputable def Dw:Sw->Bool
 | .feed _=>true
 | _=>false
theorem Kr:∀a:Fin 10,Txt.slice (aL (.feed a.val)) none (some 4)=Str.ofString "feed"/\¬Txt.slice (aL (.earth a.val)) none (some 4)=Str.ofString "feed":=by decide+kernel
theorem J6:∀a b:Fin 10,¬Txt.slice (aL (.breaker a.val b.val)) none (some 4)=Str.ofString "feed"/\¬Txt.slice (aL (.splitter a.val b.val)) none (some 4)=Str.ofString "feed":=by decide+kernel
theorem Ga(hn:n<=10)(ok:s.ok n):decide (Txt.slice (aL s) none (some 4)=Str.ofString "feed")=Dw s:=by
 cases s with
 | feed a=>exact decide_eq_true (Kr ⟨a,qf ok hn⟩).1
 | earth a=>exact decide_eq_false (Kr ⟨a,qf ok hn⟩).2
 | breaker a b=>exact decide_eq_false (J6 ⟨a,qf ok.1 hn⟩ ⟨b,qf ok.2.1 hn⟩).1
 | splitter a b=>exact decide_eq_false (J6 ⟨a,qf ok.1 hn⟩ ⟨b,qf ok.2.1 hn⟩).2
theorem uj(hs:sws[k]?=some s)(h:MH):aS (.lst (ba n sws)) (.int ((1+k:Nat):Int)) h=.ok (.str (aL s)) h:=by
 have:cU (ba n sws) ((1+k:Nat):Int)=some (.str (aL s)):=rJ (by
  show((cA n::sws.map aL).map D.str)[1+k]?=_;rw[Nat.add_comm,List.map_cons,wg,z5,z5,hs];rfl)
 generalize ba n sws=T at*;simp[-Int.natCast_add,this]
theorem Nm(ok:c_ n sws)(ns:List Int)(D0:Dk h d p r b)(B0:Beg n sws k b)(hs:sws[k]?=some s)(x3:Option D)(IX:aS (.lst T) (.int ((1+k:Nat):Int)) h=.ok (.str (aL s)) h):∃(H:MH) (b':Bd),Dk H d p r b'/\Beg n sws (k+1) b'/\H.length=h.length/\uW [some (.ref d),some (.arg ns),some (.lst T),x3,some (.int (k:Nat))] h=.nx [some (.ref d),some (.arg ns),some (.lst T),x3,some (.int (k:Nat))] H:=by
 have kl:k<sws.length:=(qb.mp hs).1;have k12:k<12:=qf kl ok.2.2.1;have sok:s.ok n:=ok.2.2.2 s (qt hs);have A1:au (.int 1) (.int (k:Nat)) h=.ok (.int ((1+k:Nat):Int)) h:=by simp
 have A40:au (.int 40) (.int (k:Nat)) h=.ok (.int ((40+k:Nat):Int)) h:=by simp
 obtain⟨y,hy⟩:∃y:Nat,1+k=y:=⟨_,rfl⟩;rw[hy]at IX A1;have lr:(aL s).length<=16777216:=by have:=(Em ok.2.1 sok).1;omega
 have c4:=Ga ok.2.1 sok;have hw:b.sws[k]?=some s:=by rw[B0.hs];exact hs
 have sk:b.st.testBit k=false:=by
  cases q:b.st.testBit k
  ·rfl
  ·exact absurd (B0.st k q).1 (zw k)
 have lk:b.lk.testBit k=false:=by
  cases q:b.lk.testBit k
  ·rfl
  ·exact absurd (B0.lk k q) (zw k)
 obtain⟨x,ex⟩:=wH ns (40+k) (by omega) h;obtain⟨z,hz⟩:∃z:Nat,40+k=z:=⟨_,rfl⟩;rw[hz]at ex A40;have T1:(ae bH (cF (ae aS (aa 2) (ae au (mC (.int 1)) (aa 4))) cz (b_ (mC (.int 4)))) (mC (.str "feed"))) [some (.ref d),some (.arg ns),some (.lst T),x3,some (.int (k:Nat))] h=.ok (.bl (Dw s)) h:=by
  rw[<-c4];simp[-aS, -au,A1,IX,lr]
 have T1':(tB (ae bH (cF (ae aS (aa 2) (ae au (mC (.int 1)) (aa 4))) cz (b_ (mC (.int 4)))) (mC (.str "feed")))) [some (.ref d),some (.arg ns),some (.lst T),x3,some (.int (k:Nat))] h=.ok (Dw s) h:=by
  unfold tB;rw[T1];rfl
 cases sf:Dw s with
 | false=>
  refine⟨h,b,D0,⟨B0.hn,B0.hs,B0.hg,λj hj=>⟨zj (B0.st j hj).1,(B0.st j hj).2⟩,λj hj=>zj (B0.lk j hj)⟩,rfl,?_⟩;rw[sf]at T1';unfold uW aX cS;simp only[T1',gE,mX,zn,if_false];rfl
 | true=>
  obtain⟨a,rfl⟩:∃a,s=.feed a:=by
   cases s with
   | feed a=>exact⟨a,rfl⟩
   | _=>cases sf
  rw[sf]at T1';have fs:=fM (f:=k) (by omega) h;obtain⟨l1,l2,_⟩:=l_;obtain⟨s1,s2,_⟩:=BE;have M3:aF (.int (x:Nat)) (.int 3) h=.ok (.int ((x % 3:Nat):Int)) h:=by simp
  obtain⟨v,hv⟩:∃v:Nat,x % 3=v:=⟨_,rfl⟩;rw[hv]at M3;have T2:(tB (ae bH (ae aF (aY du (ag (aa 1) (ag (ae au (mC (.int 40)) (aa 4)) af))) (mC (.int 3))) (mC (.int 0)))) [some (.ref d),some (.arg ns),some (.lst T),x3,some (.int (k:Nat))] h=.ok (decide (v=0)) h:=by
   have:decide ((v:Int)=0)=decide (v=0):=by
    by_cases q:v=0
    ·rw[decide_eq_true q,decide_eq_true (by omega)]
    ·rw[decide_eq_false q,decide_eq_false (by omega)]
   rw[<-this];simp[-au, -aF, -Int.natCast_add, -Int.natCast_emod,A40,ex,M3]
  cases q:decide (v=0)with
  | true=>
   have hE:DL b k (.feed a)=none:=by simp[DL,Sw.lockable,sk,lk]
   have e:=MC D0.a k _ hw;rw[hE]at e;have D1:=D0.put (b':={b with lk:=b.lk|||2^k}) rfl rfl rfl;refine⟨_,_,D1,⟨B0.hn,B0.hs,B0.hg,λj hj=>⟨zj (B0.st j hj).1,(B0.st j hj).2⟩,λj hj=> ?_⟩,zt,?_⟩
   ·have hj:(b.lk|||2^k).testBit j=true:=hj
    rw[wf,Bool.or_eq_true]at hj;rcases hj with hj|hj
    ·exact zj (B0.lk j hj)
    ·rw[Nat.testBit_two_pow]at hj
     have:=of_decide_eq_true hj;omega
   ·have es:=HG IS D0.o rfl (k:=k) (by omega) (xA D0 (v:=k) (tab:=va) (f:="lock") zt rfl (by decide+kernel) e (.inl ⟨rfl,rfl,rfl⟩)) (wr zt)
    have ca:=fG l2 (f:=k) (by omega) h;have er:Str.ofString "lock "++ar (k:Int)=fm ("lock":Str) k:=by rw[s2];rfl
    rw[er]at ca;have m1:=tY D0.o (m:=aa 0) (l:=ag (ae au (mC (.str "lock ")) (bz aV (ag (aa 4) af))) af) (ρ:=[some (.ref d),some (.arg ns),some (.lst T),x3,some (.int (k:Nat))]) (row:=fm ("lock":Str) k) (by simp) (by
     generalize ar (k:Int)=F at*;simp[-aV, -au,fs,ca])
    have m1:=m1.trans es;generalize h.set p (({b with lk:=b.lk|||2^k}:Bd).cell r)=H at*;rw[q]at T2;unfold uW;have tt:∀{A B:MS} {t u:MT} {ρ:Ro},t ρ h=.ok true h->u ρ h=.ok true h->aX (cS t u) A B ρ h=A ρ h:=λe1 e2=>by simp[e1,e2]
    rw[tt T1' T2];simp[-aQ,m1]
  | false=>
   have hx:∀j,(b.st^^^2^k).testBit j=true->j<k+1/\∃a,sws[j]?=some (.feed a):=λj hj=>by
    by_cases e:j=k
    ·subst e;exact⟨zp _,a,hs⟩
    ·rw[ka,Nat.testBit_two_pow,decide_eq_false (λz=>e z.symm),Bool.xor_false]at hj
     exact⟨zj (B0.st j hj).1,(B0.st j hj).2⟩
   have sf:=Lj λj hj=>(hx j hj).2;have hE:Ea b k (.feed a)=none:=by simp[Ea,lk,B0.hg,nH,Clo.all,oj,B0.hs,sf]
   have e:=Li D0.a k _ hw;rw[hE]at e;have D1:=D0.put (b':={b with st:=b.st^^^2^k}) rfl rfl rfl;refine⟨_,_,D1,⟨B0.hn,B0.hs,B0.hg,hx,λj hj=>zj (B0.lk j hj)⟩,zt,?_⟩;have es:=HG HH D0.o rfl (k:=k) (by omega) (Me D0 (v:=k) zt e) (wr zt);have tb:(b.st^^^2^k).testBit k=true:=by rw[ka,sk,Nat.testBit_two_pow_self];rfl
   rw[tb,if_pos rfl]at es;have ca:=fG l1 (f:=k) (by omega) h;have er:Str.ofString "turn "++ar (k:Int)=fm ("turn":Str) k:=by rw[s1];rfl
   rw[er]at ca;have m1:=tY D0.o (m:=aa 0) (l:=ag (ae au (mC (.str "turn ")) (bz aV (ag (aa 4) af))) af) (ρ:=[some (.ref d),some (.arg ns),some (.lst T),x3,some (.int (k:Nat))]) (row:=fm ("turn":Str) k) (by simp) (by
    generalize ar (k:Int)=F at*;simp[-aV, -au,fs,ca])
   have m1:=m1.trans es;generalize h.set p (({b with st:=b.st^^^2^k}:Bd).cell r)=H at*;rw[q]at T2;have tf:∀{A B:MS} {t u:MT} {ρ:Ro},t ρ h=.ok true h->u ρ h=.ok false h->aX (cS t u) A B ρ h=B ρ h:=λe1 e2=>by simp[e1,e2]
   have th:∀{A:MS} {t u:MT} {ρ:Ro} {H:MH},t ρ h=.ok true h->u ρ h=.ok false H->aX (cS t u) A bx ρ h=.nx ρ H:=λe1 e2=>by simp[e1,e2]
   unfold uW;rw[tf T1' T2,th (H:=H) T1' (by simp[-aQ,m1])]
theorem HE(ok:c_ n sws)(ns:List Int){d p r:Nat}(x3:Option D):∀(m k:Nat) (h:MH) (b:Bd) (x4:Option D),k+m=sws.length->Dk h d p r b->Beg n sws k b->∃(H:MH) (b':Bd) (x4':Option D),Dk H d p r b'/\Beg n sws sws.length b'/\H.length=h.length/\dS (aD 4) uW ((List.range' k m).map λk:Nat=>D.int k) [some (.ref d),some (.arg ns),some (.lst (ba n sws)),x3,x4] h=.nx [some (.ref d),some (.arg ns),some (.lst (ba n sws)),x3,x4'] H
 | 0,k,h,b,x4,e,D0,B0=>⟨h,b,x4,D0,by rw[<-e];exact B0,rfl,rfl⟩
 | m+1,k,h,b,x4,e,D0,B0=>by
  have hk:k<sws.length:=by omega
  obtain⟨H,b1,D1,B1,l1,e1⟩:=Nm ok ns D0 B0 (z6 hk) x3 (uj (n:=n) (z6 hk) h);obtain⟨H2,b2,x4',D2,B2,l2,e2⟩:=HE ok ns x3 m (k+1) H b1 (some (.int (k:Nat))) (by omega) D1 B1;refine⟨H2,b2,x4',D2,B2,l2.trans l1,?_⟩;have g0:aD 4 (.int (k:Nat)) [some (.ref d),some (.arg ns),some (.lst (ba n sws)),x3,x4] h=.nx [some (.ref d),some (.arg ns),some (.lst (ba n sws)),x3,some (.int (k:Nat))] h:=rfl;rw[List.range'_succ,List.map_cons];simp only[dS,g0,e1,e2]
theorem IP(o:h[d]?=some (bo y p))(e:aT [.ref d,.str row] h=.ok (.str "ok") H)(x1 x2 x4:Option D):wK [some (.ref d),x1,x2,some (.str row),x4] h=.nx [some (.ref d),x1,x2,some (.str row),x4] H:=by
 have m1:=tY o (m:=aa 0) (l:=ag (aa 3) af) (ρ:=[some (.ref d),x1,x2,some (.str row),x4]) (row:=row) (by simp) (by simp);have m1:=m1.trans e;simp[-aQ,wK,m1]
theorem JT{n:Nat}{h0:MH}{d:Nat}(x1 x2 x4:Option D):∀(us ds:List Sw) (x3:Option D) (h:MH) (p r:Nat),c_ n (ds++us)->Dk h d p r (Bd.new n ds)->h0.length<=p->d<h0.length->∃(H:MH) (p' r':Nat) (x3':Option D),Dk H d p' r' (Bd.new n (ds++us))/\h0.length<=p'/\
  dS (aD 3) wK ((us.map aL).map D.str) [some (.ref d),x1,x2,x3,x4] h=.nx [some (.ref d),x1,x2,x3',x4] H
 | [],ds,x3,h,p,r,ok,D0,hp,hd=>⟨h,p,r,x3,by rw[zr];exact D0,hp,rfl⟩
 | s::us,ds,x3,h,p,r,ok,D0,hp,hd=>by
  have sok:s.ok n:=ok.2.2.2 s (by simp);have okd:c_ n ds:=⟨ok.1,ok.2.1,by have:=ok.2.2.1;simp at this;omega,λw m=>ok.2.2.2 w (wo _ m)⟩;have okd2:c_ n (ds++[s]):=⟨ok.1,ok.2.1,by have:=ok.2.2.1;simp at this ⊢;omega,λw m=>ok.2.2.2 w (by
   rcases zb.mp m with m|m
   ·exact wo _ m
   ·rw[zf.mp m];simp)⟩
  have ld:d<h.length:=(qb.mp D0.o).1;have lp:=D0.a.lt';have e1:=HQ D0 okd sok (by have:=ok.2.2.1;simp at this;show ds.length<12;omega);have e1:aT [.ref d,.str (aL s)] h=.ok (.str "ok") (eL h d n (ds++[s]) (.ref p)):=e1;have D1:=Ge (d:=d) (b:=.ref p) okd2 D0.a.hb ld (λm hm=>by simp[D.bnd];omega);have ea:ds++s::us=(ds++[s])++us:=by simp
  rw[ea];obtain⟨H,p',r',x3',D2,hp',e⟩:=JT (n:=n) (h0:=h0) x1 x2 x4 us (ds++[s]) (some (.str (aL s))) _ _ _ (by rw[<-ea];exact ok) D1 (by omega) hd;refine⟨H,p',r',x3',D2,hp',?_⟩;have st:=IP D0.o e1 x1 x2 x4;have g0:aD 3 (.str (aL s)) [some (.ref d),x1,x2,x3,x4] h=.nx [some (.ref d),x1,x2,some (.str (aL s)),x4] h:=rfl;rw[List.map_cons,List.map_cons];simp only[dS,g0,st,e]
theorem Hy(hL:L<=12)(h:∀j,x.testBit j=true->j<L):x<2^12:=Nat.lt_pow_two_of_testBit x λi hi=>by
 cases q:x.testBit i
 ·rfl
 ·have:=h i q;omega
theorem Om(ok:c_ n sws)(ns:List Int)(hb:Hb h)(o:h[d]?=some (bo .non .non)):∃(H:MH) (p r:Nat) (b:Bd),Dk H d p r b/\Beg n sws sws.length b/\j3 [.ref d,.arg ns,.lst (ba n sws)] h=.ok (.bl true) H:=by
 have ld:d<h.length:=(qb.mp o).1;have ok0:c_ n []:=⟨ok.1,ok.2.1,by simp,λs ms=>(nomatch ms)⟩;have hy:∀m,h.length<=m->D.non.bnd m=true:=λm _=>rfl;have e1:=OY ok.1 ok.2.1 hb o hy;have D1:=Ge (d:=d) (b:=.non) ok0 hb ld hy;obtain⟨H1,p,r,x3,D2,hp,e⟩:=JT (n:=n) (h0:=h) (some (.arg ns)) (some (.lst (ba n sws))) none sws [] (some (.str (cA n))) _ _ _ (by simpa using ok) D1 (qi _) ld;have D2:Dk H1 d p r (Bd.new n sws):=by simpa using D2
 have B2:Beg n sws 0 (Bd.new n sws):=⟨rfl,rfl,rfl,λj hj=>by simp[Bd.new]at hj,λj hj=>by simp[Bd.new]at hj⟩;obtain⟨H,b,x4,D3,B3,l3,e3⟩:=HE ok ns x3 sws.length 0 H1 (Bd.new n sws) none (by omega) D2 B2;refine⟨H,p,r,b,D3,B3,?_⟩;have st:=IP o e1 (some (.arg ns)) (some (.lst (ba n sws))) none;have lT:(ba n sws).length=sws.length+1:=by simp
 have l12:=ok.2.2.1;have rl:ba n sws=.str (cA n)::(sws.map aL).map D.str:=rfl;have lp0:dS (aD 3) wK (ba n sws) [some (.ref d),some (.arg ns),some (.lst (ba n sws)),none,none] h=.nx [some (.ref d),some (.arg ns),some (.lst (ba n sws)),x3,none] H1:=by
  have g0:aD 3 (.str (cA n)) [some (.ref d),some (.arg ns),some (.lst (ba n sws)),none,none] h=.nx [some (.ref d),some (.arg ns),some (.lst (ba n sws)),some (.str (cA n)),none] h:=rfl
  conv=>lhs;arg 3;rw[rl]
  simp only[dS,g0,st,e]
 have key:jE [some (.ref d),some (.arg ns),some (.lst (ba n sws)),none,none] h=.rt (.bl true) H:=by
  unfold jE;have rg:rng 0 sws.length=(List.range' 0 sws.length).map λk:Nat=>D.int k:=by rw[Bq,List.range_eq_range']
  rw[<-rg]at e3;generalize ba n sws=T at*;refine(bS (ρ':=[some (.ref d),some (.arg ns),some (.lst T),x3,none]) (h':=H1) (by simp[lp0])).trans ?_;have l1:T.length<16777216:=by omega
  have sb:cq (.int (T.length:Nat)) (.int 1) H1=.ok (.int (sws.length:Nat)) H1:=by rw[lT];simp
  refine(bS (ρ':=[some (.ref d),some (.arg ns),some (.lst T),x3,x4]) (h':=H) (by
   simp[-cq,l1,gk l1,sb,show sws.length<16777216 by omega,show sws.length<4611686018427387904 by omega,e3])).trans ?_
  simp
 unfold j3 aH;rw[if_pos (show[D.ref d,D.arg ns,D.lst (ba n sws)].length=3 from rfl)];have k2:jE ([D.ref d,D.arg ns,D.lst (ba n sws)].map some++List.replicate (5 - [D.ref d,D.arg ns,D.lst (ba n sws)].length) none) h=.rt (.bl true) H:=key;rw[k2];exact Dl D3.o ld hp
theorem J4:gQ x=true↔∀c∈x.cps.toList,c<0x110000 :=by
 unfold gQ;rw[<-Array.all_toList,List.all_eq_true];simp
theorem F9(hc:c<0x110000):∀ps:List Str,(∀p∈ps,gQ p=true)->gQ (Str.join ⟨#[c]⟩ ps)=true
 | [],_=>by show gQ Str.empty=true;decide+kernel
 | [p],h=>h p (qj ..)
 | p::q::r,h=>by
  have ih:=F9 hc (q::r) λa m=>h a (qg _ m);rw[J4]at ih ⊢;have hp:=J4.mp (h p (qj ..));intro x hx;rw[tH]at hx;rcases zb.mp hx with hx|hx
  ·exact hp x hx
  ·rcases qr.mp hx with rfl|hx
   ·exact hc
   ·exact ih x hx
theorem Jp:∀k:Fin 13,gQ (W k.val)=true/\gQ (cA k.val)=true:=by decide+kernel
theorem wO:∀a:Fin 10,gQ (aL (.feed a.val))=true/\gQ (aL (.earth a.val))=true:=by decide+kernel
theorem zA:∀a b:Fin 10,gQ (aL (.breaker a.val b.val))=true/\gQ (aL (.splitter a.val b.val))=true:=by decide+kernel
theorem Lk(hn:n<=10)(ok:s.ok n):gQ (aL s)=true:=by
 cases s with
 | feed a=>exact(wO ⟨a,qf ok hn⟩).1
 | earth a=>exact(wO ⟨a,qf ok hn⟩).2
 | breaker a b=>exact(zA ⟨a,qf ok.1 hn⟩ ⟨b,qf ok.2.1 hn⟩).1
 | splitter a b=>exact(zA ⟨a,qf ok.1 hn⟩ ⟨b,qf ok.2.1 hn⟩).2
theorem ID(n:Nat)(sws:List Sw):Txt.join ("\n":Str) (cA n::sws.map aL)=fV n sws:=by
 rw[sE,E4];unfold fV vd;rw[List.map_map];rfl
theorem qK(ok:c_ n sws):gQ (fV n sws)=true:=by
 rw[<-ID,sE,E4];refine F9 (by decide) _ λp m=> ?_;rcases qr.mp m with rfl|m
 ·exact(Jp ⟨n,by have:=ok.2.1;omega⟩).2
 ·obtain⟨s,ms,rfl⟩:=qy.mp m
  exact Lk ok.2.1 (ok.2.2.2 s ms)
theorem oo(hx:x<2^12):gQ (jT x)=true:=by
 unfold jT;split
 ·decide+kernel
 ·rw[sE,j8]
  refine F9 (by decide) _ λp m=> ?_;obtain⟨k,mk,rfl⟩:=qy.mp m;exact(Jp ⟨k,by have:=((Ex hx k).mp mk).2;omega⟩).1
noncomputable abbrev gH(b:Bd):List D:=[.str (fV b.n b.sws),.str (jT b.st),.str (jT b.lk)]
theorem wA(ok:c_ b.n b.sws)(hs:b.st<2^12)(hl:b.lk<2^12)(h:MH):dg (.lst (gH b)) (.lst (gH b)) h=.ok (.bl false) h:=by
 have o1:=qK ok;have o2:=oo hs;have o3:=oo hl;have hd:(D.lst (gH b)).dat=true:=JD (n:=1) (J_ (n:=0) λd md=>by
  simp only[gH,qr,zi,or_false]at md;rcases md with rfl|rfl|rfl<;>simp[D.py,D.deep,o1,o2,o3]) (by omega)
 have he:=Jd hd;generalize gH b=T at*;simp[hd,he]
noncomputable def yg:ML:=dv 1 [1] (dH (aZ (bO (ag (mC (.str "show")) (ag (mC (.str "shut")) (ag (mC (.str "locked")) af)))))) (aD 0) aU (aQ gW "say" (aa 1) (ag (aa 0) af))
theorem xo(D0:Dk h d p r b)(hs:b.st<2^12)(hl:b.lk<2^12)(h1:ρ[1]?=some (some (.ref d))):yg ρ h=.ok (gH b) h:=by
 have e1:=O6 D0 D0.a.ok;have e2:=NP D0 hs (EB hs h);have e3:=JE D0 hl (EB hl h);have mm:∀row:Str,aQ gW "say" (aa 1) (ag (aa 0) af) [some (.str row),some (.ref d)] h=aT [.ref d,.str row] h:=λrow=>tY D0.o (m:=aa 1) (l:=ag (aa 0) af) (ρ:=[some (.str row),some (.ref d)]) (row:=row) (by simp) (by simp);have m1:=(mm ("show":Str)).trans e1;have m2:=(mm ("shut":Str)).trans e2;have m3:=(mm ("locked":Str)).trans e3;have li:dH (aZ (bO (ag (mC (.str "show")) (ag (mC (.str "shut")) (ag (mC (.str "locked")) af))))) ρ h=.ok (none,[.str ("show":Str),.str ("shut":Str),.str ("locked":Str)]) h:=by simp
 have cp:caps [1] ρ=[some (.ref d)]:=by simp[caps,h1]
 unfold yg;rw[nq,li];have g0:∀(row:Str),aD 0 (.str row) [none,some (.ref d)] h=.nx [some (.str row),some (.ref d)] h:=λ_=>rfl;have ty:∀(row:Str),aU [some (.str row),some (.ref d)] h=.ok true h:=λ_=>rfl;simp only[gE,DF,cp];show chk (3<16777216) (compLoop (aD 0) aU _ [none,some (.ref d)] _ h)=_;simp only[chk,compLoop,g0,ty,m1,m2,m3,gE,if_true,show(3:Nat)<16777216 by omega]
noncomputable def hG:MT:=cS (tB (ae m_ (aa 3) (mC (.int 0)))) (tB (ae dg (aZ yg) (aa 4)))
theorem Qj(o:h[d]?=some (bo y p))(lT:T.length=m+1)(lm:m<=12)(R:gL row i h d)(ed:gV [.int c,.int (n:Nat),.int (m:Nat)] h=.ok (iN row i) h)(et:∀x5 x6 x7,hG [some (.arg ns),some (.ref d),some (.lst T),some (.int (n:Nat)),some (.lst B),x5,x6,x7] h=.ok false h)(x6 x7:Option D):AB [some (.arg ns),some (.ref d),some (.lst T),some (.int (n:Nat)),some (.lst B),some (.int c),x6,x7] h=.nx [some (.arg ns),some (.ref d),some (.lst T),some (.int (n:Nat)),some (.lst B),some (.int c),some (.str row),some (.int (i:Nat))] h:=by
 have sb:cq (.int (T.length:Nat)) (.int 1) h=.ok (.int (m:Nat)) h:=by rw[lT];simp
 have l1:T.length<=16777216:=by omega
 have eq:AB=aq (aA (aY gV (ag (aa 5) (ag (aa 3) (ag (ae cq (bz b9 (ag (aa 2) af)) (mC (.int 1))) af)))) (dY [6,7])) (aq (aX (tB (ae dg (aY hV (ag (aa 1) (ag (aa 6) af))) (aZ (dv 1 [7] (jr (ag (mC (.int 16)) af)) (aD 0) aU (ae bH (aa 1) (aa 0)))))) (aw (mC (.bl false))) bx) (aX hG (aw (mC (.bl false))) bx)):=rfl;rw[eq];refine(bS (ρ':=[some (.arg ns),some (.ref d),some (.lst T),some (.int (n:Nat)),some (.lst B),some (.int c),some (.str row),some (.int (i:Nat))]) (h':=h) (by simp[-cq,l1,sb,ed,Bt])).trans ?_;refine(bS (pD o R _ rfl rfl rfl)).trans ?_;have:=et (some (.int c)) (some (.str row)) (some (.int (i:Nat)));simp[this]
theorem Ft(o:h[d]?=some (bo y p))(lT:T.length=m+1)(lm:m<=12)(due:∀c:Int,∃row i,gL row i h d/\gV [.int c,.int (n:Nat),.int (m:Nat)] h=.ok (iN row i) h)(et:∀x5 x6 x7,hG [some (.arg ns),some (.ref d),some (.lst T),some (.int (n:Nat)),some (.lst B),x5,x6,x7] h=.ok false h):∀(cs:List D) (x5 x6 x7:Option D),(∀c∈cs,∃i:Int,c=.int i)->∃x5' x6' x7',dS (aD 5) AB cs [some (.arg ns),some (.ref d),some (.lst T),some (.int (n:Nat)),some (.lst B),x5,x6,x7] h=.nx [some (.arg ns),some (.ref d),some (.lst T),some (.int (n:Nat)),some (.lst B),x5',x6',x7'] h
 | [],x5,x6,x7,_=>⟨x5,x6,x7,rfl⟩
 | c::cs,x5,x6,x7,hc=>by
  obtain⟨i,rfl⟩:=hc c (qj ..);obtain⟨row,j,R,ed⟩:=due i;obtain⟨y5,y6,y7,e⟩:=Ft o lT lm due et cs (some (.int i)) (some (.str row)) (some (.int (j:Nat))) λc m=>hc c (qg _ m);refine⟨y5,y6,y7,?_⟩;have st:=Qj o lT lm R ed et x6 x7;have g0:aD 5 (.int i) [some (.arg ns),some (.ref d),some (.lst T),some (.int (n:Nat)),some (.lst B),x5,x6,x7] h=.nx [some (.arg ns),some (.ref d),some (.lst T),some (.int (n:Nat)),some (.lst B),some (.int i),x6,x7] h:=rfl;simp only[dS,g0,st,e]
theorem MK(h:MH):h_ [.ref h.length] (h++[some (.ins "Desk" [])])=.ok .non (h++[bo .non .non]):=by
 have key:kH [some (.ref h.length)] (h++[some (.ins "Desk" [])])=.nx [some (.ref h.length)] (h++[bo .non .non]):=by
  simp[kH,bD,bo,eV]
 unfold h_ aH;rw[if_pos (show[D.ref h.length].length=1 from rfl)];have k2:kH ([D.ref h.length].map some++List.replicate (1 - [D.ref h.length].length) none) (h++[some (.ins "Desk" [])])=_:=key;rw[k2];show fin _ _ _=_;unfold fin;rw[if_pos (by simp)]
theorem JQ:∀n:Fin 11,Txt.slice (cA n.val) (some 5) none=ar (n.val:Int)/\(cA n.val).length<=20:=by decide+kernel
theorem Iy(ns:List Int):∀c∈cut (ns.map D.int) none (some 63),∃i:Int,c=.int i:=λc hc=>by
 unfold cut at hc;obtain⟨i,_,e⟩:=qy.mp (List.mem_of_mem_drop (ko hc));exact⟨i,e.symm⟩
noncomputable def sA:MS:=(aq (aX (tB (ae dg (cF (aY hV (ag (aa 1) (ag (ae au (mC (.str "earth ")) (bz aV (ag (aa 3) af))) af))) cz (b_ (mC (.int 4)))) (aZ (bO (ag (mC (.bl false)) (ag (mC (.bl false)) (ag (mC (.bl true)) (ag (mC (.bl false)) af)))))))) (aw (mC (.bl false))) bx)
 (aw (tQ (ae bH (aQ gW "say" (aa 1) (ag (ae au (mC (.str "earth ")) (bz aV (ag (ae cq (aa 3) (mC (.int 1))) af))) af)) (mC (.str "ok"))) (ae bH (aQ gW "say" (aa 1) (ag (mC (.str "locked")) af)) (mC (.str "none"))))))
theorem Px(D0:Dk h d p r b)(hl:b.sws.length<12)(x0 x2 x4 x5 x6 x7:Option D):∃H,sA [x0,some (.ref d),x2,some (.int (b.n:Nat)),x4,x5,x6,x7] h=.rt (.bl true) H:=by
 have ok:=D0.a.ok;have n1:=ok.1;have n10:=ok.2.1;obtain⟨i1,i2,i3,i4⟩:=mM;obtain⟨c1,c2,c3,c4⟩:=Ei;have k2:Str.ofString "earth "=Str.ofString "earth"++⟨#[32]⟩:=j2.2.1;have le:("earth ":Str).length<=20:=by decide+kernel
 have s1:aT [.ref d,.str (Str.ofString "earth "++ar (b.n:Int))] h=.exc "NoBar" h:=by
  rw[k2,<-vX];exact jM D0 i2 c2 rfl (by simp;omega) (.inr ⟨by omega,.inl ⟨rfl,_,rfl,by omega⟩⟩) (by simp)
 have rf:=HB D0.o (c:="NoBar") (by decide+kernel) s1;have rb:BO "NoBar"=[false,false,true,false,false,false,false,false,false,false,false,false,false,false,false,false]:=by decide+kernel
 rw[rb]at rf;have fs:=fM (f:=b.n) (by omega) h;have ca:=fG le (f:=b.n) (by omega) h;obtain⟨m,hm⟩:∃m,b.n=m+1:=⟨b.n - 1,by omega⟩;have sb:cq (.int (b.n:Nat)) (.int 1) h=.ok (.int (m:Nat)) h:=by rw[hm];simp
 have gs:=fM (f:=m) (by omega) h;have cb:=fG le (f:=m) (by omega) h;have er:Str.ofString "earth "++ar (m:Int)=aL (.earth m):=by rw[k2];exact kB _ _
 have sok:(Sw.earth m).ok b.n:=by show m<b.n;omega
 have e1:=HQ D0 ok sok hl;have ok2:c_ b.n (b.sws++[.earth m]):=⟨ok.1,ok.2.1,by simp;omega,λw mw=>by
  rcases zb.mp mw with mw|mw
  ·exact ok.2.2.2 w mw
  ·rw[zf.mp mw];exact sok⟩
 have ld:d<h.length:=(qb.mp D0.o).1;have D1:=Ge (d:=d) (b:=.ref p) ok2 D0.a.hb ld (λm hm=>by have:=D0.a.lt';simp[D.bnd];omega);have l0:(Bd.new b.n (b.sws++[.earth m])).lk=0:=rfl;have e2:=JE D1 (by rw[l0];decide) (EB (by rw[l0];decide) _);have j0:jT (Bd.new b.n (b.sws++[.earth m])).lk=Str.ofString "none":=by rw[l0];decide+kernel
 rw[j0]at e2;rw[er]at cb;refine⟨eL h d b.n (b.sws++[.earth m]) (.ref p),?_⟩;unfold sA;refine(bS (ρ':=[x0,some (.ref d),x2,some (.int (b.n:Nat)),x4,x5,x6,x7]) (h':=h) ?_).trans ?_
 ·have ne:∀h:MH,dg (.lst [.bl false,.bl false,.bl true,.bl false]) (.lst [.bl false,.bl false,.bl true,.bl false]) h=.ok (.bl false) h:=λh=>rfl
  have ct:cut [D.bl false,D.bl false,D.bl true,D.bl false,D.bl false,D.bl false,D.bl false,D.bl false,D.bl false,D.bl false,D.bl false,D.bl false,D.bl false,D.bl false,D.bl false,D.bl false] none (some 4)=[.bl false,.bl false,.bl true,.bl false]:=rfl;generalize ar (b.n:Int)=F at*;simp[-dg, -au, -aV,fs,ca,rf,ct,ne]
 ·have m1:=tY D0.o (m:=aa 1) (l:=ag (ae au (mC (.str "earth ")) (bz aV (ag (ae cq (aa 3) (mC (.int 1))) af))) af) (ρ:=[x0,some (.ref d),x2,some (.int (b.n:Nat)),x4,x5,x6,x7]) (row:=aL (.earth m)) (by simp) (by
   generalize ar (m:Int)=F at*;simp[-au, -cq, -aV,sb,gs,cb])
  have m1:=m1.trans e1;have m2:=tY D1.o (m:=aa 1) (l:=ag (mC (.str "locked")) af) (ρ:=[x0,some (.ref d),x2,some (.int (b.n:Nat)),x4,x5,x6,x7]) (row:=Str.ofString "locked") (by simp) (by simp);have m2:=m2.trans e2;generalize eL h d b.n (b.sws++[.earth m]) (.ref p)=H at*;simp[-aQ, -cq,m1,m2]
noncomputable def jP:MS:=(aq (aA (aZ (bO af)) (aD 4))
      (aq (aX (tB (ae m_ (aa 3) (mC (.int 0)))) (aA (aZ yg) (aD 4)) bx)
      (aq (aX (cS (tB (ae m_ (aa 3) (mC (.int 0)))) (tB (ae dg (ae aS (aa 4) (mC (.int 0))) (lq gy (mC (.str "\n")) (ag (aa 2) af))))) (aw (mC (.bl false))) bx)
      (aq (dO (dH (cF (aa 0) cz (b_ (mC (.int 63))))) (aD 5) AB)
      (aq (aX (kA (tB (ae bH (aa 3) (mC (.int 0)))) (tB (ae bH (bz b9 (ag (aa 2) af)) (mC (.int 13))))) (aw (mC (.bl true))) bx)
      sA)))))
theorem La(ns:List Int)(hl:ns.length<=63):(cut (ns.map D.int) none (some 63)).length<16777216:=by
 unfold cut;rw[wt,gi,qd];omega
theorem NJ(ns:List Int)(hl:ns.length<=63)(o:h[d]?=some (bo .non .non))(lT:T.length=m+1)(lm:m<=12):∃H,jP [some (.arg ns),some (.ref d),some (.lst T),some (.int (0:Nat)),none,none,none,none] h=.rt (.bl true) H:=by
 have et:∀x5 x6 x7,hG [some (.arg ns),some (.ref d),some (.lst T),some (.int (0:Nat)),some (.lst []),x5,x6,x7] h=.ok false h:=λ_ _ _=>by simp[hG]
 obtain⟨x5,x6,x7,e⟩:=Ft (B:=[]) o lT lm (n:=0) (λc=>Qg o c (m:Nat)) et (cut (ns.map D.int) none (some 63)) none none none (Iy ns);have lc:=La ns hl;refine⟨h,?_⟩;unfold jP;refine(bS (ρ':=[some (.arg ns),some (.ref d),some (.lst T),some (.int (0:Nat)),some (.lst []),none,none,none]) (h':=h) (by simp)).trans ?_;refine(bS (ρ':=[some (.arg ns),some (.ref d),some (.lst T),some (.int (0:Nat)),some (.lst []),none,none,none]) (h':=h) (by simp)).trans ?_;refine(bS (ρ':=[some (.arg ns),some (.ref d),some (.lst T),some (.int (0:Nat)),some (.lst []),none,none,none]) (h':=h) (by simp)).trans ?_;refine(bS (ρ':=[some (.arg ns),some (.ref d),some (.lst T),some (.int (0:Nat)),some (.lst []),x5,x6,x7]) (h':=h) ?_).trans ?_
 ·simp at e
  simp[e]
 exact vp (by simp)
theorem Pm(l:List Str):mH (l.map D.str)=some l:=by
 induction l with
 | nil=>rfl
 | cons a l ih=>simp[ih]
theorem Nr(ok:c_ n sws)(ns:List Int)(hl:ns.length<=63)(D0:Dk h d p r b)(B0:Beg n sws sws.length b):∃H,jP [some (.arg ns),some (.ref d),some (.lst (ba n sws)),some (.int (n:Nat)),none,none,none,none] h=.rt (.bl true) H:=by
 have l12:=ok.2.2.1;have hst:=Hy l12 λj hj=>(B0.st j hj).1;have hlk:=Hy l12 λj hj=>B0.lk j hj;have bn:=B0.hn;have bs:=B0.hs;have okb:=D0.a.ok;have n0:¬(n:Int)<=0:=by have:=ok.1;omega
 have n0':0<n:=ok.1;have nz:¬n=0:=by omega
 have lT:(ba n sws).length=sws.length+1:=by simp
 have te:∀{ρ:Ro},ρ[1]?=some (some (.ref d))->yg ρ h=.ok (gH b) h:=λh1=>xo D0 hst hlk h1;have ne:=wA okb hst hlk h;have et:∀x5 x6 x7,hG [some (.arg ns),some (.ref d),some (.lst (ba n sws)),some (.int (n:Nat)),some (.lst (gH b)),x5,x6,x7] h=.ok false h:=λx5 x6 x7=>by
  have t:=te (ρ:=[some (.arg ns),some (.ref d),some (.lst (ba n sws)),some (.int (n:Nat)),some (.lst (gH b)),x5,x6,x7]) rfl;unfold hG;generalize gH b=B at*;generalize ba n sws=T at*;simp[-dg,t,ne,n0']
 obtain⟨x5,x6,x7,e⟩:=Ft (B:=gH b) D0.o lT l12 (n:=n) (λc=>by
  have:=Oy D0.a.hb D0 B0.hg c;rw[bn,bs]at this;exact this) et (cut (ns.map D.int) none (some 63)) none none none (Iy ns)
 have lc:=La ns hl;have jn:Txt.join ("\n":Str) (cA n::sws.map aL)=fV b.n b.sws:=by rw[ID,bn,bs]
 have js:((((cA (n:Int)::sws.map aL).map (·.length)).sum+(cA (n:Int)::sws.map aL).length*("\n":Str).length<=16777216)):=by
  have l1:("\n":Str).length=1:=by decide+kernel
  have:=p_ (l:=(cA (n:Int)::sws.map aL).map (·.length)) (m:=20) λx hx=>by
   obtain⟨y,my,rfl⟩:=qy.mp hx;rcases qr.mp my with rfl|my
   ·exact(JQ ⟨n,by have:=ok.2.1;omega⟩).2
   ·obtain⟨s,ms,rfl⟩:=qy.mp my
    exact(Em ok.2.1 (ok.2.2.2 s ms)).1
  rw[qd]at this;have l2:(cA (n:Int)::sws.map aL).length<=13:=by simp;omega
  rw[l1];omega
 have fj:gy ("\n":Str) [.lst (ba n sws)] h=.ok (.str (fV b.n b.sws)) h:=by
  have sm:=Pm (cA n::sws.map aL);show(oR ((g_ h (.lst ((cA n::sws.map aL).map D.str))).bind mH) h).bind _=_;have:(g_ h (.lst ((cA n::sws.map aL).map D.str))).bind mH=some (cA n::sws.map aL):=sm;rw[this];show chk _ _=_;rw[chk,if_pos js,jn]
 have t0:=te (ρ:=[some (.arg ns),some (.ref d),some (.lst (ba n sws)),some (.int (n:Nat)),some (.lst []),none,none,none]) rfl;have ix:aS (.lst (gH b)) (.int 0) h=.ok (.str (fV b.n b.sws)) h:=by simp[gH]
 unfold jP;by_cases q:sws.length=12
 ·refine⟨h,?_⟩
  have l13:(ba n sws).length=13:=by rw[lT,q]
  generalize gH b=B at*;generalize ba n sws=T at*;refine(bS (ρ':=[some (.arg ns),some (.ref d),some (.lst T),some (.int (n:Nat)),some (.lst []),none,none,none]) (h':=h) (by simp)).trans ?_;refine(bS (ρ':=[some (.arg ns),some (.ref d),some (.lst T),some (.int (n:Nat)),some (.lst B),none,none,none]) (h':=h) (by simp[n0',t0])).trans ?_;refine(bS (ρ':=[some (.arg ns),some (.ref d),some (.lst T),some (.int (n:Nat)),some (.lst B),none,none,none]) (h':=h) (by simp[-aS, -gy,n0',ix,fj])).trans ?_;refine(bS (ρ':=[some (.arg ns),some (.ref d),some (.lst T),some (.int (n:Nat)),some (.lst B),x5,x6,x7]) (h':=h) (by simp[lc,e])).trans ?_;exact vp (by simp[l13,nz])
 ·obtain⟨H,eE⟩:=Px D0 (by rw[bs];omega) (some (.arg ns)) (some (.lst (ba n sws))) (some (.lst (gH b))) x5 x6 x7
  rw[bn]at eE;refine⟨H,?_⟩;have l13:¬(ba n sws).length=13:=by rw[lT];omega
  have l14:(ba n sws).length<=16777216:=by rw[lT];omega
  have l15:¬((ba n sws).length:Int)=13:=by omega
  generalize gH b=B at*;generalize ba n sws=T at*;refine(bS (ρ':=[some (.arg ns),some (.ref d),some (.lst T),some (.int (n:Nat)),some (.lst []),none,none,none]) (h':=h) (by simp)).trans ?_;refine(bS (ρ':=[some (.arg ns),some (.ref d),some (.lst T),some (.int (n:Nat)),some (.lst B),none,none,none]) (h':=h) (by simp[n0',t0])).trans ?_;refine(bS (ρ':=[some (.arg ns),some (.ref d),some (.lst T),some (.int (n:Nat)),some (.lst B),none,none,none]) (h':=h) (by simp[-aS, -gy,n0',ix,fj])).trans ?_;refine(bS (ρ':=[some (.arg ns),some (.ref d),some (.lst T),some (.int (n:Nat)),some (.lst B),x5,x6,x7]) (h':=h) (by simp[lc,e])).trans ?_;refine(bS (ρ':=[some (.arg ns),some (.ref d),some (.lst T),some (.int (n:Nat)),some (.lst B),x5,x6,x7]) (h':=h) (by simp[l13,l14,l15,nz])).trans ?_;exact eE
theorem law_true(ns:List Int)(hl:ns.length<=63):∃h,Ht [.arg ns] []=.ok (.bl true) h:=by
 have d0:h_ [.ref 0] [some (.ins "Desk" [])]=.ok .non [bo .non .non]:=MK [];have o:([bo .non .non]:MH)[0]?=some (bo .non .non):=rfl;obtain⟨n,sws,ok,ey⟩:=LH ns [bo .non .non];have hb:Hb ([bo .non .non]:MH):=λm hm=>by
  simp only[z7,ke]at hm;simp[bo,eV,Cell.bnd,D.bnd,D.bnds,D.bndf]
 have n10:=ok.2.1;obtain⟨bc,bl⟩:=JQ ⟨n,by omega⟩;have nw:=G0 (n:=n) (by omega) (by omega);obtain⟨it,il⟩:=JJ nw.1;rw[nw.2]at it;obtain⟨x,ex⟩:=wH ns 2 (by omega) [bo .non .non];have e3:(bz fH (ag (cF (ae aS (aa 2) (mC (.int 0))) (b_ (mC (.int 5))) cz) af)) [some (.arg ns),some (.ref 0),some (.lst (ba n sws)),none,none,none,none,none] [bo .non .non]=.ok (.int (n:Nat)) [bo .non .non]:=by
  have ix:aS (.lst (ba n sws)) (.int 0) [bo .non .non]=.ok (.str (cA n)) [bo .non .non]:=by simp
  have bc:Txt.slice (cA (n:Int)) (some 5) none=ar (n:Int):=bc;have bl:(cA (n:Int)).length<=16777216:=by have:(cA (n:Int)).length<=20:=bl;omega
  have it:intText? (ar (n:Int))=some (n:Int):=it;have il:(ar (n:Int)).length<=640:=il;generalize ba n sws=T at*;generalize cA (n:Int)=B at*;generalize ar (n:Int)=F at*;simp[-aS,ix,bc,bl,it,il]
 have key:∃H,xl [some (.arg ns),none,none,none,none,none,none,none] []=.rt (.bl true) H:=by
  have eb:xl=aq (aA (uB "Desk" h_ af) (aD 1)) (aq (aA (aY jL (ag (aa 0) af)) (aD 2)) (aq (aA (bz fH (ag (cF (ae aS (aa 2) (mC (.int 0))) (b_ (mC (.int 5))) cz) af)) (aD 3)) (aq (aX (tB (ae bH (ae aF (aY du (ag (aa 0) (ag (mC (.int 2)) af))) (mC (.int 8))) (mC (.int 0)))) (aA (mC (.int 0)) (aD 3)) (aX (cX (b8 (aY j3 (ag (aa 1) (ag (aa 0) (ag (aa 2) af)))))) (aw (mC (.bl false))) bx)) jP))):=rfl;rw[eb];have s1:(aA (uB "Desk" h_ af) (aD 1)) [some (.arg ns),none,none,none,none,none,none,none] []=.nx [some (.arg ns),some (.ref 0),none,none,none,none,none,none] [bo .non .non]:=by simp[d0]
  have s2:(aA (aY jL (ag (aa 0) af)) (aD 2)) [some (.arg ns),some (.ref 0),none,none,none,none,none,none] [bo .non .non]=.nx [some (.arg ns),some (.ref 0),some (.lst (ba n sws)),none,none,none,none,none] [bo .non .non]:=by
   generalize ba n sws=T at*;generalize [bo .non .non]=h1 at*;simp[ey]
  have s3:(aA (bz fH (ag (cF (ae aS (aa 2) (mC (.int 0))) (b_ (mC (.int 5))) cz) af)) (aD 3)) [some (.arg ns),some (.ref 0),some (.lst (ba n sws)),none,none,none,none,none] [bo .non .non]=.nx [some (.arg ns),some (.ref 0),some (.lst (ba n sws)),some (.int (n:Nat)),none,none,none,none] [bo .non .non]:=by
   unfold aA;rw[e3];rfl
  rw[bS s1,bS s2,bS s3];have lT:(ba n sws).length=sws.length+1:=by simp
  have M8:aF (.int (x:Nat)) (.int 8) [bo .non .non]=.ok (.int ((x % 8:Nat):Int)) [bo .non .non]:=by simp
  obtain⟨v,hv⟩:∃v:Nat,x % 8=v:=⟨_,rfl⟩;rw[hv]at M8;have ex:du [.arg ns,.int 2] [bo .non .non]=.ok (.int (x:Nat)) [bo .non .non]:=ex;by_cases q:v=0
  ·obtain⟨H,e⟩:=NJ ns hl o lT ok.2.2.1
   refine⟨H,(bS (ρ':=[some (.arg ns),some (.ref 0),some (.lst (ba n sws)),some (.int (0:Nat)),none,none,none,none]) (h':=[bo .non .non]) ?_).trans e⟩;subst q;generalize ba n sws=T at*;generalize [bo .non .non]=h1 at*;simp[-aF,ex,M8]
  ·obtain⟨H1,p,r,b,D0,B0,eb⟩:=Om ok ns hb o
   obtain⟨H,e⟩:=Nr ok ns hl D0 B0;refine⟨H,(bS (ρ':=[some (.arg ns),some (.ref 0),some (.lst (ba n sws)),some (.int (n:Nat)),none,none,none,none]) (h':=H1) ?_).trans e⟩;have q':¬(v:Int)=0:=by omega
   generalize ba n sws=T at*;generalize [bo .non .non]=h1 at*;simp[-aF,ex,M8,q',q,eb]
 obtain⟨H,e⟩:=key;unfold Ht aH;rw[if_pos (show[D.arg ns].length=1 from rfl)];have k2:xl ([D.arg ns].map some++List.replicate (8 - [D.arg ns].length) none) []=.rt (.bl true) H:=e;rw[k2];show ∃h,fin _ _ _=_;unfold fin;by_cases z:H.length<=([]:MH).length
 ·rw[if_pos z];exact⟨_,rfl⟩
 ·rw[if_neg z]
  split<;>exact⟨_,rfl⟩
end My
namespace My
open PySem L2
noncomputable def bR(i:Nat):Stmt:=PySem.Challenge.pw_earthward_k39_rows_refused.main.body.getD i (.Pass ⟨0,0,0,0⟩)
abbrev vQ:Stmt:=cY (bR 19) 0
abbrev Cr:Stmt:=cY (bR 19) 1
abbrev yf:Stmt:=cY (bR 19) 2
abbrev y_:Stmt:=cY (bR 19) 3
abbrev xJ:Stmt:=cY (bR 20) 0
abbrev xu:Stmt:=cY (bR 20) 1
abbrev yb:Stmt:=cY (bR 21) 0
abbrev AJ:Stmt:=cY (bR 21) 1
abbrev wC:Stmt:=cY (bR 22) 0
abbrev BQ:Stmt:=cY (bR 22) 1
abbrev yY:Stmt:=cY (bR 23) 0
abbrev AX:Stmt:=cY (bR 23) 1
abbrev yM:Stmt:=cY (bR 23) 2
abbrev vR:Stmt:=bR 24
abbrev nM:Stmt:=bR 26
abbrev Bv:Stmt:=cY (bR 27) 0
abbrev vJ:Stmt:=cY (bR 27) 1
abbrev xD:Stmt:=cY (bR 27) 2
abbrev AK:Stmt:=cY (bR 27) 3
abbrev vK:Stmt:=cY (bR 27) 4
abbrev Cg:Stmt:=cY (bR 27) 5
abbrev AG:Stmt:=cY (bR 27) 6
abbrev EO:Stmt:=bR 28
abbrev GR:Stmt:=bR 29
abbrev Co:Stmt:=bR 30
abbrev ya:Stmt:=bR 31
abbrev vW:Stmt:=bR 36
abbrev yu:Stmt:=bR 37
abbrev AW:Stmt:=bR 38
abbrev yA:Stmt:=bR 39
abbrev xY:Stmt:=bR 40
abbrev vN:Stmt:=bR 42
abbrev FW:Stmt:=bR 46
abbrev BZ:Stmt:=cY (bR 49) 0
abbrev BU:Stmt:=cY (bR 49) 1
abbrev BA:Stmt:=cY (bR 49) 2
abbrev Ay:Stmt:=cY (bR 49) 3
abbrev Am:Stmt:=cY (bR 49) 5
abbrev xN:Stmt:=cY (bR 49) 6
abbrev By:Stmt:=cY (bR 49) 7
abbrev Fk:Stmt:=cY (bR 49) 8
abbrev Az:Stmt:=cY (bR 49) 9
abbrev GN:Stmt:=bR 55
abbrev Ak:Stmt:=bR 62
abbrev BY:Stmt:=bR 63
abbrev Bh:Stmt:=bR 64
abbrev BV:Stmt:=bR 65
abbrev y9:Stmt:=bR 66
abbrev Cn:Stmt:=bR 67
abbrev A_:Stmt:=bR 68
abbrev BS:Stmt:=bR 70
abbrev AZ:Stmt:=bR 71
abbrev yC:Stmt:=bR 72
abbrev Hl:Stmt:=bR 73
abbrev yW:Stmt:=cY (bR 74) 0
abbrev Bi:Stmt:=cY (bR 74) 1
abbrev xg:Stmt:=cY (bR 74) 2
abbrev Bs:Stmt:=cY (bR 74) 3
abbrev yJ:Stmt:=cY (bR 74) 4
abbrev y4:Stmt:=cY (bR 74) 5
abbrev AE:Stmt:=cY (bR 74) 6
abbrev yX:Stmt:=bR 76
abbrev xQ:Stmt:=bR 77
abbrev yH:Stmt:=bR 78
abbrev xb:Stmt:=bR 79
abbrev A5:Stmt:=bR 80
abbrev wY:Stmt:=bR 81
abbrev xP:Stmt:=bR 82
abbrev wZ:Stmt:=bR 83
abbrev wJ:Stmt:=bR 84
abbrev Ax:Stmt:=bR 85
abbrev nQ:Stmt:=bR 86
theorem yj:FnScope ["self"] ["self"] (bC vQ):=aM
theorem yP:FnScope ["self"] ["self"] (bC Cr):=aM
theorem Bw:FnScope ["self"] ["self"] (bC yf):=aM
theorem AD:FnScope ["self"] ["self"] (bC y_):=aM
theorem BP:FnScope ["self","bar"] ["self","bar"] (bC xJ):=aM
theorem B6:FnScope ["self"] ["self"] (bC xu):=aM
theorem wV:FnScope ["self","bar"] ["self","bar"] (bC yb):=aM
theorem Cm:FnScope ["self"] ["self"] (bC AJ):=aM
theorem yp:FnScope ["self","one","other"] ["self","one","other"] (bC wC):=aM
theorem Bm:FnScope ["self"] ["self"] (bC BQ):=aM
theorem zI:FnScope ["self","one","other"] ["self","one","other"] (bC yY):=aM
theorem zO:FnScope ["self"] ["self"] (bC AX):=aM
theorem AQ:FnScope ["self"] ["self"] (bC yM):=aM
theorem nF:FnScope ["switch","kind"] ["switch"] (bC vR):=aM
theorem sF:FnScope ["some","number"] ["some","number"] (bC nM):=aM
theorem yc:FnScope ["self","yard"] ["self","yard"] (bC Bv):=aM
theorem wX:FnScope ["self","standing"] ["self","standing"] (bC vJ):=aM
theorem tu:FnScope ["self","standing","some","pairs","reached","ahead","pair"] ["self","standing","some"] (bC xD):=aM
theorem Dg:FnScope ["self","standing","fed","switch"] ["self","standing"] (bC AK):=aM
theorem Du:FnScope ["self","standing","led","switch"] ["self","standing"] (bC vK):=aM
theorem Cd:FnScope ["self","standing"] ["self","standing"] (bC Cg):=aM
theorem Af:FnScope ["self","standing"] ["self","standing"] (bC AG):=aM
theorem xw:FnScope ["some"] ["some"] (bC Co):=aM
theorem yF:FnScope ["some"] ["some"] (bC ya):=aM
theorem vv:FnScope ["yard","number"] ["yard","number"] (bC vW):=aM
theorem xV:FnScope ["standing","number"] ["standing","number"] (bC yu):=aM
theorem DT:FnScope ["net","standing","number","switch","apart","ends"] ["net","standing","number"] (bC AW):=aM
theorem yo:FnScope ["net","standing","number"] ["net","standing","number"] (bC yA):=aM
theorem oI:FnScope ["yard","standing","number","net"] ["yard","standing","number"] (bC xY):=aM
theorem Aa:FnScope ["switch"] ["switch"] (bC vN):=aM
theorem Cf:FnScope ["self","yard"] ["self","yard"] (bC BZ):=aM
theorem A3:FnScope ["self"] ["self"] (bC BU):=aM
theorem vB:FnScope ["self"] ["self"] (bC BA):=aM
theorem Ek:FnScope ["self","some","given"] ["self"] (bC Ay):=aM
theorem Bf:FnScope ["self","number"] ["self","number"] (bC Am):=aM
theorem BF:FnScope ["self","number"] ["self","number"] (bC xN):=aM
theorem z_:FnScope ["self","number"] ["self","number"] (bC By):=aM
theorem xG:FnScope ["self","number"] ["self","number"] (bC Az):=aM
theorem xU:FnScope ["word"] ["word"] (bC Ak):=aM
theorem yv:FnScope ["words"] ["words"] (bC BY):=aM
theorem Fs:FnScope ["row","words","kind"] ["row"] (bC Bh):=aM
theorem mZ:FnScope ["row","told"] ["row"] (bC BV):=aM
theorem oQ:FnScope ["row","bars","switches_ahead","switch"] ["row","bars","switches_ahead"] (bC y9):=aM
theorem yB:FnScope ["switch"] ["switch"] (bC Cn):=aM
theorem nU:FnScope ["yard","count"] ["yard"] (bC A_):=aM
theorem Bz:FnScope ["numbers"] ["numbers"] (bC BS):=aM
theorem wF:FnScope ["words"] ["words"] (bC AZ):=aM
theorem nX:FnScope ["words","bars","numbers"] ["words","bars"] (bC yC):=aM
theorem vI:FnScope ["self"] ["self"] (bC yW):=aM
theorem CK:FnScope ["self","row","words","kind","number"] ["self","row"] (bC Bi):=aM
theorem w_:FnScope ["self","yard"] ["self","yard"] (bC xg):=aM
theorem EG:FnScope ["self","row","bars","switches"] ["self","row"] (bC Bs):=aM
theorem wL:FnScope ["self","kind","number"] ["self","kind","number"] (bC yJ):=aM
theorem Gf:FnScope ["self","words","wish","told"] ["self","words"] (bC y4):=aM
theorem BK:FnScope ["self","kind"] ["self","kind"] (bC AE):=aM
theorem AL:FnScope ["script","k","step","found","cell"] ["script","k"] (bC yX):=aM
theorem Fe:FnScope ["cell","bars","one","other"] ["cell","bars"] (bC xQ):=aM
theorem D9:FnScope ["script","bars","many","rows"] ["script"] (bC yH):=aM
theorem ie:FnScope ["cell","some"] ["cell"] (bC xb):=aM
theorem oW:FnScope ["cell","number","bars","k","at"] ["cell"] (bC A5):=aM
theorem Hv:FnScope ["cell","bars","far","some"] ["cell","bars"] (bC wY):=aM
theorem Cv:FnScope ["cell","bars","far","last","some"] ["cell","bars"] (bC xP):=aM
theorem uU:FnScope ["cell","bars","many","kind","rest","some","word"] ["cell","bars","many"] (bC wZ):=aM
theorem nR:FnScope ["desk","row","told","e"] ["desk","row"] (bC wJ):=aM
theorem Gz:FnScope ["desk","script","rows","row","k"] ["desk","script","rows"] (bC Ax):=aM
theorem kU:FnScope ["script","desk","rows","bars","before","cell","row","due"] ["script"] (bC nQ):=aM
set_option genInjectivity false in
structure Txt (P:Program) (w:World) (K:W.Frag) (mg:Str->Option Value)where
 c_Y6:Addr
 C_Y6:ClsT K mg "Switch" c_Y6
 f_Qu:Addr
 fd_Qu:FuncData
 mt_Qu:Meth K c_Y6 "feeds" f_Qu
 H_Qu:FnM K "feeds" "Switch.feeds" vQ f_Qu fd_Qu ["self"]
 f_Qh:Addr
 fd_Qh:FuncData
 mt_Qh:Meth K c_Y6 "earths" f_Qh
 H_Qh:FnM K "earths" "Switch.earths" Cr f_Qh fd_Qh ["self"]
 f_Qy:Addr
 fd_Qy:FuncData
 mt_Qy:Meth K c_Y6 "joins" f_Qy
 H_Qy:FnM K "joins" "Switch.joins" yf f_Qy fd_Qy ["self"]
 f_Qg:Addr
 fd_Qg:FuncData
 mt_Qg:Meth K c_Y6 "gentle" f_Qg
 H_Qg:FnM K "gentle" "Switch.gentle" y_ f_Qg fd_Qg ["self"]
 c_Yj:Addr
 C_Yj:ClsT K mg "Feed" c_Yj
 f_Qm:Addr
 fd_Qm:FuncData
 mt_Qm:Meth K c_Yj "__init__" f_Qm
 H_Qm:FnM K "__init__" "Feed.__init__" xJ f_Qm fd_Qm ["self","bar"]
 f_X3:Addr
 fd_X3:FuncData
 mt_X3:Meth K c_Yj "feeds" f_X3
 H_X3:FnM K "feeds" "Feed.feeds" xu f_X3 fd_X3 ["self"]
 mt_Feed_earths:Meth K c_Yj "earths" f_Qh
 mt_Feed_joins:Meth K c_Yj "joins" f_Qy
 mt_Feed_gentle:Meth K c_Yj "gentle" f_Qg
 na_Feed_bar:jc0 K c_Yj "bar"
 c_Yc:Addr
 C_Yc:ClsT K mg "Earth" c_Yc
 f_Qb:Addr
 fd_Qb:FuncData
 mt_Qb:Meth K c_Yc "__init__" f_Qb
 H_Qb:FnM K "__init__" "Earth.__init__" yb f_Qb fd_Qb ["self","bar"]
 f_Qt:Addr
 fd_Qt:FuncData
 mt_Qt:Meth K c_Yc "earths" f_Qt
 H_Qt:FnM K "earths" "Earth.earths" AJ f_Qt fd_Qt ["self"]
 mt_Earth_feeds:Meth K c_Yc "feeds" f_Qu
 mt_Earth_joins:Meth K c_Yc "joins" f_Qy
 mt_Earth_gentle:Meth K c_Yc "gentle" f_Qg
 na_Earth_bar:jc0 K c_Yc "bar"
 c_Xv:Addr
 C_Xv:ClsT K mg "Breaker" c_Xv
 f_Q1:Addr
 fd_Q1:FuncData
 mt_Q1:Meth K c_Xv "__init__" f_Q1
 H_Q1:FnM K "__init__" "Breaker.__init__" wC f_Q1 fd_Q1 ["self","one","other"]
 f_Ql:Addr
 fd_Ql:FuncData
 mt_Ql:Meth K c_Xv "joins" f_Ql
 H_Ql:FnM K "joins" "Breaker.joins" BQ f_Ql fd_Ql ["self"]
 mt_Breaker_feeds:Meth K c_Xv "feeds" f_Qu
 mt_Breaker_earths:Meth K c_Xv "earths" f_Qh
 mt_Breaker_gentle:Meth K c_Xv "gentle" f_Qg
 na_Breaker_one:jc0 K c_Xv "one"
 na_Breaker_other:jc0 K c_Xv "other"
 c_Xp:Addr
 C_Xp:ClsT K mg "Splitter" c_Xp
 f_Q0:Addr
 fd_Q0:FuncData
 mt_Q0:Meth K c_Xp "__init__" f_Q0
 H_Q0:FnM K "__init__" "Splitter.__init__" yY f_Q0 fd_Q0 ["self","one","other"]
 f_Qd:Addr
 fd_Qd:FuncData
 mt_Qd:Meth K c_Xp "joins" f_Qd
 H_Qd:FnM K "joins" "Splitter.joins" AX f_Qd fd_Qd ["self"]
 f_Q8:Addr
 fd_Q8:FuncData
 mt_Q8:Meth K c_Xp "gentle" f_Q8
 H_Q8:FnM K "gentle" "Splitter.gentle" yM f_Q8 fd_Q8 ["self"]
 mt_Splitter_feeds:Meth K c_Xp "feeds" f_Qu
 mt_Splitter_earths:Meth K c_Xp "earths" f_Qh
 na_Splitter_one:jc0 K c_Xp "one"
 na_Splitter_other:jc0 K c_Xp "other"
 c_Net:Addr
 C_Net:ClsT K mg "Net" c_Net
 f_Qw:Addr
 fd_Qw:FuncData
 mt_Qw:Meth K c_Net "__init__" f_Qw
 H_Qw:FnM K "__init__" "Net.__init__" Bv f_Qw fd_Qw ["self","yard"]
 f_Qk:Addr
 fd_Qk:FuncData
 mt_Qk:Meth K c_Net "shut_ones" f_Qk
 H_Qk:FnM K "shut_ones" "Net.shut_ones" vJ f_Qk fd_Qk ["self","standing"]
 f_Q4:Addr
 fd_Q4:FuncData
 mt_Q4:Meth K c_Net "joined_bars" f_Q4
 H_Q4:FnM K "joined_bars" "Net.joined_bars" xD f_Q4 fd_Q4 ["self","standing","some"]
 f_Qf:Addr
 fd_Qf:FuncData
 mt_Qf:Meth K c_Net "live_bars" f_Qf
 H_Qf:FnM K "live_bars" "Net.live_bars" AK f_Qf fd_Qf ["self","standing"]
 f_Qs:Addr
 fd_Qs:FuncData
 mt_Qs:Meth K c_Net "led_bars" f_Qs
 H_Qs:FnM K "led_bars" "Net.led_bars" vK f_Qs fd_Qs ["self","standing"]
 f_Q3:Addr
 fd_Q3:FuncData
 mt_Q3:Meth K c_Net "earthed_bars" f_Q3
 H_Q3:FnM K "earthed_bars" "Net.earthed_bars" Cg f_Q3 fd_Q3 ["self","standing"]
 f_X2:Addr
 fd_X2:FuncData
 mt_X2:Meth K c_Net "is_safe" f_X2
 H_X2:FnM K "is_safe" "Net.is_safe" AG f_X2 fd_X2 ["self","standing"]
 na_Net_switches:jc0 K c_Net "switches"
 c_Y0:Addr
 C_Y0:ClsT K mg "Bundle" c_Y0
 na_Bundle_common:jc0 K c_Y0 "common"
 na_Bundle_goals:jc0 K c_Y0 "goals"
 na_Bundle_net:jc0 K c_Y0 "net"
 na_Bundle_pairs:jc0 K c_Y0 "pairs"
 na_Bundle_place:jc0 K c_Y0 "place"
 na_Bundle_power:jc0 K c_Y0 "power"
 na_Bundle_yard:jc0 K c_Y0 "yard"
 c_Ya:Addr
 C_Ya:ClsT K mg "Board" c_Ya
 f_Qc:Addr
 fd_Qc:FuncData
 mt_Qc:Meth K c_Ya "__init__" f_Qc
 H_Qc:FnM K "__init__" "Board.__init__" BZ f_Qc fd_Qc ["self","yard"]
 f_Q9:Addr
 fd_Q9:FuncData
 mt_Q9:Meth K c_Ya "standing" f_Q9
 H_Q9:FnM K "standing" "Board.standing" BU f_Q9 fd_Q9 ["self"]
 f_Qn:Addr
 fd_Qn:FuncData
 mt_Qn:Meth K c_Ya "locked" f_Qn
 H_Qn:FnM K "locked" "Board.locked" BA f_Qn fd_Qn ["self"]
 f_Xb:Addr
 fd_Xb:FuncData
 mt_Xb:Meth K c_Ya "held" f_Xb
 H_Xb:FnM K "held" "Board.held" Ay f_Xb fd_Xb ["self"]
 f_Xd:Addr
 fd_Xd:FuncData
 mt_Xd:Meth K c_Ya "turn" f_Xd
 H_Xd:FnM K "turn" "Board.turn" Am f_Xd fd_Xd ["self","number"]
 f_X8:Addr
 fd_X8:FuncData
 mt_X8:Meth K c_Ya "lock" f_X8
 H_X8:FnM K "lock" "Board.lock" xN f_X8 fd_X8 ["self","number"]
 f_Qq:Addr
 fd_Qq:FuncData
 mt_Qq:Meth K c_Ya "unlock" f_Qq
 H_Qq:FnM K "unlock" "Board.unlock" By f_Qq fd_Qq ["self","number"]
 f_X0:Addr
 fd_X0:FuncData
 mt_X0:Meth K c_Ya "permit" f_X0
 H_X0:FnM K "permit" "Board.permit" Fk f_X0 fd_X0 ["self","place"]
 f_Q6:Addr
 fd_Q6:FuncData
 mt_Q6:Meth K c_Ya "give_back" f_Q6
 H_Q6:FnM K "give_back" "Board.give_back" Az f_Q6 fd_Q6 ["self","number"]
 na_Board_given:jc0 K c_Ya "given"
 na_Board_last_number:jc0 K c_Ya "last_number"
 na_Board_locks:jc0 K c_Ya "locks"
 na_Board_net:jc0 K c_Ya "net"
 na_Board_shut:jc0 K c_Ya "shut"
 na_Board_yard:jc0 K c_Ya "yard"
 c_Yl:Addr
 C_Yl:ClsT K mg "Desk" c_Yl
 f_Qi:Addr
 fd_Qi:FuncData
 mt_Qi:Meth K c_Yl "__init__" f_Qi
 H_Qi:FnM K "__init__" "Desk.__init__" yW f_Qi fd_Qi ["self"]
 f_Xu:Addr
 fd_Xu:FuncData
 mt_Xu:Meth K c_Yl "say" f_Xu
 H_Xu:FnM K "say" "Desk.say" Bi f_Xu fd_Xu ["self","row"]
 f_Xa:Addr
 fd_Xa:FuncData
 mt_Xa:Meth K c_Yl "begin" f_Xa
 H_Xa:FnM K "begin" "Desk.begin" xg f_Xa fd_Xa ["self","yard"]
 f_Q7:Addr
 fd_Q7:FuncData
 mt_Q7:Meth K c_Yl "add_switch" f_Q7
 H_Q7:FnM K "add_switch" "Desk.add_switch" Bs f_Q7 fd_Q7 ["self","row"]
 f_Xk:Addr
 fd_Xk:FuncData
 mt_Xk:Meth K c_Yl "done" f_Xk
 H_Xk:FnM K "done" "Desk.done" yJ f_Xk fd_Xk ["self","kind","number"]
 f_X6:Addr
 fd_X6:FuncData
 mt_X6:Meth K c_Yl "reach" f_X6
 H_X6:FnM K "reach" "Desk.reach" y4 f_X6 fd_X6 ["self","words"]
 f_Xf:Addr
 fd_Xf:FuncData
 mt_Xf:Meth K c_Yl "tell" f_Xf
 H_Xf:FnM K "tell" "Desk.tell" AE f_Xf fd_Xf ["self","kind"]
 na_Desk_board:jc0 K c_Yl "board"
 na_Desk_yard:jc0 K c_Yl "yard"
 c_Yh:Addr
 ac_Yh:W.nsIn K mainGlobals "Held"=some (some (.ref c_Yh))
 xq_Yh:W.excIn K c_Yh [.type "ValueError",.type "Exception",.type "BaseException",.type "object"] "ValueError.__new__"=true
 xm_Yh:mg "Held"=some (.ref c_Yh)
 c_Y3:Addr
 ac_Y3:W.nsIn K mainGlobals "Loaded"=some (some (.ref c_Y3))
 xq_Y3:W.excIn K c_Y3 [.type "ValueError",.type "Exception",.type "BaseException",.type "object"] "ValueError.__new__"=true
 xm_Y3:mg "Loaded"=some (.ref c_Y3)
 c_Y7:Addr
 ac_Y7:W.nsIn K mainGlobals "Locked"=some (some (.ref c_Y7))
 xq_Y7:W.excIn K c_Y7 [.type "ValueError",.type "Exception",.type "BaseException",.type "object"] "ValueError.__new__"=true
 xm_Y7:mg "Locked"=some (.ref c_Y7)
 c_Yf:Addr
 ac_Yf:W.nsIn K mainGlobals "NoBar"=some (some (.ref c_Yf))
 xq_Yf:W.excIn K c_Yf [.type "ValueError",.type "Exception",.type "BaseException",.type "object"] "ValueError.__new__"=true
 xm_Yf:mg "NoBar"=some (.ref c_Yf)
 c_Y8:Addr
 ac_Y8:W.nsIn K mainGlobals "NoLock"=some (some (.ref c_Y8))
 xq_Y8:W.excIn K c_Y8 [.type "ValueError",.type "Exception",.type "BaseException",.type "object"] "ValueError.__new__"=true
 xm_Y8:mg "NoLock"=some (.ref c_Y8)
 c_Xh:Addr
 ac_Xh:W.nsIn K mainGlobals "NoMeasure"=some (some (.ref c_Xh))
 xq_Xh:W.excIn K c_Xh [.type "ValueError",.type "Exception",.type "BaseException",.type "object"] "ValueError.__new__"=true
 xm_Xh:mg "NoMeasure"=some (.ref c_Xh)
 c_Xt:Addr
 ac_Xt:W.nsIn K mainGlobals "NoPermit"=some (some (.ref c_Xt))
 xq_Xt:W.excIn K c_Xt [.type "ValueError",.type "Exception",.type "BaseException",.type "object"] "ValueError.__new__"=true
 xm_Xt:mg "NoPermit"=some (.ref c_Xt)
 c_Yb:Addr
 ac_Yb:W.nsIn K mainGlobals "NoRow"=some (some (.ref c_Yb))
 xq_Yb:W.excIn K c_Yb [.type "ValueError",.type "Exception",.type "BaseException",.type "object"] "ValueError.__new__"=true
 xm_Yb:mg "NoRow"=some (.ref c_Yb)
 c_Xq:Addr
 ac_Xq:W.nsIn K mainGlobals "NoSwitch"=some (some (.ref c_Xq))
 xq_Xq:W.excIn K c_Xq [.type "ValueError",.type "Exception",.type "BaseException",.type "object"] "ValueError.__new__"=true
 xm_Xq:mg "NoSwitch"=some (.ref c_Xq)
 c_Xx:Addr
 ac_Xx:W.nsIn K mainGlobals "NotDead"=some (some (.ref c_Xx))
 xq_Xx:W.excIn K c_Xx [.type "ValueError",.type "Exception",.type "BaseException",.type "object"] "ValueError.__new__"=true
 xm_Xx:mg "NotDead"=some (.ref c_Xx)
 c_X9:Addr
 ac_X9:W.nsIn K mainGlobals "NotEarthed"=some (some (.ref c_X9))
 xq_X9:W.excIn K c_X9 [.type "ValueError",.type "Exception",.type "BaseException",.type "object"] "ValueError.__new__"=true
 xm_X9:mg "NotEarthed"=some (.ref c_X9)
 c_Xj:Addr
 ac_Xj:W.nsIn K mainGlobals "NotLocked"=some (some (.ref c_Xj))
 xq_Xj:W.excIn K c_Xj [.type "ValueError",.type "Exception",.type "BaseException",.type "object"] "ValueError.__new__"=true
 xm_Xj:mg "NotLocked"=some (.ref c_Xj)
 c_Xw:Addr
 ac_Xw:W.nsIn K mainGlobals "NotOpen"=some (some (.ref c_Xw))
 xq_Xw:W.excIn K c_Xw [.type "ValueError",.type "Exception",.type "BaseException",.type "object"] "ValueError.__new__"=true
 xm_Xw:mg "NotOpen"=some (.ref c_Xw)
 c_Yg:Addr
 ac_Yg:W.nsIn K mainGlobals "Same"=some (some (.ref c_Yg))
 xq_Yg:W.excIn K c_Yg [.type "ValueError",.type "Exception",.type "BaseException",.type "object"] "ValueError.__new__"=true
 xm_Yg:mg "Same"=some (.ref c_Yg)
 c_Xy:Addr
 ac_Xy:W.nsIn K mainGlobals "Shorted"=some (some (.ref c_Xy))
 xq_Xy:W.excIn K c_Xy [.type "ValueError",.type "Exception",.type "BaseException",.type "object"] "ValueError.__new__"=true
 xm_Xy:mg "Shorted"=some (.ref c_Xy)
 c_Xm:Addr
 ac_Xm:W.nsIn K mainGlobals "WardError"=some (some (.ref c_Xm))
 xq_Xm:W.excIn K c_Xm [.type "ValueError",.type "Exception",.type "BaseException",.type "object"] "ValueError.__new__"=true
 xm_Xm:mg "WardError"=some (.ref c_Xm)
 nv:List Value
 nve:nv=[.ref c_Yb,.ref c_Xh,.ref c_Yf,.ref c_Yg,.ref c_Xq,.ref c_Xt,.ref c_Y3,.ref c_Xy,.ref c_Y7,.ref c_Yh,.ref c_Y8,.ref c_Xw,.ref c_Xj,.ref c_X9,.ref c_Xx,.type "ValueError"]
 f_Xg:Addr
 fd_Xg:FuncData
 H_Xg:FnT K mg "switch_of" "switch_of" vR f_Xg fd_Xg ["switch"]
 f_has:Addr
 fd_has:FuncData
 H_has:FnT K mg "has" "has" nM f_has fd_has ["some","number"]
 f_Yi:Addr
 fd_Yi:FuncData
 H_Yi:FnT K mg "live" "live" EO f_Yi fd_Yi ["yard","standing"]
 f_Xz:Addr
 fd_Xz:FuncData
 H_Xz:FnT K mg "earthed" "earthed" GR f_Xz fd_Xz ["yard","standing"]
 f_Y9:Addr
 fd_Y9:FuncData
 H_Y9:FnT K mg "lowest" "lowest" Co f_Y9 fd_Y9 ["some"]
 f_Xe:Addr
 fd_Xe:FuncData
 H_Xe:FnT K mg "numbers_in" "numbers_in" ya f_Xe fd_Xe ["some"]
 f_Qv:Addr
 fd_Qv:FuncData
 H_Qv:FnT K mg "check_switch" "check_switch" vW f_Qv fd_Qv ["yard","number"]
 f_X4:Addr
 fd_X4:FuncData
 H_X4:FnT K mg "after_turn" "after_turn" yu f_X4 fd_X4 ["standing","number"]
 f_Ye:Addr
 fd_Ye:FuncData
 H_Ye:FnT K mg "loads" "loads" AW f_Ye fd_Ye ["net","standing","number"]
 f_Y4:Addr
 fd_Y4:FuncData
 H_Y4:FnT K mg "shorts" "shorts" yA f_Y4 fd_Y4 ["net","standing","number"]
 f_Y5:Addr
 fd_Y5:FuncData
 H_Y5:FnT K mg "turned" "turned" xY f_Y5 fd_Y5 ["yard","standing","number"]
 f_Xr:Addr
 fd_Xr:FuncData
 H_Xr:FnT K mg "can_lock" "can_lock" vN f_Xr fd_Xr ["switch"]
 f_Qo:Addr
 fd_Qo:FuncData
 H_Qo:FnT K mg "fewest_locks" "fewest_locks" FW f_Qo fd_Qo ["yard","place"]
 f_Yk:Addr
 fd_Yk:FuncData
 H_Yk:FnT K mg "plan" "plan" GN f_Yk fd_Yk ["yard","standing","fixed","wish"]
 f_Xl:Addr
 fd_Xl:FuncData
 H_Xl:FnT K mg "is_number" "is_number" Ak f_Xl fd_Xl ["word"]
 f_Qp:Addr
 fd_Qp:FuncData
 H_Qp:FnT K mg "numbers_told" "numbers_told" BY f_Qp fd_Qp ["words"]
 f_Y1:Addr
 fd_Y1:FuncData
 H_Y1:FnT K mg "parted" "parted" Bh f_Y1 fd_Y1 ["row"]
 f_Xo:Addr
 fd_Xo:FuncData
 H_Xo:FnT K mg "count_in" "count_in" BV f_Xo fd_Xo ["row"]
 f_Xi:Addr
 fd_Xi:FuncData
 H_Xi:FnT K mg "switch_in" "switch_in" y9 f_Xi fd_Xi ["row","bars","switches_ahead"]
 f_Y2:Addr
 fd_Y2:FuncData
 H_Y2:FnT K mg "row_of" "row_of" Cn f_Y2 fd_Y2 ["switch"]
 f_Yd:Addr
 fd_Yd:FuncData
 H_Yd:FnT K mg "shown" "shown" A_ f_Yd fd_Yd ["yard"]
 f_Q2:Addr
 fd_Q2:FuncData
 H_Q2:FnT K mg "joined_by_blanks" "joined_by_blanks" BS f_Q2 fd_Q2 ["numbers"]
 f_X7:Addr
 fd_X7:FuncData
 H_X7:FnT K mg "one_number" "one_number" AZ f_X7 fd_X7 ["words"]
 f_X5:Addr
 fd_X5:FuncData
 H_X5:FnT K mg "place_told" "place_told" yC f_X5 fd_X5 ["words","bars"]
 f_Xs:Addr
 fd_Xs:FuncData
 H_Xs:FnT K mg "wish_for" "wish_for" Hl f_Xs fd_Xs ["kind","place"]
 f_Xn:Addr
 fd_Xn:FuncData
 H_Xn:FnT K mg "_law_draw" "_law_draw" yX f_Xn fd_Xn ["script","k"]
 f_Q5:Addr
 fd_Q5:FuncData
 H_Q5:FnT K mg "_law_switch_row" "_law_switch_row" xQ f_Q5 fd_Q5 ["cell","bars"]
 f_Qe:Addr
 fd_Qe:FuncData
 H_Qe:FnT K mg "_law_yard_rows" "_law_yard_rows" yH f_Qe fd_Qe ["script"]
 f_Qj:Addr
 fd_Qj:FuncData
 H_Qj:FnT K mg "_law_formless" "_law_formless" xb f_Qj fd_Qj ["cell"]
 f_Qx:Addr
 fd_Qx:FuncData
 H_Qx:FnT K mg "_law_unrisen" "_law_unrisen" A5 f_Qx fd_Qx ["cell"]
 f_X1:Addr
 fd_X1:FuncData
 H_X1:FnT K mg "_law_barless" "_law_barless" wY f_X1 fd_X1 ["cell","bars"]
 f_Qa:Addr
 fd_Qa:FuncData
 H_Qa:FnT K mg "_law_placeless" "_law_placeless" xP f_Qa fd_Qa ["cell","bars"]
 f_Qr:Addr
 fd_Qr:FuncData
 H_Qr:FnT K mg "_law_due_row" "_law_due_row" wZ f_Qr fd_Qr ["cell","bars","many"]
 f_Qz:Addr
 fd_Qz:FuncData
 H_Qz:FnT K mg "_law_refused" "_law_refused" wJ f_Qz fd_Qz ["desk","row"]
 f_Xc:Addr
 fd_Xc:FuncData
 H_Xc:FnT K mg "_law_begun" "_law_begun" Ax f_Xc fd_Xc ["desk","script","rows"]
 f_law:Addr
 fd_law:FuncData
 H_law:FnT K mg "law" "law" nQ f_law fd_law ["script"]
 b_len:mg "len"=none
 b_sum:mg "sum"=none
 b_all:mg "all"=none
 b_any:mg "any"=none
 b_isinstance:mg "isinstance"=none
 b_max:mg "max"=none
 b_sorted:mg "sorted"=none
 b_int:mg "int"=none
 b_str:mg "str"=none
 b_list:mg "list"=none
 b_tuple:mg "tuple"=none
 b_range:mg "range"=none
 b_reversed:mg "reversed"=none
 b_enumerate:mg "enumerate"=none
 b_dict:mg "dict"=none
 b_ValueError:mg "ValueError"=none
 b_zip:mg "zip"=none
 a_NUMBERS_BEHIND:Addr
 c_NUMBERS_BEHIND:GV mg "NUMBERS_BEHIND" (.ref a_NUMBERS_BEHIND)
 c_MOST_BARS:GV mg "MOST_BARS" (.int 10)
 c_MOST_SWITCHES:GV mg "MOST_SWITCHES" (.int 12)
 c_MOST_FIGURES:GV mg "MOST_FIGURES" (.int 9)
 c_FIGURES:GV mg "FIGURES" (.str "0123456789")
 w_Xm:Clause K c_Xm
 su_Held_WardError:W.mroIn K c_Yh (.ref c_Xm)=some true
 su_Loaded_WardError:W.mroIn K c_Y3 (.ref c_Xm)=some true
 su_Locked_WardError:W.mroIn K c_Y7 (.ref c_Xm)=some true
 su_NoBar_WardError:W.mroIn K c_Yf (.ref c_Xm)=some true
 su_NoLock_WardError:W.mroIn K c_Y8 (.ref c_Xm)=some true
 su_NoMeasure_WardError:W.mroIn K c_Xh (.ref c_Xm)=some true
 su_NoPermit_WardError:W.mroIn K c_Xt (.ref c_Xm)=some true
 su_NoRow_WardError:W.mroIn K c_Yb (.ref c_Xm)=some true
 su_NoSwitch_WardError:W.mroIn K c_Xq (.ref c_Xm)=some true
 su_NotDead_WardError:W.mroIn K c_Xx (.ref c_Xm)=some true
 su_NotEarthed_WardError:W.mroIn K c_X9 (.ref c_Xm)=some true
 su_NotLocked_WardError:W.mroIn K c_Xj (.ref c_Xm)=some true
 su_NotOpen_WardError:W.mroIn K c_Xw (.ref c_Xm)=some true
 su_Same_WardError:W.mroIn K c_Yg (.ref c_Xm)=some true
 su_Shorted_WardError:W.mroIn K c_Xy (.ref c_Xm)=some true
 ic_Yh:IsiC K c_Yh
 io_Yh:IoL K c_Yh nv [false,false,false,false,false,false,false,false,false,true,false,false,false,false,false,true]
 ic_Y3:IsiC K c_Y3
 io_Y3:IoL K c_Y3 nv [false,false,false,false,false,false,true,false,false,false,false,false,false,false,false,true]
 ic_Y7:IsiC K c_Y7
 io_Y7:IoL K c_Y7 nv [false,false,false,false,false,false,false,false,true,false,false,false,false,false,false,true]
 ic_Yf:IsiC K c_Yf
 io_Yf:IoL K c_Yf nv [false,false,true,false,false,false,false,false,false,false,false,false,false,false,false,true]
 ic_Y8:IsiC K c_Y8
 io_Y8:IoL K c_Y8 nv [false,false,false,false,false,false,false,false,false,false,true,false,false,false,false,true]
 ic_Xh:IsiC K c_Xh
 io_Xh:IoL K c_Xh nv [false,true,false,false,false,false,false,false,false,false,false,false,false,false,false,true]
 ic_Xt:IsiC K c_Xt
 io_Xt:IoL K c_Xt nv [false,false,false,false,false,true,false,false,false,false,false,false,false,false,false,true]
 ic_Yb:IsiC K c_Yb
 io_Yb:IoL K c_Yb nv [true,false,false,false,false,false,false,false,false,false,false,false,false,false,false,true]
 ic_Xq:IsiC K c_Xq
 io_Xq:IoL K c_Xq nv [false,false,false,false,true,false,false,false,false,false,false,false,false,false,false,true]
 ic_Xx:IsiC K c_Xx
 io_Xx:IoL K c_Xx nv [false,false,false,false,false,false,false,false,false,false,false,false,false,false,true,true]
 ic_X9:IsiC K c_X9
 io_X9:IoL K c_X9 nv [false,false,false,false,false,false,false,false,false,false,false,false,false,true,false,true]
 ic_Xj:IsiC K c_Xj
 io_Xj:IoL K c_Xj nv [false,false,false,false,false,false,false,false,false,false,false,false,true,false,false,true]
 ic_Xw:IsiC K c_Xw
 io_Xw:IoL K c_Xw nv [false,false,false,false,false,false,false,false,false,false,false,true,false,false,false,true]
 ic_Yg:IsiC K c_Yg
 io_Yg:IoL K c_Yg nv [false,false,false,true,false,false,false,false,false,false,false,false,false,false,false,true]
 ic_Xy:IsiC K c_Xy
 io_Xy:IoL K c_Xy nv [false,false,false,false,false,false,false,true,false,false,false,false,false,false,false,true]
 d_NUMBERS_BEHIND:Di P w K a_NUMBERS_BEHIND [(.inr "bars",(.int 1)),(.inr "feed",(.int 1)),(.inr "earth",(.int 1)),(.inr "breaker",(.int 2)),(.inr "splitter",(.int 2))]
 Bl:∀(s:Shared) (u:Value),BindsTo s fd_law ⟨[u],[]⟩ [("script",u)]
section
variable {P : Program} {w : World} {K : W.Frag} {mg : Str -> Option Value} (T : Txt P w K mg)
theorem Txt.x_Yh:Exc K mg "Held" T.c_Yh:=⟨T.ac_Yh,⟨_,_,_,_,T.xq_Yh,PySem.F.excBase_ValueError⟩,T.xm_Yh⟩
theorem Txt.k_Yh:GV mg "Held" (.ref T.c_Yh):=⟨_,T.xm_Yh,rfl⟩
theorem Txt.x_Y3:Exc K mg "Loaded" T.c_Y3:=⟨T.ac_Y3,⟨_,_,_,_,T.xq_Y3,PySem.F.excBase_ValueError⟩,T.xm_Y3⟩
theorem Txt.k_Y3:GV mg "Loaded" (.ref T.c_Y3):=⟨_,T.xm_Y3,rfl⟩
theorem Txt.x_Y7:Exc K mg "Locked" T.c_Y7:=⟨T.ac_Y7,⟨_,_,_,_,T.xq_Y7,PySem.F.excBase_ValueError⟩,T.xm_Y7⟩
theorem Txt.k_Y7:GV mg "Locked" (.ref T.c_Y7):=⟨_,T.xm_Y7,rfl⟩
theorem Txt.x_Yf:Exc K mg "NoBar" T.c_Yf:=⟨T.ac_Yf,⟨_,_,_,_,T.xq_Yf,PySem.F.excBase_ValueError⟩,T.xm_Yf⟩
theorem Txt.k_Yf:GV mg "NoBar" (.ref T.c_Yf):=⟨_,T.xm_Yf,rfl⟩
theorem Txt.x_Y8:Exc K mg "NoLock" T.c_Y8:=⟨T.ac_Y8,⟨_,_,_,_,T.xq_Y8,PySem.F.excBase_ValueError⟩,T.xm_Y8⟩
theorem Txt.k_Y8:GV mg "NoLock" (.ref T.c_Y8):=⟨_,T.xm_Y8,rfl⟩
theorem Txt.x_Xh:Exc K mg "NoMeasure" T.c_Xh:=⟨T.ac_Xh,⟨_,_,_,_,T.xq_Xh,PySem.F.excBase_ValueError⟩,T.xm_Xh⟩
theorem Txt.k_Xh:GV mg "NoMeasure" (.ref T.c_Xh):=⟨_,T.xm_Xh,rfl⟩
theorem Txt.x_Xt:Exc K mg "NoPermit" T.c_Xt:=⟨T.ac_Xt,⟨_,_,_,_,T.xq_Xt,PySem.F.excBase_ValueError⟩,T.xm_Xt⟩
theorem Txt.k_Xt:GV mg "NoPermit" (.ref T.c_Xt):=⟨_,T.xm_Xt,rfl⟩
theorem Txt.x_Yb:Exc K mg "NoRow" T.c_Yb:=⟨T.ac_Yb,⟨_,_,_,_,T.xq_Yb,PySem.F.excBase_ValueError⟩,T.xm_Yb⟩
theorem Txt.k_Yb:GV mg "NoRow" (.ref T.c_Yb):=⟨_,T.xm_Yb,rfl⟩
theorem Txt.x_Xq:Exc K mg "NoSwitch" T.c_Xq:=⟨T.ac_Xq,⟨_,_,_,_,T.xq_Xq,PySem.F.excBase_ValueError⟩,T.xm_Xq⟩
theorem Txt.k_Xq:GV mg "NoSwitch" (.ref T.c_Xq):=⟨_,T.xm_Xq,rfl⟩
theorem Txt.x_Xx:Exc K mg "NotDead" T.c_Xx:=⟨T.ac_Xx,⟨_,_,_,_,T.xq_Xx,PySem.F.excBase_ValueError⟩,T.xm_Xx⟩
theorem Txt.k_Xx:GV mg "NotDead" (.ref T.c_Xx):=⟨_,T.xm_Xx,rfl⟩
theorem Txt.x_X9:Exc K mg "NotEarthed" T.c_X9:=⟨T.ac_X9,⟨_,_,_,_,T.xq_X9,PySem.F.excBase_ValueError⟩,T.xm_X9⟩
theorem Txt.k_X9:GV mg "NotEarthed" (.ref T.c_X9):=⟨_,T.xm_X9,rfl⟩
theorem Txt.x_Xj:Exc K mg "NotLocked" T.c_Xj:=⟨T.ac_Xj,⟨_,_,_,_,T.xq_Xj,PySem.F.excBase_ValueError⟩,T.xm_Xj⟩
theorem Txt.k_Xj:GV mg "NotLocked" (.ref T.c_Xj):=⟨_,T.xm_Xj,rfl⟩
theorem Txt.x_Xw:Exc K mg "NotOpen" T.c_Xw:=⟨T.ac_Xw,⟨_,_,_,_,T.xq_Xw,PySem.F.excBase_ValueError⟩,T.xm_Xw⟩
theorem Txt.k_Xw:GV mg "NotOpen" (.ref T.c_Xw):=⟨_,T.xm_Xw,rfl⟩
theorem Txt.x_Yg:Exc K mg "Same" T.c_Yg:=⟨T.ac_Yg,⟨_,_,_,_,T.xq_Yg,PySem.F.excBase_ValueError⟩,T.xm_Yg⟩
theorem Txt.k_Yg:GV mg "Same" (.ref T.c_Yg):=⟨_,T.xm_Yg,rfl⟩
theorem Txt.x_Xy:Exc K mg "Shorted" T.c_Xy:=⟨T.ac_Xy,⟨_,_,_,_,T.xq_Xy,PySem.F.excBase_ValueError⟩,T.xm_Xy⟩
theorem Txt.k_Xy:GV mg "Shorted" (.ref T.c_Xy):=⟨_,T.xm_Xy,rfl⟩
theorem Txt.x_Xm:Exc K mg "WardError" T.c_Xm:=⟨T.ac_Xm,⟨_,_,_,_,T.xq_Xm,PySem.F.excBase_ValueError⟩,T.xm_Xm⟩
theorem Txt.k_Yj:GV mg "Feed" (.ref T.c_Yj):=T.C_Yj.k
theorem Txt.k_Yc:GV mg "Earth" (.ref T.c_Yc):=T.C_Yc.k
theorem Txt.k_Xv:GV mg "Breaker" (.ref T.c_Xv):=T.C_Xv.k
theorem Txt.k_Xp:GV mg "Splitter" (.ref T.c_Xp):=T.C_Xp.k
theorem Txt.k_Net:GV mg "Net" (.ref T.c_Net):=T.C_Net.k
theorem Txt.k_Y0:GV mg "Bundle" (.ref T.c_Y0):=T.C_Y0.k
theorem Txt.k_Ya:GV mg "Board" (.ref T.c_Ya):=T.C_Ya.k
theorem Txt.k_Yl:GV mg "Desk" (.ref T.c_Yl):=T.C_Yl.k
end
noncomputable def bj{P:Program}{w:World}{K:W.Frag}{mg:Str->Option Value}(T:Txt P w K mg)(n:String):Addr:=
 if n="Held"then T.c_Yh else
 if n="Loaded"then T.c_Y3 else
 if n="Locked"then T.c_Y7 else
 if n="NoBar"then T.c_Yf else
 if n="NoLock"then T.c_Y8 else
 if n="NoMeasure"then T.c_Xh else
 if n="NoPermit"then T.c_Xt else
 if n="NoRow"then T.c_Yb else
 if n="NoSwitch"then T.c_Xq else
 if n="NotDead"then T.c_Xx else
 if n="NotEarthed"then T.c_X9 else
 if n="NotLocked"then T.c_Xj else
 if n="NotOpen"then T.c_Xw else
 if n="Same"then T.c_Yg else
 if n="Shorted"then T.c_Xy else
 if n="WardError"then T.c_Xm else
 if n="Switch"then T.c_Y6 else
 if n="Feed"then T.c_Yj else
 if n="Earth"then T.c_Yc else
 if n="Breaker"then T.c_Xv else
 if n="Splitter"then T.c_Xp else
 if n="Net"then T.c_Net else
 if n="Bundle"then T.c_Y0 else
 if n="Board"then T.c_Ya else
 if n="Desk"then T.c_Yl else
 0
noncomputable abbrev ct{P:Program}{w:World}{K:W.Frag}{mg:Str->Option Value}(T:Txt P w K mg):Ct:=⟨P,w,K,bj T⟩
section
variable {P : Program} {w : World} {K : W.Frag} {mg : Str -> Option Value} {base : Heap} (T : Txt P w K mg)
theorem u0:bj T "Held"=T.c_Yh:=by simp[bj]
theorem Aw:bj T "Loaded"=T.c_Y3:=by simp[bj]
theorem ve:bj T "Locked"=T.c_Y7:=by simp[bj]
theorem vg:bj T "NoBar"=T.c_Yf:=by simp[bj]
theorem A6:bj T "NoLock"=T.c_Y8:=by simp[bj]
theorem yn:bj T "NoMeasure"=T.c_Xh:=by simp[bj]
theorem v5:bj T "NoPermit"=T.c_Xt:=by simp[bj]
theorem gX:bj T "NoRow"=T.c_Yb:=by simp[bj]
theorem vS:bj T "NoSwitch"=T.c_Xq:=by simp[bj]
theorem Dr:bj T "NotDead"=T.c_Xx:=by simp[bj]
theorem DW:bj T "NotEarthed"=T.c_X9:=by simp[bj]
theorem BH:bj T "NotLocked"=T.c_Xj:=by simp[bj]
theorem xF:bj T "NotOpen"=T.c_Xw:=by simp[bj]
theorem Ao:bj T "Same"=T.c_Yg:=by simp[bj]
theorem yL:bj T "Shorted"=T.c_Xy:=by simp[bj]
theorem D5:bj T "Switch"=T.c_Y6:=by simp[bj]
theorem vh:bj T "Feed"=T.c_Yj:=by simp[bj]
theorem vq:bj T "Earth"=T.c_Yc:=by simp[bj]
theorem p6:bj T "Breaker"=T.c_Xv:=by simp[bj]
theorem sU:bj T "Splitter"=T.c_Xp:=by simp[bj]
theorem mB:bj T "Net"=T.c_Net:=by simp[bj]
theorem ox:bj T "Bundle"=T.c_Y0:=by simp[bj]
theorem iy:bj T "Board"=T.c_Ya:=by simp[bj]
theorem mf:bj T "Desk"=T.c_Yl:=by simp[bj]
theorem CF:fQ (ct T) "bar" mY:=(cZ (vh T) T.C_Yj.cl T.na_Feed_bar (cZ (vq T) T.C_Yc.cl T.na_Earth_bar kL))
theorem iF:fQ (ct T) "board" eA:=(cZ (mf T) T.C_Yl.cl T.na_Desk_board kL)
theorem Dc:fQ (ct T) "given" uQ:=(cZ (iy T) T.C_Ya.cl T.na_Board_given kL)
theorem Pr:fQ (ct T) "last_number" GJ:=(cZ (iy T) T.C_Ya.cl T.na_Board_last_number kL)
theorem jx:fQ (ct T) "locks" iE:=(cZ (iy T) T.C_Ya.cl T.na_Board_locks kL)
theorem HL:fQ (ct T) "net" xt:=(cZ (ox T) T.C_Y0.cl T.na_Bundle_net (cZ (iy T) T.C_Ya.cl T.na_Board_net kL))
theorem DD:fQ (ct T) "one" oC:=(cZ (p6 T) T.C_Xv.cl T.na_Breaker_one (cZ (sU T) T.C_Xp.cl T.na_Splitter_one kL))
theorem DN:fQ (ct T) "other" oA:=(cZ (p6 T) T.C_Xv.cl T.na_Breaker_other (cZ (sU T) T.C_Xp.cl T.na_Splitter_other kL))
theorem vm:fQ (ct T) "shut" nL:=(cZ (iy T) T.C_Ya.cl T.na_Board_shut kL)
theorem C9:fQ (ct T) "switches" jd:=(cZ (mB T) T.C_Net.cl T.na_Net_switches kL)
theorem fI:fQ (ct T) "yard" da:=(cZ (ox T) T.C_Y0.cl T.na_Bundle_yard (cZ (iy T) T.C_Ya.cl T.na_Board_yard (cZ (mf T) T.C_Yl.cl T.na_Desk_yard kL)))
theorem rL:qN (ct T) T.c_Xm w_Xm:=(dq (u0 T) T.su_Held_WardError (dq (Aw T) T.su_Loaded_WardError (dq (ve T) T.su_Locked_WardError (dq (vg T) T.su_NoBar_WardError (dq (A6 T) T.su_NoLock_WardError (dq (yn T) T.su_NoMeasure_WardError (dq (v5 T) T.su_NoPermit_WardError (dq (gX T) T.su_NoRow_WardError (dq (vS T) T.su_NoSwitch_WardError (dq (Dr T) T.su_NotDead_WardError (dq (DW T) T.su_NotEarthed_WardError (dq (BH T) T.su_NotLocked_WardError (dq (xF T) T.su_NotOpen_WardError (dq (Ao T) T.su_Same_WardError (dq (yL T) T.su_Shorted_WardError OX)))))))))))))))
theorem rq:CI (ct T) vF T.nv:=by rw[T.nve];exact⟨congrArg Value.ref (gX T),congrArg Value.ref (yn T),congrArg Value.ref (vg T),congrArg Value.ref (Ao T),congrArg Value.ref (vS T),congrArg Value.ref (v5 T),congrArg Value.ref (Aw T),congrArg Value.ref (yL T),congrArg Value.ref (ve T),congrArg Value.ref (u0 T),congrArg Value.ref (A6 T),congrArg Value.ref (xF T),congrArg Value.ref (BH T),congrArg Value.ref (DW T),congrArg Value.ref (Dr T),rfl,trivial⟩
theorem gK:nC (ct T) fJ:=xS (rq T) (ia (u0 T) T.ic_Yh T.io_Yh (ia (Aw T) T.ic_Y3 T.io_Y3 (ia (ve T) T.ic_Y7 T.io_Y7 (ia (vg T) T.ic_Yf T.io_Yf (ia (A6 T) T.ic_Y8 T.io_Y8 (ia (yn T) T.ic_Xh T.io_Xh (ia (v5 T) T.ic_Xt T.io_Xt (ia (gX T) T.ic_Yb T.io_Yb (ia (vS T) T.ic_Xq T.io_Xq (ia (Dr T) T.ic_Xx T.io_Xx (ia (DW T) T.ic_X9 T.io_X9 (ia (BH T) T.ic_Xj T.io_Xj (ia (xF T) T.ic_Xw T.io_Xw (ia (Ao T) T.ic_Yg T.io_Yg (ia (yL T) T.ic_Xy T.io_Xy trivial)))))))))))))))
seal PE PA PS PSs
local macro_rules | `(tactic| trivial) => `(tactic| first | exact Or.inl rfl | exact Or.inr rfl)
theorem AI:FnOk P w K mg base (CXE P w) 1 T.f_Xn T.fd_Xn ["script","k"] (bG (ct T) du):=by
 refine aN (b:=qT) T.H_Xn.F AL λcdv A outer s H E hr=> ?_;have hu:=hr.units;refine⟨_,(aJ (bK (i:=2) AL.nd rfl (by trivial) (aE (bA (K:=K) rfl) aC (aE eP (cT (gR (P:=P) (w:=w) (K:=K) rfl rfl rfl) (by rfl) T.b_len hZ (ak (pv 0) ax)) aC)))
   (aJ (bK (i:=3) AL.nd rfl (by trivial) (aE (bA (K:=K) rfl) (aE uL aC (pv 1)) aC))
   (aJ (mn eU rfl (cR (K:=K) rfl (HP (K:=K) rfl (pv 0) (ee (aE cM (pv 1) (pv 2))) fq (ee (pv 2)))) (dj (i:=4) AL.nd rfl (by trivial)) (aK (bK (i:=3) AL.nd rfl (by trivial) (aE cM (aE (bA (K:=K) rfl) (aE uL (pv 3) (aE (bA (K:=K) rfl) (aE uL aC (pv 1)) aC)) (pv 4)) aC))))
   (aK (bq (aE cM (aE uL (pv 3) (aE (bA (K:=K) rfl) (aE (bA (K:=K) rfl) (aE cM (aE eP (pv 3) aC) aC) (aE uL aC (pv 1))) aC)) aC)))))),?_⟩
 exact(aI (bJ (ah bB aB (ah eJ (aP gZ (ao aj av)) aB)) a_)
   (aI (bJ (ah bB (ah uC aB aj) aB) a_)
   (aI (nG (cN (pj aj (d8 (ah cQ aj aj)) e8 (d8 aj))) a_ (bJ (ah cQ (ah bB (ah uC aj (ah bB (ah uC aB aj) aB)) aj) aB) a_))
   (bp (ah cQ (ah uC aj (ah bB (ah bB (ah cQ (ah eJ aj aB) aB) (ah uC aB aj)) aB)) aB)))))
theorem Ci:FnOk P w K mg base (CXE P w) 1 T.f_Q5 T.fd_Q5 ["cell","bars"] (bG (ct T) eR):=by
 refine aN (b:=iq) T.H_Q5.F Fe λcdv A outer s H E hr=> ?_;have hu:=hr.units;refine⟨_,(aJ (bK (i:=2) Fe.nd rfl (by trivial) (aE cM (aE eP (pv 0) aC) (pv 1)))
   (aJ (bN (PW.pt (u9 (bV (nr) (aE cM (pv 0) aC) aC (bP _)) (u6 (bV (cx hu) (pv 1) aC (bP _))))) (aK (bq (aE (bA (K:=K) rfl) (b7 P w K hu (bY (ak az (ak az ax))) (aE cM (pv 0) aC)) (eg (e_) (by rfl) T.b_str fo (ak (pv 2) ax))))) bU)
   (aJ (bK (i:=3) Fe.nd rfl (by trivial) (aE cM (aE (bA (K:=K) rfl) (aE (bA (K:=K) rfl) (pv 2) aC) (aE cM (aE eP (pv 0) aC) (aE m4 (pv 1) aC))) (pv 1)))
   (aK (bq (aE (bA (K:=K) rfl) (aE (bA (K:=K) rfl) (aE (bA (K:=K) rfl) (b7 P w K hu (bY (ak az (ak az (ak az ax)))) (aE m4 (aE cM (pv 0) aC) aC)) (eg (e_) (by rfl) T.b_str fo (ak (pv 2) ax))) az) (eg (e_) (by rfl) T.b_str fo (ak (pv 3) ax)))))))),?_⟩
 exact(aI (bJ (ah cQ (ah eJ aj aB) aj) a_)
   (aI (bM (uA (bQ (ah m6 (ah cQ aj aB) aB)) (bQ (ah cw aj aB))) (bp (ah bB (aR (bF (bZ (ao ay (ao ay av)))) (ah cQ aj aB)) (aP fe (ao aj av)))) bT)
   (aI (bJ (ah cQ (ah bB (ah bB aj aB) (ah cQ (ah eJ aj aB) (ah nN aj aB))) aj) a_)
   (bp (ah bB (ah bB (ah bB (aR (bF (bZ (ao ay (ao ay (ao ay av))))) (ah nN (ah cQ aj aB) aB)) (aP fe (ao aj av))) ay) (aP fe (ao aj av)))))))
theorem y0:FnOk P w K mg base (CXE P w) 2 T.f_Qe T.fd_Qe ["script"] (bG (ct T) jL):=by
 refine aN (b:=jS) T.H_Qe.F D9 λcdv A outer s H E hr=> ?_;have hu:=hr.units;refine⟨_,(aJ (bK (i:=1) D9.nd rfl (by trivial) (aE (bA (K:=K) rfl) aC (aE cM (aO (bX T.H_Xn (AI T)) (hm hr) aW (ak (pv 0) (ak aC ax))) aC)))
   (aJ (bK (i:=2) D9.nd rfl (by trivial) (aE cM (aO (bX T.H_Xn (AI T)) (hm hr) aW (ak (pv 0) (ak aC ax))) aC))
   (aJ (Ey (i:=3) D9.nd rfl (by trivial) (CompOk.mk (tgs:=["k"]) (cap:=["bars","script"]) (idx:=[1,0]) rfl rfl (by decide+kernel) (by decide+kernel) (zg.mpr ⟨rfl,(zg.mpr ⟨rfl,(qx _)⟩)⟩) rfl (.cons rfl (by trivial) (by trivial) rfl rfl (.cons rfl (by trivial) (by trivial) rfl rfl .nil))) rfl (zJ rfl T.b_range (ak (pv 2) ax)) (gN (by decide)) (λ_ _ _ _=>(dj (i:=0) (show List.Nodup (α:=PySem.Str) ["k","bars","script"] by decide+kernel) rfl (by trivial))) (λ_ _ _ _=>gM) (λ_ _ _ _=>(aO (bX T.H_Q5 (Ci T)) (hm hr) k_ (ak (aE (bA (K:=K) rfl) (cT (E2 (K:=K) rfl rfl) (by rfl) T.b_sum Gh (ak (HP (K:=K) rfl (pv 2) (ee (pv 0)) (ee aC) (ee aC)) ax)) (aO (bX T.H_Xn (AI T)) (hm hr) k_ (ak (pv 2) (ak (aE (bA (K:=K) rfl) aC (pv 0)) ax)))) (ak (pv 1) ax)))))
   (aK (bq (aE (bA (K:=K) rfl) (bY (ak (aE (bA (K:=K) rfl) az (eg (e_) (by rfl) T.b_str fo (ak (pv 1) ax))) ax)) (pv 3))))))),?_⟩
 exact(aI (bJ (ah bB aB (ah cQ (bW (ao aj (ao aB av))) aB)) a_)
   (aI (bJ (ah cQ (bW (ao aj (ao aB av))) aB) a_)
   (aI (Fy (bF (fR (yR (ao aj av)) a_ gF (bW (ao (ah bB (aP FA (ao (pj aj (d8 aj) (d8 aB) (d8 aB)) av)) (bW (ao aj (ao (ah bB aB aj) av)))) (ao aj av))))))
   (bp (ah bB (bF (bZ (ao (ah bB ay (aP fe (ao aj av))) av))) aj)))))
theorem zP:FnOk P w K mg base (CXE P w) 1 T.f_Qx T.fd_Qx ["cell"] (bG (ct T) r9):=by
 refine aN (b:=kM) T.H_Qx.F oW λcdv A outer s H E hr=> ?_;have hu:=hr.units;refine⟨_,(aJ (bK (i:=1) oW.nd rfl (by trivial) (aE eP (pv 0) aC))
   (aJ (bK (i:=2) oW.nd rfl (by trivial) (bY ax))
   (aJ (mn eU rfl (zJ rfl T.b_range (ak (aE (bA (K:=K) rfl) aC (aE cM (aE eP (pv 0) aC) aC)) ax)) (dj (i:=3) oW.nd rfl (by trivial)) (aJ (ly (kW (K:=K) rfl (kS PySem.F.plainAttrs_list PySem.F.slot_list_append PySem.F.type_list_append KC (pv 2) (ak (aE (bA (K:=K) rfl) (aE (bA (K:=K) rfl) (aE cM (pv 1) aC) aC) (cT (E2 (K:=K) rfl rfl) (by rfl) T.b_sum Gh (ak (fz (cO (K:=K) rfl) (pv 2) (ee (uJ EM aC)) fq) ax))) ax))))
   (aK (bK (i:=1) oW.nd rfl (by trivial) (aE eP (pv 1) aC)))))
   (aJ (bK (i:=4) oW.nd rfl (by trivial) (aE cM (pv 1) (aE m4 (cT (gR (P:=P) (w:=w) (K:=K) rfl rfl rfl) (by rfl) T.b_len hZ (ak (pv 2) ax)) aC)))
   (aJ (bN (bV (cx hu) (aE cM (pv 0) aC) aC (bP _)) (aK (bK (i:=2) oW.nd rfl (by trivial) (aE (bA (K:=K) rfl) (fz (cO (K:=K) rfl) (pv 2) fq (ee (aE (bA (K:=K) rfl) (pv 4) aC))) (fz (cO (K:=K) rfl) (pv 2) (ee (pv 4)) fq)))) (aK (bK (i:=2) oW.nd rfl (by trivial) (aE (bA (K:=K) rfl) (aE (bA (K:=K) rfl) (fz (cO (K:=K) rfl) (pv 2) fq (ee (pv 4))) (bY (ak (b7 P w K hu (pv 2) (aE (bA (K:=K) rfl) (pv 4) aC)) (ak (b7 P w K hu (pv 2) (pv 4)) ax)))) (fz (cO (K:=K) rfl) (pv 2) (ee (aE (bA (K:=K) rfl) (pv 4) aC)) fq)))))
   (aK (bq (kW (K:=K) rfl (kS PySem.F.plainAttrs_str PySem.F.slot_str_join PySem.F.type_str_join (qA (K:=K) rfl) az (ak (aE (bA (K:=K) rfl) (bY (ak (b7 P w K hu (bY (ak az (ak az ax))) (aE cM (aE eP (pv 0) aC) aC)) ax)) (iu (CompOk.mk (tgs:=["bar"]) (cap:=[]) (idx:=[]) rfl rfl (by decide+kernel) (by decide+kernel) (qx _) rfl .nil) rfl (cR (K:=K) rfl (pv 2)) (gN (by decide)) (λ_ _ _ _=>(dj (i:=0) (show List.Nodup (α:=PySem.Str) ["bar"] by decide+kernel) rfl (by trivial))) (λ_ _ _ _=>gM) (λ_ _ _ _=>(eg (e_) (by rfl) T.b_str fo (ak (aE m4 (pv 0) aC) ax))))) ax)))))))))),?_⟩
 exact(aI (bJ (ah eJ aj aB) a_)
   (aI (bJ (Gk (bZ av)) a_)
   (aI (nG (yR (ao (ah bB aB (ah cQ (ah eJ aj aB) aB)) av)) a_ (aI (NZ aj (ah bB (ah bB (ah cQ aj aB) aB) (aP FA (ao (cL aj (d8 (ja FZ aB)) e8) av))))
   (bJ (ah eJ aj aB) a_)))
   (MD (i:=2) (aI (bJ (ah cQ aj (ah nN (aP gZ (ao aj av)) aB)) a_)
   (aI (bM (bQ (ah cw (ah cQ aj aB) aB)) (bJ (Gk (ph (cL aj e8 (d8 (ah bB aj aB))) (cL aj (d8 aj) e8))) a_) (bJ (Gk (ph (ah bB (cL aj e8 (d8 aj)) (bF (bZ (ao (aR aj (ah bB aj aB)) (ao (aR aj aj) av))))) (cL aj (d8 (ah bB aj aB)) e8))) a_))
   (bp (ig qB ay (ao (ah bB (bF (bZ (ao (aR (bF (bZ (ao ay (ao ay av)))) (ah cQ (ah eJ aj aB) aB)) av))) (bF (fR (cN aj) a_ gF (aP fe (ao (ah nN aj aB) av))))) av)))))))))
theorem pq:FnOk P w K mg base (CXE P w) 1 T.f_Qj T.fd_Qj ["cell"] (bG (ct T) mT):=by
 refine aN (b:=j_) T.H_Qj.F ie λcdv A outer s H E hr=> ?_;have hu:=hr.units;refine⟨_,(aJ (bK (i:=1) ie.nd rfl (by trivial) (bY (ak az (ak az (ak az (ak az (ak az (ak az (ak az (ak az (ak az (ak az (ak az ax)))))))))))))
   (aJ (bK (i:=1) ie.nd rfl (by trivial) (aE (bA (K:=K) rfl) (pv 1) (bY (ak az (ak az (ak az (ak az (ak az (ak az (ak az (ak az (ak az ax))))))))))))
   (aJ (bK (i:=1) ie.nd rfl (by trivial) (aE (bA (K:=K) rfl) (pv 1) (bY (ak az (ak az (ak az (ak az (ak az (ak az ax)))))))))
   (aJ (bK (i:=1) ie.nd rfl (by trivial) (aE (bA (K:=K) rfl) (pv 1) (bY (ak az ax))))
   (aJ (bK (i:=1) ie.nd rfl (by trivial) (aE (bA (K:=K) rfl) (pv 1) (bY (ak az (ak az (ak az (ak az (ak az (ak az (ak az (ak az ax)))))))))))
   (aJ (bK (i:=1) ie.nd rfl (by trivial) (aE (bA (K:=K) rfl) (pv 1) (bY (ak az (ak az (ak az (ak az (ak az (ak az (ak az ax))))))))))
   (aJ (bK (i:=1) ie.nd rfl (by trivial) (aE (bA (K:=K) rfl) (pv 1) (bY (ak az (ak az (ak az (ak az (ak az (ak az (ak az (ak az ax)))))))))))
   (aJ (bK (i:=1) ie.nd rfl (by trivial) (aE (bA (K:=K) rfl) (pv 1) (bY (ak az (ak az (ak az (ak az (ak az (ak az (ak az (ak az ax)))))))))))
   (aJ (bK (i:=1) ie.nd rfl (by trivial) (aE (bA (K:=K) rfl) (pv 1) (bY (ak az (ak az (ak az (ak az (ak az (ak az (ak az ax))))))))))
   (aJ (bK (i:=1) ie.nd rfl (by trivial) (aE (bA (K:=K) rfl) (pv 1) (bY (ak az (ak az (ak az (ak az (ak az (ak az ax)))))))))
   (aJ (bK (i:=1) ie.nd rfl (by trivial) (aE (bA (K:=K) rfl) (pv 1) (bY (ak az ax))))
   (aJ (bK (i:=1) ie.nd rfl (by trivial) (aE (bA (K:=K) rfl) (pv 1) (bY (ak az (ak az (ak az (ak az (ak az (ak az ax)))))))))
   (aJ (bK (i:=1) ie.nd rfl (by trivial) (aE (bA (K:=K) rfl) (pv 1) (bY (ak az (ak az (ak az (ak az (ak az (ak az (ak az ax))))))))))
   (aJ (bK (i:=1) ie.nd rfl (by trivial) (aE (bA (K:=K) rfl) (pv 1) (bY (ak az (ak az (ak az (ak az (ak az (ak az ax)))))))))
   (aK (bq (b7 P w K hu (pv 1) (aE cM (pv 0) (cT (gR (P:=P) (w:=w) (K:=K) rfl rfl rfl) (by rfl) T.b_len hZ (ak (pv 1) ax)))))))))))))))))))),?_⟩
 exact(aI (bJ (bF (bZ (ao ay (ao ay (ao ay (ao ay (ao ay (ao ay (ao ay (ao ay (ao ay (ao ay (ao ay av))))))))))))) a_)
   (aI (bJ (ah bB aj (bF (bZ (ao ay (ao ay (ao ay (ao ay (ao ay (ao ay (ao ay (ao ay (ao ay av)))))))))))) a_)
   (aI (bJ (ah bB aj (bF (bZ (ao ay (ao ay (ao ay (ao ay (ao ay (ao ay av))))))))) a_)
   (aI (bJ (ah bB aj (bF (bZ (ao ay av)))) a_)
   (aI (bJ (ah bB aj (bF (bZ (ao ay (ao ay (ao ay (ao ay (ao ay (ao ay (ao ay (ao ay av))))))))))) a_)
   (aI (bJ (ah bB aj (bF (bZ (ao ay (ao ay (ao ay (ao ay (ao ay (ao ay (ao ay av)))))))))) a_)
   (aI (bJ (ah bB aj (bF (bZ (ao ay (ao ay (ao ay (ao ay (ao ay (ao ay (ao ay (ao ay av))))))))))) a_)
   (aI (bJ (ah bB aj (bF (bZ (ao ay (ao ay (ao ay (ao ay (ao ay (ao ay (ao ay (ao ay av))))))))))) a_)
   (aI (bJ (ah bB aj (bF (bZ (ao ay (ao ay (ao ay (ao ay (ao ay (ao ay (ao ay av)))))))))) a_)
   (aI (bJ (ah bB aj (bF (bZ (ao ay (ao ay (ao ay (ao ay (ao ay (ao ay av))))))))) a_)
   (aI (bJ (ah bB aj (bF (bZ (ao ay av)))) a_)
   (aI (bJ (ah bB aj (bF (bZ (ao ay (ao ay (ao ay (ao ay (ao ay (ao ay av))))))))) a_)
   (aI (bJ (ah bB aj (bF (bZ (ao ay (ao ay (ao ay (ao ay (ao ay (ao ay (ao ay av)))))))))) a_)
   (aI (bJ (ah bB aj (bF (bZ (ao ay (ao ay (ao ay (ao ay (ao ay (ao ay av))))))))) a_)
   (bp (aR aj (ah cQ aj (aP gZ (ao aj av)))))))))))))))))))
theorem AA:FnOk P w K mg base (CXE P w) 1 T.f_X1 T.fd_X1 ["cell","bars"] (bG (ct T) ub):=by
 refine aN (b:=kJ) T.H_X1.F Hv λcdv A outer s H E hr=> ?_;have hu:=hr.units;refine⟨_,(aJ (bK (i:=2) Hv.nd rfl (by trivial) (eg (e_) (by rfl) T.b_str fo (ak (aE (bA (K:=K) rfl) (pv 1) (aE cM (aE eP (pv 0) aC) (b7 P w K hu (bY (ak aC (ak aC (ak aC ax)))) (aE cM (aE eP (pv 0) aC) aC)))) ax)))
   (aJ (bK (i:=3) Hv.nd rfl (by trivial) (bY (ak (aE (bA (K:=K) rfl) az (pv 2)) (ak (aE (bA (K:=K) rfl) az (pv 2)) (ak (aE (bA (K:=K) rfl) (aE (bA (K:=K) rfl) az (pv 2)) az) (ak (aE (bA (K:=K) rfl) az (pv 2)) (ak (aE (bA (K:=K) rfl) (aE (bA (K:=K) rfl) (aE (bA (K:=K) rfl) az (pv 2)) az) (pv 2)) ax)))))))
   (aK (bq (b7 P w K hu (pv 3) (aE cM (pv 0) aC)))))),?_⟩
 exact(aI (bJ (aP fe (ao (ah bB aj (ah cQ (ah eJ aj aB) (aR (bF (bZ (ao aB (ao aB (ao aB av))))) (ah cQ (ah eJ aj aB) aB)))) av)) a_)
   (aI (bJ (bF (bZ (ao (ah bB ay aj) (ao (ah bB ay aj) (ao (ah bB (ah bB ay aj) ay) (ao (ah bB ay aj) (ao (ah bB (ah bB (ah bB ay aj) ay) aj) av))))))) a_)
   (bp (aR aj (ah cQ aj aB)))))
theorem y2:FnOk P w K mg base (CXE P w) 1 T.f_Qa T.fd_Qa ["cell","bars"] (bG (ct T) rZ):=by
 refine aN (b:=ju) T.H_Qa.F Cv λcdv A outer s H E hr=> ?_;have hu:=hr.units;refine⟨_,(aJ (bK (i:=2) Cv.nd rfl (by trivial) (eg (e_) (by rfl) T.b_str fo (ak (aE (bA (K:=K) rfl) (pv 1) (aE cM (aE eP (pv 0) aC) (b7 P w K hu (bY (ak aC (ak aC (ak aC ax)))) (aE cM (aE eP (pv 0) aC) aC)))) ax)))
   (aJ (bK (i:=3) Cv.nd rfl (by trivial) (aE (bA (K:=K) rfl) (aE (bA (K:=K) rfl) (eg (e_) (by rfl) T.b_str fo (ak (aE m4 (pv 1) aC) ax)) az) (pv 2)))
   (aJ (bK (i:=4) Cv.nd rfl (by trivial) (bY (ak (aE (bA (K:=K) rfl) az (pv 2)) (ak (aE (bA (K:=K) rfl) az (pv 2)) (ak (aE (bA (K:=K) rfl) az (pv 2)) (ak (aE (bA (K:=K) rfl) az (pv 2)) (ak (aE (bA (K:=K) rfl) az (pv 2)) ax)))))))
   (aK (bq (b7 P w K hu (aE (bA (K:=K) rfl) (pv 4) (bY (ak (aE (bA (K:=K) rfl) az (pv 2)) (ak (aE (bA (K:=K) rfl) az (pv 2)) (ak (aE (bA (K:=K) rfl) az (pv 3)) (ak (aE (bA (K:=K) rfl) az (pv 3)) ax)))))) (aE cM (pv 0) aC))))))),?_⟩
 exact(aI (bJ (aP fe (ao (ah bB aj (ah cQ (ah eJ aj aB) (aR (bF (bZ (ao aB (ao aB (ao aB av))))) (ah cQ (ah eJ aj aB) aB)))) av)) a_)
   (aI (bJ (ah bB (ah bB (aP fe (ao (ah nN aj aB) av)) ay) aj) a_)
   (aI (bJ (bF (bZ (ao (ah bB ay aj) (ao (ah bB ay aj) (ao (ah bB ay aj) (ao (ah bB ay aj) (ao (ah bB ay aj) av))))))) a_)
   (bp (aR (ah bB aj (bF (bZ (ao (ah bB ay aj) (ao (ah bB ay aj) (ao (ah bB ay aj) (ao (ah bB ay aj) av))))))) (ah cQ aj aB))))))
theorem yh:FnOk P w K mg base (CXE P w) 2 T.f_Qr T.fd_Qr ["cell","bars","many"] (bG (ct T) gV):=by
 refine aN (b:=fX) T.H_Qr.F uU λcdv A outer s H E hr=> ?_;have hu:=hr.units;refine⟨_,(aJ (bK (i:=3) uU.nd rfl (by trivial) (aE cM (pv 0) aC))
   (aJ (bK (i:=4) uU.nd rfl (by trivial) (aE eP (pv 0) aC))
   (aJ (bN (bV (cx hu) (pv 1) aC (bP _)) (aJ (bK (i:=5) uU.nd rfl (by trivial) (bY (ak az (ak az (ak az (ak az (ak az (ak az (ak az (ak az (ak az (ak az ax))))))))))))
   (aJ (bK (i:=5) uU.nd rfl (by trivial) (aE (bA (K:=K) rfl) (pv 5) (bY (ak az (ak az (ak az (ak az (ak az (ak az ax)))))))))
   (aJ (bN (bV (cx hu) (aE cM (pv 4) aC) aC (bP _)) (aK (bq (bY (ak (aE (bA (K:=K) rfl) az (eg (e_) (by rfl) T.b_str fo (ak (b7 P w K hu (bY (ak aC (ak aC (ak aC ax)))) (aE cM (aE eP (pv 4) aC) aC)) ax))) (ak aC ax))))) bU)
   (aK (bq (bY (ak (b7 P w K hu (aE (bA (K:=K) rfl) (pv 5) (bY (ak (aO (bX T.H_Qj (pq T)) (hm hr) aW (ak (aE eP (pv 4) aC) ax)) ax))) (aE cM (pv 4) aC)) (ak aC ax)))))))) bU)
   (aJ (bN (PW.pt (lJ (bV (cx hu) (pv 3) aC (bP _)) (mr (bV (cx hu) (aE cM (pv 4) aC) aC (bP _))))) (aK (bq (bY (ak (aO (bX T.H_Qx (zP T)) (hm hr) aW (ak (aE eP (pv 4) aC) ax)) (ak aC ax))))) bU)
   (aJ (bN (PW.pt (u9 (bV (cx hu) (pv 3) aC (bP _)) (u6 (PW.pt (lJ (bV (cx hu) (pv 3) aC (bP _)) (mr (bV (cx hu) (pv 2) aC (bP _)))))))) (aK (bq (bY (ak (aO (bX T.H_Qj (pq T)) (hm hr) aW (ak (aE eP (pv 4) aC) ax)) (ak aC ax))))) bU)
   (aJ (bN (bV (cx hu) (pv 3) aC (bP _)) (aK (bq (bY (ak (aO (bX T.H_X1 (AA T)) (hm hr) aW (ak (pv 4) (ak (pv 1) ax))) (ak aC ax))))) bU)
   (aJ (bN (PW.pt (lJ (bV (cx hu) (pv 3) aC (bP _)) (mr (bV (cx hu) (pv 2) aC (bP _))))) (aK (bq (bY (ak (b7 P w K hu (bY (ak az (ak az (ak az (ak az ax))))) (aE cM (pv 4) aC)) (ak aC ax))))) bU)
   (aJ (bN (bV (cx hu) (pv 3) aC (bP _)) (aK (bq (bY (ak (aE (bA (K:=K) rfl) (b7 P w K hu (bY (ak az (ak az ax))) (aE cM (pv 4) aC)) (kW (K:=K) rfl (kS PySem.F.plainAttrs_str PySem.F.slot_str_join PySem.F.type_str_join (qA (K:=K) rfl) az (ak (aE uL (bY (ak (eg (e_) (by rfl) T.b_str fo (ak (aE cM (aE eP (pv 4) aC) (pv 1)) ax)) ax)) aC) ax)))) (ak aC ax))))) bU)
   (aJ (bN (bV (cx hu) (pv 3) aC (bP _)) (aK (bq (bY (ak (aE (bA (K:=K) rfl) az (eg (e_) (by rfl) T.b_str fo (ak (b7 P w K hu (bY (ak aC (ak aC (ak (aE (bA (K:=K) rfl) aC (aE cM (aE eP (pv 4) aC) (aE FN aC aC))) (ak aC ax))))) (aE cM (pv 4) aC)) ax))) (ak aC ax))))) bU)
   (aJ (bN (bV (cx hu) (pv 3) aC (bP _)) (aK (bq (bY (ak (aO (bX T.H_Qa (y2 T)) (hm hr) aW (ak (pv 4) (ak (pv 1) ax))) (ak aC ax))))) bU)
   (aJ (bK (i:=6) uU.nd rfl (by trivial) (b7 P w K hu (bY (ak az (ak az (ak az (ak az ax))))) (aE cM (pv 4) aC)))
   (aJ (bN (bV (cx hu) (pv 6) az (bP _)) (aK (bq (bY (ak (aE (bA (K:=K) rfl) (pv 6) (eg (e_) (by rfl) T.b_str fo (ak (aE cM (aE eP (pv 4) aC) (aE FN aC aC)) ax))) (ak aC ax))))) bU)
   (aK (bq (bY (ak (aE (bA (K:=K) rfl) (pv 6) (eg (e_) (by rfl) T.b_str fo (ak (aE (bA (K:=K) rfl) (pv 2) (aE cM (aE eP (pv 4) aC) (aE FN aC aC))) ax))) (ak aC ax))))))))))))))))),?_⟩
 exact(aI (bJ (ah cQ aj aB) a_)
   (aI (bJ (ah eJ aj aB) a_)
   (aI (bM (bQ (ah cw aj aB)) (aI (bJ (bF (bZ (ao ay (ao ay (ao ay (ao ay (ao ay (ao ay (ao ay (ao ay (ao ay (ao ay av)))))))))))) a_)
   (aI (bJ (ah bB aj (bF (bZ (ao ay (ao ay (ao ay (ao ay (ao ay (ao ay av))))))))) a_)
   (aI (bM (bQ (ah cw (ah cQ aj aB) aB)) (bp (bF (bZ (ao (ah bB ay (aP fe (ao (aR (bF (bZ (ao aB (ao aB (ao aB av))))) (ah cQ (ah eJ aj aB) aB)) av))) (ao aB av))))) bT)
   (bp (bF (bZ (ao (aR (ah bB aj (bF (bZ (ao (bW (ao (ah eJ aj aB) av)) av)))) (ah cQ aj aB)) (ao aB av)))))))) bT)
   (aI (bM (mE (bQ (ah cw aj aB)) (bQ (ah cw (ah cQ aj aB) aB))) (bp (bF (bZ (ao (bW (ao (ah eJ aj aB) av)) (ao aB av))))) bT)
   (aI (bM (uA (bQ (ah cw aj aB)) (mE (bQ (ah cw aj aB)) (bQ (ah cw aj aB)))) (bp (bF (bZ (ao (bW (ao (ah eJ aj aB) av)) (ao aB av))))) bT)
   (aI (bM (bQ (ah cw aj aB)) (bp (bF (bZ (ao (bW (ao aj (ao aj av))) (ao aB av))))) bT)
   (aI (bM (mE (bQ (ah cw aj aB)) (bQ (ah cw aj aB))) (bp (bF (bZ (ao (aR (bF (bZ (ao ay (ao ay (ao ay (ao ay av)))))) (ah cQ aj aB)) (ao aB av))))) bT)
   (aI (bM (bQ (ah cw aj aB)) (bp (bF (bZ (ao (ah bB (aR (bF (bZ (ao ay (ao ay av)))) (ah cQ aj aB)) (ig qB ay (ao (ah uC (bF (bZ (ao (aP fe (ao (ah cQ (ah eJ aj aB) aj) av)) av))) aB) av))) (ao aB av))))) bT)
   (aI (bM (bQ (ah cw aj aB)) (bp (bF (bZ (ao (ah bB ay (aP fe (ao (aR (bF (bZ (ao aB (ao aB (ao (ah bB aB (ah cQ (ah eJ aj aB) (ah Gi aB aB))) (ao aB av)))))) (ah cQ aj aB)) av))) (ao aB av))))) bT)
   (aI (bM (bQ (ah cw aj aB)) (bp (bF (bZ (ao (bW (ao aj (ao aj av))) (ao aB av))))) bT)
   (aI (bJ (aR (bF (bZ (ao ay (ao ay (ao ay (ao ay av)))))) (ah cQ aj aB)) a_)
   (aI (bM (bQ (ah cw aj ay)) (bp (bF (bZ (ao (ah bB aj (aP fe (ao (ah cQ (ah eJ aj aB) (ah Gi aB aB)) av))) (ao aB av))))) bT)
   (bp (bF (bZ (ao (ah bB aj (aP fe (ao (ah bB aj (ah cQ (ah eJ aj aB) (ah Gi aB aB))) av))) (ao aB av)))))))))))))))))
theorem xZ:FnOk P w K mg base (CXE P w) 1 T.f_Q2 T.fd_Q2 ["numbers"] (bG (ct T) dP):=by
 refine aN (b:=lB) T.H_Q2.F Bz λcdv A outer s H E hr=> ?_;have hu:=hr.units;refine⟨_,(aJ (bN (jK (fw (K:=K) rfl (pv 0) (λ_=>rfl))) (aK (bq az)) bU)
   (aK (bq (kW (K:=K) rfl (kS PySem.F.plainAttrs_str PySem.F.slot_str_join PySem.F.type_str_join (qA (K:=K) rfl) az (ak (iu (CompOk.mk (tgs:=["number"]) (cap:=[]) (idx:=[]) rfl rfl (by decide+kernel) (by decide+kernel) (qx _) rfl .nil) rfl (cR (K:=K) rfl (pv 0)) (gN (by decide)) (λ_ _ _ _=>(dj (i:=0) (show List.Nodup (α:=PySem.Str) ["number"] by decide+kernel) rfl (by trivial))) (λ_ _ _ _=>gM) (λ_ _ _ _=>(eg (e_) (by rfl) T.b_str fo (ak (pv 0) ax)))) ax)))))),?_⟩
 exact(aI (bM (kF (ft aj)) (bp ay) bT)
   (bp (ig qB ay (ao (bF (fR (cN aj) a_ gF (aP fe (ao aj av)))) av))))
theorem yi:FnOk P w K mg base (CXE P w) 1 T.f_Xl T.fd_Xl ["word"] (bG (ct T) iK):=by
 refine aN (b:=pK) T.H_Xl.F xU λcdv A outer s H E hr=> ?_;have hu:=hr.units;refine⟨_,(aJ (bN (jK (EN (wW) (wW) aC (cT (gR (P:=P) (w:=w) (K:=K) rfl rfl rfl) (by rfl) T.b_len hZ (ak (pv 0) ax)) (eW T.c_MOST_FIGURES))) (aK (bq fh)) bU)
   (aJ (bN (PW.pt (lJ (bV (cx hu) (b7 P w K hu (pv 0) aC) az (bP _)) (mr (bV (CQ) (cT (gR (P:=P) (w:=w) (K:=K) rfl rfl rfl) (by rfl) T.b_len hZ (ak (pv 0) ax)) aC (bP _))))) (aK (bq fh)) bU)
   (aK (bq (cT (KH (K:=K) rfl rfl) (by rfl) T.b_all Il (ak (iu (CompOk.mk (tgs:=["sign"]) (cap:=[]) (idx:=[]) rfl rfl (by decide+kernel) (by decide+kernel) (qx _) rfl .nil) rfl (cR (K:=K) rfl (pv 0)) (gN (by decide)) (λ_ _ _ _=>(dj (i:=0) (show List.Nodup (α:=PySem.Str) ["sign"] by decide+kernel) rfl (by trivial))) (λ_ _ _ _=>gM) (λ_ _ _ _=>(mF (Gb (P:=P) (w:=w) (K:=K) rfl rfl rfl hu) (pv 0) (eW T.c_FIGURES) (by with_unfolding_all rfl)))) ax)))))),?_⟩
 exact(aI (bM (kF (bQ (He Br Br aB (aP gZ (ao aj av)) aB))) (bp cI) bT)
   (aI (bM (mE (bQ (ah cw (aR aj aB) ay)) (bQ (ah Df (aP gZ (ao aj av)) aB))) (bp cI) bT)
   (bp (aP KA (ao (bF (fR (cN aj) a_ gF (ah vj aj ay))) av)))))
theorem Hh:FnOk P w K mg base (CXE P w) 2 T.f_Qp T.fd_Qp ["words"] (bG (ct T) fZ):=by
 refine aN (b:=lQ) T.H_Qp.F yv λcdv A outer s H E hr=> ?_;have hu:=hr.units;refine⟨_,(aJ (bN (jK (fw (K:=K) rfl (cT (KH (K:=K) rfl rfl) (by rfl) T.b_all Il (ak (iu (CompOk.mk (tgs:=["word"]) (cap:=[]) (idx:=[]) rfl rfl (by decide+kernel) (by decide+kernel) (qx _) rfl .nil) rfl (cR (K:=K) rfl (pv 0)) (gN (by decide)) (λ_ _ _ _=>(dj (i:=0) (show List.Nodup (α:=PySem.Str) ["word"] by decide+kernel) rfl (by trivial))) (λ_ _ _ _=>gM) (λ_ _ _ _=>(aO (bX T.H_Xl (yi T)) (hm hr) k_ (ak (pv 0) ax)))) ax)) (λ_=>rfl))) (aK (dU T.x_Yb az (hr.mono (qz _)))) bU)
   (aK (bq (iu (CompOk.mk (tgs:=["word"]) (cap:=[]) (idx:=[]) rfl rfl (by decide+kernel) (by decide+kernel) (qx _) rfl .nil) rfl (cR (K:=K) rfl (pv 0)) (gN (by decide)) (λ_ _ _ _=>(dj (i:=0) (show List.Nodup (α:=PySem.Str) ["word"] by decide+kernel) rfl (by trivial))) (λ_ _ _ _=>gM) (λ_ _ _ _=>(eg (JG) (by rfl) T.b_int Kp (ak (pv 0) ax))))))),?_⟩
 exact(aI (bM (kF (ft (aP KA (ao (bF (fR (cN aj) a_ gF (bW (ao aj av)))) av)))) (dX (gX T) ay) bT)
   (bp (bF (fR (cN aj) a_ gF (aP JO (ao aj av))))))
theorem vC:FnOk P w K mg base (CXE P w) 3 T.f_X7 T.fd_X7 ["words"] (bG (ct T) eS):=by
 refine aN (b:=iJ) T.H_X7.F wF λcdv A outer s H E hr=> ?_;have hu:=hr.units;refine⟨_,(aJ (bN (bV (iz hu) (cT (gR (P:=P) (w:=w) (K:=K) rfl rfl rfl) (by rfl) T.b_len hZ (ak (pv 0) ax)) aC (bP _)) (aK (dU T.x_Yb az (hr.mono (qz _)))) bU)
   (aK (bq (b7 P w K hu (aO (bX T.H_Qp (Hh T)) (hm hr) aW (ak (pv 0) ax)) aC)))),?_⟩
 exact(aI (bM (bQ (ah hX (aP gZ (ao aj av)) aB)) (dX (gX T) ay) bT)
   (bp (aR (bW (ao aj av)) aB)))
theorem Fh:FnOk P w K mg base (CXE P w) 3 T.f_X5 T.fd_X5 ["words","bars"] (bG (ct T) dI):=by
 refine aN (b:=fW) T.H_X5.F nX λcdv A outer s H E hr=> ?_;have hu:=hr.units;refine⟨_,(aJ (bK (i:=2) nX.nd rfl (by trivial) (aO (bX T.H_Qp (Hh T)) (hm hr) aW (ak (pv 0) ax)))
   (aJ (bN (PW.pt (u9 (jK (fw (K:=K) rfl (pv 2) (λ_=>rfl))) (u6 (fw (K:=K) rfl (cT (NL (K:=K) rfl rfl) (by rfl) T.b_any pL (ak (iu (CompOk.mk (tgs:=["one","other"]) (cap:=[]) (idx:=[]) rfl rfl (by decide+kernel) (by decide+kernel) (qx _) rfl .nil) rfl (O1 (K:=K) rfl (tX rfl T.b_zip (ak (pv 2) (ak (fz (cO (K:=K) rfl) (pv 2) (ee aC) fq) ax)))) (J8 (Dv (by decide) (Dv (by decide) K7))) (λ_ _ _ _=>(F6 (K:=K) rfl (FV (n:=2) rfl (uT (dj (i:=0) (show List.Nodup (α:=PySem.Str) ["one","other"] by decide+kernel) rfl (by trivial)) (uT (dj (i:=1) (show List.Nodup (α:=PySem.Str) ["one","other"] by decide+kernel) rfl (by trivial)) ED))))) (λ_ _ _ _=>gM) (λ_ _ _ _=>(mF (Ec) (pv 0) (pv 1) (bP _)))) ax)) (λ_=>rfl))))) (aK (dU T.x_Yb az (hr.mono (qz _)))) bU)
   (aJ (bN (bV (Ec) (b7 P w K hu (pv 2) (uJ EM aC)) (pv 1) (bP _)) (aK (dU T.x_Yf az (hr.mono (qz _)))) bU)
   (aK (bq (cT (E2 (K:=K) rfl rfl) (by rfl) T.b_sum Gh (ak (iu (CompOk.mk (tgs:=["number"]) (cap:=[]) (idx:=[]) rfl rfl (by decide+kernel) (by decide+kernel) (qx _) rfl .nil) rfl (cR (K:=K) rfl (pv 2)) (gN (by decide)) (λ_ _ _ _=>(dj (i:=0) (show List.Nodup (α:=PySem.Str) ["number"] by decide+kernel) rfl (by trivial))) (λ_ _ _ _=>gM) (λ_ _ _ _=>(aE jI aC (pv 0)))) ax))))))),?_⟩
 exact(aI (bJ (bW (ao aj av)) a_)
   (aI (bM (uA (kF (ft aj)) (ft (aP qI (ao (bF (fR (pE (ao aj (ao (cL aj (d8 aB) e8) av))) (Hj rfl (uX (uX Hg))) gF (ah Ed aj aj))) av)))) (dX (gX T) ay) bT)
   (aI (bM (bQ (ah Ed (aR aj (ja FZ aB)) aj)) (dX (vg T) ay) bT)
   (bp (aP FA (ao (bF (fR (cN aj) a_ gF (ah kQ aB aj))) av))))))
theorem ot:FnOk P w K mg base (CXE P w) 3 T.f_Y1 T.fd_Y1 ["row"] (bG (ct T) eO):=by
 refine aN (b:=sO) T.H_Y1.F Fs λcdv A outer s H E hr=> ?_;have hu:=hr.units;refine⟨_,(aJ (bK (i:=1) Fs.nd rfl (by trivial) (kW (K:=K) rfl (kS PySem.F.plainAttrs_str PySem.F.slot_str_split PySem.F.type_str_split JU (pv 0) (ak az ax))))
   (aJ (bK (i:=2) Fs.nd rfl (by trivial) (b7 P w K hu (pv 1) aC))
   (aJ (bN (PW.pt (u9 (bV (Gq (P:=P) (w:=w) (K:=K) rfl rfl rfl hu) (pv 2) (eW T.c_NUMBERS_BEHIND) (by with_unfolding_all rfl)) (u6 (bV (iz hu) (cT (gR (P:=P) (w:=w) (K:=K) rfl rfl rfl) (by rfl) T.b_len hZ (ak (pv 1) ax)) (aE (bA (K:=K) rfl) aC (b7 P w K hu (eW T.c_NUMBERS_BEHIND) (pv 2))) (bP _))))) (aK (dU T.x_Yb az (hr.mono (qz _)))) bU)
   (aK (bq (eg (Lr (K:=K) rfl) (by rfl) T.b_tuple Lo (ak (aE (bA (K:=K) rfl) (bY (ak (pv 2) ax)) (aO (bX T.H_Qp (Hh T)) (hm hr) aW (ak (fz (cO (K:=K) rfl) (pv 1) (ee aC) fq) ax))) ax))))))),?_⟩
 exact(aI (bJ (bF (KQ aj (ao ay av))) a_)
   (aI (bJ (aR aj aB) a_)
   (aI (bM (uA (bQ (ah vj aj (eG λ_ _=>by unfold v_;simp only[RV];exact⟨_,_,rfl,T.d_NUMBERS_BEHIND,rfl⟩))) (bQ (ah hX (aP gZ (ao aj av)) (ah bB aB (aR (eG λ_ _=>by unfold v_;simp only[RV];exact⟨_,_,rfl,T.d_NUMBERS_BEHIND,rfl⟩) aj))))) (dX (gX T) ay) bT)
   (bp (aP P4 (ao (ah bB (bF (bZ (ao aj av))) (bW (ao (cL aj (d8 aB) e8) av))) av))))))
theorem yq:FnOk P w K mg base (CXE P w) 4 T.f_Xo T.fd_Xo ["row"] (bG (ct T) gq):=by
 refine aN (b:=fK) T.H_Xo.F mZ λcdv A outer s H E hr=> ?_;have hu:=hr.units;refine⟨_,(aJ (bK (i:=1) mZ.nd rfl (by trivial) (aO (bX T.H_Y1 (ot T)) (hm hr) aW (ak (pv 0) ax)))
   (aJ (bN (bV (iz hu) (b7 P w K hu (pv 1) aC) az (bP _)) (aK (dU T.x_Yb az (hr.mono (qz _)))) bU)
   (aJ (bN (jK (EN (wW) (wW) aC (b7 P w K hu (pv 1) aC) (eW T.c_MOST_BARS))) (aK (dU T.x_Xh az (hr.mono (qz _)))) bU)
   (aK (bq (b7 P w K hu (pv 1) aC)))))),?_⟩
 exact(aI (bJ (bW (ao aj av)) a_)
   (aI (bM (bQ (ah hX (aR aj aB) ay)) (dX (gX T) ay) bT)
   (aI (bM (kF (bQ (He Br Br aB (aR aj aB) aB))) (dX (yn T) ay) bT)
   (bp (aR aj aB)))))
theorem yK:FnOk P w K mg base (CXE P w) 1 T.f_Qo T.fd_Qo ["yard","place"] (bG (ct T) sN):=by
 exact uY
theorem BX:FnOk P w K mg base (CXE P w) 4 T.f_Xi T.fd_Xi ["row","bars","switches_ahead"] (bG (ct T) dM):=by
 refine aN (b:=dZ) T.H_Xi.F oQ λcdv A outer s H E hr=> ?_;have hu:=hr.units;refine⟨_,(aJ (bK (i:=3) oQ.nd rfl (by trivial) (aO (bX T.H_Y1 (ot T)) (hm hr) aW (ak (pv 0) ax)))
   (aJ (bN (bV (cx hu) (b7 P w K hu (pv 3) aC) az (bP _)) (aK (dU T.x_Yb az (hr.mono (qz _)))) bU)
   (aJ (bN (bV (Ec) (pv 2) (eW T.c_MOST_SWITCHES) (bP _)) (aK (dU T.x_Yb az (hr.mono (qz _)))) bU)
   (aJ (bN (bV (Ec) (cT (L7 (K:=K) rfl rfl) (by rfl) T.b_max rA (ak (fz (cO (K:=K) rfl) (pv 3) (ee aC) fq) ax)) (pv 1) (bP _)) (aK (dU T.x_Yf az (hr.mono (qz _)))) bU)
   (aJ (bN (PW.pt (lJ (bV (cx hu) (cT (gR (P:=P) (w:=w) (K:=K) rfl rfl rfl) (by rfl) T.b_len hZ (ak (pv 3) ax)) aC (bP _)) (mr (bV (cx hu) (b7 P w K hu (pv 3) aC) (b7 P w K hu (pv 3) aC) (bP _))))) (aK (dU T.x_Yg az (hr.mono (qz _)))) bU)
   (aK (bq (pv 3)))))))),?_⟩
 exact(aI (bJ (bW (ao aj av)) a_)
   (aI (bM (bQ (ah cw (aR aj aB) ay)) (dX (gX T) ay) bT)
   (aI (bM (bQ (ah Ed aj aB)) (dX (gX T) ay) bT)
   (aI (bM (bQ (ah Ed (aP pH (ao (cL aj (d8 aB) e8) av)) aj)) (dX (vg T) ay) bT)
   (aI (bM (mE (bQ (ah cw (aP gZ (ao aj av)) aB)) (bQ (ah cw (aR aj aB) (aR aj aB)))) (dX (Ao T) ay) bT)
   (bp aj))))))
theorem zE:FnOk P w K mg base (CXE P w) 1 T.f_Q1 T.fd_Q1 ["self","one","other"] (bG (ct T) pR):=by
 refine aN (b:=pS) T.H_Q1.F yp λcdv A outer s H E hr=> ?_;have hu:=hr.units;refine⟨_,(aJ (fu (K:=K) rfl (fk (pv 0) (pv 1) rfl))
   (aK (fu (K:=K) rfl (fk (pv 0) (pv 2) rfl)))),?_⟩
 exact(aI (fc (DD T) aj aj)
   (fc (DN T) aj aj))
theorem yE:FnOk P w K mg base (CXE P w) 1 T.f_Qb T.fd_Qb ["self","bar"] (bG (ct T) pP):=by
 refine aN (b:=tV) T.H_Qb.F wV λcdv A outer s H E hr=> ?_;have hu:=hr.units;refine⟨_,(aK (fu (K:=K) rfl (fk (pv 0) (pv 1) rfl))),?_⟩;exact(fc (CF T) aj aj)
theorem Be:FnOk P w K mg base (CXE P w) 1 T.f_Qm T.fd_Qm ["self","bar"] (bG (ct T) rN):=by
 refine aN (b:=qG) T.H_Qm.F BP λcdv A outer s H E hr=> ?_;have hu:=hr.units;refine⟨_,(aK (fu (K:=K) rfl (fk (pv 0) (pv 1) rfl))),?_⟩;exact(fc (CF T) aj aj)
theorem B7:FnOk P w K mg base (CXE P w) 1 T.f_Q0 T.fd_Q0 ["self","one","other"] (bG (ct T) pT):=by
 refine aN (b:=pQ) T.H_Q0.F zI λcdv A outer s H E hr=> ?_;have hu:=hr.units;refine⟨_,(aJ (fu (K:=K) rfl (fk (pv 0) (pv 1) rfl))
   (aK (fu (K:=K) rfl (fk (pv 0) (pv 2) rfl)))),?_⟩
 exact(aI (fc (DD T) aj aj)
   (fc (DN T) aj aj))
theorem ym:FnOk P w K mg base (CXE P w) 3 T.f_Xg T.fd_Xg ["switch"] (bG (ct T) iP):=by
 refine aN (b:=sG) T.H_Xg.F nF λcdv A outer s H E hr=> ?_;have hu:=hr.units;refine⟨_,(aJ (bK (i:=1) nF.nd rfl (by trivial) (b7 P w K hu (pv 0) aC))
   (aJ (bN (bV (cx hu) (pv 1) az (bP _)) (aK (bq (pB (oX T.C_Yj T.mt_Qm T.H_Qm (Be T)) (hm hr) aW (ak (b7 P w K hu (pv 0) aC) ax)))) bU)
   (aJ (bN (bV (cx hu) (pv 1) az (bP _)) (aK (bq (pB (oX T.C_Yc T.mt_Qb T.H_Qb (yE T)) (hm hr) aW (ak (b7 P w K hu (pv 0) aC) ax)))) bU)
   (aJ (bN (bV (cx hu) (pv 1) az (bP _)) (aK (bq (pB (oX T.C_Xv T.mt_Q1 T.H_Q1 (zE T)) (hm hr) aW (ak (b7 P w K hu (pv 0) aC) (ak (b7 P w K hu (pv 0) aC) ax))))) bU)
   (aK (bq (pB (oX T.C_Xp T.mt_Q0 T.H_Q0 (B7 T)) (hm hr) aW (ak (b7 P w K hu (pv 0) aC) (ak (b7 P w K hu (pv 0) aC) ax))))))))),?_⟩
 exact(aI (bJ (aR aj aB) a_)
   (aI (bM (bQ (ah cw aj ay)) (bp (uy (vh T) (ao (aR aj aB) av))) bT)
   (aI (bM (bQ (ah cw aj ay)) (bp (uy (vq T) (ao (aR aj aB) av))) bT)
   (aI (bM (bQ (ah cw aj ay)) (bp (uy (p6 T) (ao (aR aj aB) (ao (aR aj aB) av)))) bT)
   (bp (uy (sU T) (ao (aR aj aB) (ao (aR aj aB) av))))))))
theorem ow:FnOk P w K mg base (CXE P w) 4 T.f_Qw T.fd_Qw ["self","yard"] (bG (ct T) iU):=by
 refine aN (b:=p5) T.H_Qw.F yc λcdv A outer s H E hr=> ?_;have hu:=hr.units;refine⟨_,(aK (fu (K:=K) rfl (fk (pv 0) (iu (CompOk.mk (tgs:=["switch"]) (cap:=[]) (idx:=[]) rfl rfl (by decide+kernel) (by decide+kernel) (qx _) rfl .nil) rfl (cR (K:=K) rfl (b7 P w K hu (pv 1) aC)) (gN (by decide)) (λ_ _ _ _=>(dj (i:=0) (show List.Nodup (α:=PySem.Str) ["switch"] by decide+kernel) rfl (by trivial))) (λ_ _ _ _=>gM) (λ_ _ _ _=>(aO (bX T.H_Xg (ym T)) (hm hr) k_ (ak (pv 0) ax)))) rfl))),?_⟩;exact(fc (C9 T) aj (bF (fR (cN (aR aj aB)) a_ gF (bW (ao aj av)))))
theorem yk:FnOk P w K mg base (CXE P w) 6 T.f_Qc T.fd_Qc ["self","yard"] (bG (ct T) jF):=by
 refine aN (b:=jN) T.H_Qc.F Cf λcdv A outer s H E hr=> ?_;have hu:=hr.units;refine⟨_,(aJ (fu (K:=K) rfl (fk (pv 0) (u3 (ak (b7 P w K hu (pv 1) aC) (ak (eg (Pa (K:=K) rfl) (by rfl) T.b_list Lf (ak (b7 P w K hu (pv 1) aC) ax)) ax))) rfl))
   (aJ (fu (K:=K) rfl (fk (pv 0) (pB (oX T.C_Net T.mt_Qw T.H_Qw (ow T)) (hm hr) aW (ak (cg (K:=K) rfl (cf (pv 0) rfl)) ax)) rfl))
   (aJ (fu (K:=K) rfl (fk (pv 0) aC rfl))
   (aJ (fu (K:=K) rfl (fk (pv 0) aC rfl))
   (aJ (fu (K:=K) rfl (fk (pv 0) Pk rfl))
   (aK (fu (K:=K) rfl (fk (pv 0) aC rfl)))))))),?_⟩
 exact(aI (fc (fI T) aj (vf (ao (aR aj aB) (ao (bF (q_ (ao (aR aj aB) av))) av))))
   (aI (fc (HL T) aj (uy (mB T) (ao (cj (fI T) aj) av)))
   (aI (fc (vm T) aj aB)
   (aI (fc (jx T) aj aB)
   (aI (fc (Dc T) aj pU)
   (fc (Pr T) aj aB))))))
theorem Al:FnOk P w K mg base (CXE P w) 8 T.f_Xa T.fd_Xa ["self","yard"] (bG (ct T) fN):=by
 refine aN (b:=kP) T.H_Xa.F w_ λcdv A outer s H E hr=> ?_;have hu:=hr.units;refine⟨_,(aJ (fu (K:=K) rfl (fk (pv 0) (pv 1) rfl))
   (aJ (fu (K:=K) rfl (fk (pv 0) (pB (oX T.C_Ya T.mt_Qc T.H_Qc (yk T)) (hm hr) aW (ak (pv 1) ax)) rfl))
   (aK (bq az)))),?_⟩
 exact(aI (fc (fI T) aj aj)
   (aI (fc (iF T) aj (Kg (iy T) (ao aj av)))
   (bp ay)))
theorem IG:dn (ct T) mg base 8 "begin" sV:=by
 exact(cK (mf T) T.C_Yl.cl T.mt_Xa (Al T) (by decide) T.H_Xa.B d6)
theorem vU:FnOk P w K mg base (CXE P w) 9 T.f_Q7 T.fd_Q7 ["self","row"] (bG (ct T) ib):=by
 refine aN (b:=f_) T.H_Q7.F EG λcdv A outer s H E hr=> ?_;have hu:=hr.units;refine⟨_,(aJ (bK (i:=2) EG.nd rfl (by trivial) (b7 P w K hu (cg (K:=K) rfl (cf (pv 0) rfl)) aC))
   (aJ (bK (i:=3) EG.nd rfl (by trivial) (b7 P w K hu (cg (K:=K) rfl (cf (pv 0) rfl)) aC))
   (aK (bq (cE P w K mg base 8 (dD (pv 0) (hm hr) aW (ak (u3 (ak (pv 2) (ak (aE (bA (K:=K) rfl) (pv 3) (bY (ak (aO (bX T.H_Xi (BX T)) (hm hr) aW (ak (pv 1) (ak (pv 2) (ak (cT (gR (P:=P) (w:=w) (K:=K) rfl rfl rfl) (by rfl) T.b_len hZ (ak (pv 3) ax)) ax)))) ax))) ax))) ax))))))),?_⟩
 exact(aI (bJ (aR (cj (fI T) aj) aB) a_)
   (aI (bJ (aR (cj (fI T) aj) aB) a_)
   (bp (cy (IG T) aj (ao (vf (ao aj (ao (ah bB aj (bF (bZ (ao (bW (ao aj (ao aj (ao (aP gZ (ao aj av)) av)))) av)))) av))) av)))))
theorem mP:FnOk P w K mg base (CXE P w) 1 T.f_has T.fd_has ["some","number"] (bG (ct T) gT):=by
 refine aN (b:=Fj) T.H_has.F sF λcdv A outer s H E hr=> ?_;have hu:=hr.units;refine⟨_,(aK (bq (mF (cx hu) (aE nP (aE rG (pv 0) (pv 1)) aC) aC (bP _)))),?_⟩;exact(bp (ah cw (ah nW (ah uk aj aj) aB) aB))
theorem wQ:FnOk P w K mg base (CXE P w) 1 T.f_Xb T.fd_Xb ["self"] (bG (ct T) kK):=by
 refine aN (b:=pI) T.H_Xb.F Ek λcdv A outer s H E hr=> ?_;have hu:=hr.units;refine⟨_,(aJ (bK (i:=1) Ek.nd rfl (by trivial) aC)
   (aJ (LO eU rfl (cg (K:=K) rfl (cf (pv 0) rfl)) (dj (i:=2) Ek.nd rfl (by trivial)) (aK (bK (i:=1) Ek.nd rfl (by trivial) (aE og (pv 1) (b7 P w K hu (pv 2) aC)))))
   (aK (bq (pv 1))))),?_⟩
 exact(aI (bJ aB a_)
   (aI (O_ (cj (Dc T) aj) a_ (bJ (ah nI aj (aR aj aB)) a_))
   (bp aj)))
theorem C3:dn (ct T) mg base 1 "held" uO:=by
 exact(cK (iy T) T.C_Ya.cl T.mt_Xb (wQ T) (by decide) T.H_Xb.B d6)
theorem zW:FnOk P w K mg base (CXE P w) 2 T.f_Q6 T.fd_Q6 ["self","number"] (bG (ct T) jZ):=by
 refine aN (b:=ua) T.H_Q6.F xG λcdv A outer s H E hr=> ?_;have hu:=hr.units;refine⟨_,(aJ (bN (bV (Gq (P:=P) (w:=w) (K:=K) rfl rfl rfl hu) (pv 1) (cg (K:=K) rfl (cf (pv 0) rfl)) (by with_unfolding_all rfl)) (aK (dU T.x_Xt az (hr.mono (qz _)))) bU)
   (aJ (ly (Ls (cg (K:=K) rfl (cf (pv 0) rfl)) (pv 1) ⟨rfl,rfl,rfl,rfl⟩))
   (aK (bq (cE P w K mg base 1 (gB (pv 0) (hm hr) aW)))))),?_⟩
 exact(aI (bM (bQ (ah vj aj (cj (Dc T) aj))) (dX (v5 T) ay) bT)
   (aI (lC (MQ (cj (Dc T) aj) aj))
   (bp (cy (C3 T) aj av))))
theorem DA:FnOk P w K mg base (CXE P w) 1 T.f_Qv T.fd_Qv ["yard","number"] (bG (ct T) eK):=by
 refine aN (b:=j5) T.H_Qv.F vv λcdv A outer s H E hr=> ?_;have hu:=hr.units;refine⟨_,(aK (bN (jK (EN (wW) (nr) aC (pv 1) (cT (gR (P:=P) (w:=w) (K:=K) rfl rfl rfl) (by rfl) T.b_len hZ (ak (b7 P w K hu (pv 0) aC) ax)))) (aK (dU T.x_Xq az (hr.mono (qz _)))) bU)),?_⟩;exact(bM (kF (bQ (He Br m6 aB aj (aP gZ (ao (aR aj aB) av))))) (dX (vS T) ay) bT)
theorem DJ:FnOk P w K mg base (CXE P w) 1 T.f_Qu T.fd_Qu ["self"] (bG (ct T) gA):=by
 refine aN (b:=jU) T.H_Qu.F yj λcdv A outer s H E hr=> ?_;have hu:=hr.units;refine⟨_,(aK (bq aC)),?_⟩;exact(bp aB)
theorem yr:FnOk P w K mg base (CXE P w) 1 T.f_X3 T.fd_X3 ["self"] (bG (ct T) p8):=by
 refine aN (b:=pN) T.H_X3.F B6 λcdv A outer s H E hr=> ?_;have hu:=hr.units;refine⟨_,(aK (bq (aE jI aC (cg (K:=K) rfl (cf (pv 0) rfl))))),?_⟩;exact(bp (ah kQ aB (cj (CF T) aj)))
theorem DG:FnOk P w K mg base (CXE P w) 1 T.f_Qg T.fd_Qg ["self"] (bG (ct T) gr):=by
 refine aN (b:=j7) T.H_Qg.F AD λcdv A outer s H E hr=> ?_;have hu:=hr.units;refine⟨_,(aK (bq fh)),?_⟩;exact(bp cI)
theorem wU:FnOk P w K mg base (CXE P w) 1 T.f_Q8 T.fd_Q8 ["self"] (bG (ct T) p7):=by
 refine aN (b:=sy) T.H_Q8.F AQ λcdv A outer s H E hr=> ?_;have hu:=hr.units;refine⟨_,(aK (bq fh)),?_⟩;exact(bp cI)
theorem Iq:dn (ct T) mg base 1 "feeds" kY:=by
 exact(cK (D5 T) T.C_Y6.cl T.mt_Qu (DJ T) (by decide) T.H_Qu.B (cK (vh T) T.C_Yj.cl T.mt_X3 (yr T) (by decide) T.H_X3.B (cK (vq T) T.C_Yc.cl T.mt_Earth_feeds (DJ T) (by decide) T.H_Qu.B (cK (p6 T) T.C_Xv.cl T.mt_Breaker_feeds (DJ T) (by decide) T.H_Qu.B (cK (sU T) T.C_Xp.cl T.mt_Splitter_feeds (DJ T) (by decide) T.H_Qu.B d6)))))
theorem JM:dn (ct T) mg base 1 "gentle" kR:=by
 exact(cK (D5 T) T.C_Y6.cl T.mt_Qg (DG T) (by decide) T.H_Qg.B (cK (vh T) T.C_Yj.cl T.mt_Feed_gentle (DG T) (by decide) T.H_Qg.B (cK (vq T) T.C_Yc.cl T.mt_Earth_gentle (DG T) (by decide) T.H_Qg.B (cK (p6 T) T.C_Xv.cl T.mt_Breaker_gentle (DG T) (by decide) T.H_Qg.B (cK (sU T) T.C_Xp.cl T.mt_Q8 (wU T) (by decide) T.H_Q8.B d6)))))
theorem AR:FnOk P w K mg base (CXE P w) 2 T.f_Xr T.fd_Xr ["switch"] (bG (ct T) iI):=by
 refine aN (b:=mQ) T.H_Xr.F Aa λcdv A outer s H E hr=> ?_;have hu:=hr.units;refine⟨_,(aK (bq (yD (mF (iz hu) (cE P w K mg base 1 (gB (pv 0) (hm hr) aW)) aC (bP _)) (Kj (cE P w K mg base 1 (gB (pv 0) (hm hr) aW)))))),?_⟩;exact(bp (A8 (ah hX (cy (Iq T) aj av) aB) (cy (JM T) aj av)))
theorem BN:FnOk P w K mg base (CXE P w) 3 T.f_X8 T.fd_X8 ["self","number"] (bG (ct T) eQ):=by
 refine aN (b:=ip) T.H_X8.F BF λcdv A outer s H E hr=> ?_;have hu:=hr.units;refine⟨_,(aJ (ly (aO (bX T.H_Qv (DA T)) (hm hr) aW (ak (cg (K:=K) rfl (cf (pv 0) rfl)) (ak (pv 1) ax))))
   (aJ (bN (jK (fw (K:=K) rfl (aO (bX T.H_Xr (AR T)) (hm hr) aW (ak (b7 P w K hu (cg (K:=K) rfl (cf (cg (K:=K) rfl (cf (pv 0) rfl)) rfl)) (pv 1)) ax)) (λ_=>rfl))) (aK (dU T.x_Y8 az (hr.mono (qz _)))) bU)
   (aJ (bN (fw (K:=K) rfl (aO (bX T.H_has (mP T)) (hm hr) aW (ak (cg (K:=K) rfl (cf (pv 0) rfl)) (ak (pv 1) ax))) (λ_=>rfl)) (aK (dU T.x_Xw az (hr.mono (qz _)))) bU)
   (aJ (bN (fw (K:=K) rfl (aO (bX T.H_has (mP T)) (hm hr) aW (ak (cg (K:=K) rfl (cf (pv 0) rfl)) (ak (pv 1) ax))) (λ_=>rfl)) (aK (dU T.x_Y7 az (hr.mono (qz _)))) bU)
   (aJ (fu (K:=K) rfl (fk (pv 0) (aE og (cg (K:=K) rfl (cf (pv 0) rfl)) (aE jI aC (pv 1))) rfl))
   (aK (bq (cg (K:=K) rfl (cf (pv 0) rfl))))))))),?_⟩
 exact(aI (lC (bW (ao (cj (fI T) aj) (ao aj av))))
   (aI (bM (kF (ft (bW (ao (aR (cj (C9 T) (cj (HL T) aj)) aj) av)))) (dX (A6 T) ay) bT)
   (aI (bM (ft (bW (ao (cj (vm T) aj) (ao aj av)))) (dX (xF T) ay) bT)
   (aI (bM (ft (bW (ao (cj (jx T) aj) (ao aj av)))) (dX (ve T) ay) bT)
   (aI (fc (jx T) aj (ah nI (cj (jx T) aj) (ah kQ aB aj)))
   (bp (cj (jx T) aj)))))))
theorem Ae:FnOk P w K mg base (CXE P w) 1 T.f_Y9 T.fd_Y9 ["some"] (bG (ct T) iw):=by
 refine aN (b:=pz) T.H_Y9.F xw λcdv A outer s H E hr=> ?_;have hu:=hr.units;refine⟨_,(aK (bq (aE nP (pv 0) (uJ EM (pv 0))))),?_⟩;exact(bp (ah nW aj (ja FZ aj)))
theorem FU:FnOk P w K mg base (CXE P w) 1 T.f_Qy T.fd_Qy ["self"] (bG (ct T) iM):=by
 refine aN (b:=lM) T.H_Qy.F Bw λcdv A outer s H E hr=> ?_;have hu:=hr.units;refine⟨_,(aK (bq aC)),?_⟩;exact(bp aB)
theorem xm:FnOk P w K mg base (CXE P w) 1 T.f_Ql T.fd_Ql ["self"] (bG (ct T) ud):=by
 refine aN (b:=rh) T.H_Ql.F Bm λcdv A outer s H E hr=> ?_;have hu:=hr.units;refine⟨_,(aK (bq (aE og (aE jI aC (cg (K:=K) rfl (cf (pv 0) rfl))) (aE jI aC (cg (K:=K) rfl (cf (pv 0) rfl)))))),?_⟩;exact(bp (ah nI (ah kQ aB (cj (DD T) aj)) (ah kQ aB (cj (DN T) aj))))
theorem B8:FnOk P w K mg base (CXE P w) 1 T.f_Qd T.fd_Qd ["self"] (bG (ct T) rM):=by
 refine aN (b:=tw) T.H_Qd.F zO λcdv A outer s H E hr=> ?_;have hu:=hr.units;refine⟨_,(aK (bq (aE og (aE jI aC (cg (K:=K) rfl (cf (pv 0) rfl))) (aE jI aC (cg (K:=K) rfl (cf (pv 0) rfl)))))),?_⟩;exact(bp (ah nI (ah kQ aB (cj (DD T) aj)) (ah kQ aB (cj (DN T) aj))))
theorem zS:FnOk P w K mg base (CXE P w) 2 T.f_Qk T.fd_Qk ["self","standing"] (bG (ct T) lH):=by
 refine aN (b:=p9) T.H_Qk.F wX λcdv A outer s H E hr=> ?_;have hu:=hr.units;refine⟨_,(aK (bq (iu (CompOk.mk (tgs:=["number","switch"]) (cap:=["standing"]) (idx:=[1]) rfl rfl (by decide+kernel) (by decide+kernel) (zg.mpr ⟨rfl,(qx _)⟩) rfl (.cons rfl (by trivial) (by trivial) rfl rfl .nil)) rfl (MX (K:=K) rfl (NI rfl T.b_enumerate (ak (cg (K:=K) rfl (cf (pv 0) rfl)) ax))) (J8 (Dv (by decide) (Dv (by decide) K7))) (λ_ _ _ _=>(F6 (K:=K) rfl (FV (n:=2) rfl (uT (dj (i:=0) (show List.Nodup (α:=PySem.Str) ["number","switch","standing"] by decide+kernel) rfl (by trivial)) (uT (dj (i:=1) (show List.Nodup (α:=PySem.Str) ["number","switch","standing"] by decide+kernel) rfl (by trivial)) ED))))) (λ_ _ _ _=>(Ka (fw (K:=K) rfl (aO (bX T.H_has (mP T)) (hm hr) k_ (ak (pv 2) (ak (pv 0) ax))) (λ_=>rfl)))) (λ_ _ _ _=>(pv 1))))),?_⟩;exact(bp (bF (fR (Oc (ao (cj (C9 T) aj) av)) (Hj rfl (uX (uX Hg))) (ft (bW (ao aj (ao aj av)))) aj)))
theorem JK:dn (ct T) mg base 1 "joins" iW:=by
 exact(cK (D5 T) T.C_Y6.cl T.mt_Qy (FU T) (by decide) T.H_Qy.B (cK (vh T) T.C_Yj.cl T.mt_Feed_joins (FU T) (by decide) T.H_Qy.B (cK (vq T) T.C_Yc.cl T.mt_Earth_joins (FU T) (by decide) T.H_Qy.B (cK (p6 T) T.C_Xv.cl T.mt_Ql (xm T) (by decide) T.H_Ql.B (cK (sU T) T.C_Xp.cl T.mt_Qd (B8 T) (by decide) T.H_Qd.B d6)))))
theorem GP:dn (ct T) mg base 2 "shut_ones" mD:=by
 exact(cK (mB T) T.C_Net.cl T.mt_Qk (zS T) (by decide) T.H_Qk.B d6)
theorem Bc:FnOk P w K mg base (CXE P w) 3 T.f_Q4 T.fd_Q4 ["self","standing","some"] (bG (ct T) lD):=by
 refine aN (b:=pY) T.H_Q4.F tu λcdv A outer s H E hr=> ?_;have hu:=hr.units;refine⟨_,(aJ (Ey (i:=3) tu.nd rfl (by trivial) (CompOk.mk (tgs:=["switch"]) (cap:=[]) (idx:=[]) rfl rfl (by decide+kernel) (by decide+kernel) (qx _) rfl .nil) rfl (cR (K:=K) rfl (cE P w K mg base 2 (dD (pv 0) (hm hr) aW (ak (pv 1) ax)))) (gN (by decide)) (λ_ _ _ _=>(dj (i:=0) (show List.Nodup (α:=PySem.Str) ["switch"] by decide+kernel) rfl (by trivial))) (λ_ _ _ _=>gM) (λ_ _ _ _=>(cE P w K mg base 1 (gB (pv 0) (hm hr) k_))))
   (aJ (bK (i:=4) tu.nd rfl (by trivial) (pv 2))
   (aJ (bK (i:=5) tu.nd rfl (by trivial) CZ)
   (aJ (OS eU (bV (iz hu) (pv 4) (pv 5) (bP _)) (aJ (bK (i:=5) tu.nd rfl (by trivial) (pv 4))
   (aK (mn eU rfl (cR (K:=K) rfl (pv 3)) (dj (i:=6) tu.nd rfl (by trivial)) (aK (bN (fw (K:=K) rfl (aE nP (pv 6) (pv 4)) (λ_=>rfl)) (aK (bK (i:=4) tu.nd rfl (by trivial) (aE og (pv 4) (pv 6)))) bU))))))
   (aK (bq (pv 4))))))),?_⟩
 exact(aI (Fy (bF (fR (cN (cy (GP T) aj (ao aj av))) a_ gF (cy (JK T) aj av))))
   (aI (bJ aj a_)
   (aI (bJ El a_)
   (aI (P1 (bQ (ah hX aj aj)) (aI (bJ aj a_)
   (nG (cN aj) a_ (bM (ft (ah nW aj aj)) (bJ (ah nI aj aj) a_) bT))))
   (bp aj)))))
theorem EY:dn (ct T) mg base 3 "joined_bars" qU:=by
 exact(cK (mB T) T.C_Net.cl T.mt_Q4 (Bc T) (by decide) T.H_Q4.B d6)
theorem Ai:FnOk P w K mg base (CXE P w) 4 T.f_Qf T.fd_Qf ["self","standing"] (bG (ct T) mz):=by
 refine aN (b:=uv) T.H_Qf.F Dg λcdv A outer s H E hr=> ?_;have hu:=hr.units;refine⟨_,(aJ (bK (i:=2) Dg.nd rfl (by trivial) aC)
   (aJ (mn eU rfl (cR (K:=K) rfl (cE P w K mg base 2 (dD (pv 0) (hm hr) aW (ak (pv 1) ax)))) (dj (i:=3) Dg.nd rfl (by trivial)) (aK (bK (i:=2) Dg.nd rfl (by trivial) (aE og (pv 2) (cE P w K mg base 1 (gB (pv 3) (hm hr) aW))))))
   (aK (bq (cE P w K mg base 3 (dD (pv 0) (hm hr) aW (ak (pv 1) (ak (pv 2) ax)))))))),?_⟩
 exact(aI (bJ aB a_)
   (aI (nG (cN (cy (GP T) aj (ao aj av))) a_ (bJ (ah nI aj (cy (Iq T) aj av)) a_))
   (bp (cy (EY T) aj (ao aj (ao aj av))))))
theorem Kl:dn (ct T) mg base 4 "live_bars" u_:=by
 exact(cK (mB T) T.C_Net.cl T.mt_Qf (Ai T) (by decide) T.H_Qf.B d6)
theorem AY:FnOk P w K mg base (CXE P w) 5 T.f_Ye T.fd_Ye ["net","standing","number"] (bG (ct T) kI):=by
 refine aN (b:=sH) T.H_Ye.F DT λcdv A outer s H E hr=> ?_;have hu:=hr.units;refine⟨_,(aJ (bK (i:=3) DT.nd rfl (by trivial) (b7 P w K hu (cg (K:=K) rfl (cf (pv 0) rfl)) (pv 2)))
   (aJ (bN (jK (fw (K:=K) rfl (cE P w K mg base 1 (gB (pv 3) (hm hr) aW)) (λ_=>rfl))) (aK (bq fh)) bU)
   (aJ (bK (i:=4) DT.nd rfl (by trivial) (aE nP (pv 1) (uJ GW (aE jI aC (pv 2)))))
   (aJ (bK (i:=5) DT.nd rfl (by trivial) (cE P w K mg base 1 (gB (pv 3) (hm hr) aW)))
   (aJ (bN (jK (fw (K:=K) rfl (aE nP (pv 5) (cE P w K mg base 4 (dD (pv 0) (hm hr) aW (ak (pv 4) ax)))) (λ_=>rfl))) (aK (bq fh)) bU)
   (aK (bq (mF (iz hu) (aE nP (pv 5) (uJ GW (cE P w K mg base 3 (dD (pv 0) (hm hr) aW (ak (pv 4) (ak (aO (bX T.H_Y9 (Ae T)) (hm hr) aW (ak (pv 5) ax)) ax)))))) aC (bP _))))))))),?_⟩
 exact(aI (bJ (aR (cj (C9 T) aj) aj) a_)
   (aI (bM (kF (ft (cy (JM T) aj av))) (bp cI) bT)
   (aI (bJ (ah nW aj (ja FC (ah kQ aB aj))) a_)
   (aI (bJ (cy (JK T) aj av) a_)
   (aI (bM (kF (ft (ah nW aj (cy (Kl T) aj (ao aj av))))) (bp cI) bT)
   (bp (ah hX (ah nW aj (ja FC (cy (EY T) aj (ao aj (ao (bW (ao aj av)) av))))) aB)))))))
theorem oU:FnOk P w K mg base (CXE P w) 1 T.f_X4 T.fd_X4 ["standing","number"] (bG (ct T) kD):=by
 refine aN (b:=rB) T.H_X4.F xV λcdv A outer s H E hr=> ?_;have hu:=hr.units;refine⟨_,(aK (bq (aE rH (pv 0) (aE jI aC (pv 1))))),?_⟩;exact(bp (ah tU aj (ah kQ aB aj)))
theorem Ef:FnOk P w K mg base (CXE P w) 1 T.f_Qh T.fd_Qh ["self"] (bG (ct T) fY):=by
 refine aN (b:=jY) T.H_Qh.F yP λcdv A outer s H E hr=> ?_;have hu:=hr.units;refine⟨_,(aK (bq aC)),?_⟩;exact(bp aB)
theorem zD:FnOk P w K mg base (CXE P w) 1 T.f_Qt T.fd_Qt ["self"] (bG (ct T) pG):=by
 refine aN (b:=rT) T.H_Qt.F Cm λcdv A outer s H E hr=> ?_;have hu:=hr.units;refine⟨_,(aK (bq (aE jI aC (cg (K:=K) rfl (cf (pv 0) rfl))))),?_⟩;exact(bp (ah kQ aB (cj (CF T) aj)))
theorem OH:dn (ct T) mg base 1 "earths" n_:=by
 exact(cK (D5 T) T.C_Y6.cl T.mt_Qh (Ef T) (by decide) T.H_Qh.B (cK (vh T) T.C_Yj.cl T.mt_Feed_earths (Ef T) (by decide) T.H_Qh.B (cK (vq T) T.C_Yc.cl T.mt_Qt (zD T) (by decide) T.H_Qt.B (cK (p6 T) T.C_Xv.cl T.mt_Breaker_earths (Ef T) (by decide) T.H_Qh.B (cK (sU T) T.C_Xp.cl T.mt_Splitter_earths (Ef T) (by decide) T.H_Qh.B d6)))))
theorem A7:FnOk P w K mg base (CXE P w) 3 T.f_Qs T.fd_Qs ["self","standing"] (bG (ct T) lP):=by
 refine aN (b:=tm) T.H_Qs.F Du λcdv A outer s H E hr=> ?_;have hu:=hr.units;refine⟨_,(aJ (bK (i:=2) Du.nd rfl (by trivial) aC)
   (aJ (mn eU rfl (cR (K:=K) rfl (cE P w K mg base 2 (dD (pv 0) (hm hr) aW (ak (pv 1) ax)))) (dj (i:=3) Du.nd rfl (by trivial)) (aK (bK (i:=2) Du.nd rfl (by trivial) (aE og (pv 2) (cE P w K mg base 1 (gB (pv 3) (hm hr) aW))))))
   (aK (bq (pv 2))))),?_⟩
 exact(aI (bJ aB a_)
   (aI (nG (cN (cy (GP T) aj (ao aj av))) a_ (bJ (ah nI aj (cy (OH T) aj av)) a_))
   (bp aj)))
theorem Lw:dn (ct T) mg base 3 "led_bars" Aj:=by
 exact(cK (mB T) T.C_Net.cl T.mt_Qs (A7 T) (by decide) T.H_Qs.B d6)
theorem zV:FnOk P w K mg base (CXE P w) 4 T.f_Q3 T.fd_Q3 ["self","standing"] (bG (ct T) lR):=by
 refine aN (b:=ui) T.H_Q3.F Cd λcdv A outer s H E hr=> ?_;have hu:=hr.units;refine⟨_,(aK (bq (cE P w K mg base 3 (dD (pv 0) (hm hr) aW (ak (pv 1) (ak (cE P w K mg base 3 (dD (pv 0) (hm hr) aW (ak (pv 1) ax))) ax)))))),?_⟩;exact(bp (cy (EY T) aj (ao aj (ao (cy (Lw T) aj (ao aj av)) av))))
theorem Qb:dn (ct T) mg base 4 "earthed_bars" C8:=by
 exact(cK (mB T) T.C_Net.cl T.mt_Q3 (zV T) (by decide) T.H_Q3.B d6)
theorem xp:FnOk P w K mg base (CXE P w) 5 T.f_X2 T.fd_X2 ["self","standing"] (bG (ct T) mR):=by
 refine aN (b:=qQ) T.H_X2.F Af λcdv A outer s H E hr=> ?_;have hu:=hr.units;refine⟨_,(aK (bq (mF (cx hu) (aE nP (cE P w K mg base 4 (dD (pv 0) (hm hr) aW (ak (pv 1) ax))) (cE P w K mg base 4 (dD (pv 0) (hm hr) aW (ak (pv 1) ax)))) aC (bP _)))),?_⟩;exact(bp (ah cw (ah nW (cy (Kl T) aj (ao aj av)) (cy (Qb T) aj (ao aj av))) aB))
theorem Nn:dn (ct T) mg base 5 "is_safe" G6:=by
 exact(cK (mB T) T.C_Net.cl T.mt_X2 (xp T) (by decide) T.H_X2.B d6)
theorem BJ:FnOk P w K mg base (CXE P w) 6 T.f_Y4 T.fd_Y4 ["net","standing","number"] (bG (ct T) lY):=by
 refine aN (b:=sv) T.H_Y4.F yo λcdv A outer s H E hr=> ?_;have hu:=hr.units;refine⟨_,(aK (bq (Ij (K:=K) rfl (cE P w K mg base 5 (dD (pv 0) (hm hr) aW (ak (aO (bX T.H_X4 (oU T)) (hm hr) aW (ak (pv 1) (ak (pv 2) ax))) ax)))))),?_⟩;exact(bp (JV (cy (Nn T) aj (ao (bW (ao aj (ao aj av))) av))))
theorem Bk:FnOk P w K mg base (CXE P w) 7 T.f_Y5 T.fd_Y5 ["yard","standing","number"] (bG (ct T) iX):=by
 refine aN (b:=jH) T.H_Y5.F oI λcdv A outer s H E hr=> ?_;have hu:=hr.units;refine⟨_,(aJ (ly (aO (bX T.H_Qv (DA T)) (hm hr) aW (ak (pv 0) (ak (pv 2) ax))))
   (aJ (bK (i:=3) oI.nd rfl (by trivial) (pB (oX T.C_Net T.mt_Qw T.H_Qw (ow T)) (hm hr) aW (ak (pv 0) ax)))
   (aJ (bN (fw (K:=K) rfl (aO (bX T.H_Ye (AY T)) (hm hr) aW (ak (pv 3) (ak (pv 1) (ak (pv 2) ax)))) (λ_=>rfl)) (aK (dU T.x_Y3 az (hr.mono (qz _)))) bU)
   (aJ (bN (fw (K:=K) rfl (aO (bX T.H_Y4 (BJ T)) (hm hr) aW (ak (pv 3) (ak (pv 1) (ak (pv 2) ax)))) (λ_=>rfl)) (aK (dU T.x_Xy az (hr.mono (qz _)))) bU)
   (aK (bq (aO (bX T.H_X4 (oU T)) (hm hr) aW (ak (pv 1) (ak (pv 2) ax))))))))),?_⟩
 exact(aI (lC (bW (ao aj (ao aj av))))
   (aI (bJ (uy (mB T) (ao aj av)) a_)
   (aI (bM (ft (bW (ao aj (ao aj (ao aj av))))) (dX (Aw T) ay) bT)
   (aI (bM (ft (bW (ao aj (ao aj (ao aj av))))) (dX (yL T) ay) bT)
   (bp (bW (ao aj (ao aj av))))))))
theorem xj:FnOk P w K mg base (CXE P w) 8 T.f_Xd T.fd_Xd ["self","number"] (bG (ct T) dN):=by
 refine aN (b:=fU) T.H_Xd.F Bf λcdv A outer s H E hr=> ?_;have hu:=hr.units;refine⟨_,(aJ (ly (aO (bX T.H_Qv (DA T)) (hm hr) aW (ak (cg (K:=K) rfl (cf (pv 0) rfl)) (ak (pv 1) ax))))
   (aJ (bN (fw (K:=K) rfl (aO (bX T.H_has (mP T)) (hm hr) aW (ak (cg (K:=K) rfl (cf (pv 0) rfl)) (ak (pv 1) ax))) (λ_=>rfl)) (aK (dU T.x_Y7 az (hr.mono (qz _)))) bU)
   (aJ (bN (fw (K:=K) rfl (aO (bX T.H_has (mP T)) (hm hr) aW (ak (cE P w K mg base 1 (gB (pv 0) (hm hr) aW)) (ak (pv 1) ax))) (λ_=>rfl)) (aK (dU T.x_Yh az (hr.mono (qz _)))) bU)
   (aJ (fu (K:=K) rfl (fk (pv 0) (aO (bX T.H_Y5 (Bk T)) (hm hr) aW (ak (cg (K:=K) rfl (cf (pv 0) rfl)) (ak (cg (K:=K) rfl (cf (pv 0) rfl)) (ak (pv 1) ax)))) rfl))
   (aK (bq (cg (K:=K) rfl (cf (pv 0) rfl)))))))),?_⟩
 exact(aI (lC (bW (ao (cj (fI T) aj) (ao aj av))))
   (aI (bM (ft (bW (ao (cj (jx T) aj) (ao aj av)))) (dX (ve T) ay) bT)
   (aI (bM (ft (bW (ao (cy (C3 T) aj av) (ao aj av)))) (dX (u0 T) ay) bT)
   (aI (fc (vm T) aj (bW (ao (cj (fI T) aj) (ao (cj (vm T) aj) (ao aj av)))))
   (bp (cj (vm T) aj))))))
theorem xh:FnOk P w K mg base (CXE P w) 2 T.f_Qq T.fd_Qq ["self","number"] (bG (ct T) kG):=by
 refine aN (b:=tq) T.H_Qq.F z_ λcdv A outer s H E hr=> ?_;have hu:=hr.units;refine⟨_,(aJ (ly (aO (bX T.H_Qv (DA T)) (hm hr) aW (ak (cg (K:=K) rfl (cf (pv 0) rfl)) (ak (pv 1) ax))))
   (aJ (bN (jK (fw (K:=K) rfl (aO (bX T.H_has (mP T)) (hm hr) aW (ak (cg (K:=K) rfl (cf (pv 0) rfl)) (ak (pv 1) ax))) (λ_=>rfl))) (aK (dU T.x_Xj az (hr.mono (qz _)))) bU)
   (aJ (bN (fw (K:=K) rfl (aO (bX T.H_has (mP T)) (hm hr) aW (ak (cE P w K mg base 1 (gB (pv 0) (hm hr) aW)) (ak (pv 1) ax))) (λ_=>rfl)) (aK (dU T.x_Yh az (hr.mono (qz _)))) bU)
   (aJ (fu (K:=K) rfl (fk (pv 0) (aE nP (cg (K:=K) rfl (cf (pv 0) rfl)) (uJ GW (aE jI aC (pv 1)))) rfl))
   (aK (bq (cg (K:=K) rfl (cf (pv 0) rfl)))))))),?_⟩
 exact(aI (lC (bW (ao (cj (fI T) aj) (ao aj av))))
   (aI (bM (kF (ft (bW (ao (cj (jx T) aj) (ao aj av))))) (dX (BH T) ay) bT)
   (aI (bM (ft (bW (ao (cy (C3 T) aj av) (ao aj av)))) (dX (u0 T) ay) bT)
   (aI (fc (jx T) aj (ah nW (cj (jx T) aj) (ja FC (ah kQ aB aj))))
   (bp (cj (jx T) aj))))))
theorem Qn:dn (ct T) mg base 2 "give_back" wN:=by
 exact(cK (iy T) T.C_Ya.cl T.mt_Q6 (zW T) (by decide) T.H_Q6.B d6)
theorem P2:dn (ct T) mg base 3 "lock" va:=by
 exact(cK (iy T) T.C_Ya.cl T.mt_X8 (BN T) (by decide) T.H_X8.B d6)
theorem NG:dn (ct T) mg base 8 "turn" y3:=by
 exact(cK (iy T) T.C_Ya.cl T.mt_Xd (xj T) (by decide) T.H_Xd.B d6)
theorem OO:dn (ct T) mg base 2 "unlock" AS:=by
 exact(cK (iy T) T.C_Ya.cl T.mt_Qq (xh T) (by decide) T.H_Qq.B d6)
theorem Cb:FnOk P w K mg base (CXE P w) 9 T.f_Xk T.fd_Xk ["self","kind","number"] (bG (ct T) eN):=by
 refine aN (b:=eh) T.H_Xk.F wL λcdv A outer s H E hr=> ?_;have hu:=hr.units;refine⟨_,(aJ (bN (bV (cx hu) (pv 1) az (bP _)) (aK (bq (MR (fw (K:=K) rfl (aO (bX T.H_has (mP T)) (hm hr) aW (ak (cE P w K mg base 8 (dD (cg (K:=K) rfl (cf (pv 0) rfl)) (hm hr) aW (ak (pv 2) ax))) (ak (pv 2) ax))) (λ_=>rfl)) az az))) bU)
   (aJ (bN (bV (cx hu) (pv 1) az (bP _)) (aK (ly (cE P w K mg base 3 (dD (cg (K:=K) rfl (cf (pv 0) rfl)) (hm hr) aW (ak (pv 2) ax))))) bU)
   (aJ (bN (bV (cx hu) (pv 1) az (bP _)) (aK (ly (cE P w K mg base 2 (dD (cg (K:=K) rfl (cf (pv 0) rfl)) (hm hr) aW (ak (pv 2) ax))))) bU)
   (aJ (bN (bV (cx hu) (pv 1) az (bP _)) (aK (ly (cE P w K mg base 2 (dD (cg (K:=K) rfl (cf (pv 0) rfl)) (hm hr) aW (ak (pv 2) ax))))) bU)
   (aK (bq az)))))),?_⟩
 exact(aI (bM (bQ (ah cw aj ay)) (bp (EE (ft (bW (ao (cy (NG T) (cj (iF T) aj) (ao aj av)) (ao aj av)))) ay ay)) bT)
   (aI (bM (bQ (ah cw aj ay)) (lC (cy (P2 T) (cj (iF T) aj) (ao aj av))) bT)
   (aI (bM (bQ (ah cw aj ay)) (lC (cy (OO T) (cj (iF T) aj) (ao aj av))) bT)
   (aI (bM (bQ (ah cw aj ay)) (lC (cy (Qn T) (cj (iF T) aj) (ao aj av))) bT)
   (bp ay)))))
theorem v7:FnOk P w K mg base (CXE P w) 1 T.f_X0 T.fd_X0 ["self","place"] (bG (ct T) xc):=by
 exact uY
theorem yz:FnOk P w K mg base (CXE P w) 1 T.f_Xs T.fd_Xs ["kind","place"] (bG (ct T) B9):=by
 exact uY
theorem B5:FnOk P w K mg base (CXE P w) 1 T.f_Yk T.fd_Yk ["yard","standing","fixed","wish"] (bG (ct T) vD):=by
 exact uY
theorem Ab:FnOk P w K mg base (CXE P w) 1 T.f_Qn T.fd_Qn ["self"] (bG (ct T) jJ):=by
 refine aN (b:=rO) T.H_Qn.F vB λcdv A outer s H E hr=> ?_;have hu:=hr.units;refine⟨_,(aK (bq (cg (K:=K) rfl (cf (pv 0) rfl)))),?_⟩;exact(bp (cj (jx T) aj))
theorem Aq:FnOk P w K mg base (CXE P w) 1 T.f_Q9 T.fd_Q9 ["self"] (bG (ct T) j4):=by
 refine aN (b:=qF) T.H_Q9.F A3 λcdv A outer s H E hr=> ?_;have hu:=hr.units;refine⟨_,(aK (bq (cg (K:=K) rfl (cf (pv 0) rfl)))),?_⟩;exact(bp (cj (vm T) aj))
theorem IU:dn (ct T) mg base 1 "locked" DP:=by
 exact(cK (iy T) T.C_Ya.cl T.mt_Qn (Ab T) (by decide) T.H_Qn.B d6)
theorem De:dn (ct T) mg base 1 "standing" vb:=by
 exact(cK (iy T) T.C_Ya.cl T.mt_Q9 (Aq T) (by decide) T.H_Q9.B d6)
theorem xr:FnOk P w K mg base (CXE P w) 4 T.f_X6 T.fd_X6 ["self","words"] (bG (ct T) jw):=by
 refine aN (b:=j9) T.H_X6.F Gf λcdv A outer s H E hr=> ?_;have hu:=hr.units;refine⟨_,(aJ (bN (PW.pt (u9 (bV (iz hu) (cT (gR (P:=P) (w:=w) (K:=K) rfl rfl rfl) (by rfl) T.b_len hZ (ak (pv 1) ax)) aC (bP _)) (u6 (bV (Gq (P:=P) (w:=w) (K:=K) rfl rfl rfl hu) (b7 P w K hu (pv 1) aC) (u3 (ak az (ak az (ak az ax)))) (by with_unfolding_all rfl))))) (aK (dU T.x_Yb az (hr.mono (qz _)))) bU)
   (aJ (bK (i:=2) Gf.nd rfl (by trivial) (aO (bX T.H_Xs (yz T)) (hm hr) aW (ak (b7 P w K hu (pv 1) aC) (ak (aO (bX T.H_X5 (Fh T)) (hm hr) aW (ak (fz (cO (K:=K) rfl) (pv 1) (ee aC) fq) (ak (b7 P w K hu (cg (K:=K) rfl (cf (pv 0) rfl)) aC) ax))) ax))))
   (aJ (bK (i:=3) Gf.nd rfl (by trivial) (aO (bX T.H_Yk (B5 T)) (hm hr) aW (ak (cg (K:=K) rfl (cf (pv 0) rfl)) (ak (cE P w K mg base 1 (gB (cg (K:=K) rfl (cf (pv 0) rfl)) (hm hr) aW)) (ak (aE og (cE P w K mg base 1 (gB (cg (K:=K) rfl (cf (pv 0) rfl)) (hm hr) aW)) (cE P w K mg base 1 (gB (cg (K:=K) rfl (cf (pv 0) rfl)) (hm hr) aW))) (ak (pv 2) ax))))))
   (aJ (bN (bV (cx hu) (b7 P w K hu (pv 3) aC) az (bP _)) (aK (bq az)) bU)
   (aK (bq (kW (K:=K) rfl (kS PySem.F.plainAttrs_str PySem.F.slot_str_join PySem.F.type_str_join (qA (K:=K) rfl) az (ak (aE (bA (K:=K) rfl) (bY (ak az ax)) (iu (CompOk.mk (tgs:=["number"]) (cap:=[]) (idx:=[]) rfl rfl (by decide+kernel) (by decide+kernel) (qx _) rfl .nil) rfl (cR (K:=K) rfl (b7 P w K hu (pv 3) aC)) (gN (by decide)) (λ_ _ _ _=>(dj (i:=0) (show List.Nodup (α:=PySem.Str) ["number"] by decide+kernel) rfl (by trivial))) (λ_ _ _ _=>gM) (λ_ _ _ _=>(eg (e_) (by rfl) T.b_str fo (ak (pv 0) ax))))) ax))))))))),?_⟩
 exact(aI (bM (uA (bQ (ah hX (aP gZ (ao aj av)) aB)) (bQ (ah vj (aR aj aB) (vf (ao ay (ao ay (ao ay av))))))) (dX (gX T) ay) bT)
   (aI (bJ (bW (ao (aR aj aB) (ao (bW (ao (cL aj (d8 aB) e8) (ao (aR (cj (fI T) aj) aB) av))) av))) a_)
   (aI (bJ (bW (ao (cj (fI T) aj) (ao (cy (De T) (cj (iF T) aj) av) (ao (ah nI (cy (IU T) (cj (iF T) aj) av) (cy (C3 T) (cj (iF T) aj) av)) (ao aj av))))) a_)
   (aI (bM (bQ (ah cw (aR aj aB) ay)) (bp ay) bT)
   (bp (ig qB ay (ao (ah bB (bF (bZ (ao ay av))) (bF (fR (cN (aR aj aB)) a_ gF (aP fe (ao aj av))))) av)))))))
theorem yS:FnOk P w K mg base (CXE P w) 1 T.f_Y2 T.fd_Y2 ["switch"] (bG (ct T) jc):=by
 refine aN (b:=r0) T.H_Y2.F yB λcdv A outer s H E hr=> ?_;have hu:=hr.units;refine⟨_,(aK (bq (kW (K:=K) rfl (kS PySem.F.plainAttrs_str PySem.F.slot_str_join PySem.F.type_str_join (qA (K:=K) rfl) az (ak (aE (bA (K:=K) rfl) (bY (ak (b7 P w K hu (pv 0) aC) ax)) (iu (CompOk.mk (tgs:=["bar"]) (cap:=[]) (idx:=[]) rfl rfl (by decide+kernel) (by decide+kernel) (qx _) rfl .nil) rfl (cR (K:=K) rfl (fz (cO (K:=K) rfl) (pv 0) (ee aC) fq)) (gN (by decide)) (λ_ _ _ _=>(dj (i:=0) (show List.Nodup (α:=PySem.Str) ["bar"] by decide+kernel) rfl (by trivial))) (λ_ _ _ _=>gM) (λ_ _ _ _=>(eg (e_) (by rfl) T.b_str fo (ak (pv 0) ax))))) ax))))),?_⟩;exact(bp (ig qB ay (ao (ah bB (bF (bZ (ao (aR aj aB) av))) (bF (fR (cN (cL aj (d8 aB) e8)) a_ gF (aP fe (ao aj av))))) av)))
theorem xW:FnOk P w K mg base (CXE P w) 2 T.f_Yd T.fd_Yd ["yard"] (bG (ct T) lE):=by
 refine aN (b:=sM) T.H_Yd.F nU λcdv A outer s H E hr=> ?_;have hu:=hr.units;refine⟨_,(aJ (bK (i:=1) nU.nd rfl (by trivial) (b7 P w K hu (pv 0) aC))
   (aK (bq (kW (K:=K) rfl (kS PySem.F.plainAttrs_str PySem.F.slot_str_join PySem.F.type_str_join (qA (K:=K) rfl) az (ak (aE (bA (K:=K) rfl) (bY (ak (oi (CB az (CB (K6 (pv 1)) JS))) ax)) (iu (CompOk.mk (tgs:=["switch"]) (cap:=[]) (idx:=[]) rfl rfl (by decide+kernel) (by decide+kernel) (qx _) rfl .nil) rfl (cR (K:=K) rfl (b7 P w K hu (pv 0) aC)) (gN (by decide)) (λ_ _ _ _=>(dj (i:=0) (show List.Nodup (α:=PySem.Str) ["switch"] by decide+kernel) rfl (by trivial))) (λ_ _ _ _=>gM) (λ_ _ _ _=>(aO (bX T.H_Y2 (yS T)) (hm hr) k_ (ak (pv 0) ax))))) ax)))))),?_⟩
 exact(aI (bJ (aR aj aB) a_)
   (bp (ig qB ay (ao (ah bB (bF (bZ (ao (wM (CW ay (CW (nZ aj) Jg))) av))) (bF (fR (cN (aR aj aB)) a_ gF (bW (ao aj av))))) av))))
theorem DV:FnOk P w K mg base (CXE P w) 2 T.f_Xe T.fd_Xe ["some"] (bG (ct T) ir):=by
 refine aN (b:=rK) T.H_Xe.F yF λcdv A outer s H E hr=> ?_;have hu:=hr.units;refine⟨_,(aK (bq (iu (CompOk.mk (tgs:=["number"]) (cap:=["some"]) (idx:=[0]) rfl rfl (by decide+kernel) (by decide+kernel) (zg.mpr ⟨rfl,(qx _)⟩) rfl (.cons rfl (by trivial) (by trivial) rfl rfl .nil)) rfl (zJ rfl T.b_range (ak (Lv (K:=K) rfl (pV PySem.F.plainAttrs_int PySem.F.slot_int_bit_length PySem.F.type_int_bit_length Pp (pv 0))) ax)) (gN (by decide)) (λ_ _ _ _=>(dj (i:=0) (show List.Nodup (α:=PySem.Str) ["number","some"] by decide+kernel) rfl (by trivial))) (λ_ _ _ _=>(Ka (fw (K:=K) rfl (aO (bX T.H_has (mP T)) (hm hr) k_ (ak (pv 1) (ak (pv 0) ax))) (λ_=>rfl)))) (λ_ _ _ _=>(pv 0))))),?_⟩;exact(bp (bF (fR (yR (ao (rX aj) av)) a_ (ft (bW (ao aj (ao aj av)))) aj)))
theorem AU:FnOk P w K mg base (CXE P w) 1 T.f_Yi T.fd_Yi ["yard","standing"] (bG (ct T) zB):=by
 exact uY
theorem xq:FnOk P w K mg base (CXE P w) 1 T.f_Xz T.fd_Xz ["yard","standing"] (bG (ct T) Ap):=by
 exact uY
theorem Bo:FnOk P w K mg base (CXE P w) 3 T.f_Xf T.fd_Xf ["self","kind"] (bG (ct T) iS):=by
 refine aN (b:=dF) T.H_Xf.F BK λcdv A outer s H E hr=> ?_;have hu:=hr.units;refine⟨_,(aJ (bN (bV (cx hu) (pv 1) az (bP _)) (aK (bq (aO (bX T.H_Q2 (xZ T)) (hm hr) aW (ak (aO (bX T.H_Xe (DV T)) (hm hr) aW (ak (aO (bX T.H_Yi (AU T)) (hm hr) aW (ak (cg (K:=K) rfl (cf (pv 0) rfl)) (ak (cE P w K mg base 1 (gB (cg (K:=K) rfl (cf (pv 0) rfl)) (hm hr) aW)) ax))) ax)) ax)))) bU)
   (aJ (bN (bV (cx hu) (pv 1) az (bP _)) (aK (bq (aO (bX T.H_Q2 (xZ T)) (hm hr) aW (ak (aO (bX T.H_Xe (DV T)) (hm hr) aW (ak (aO (bX T.H_Xz (xq T)) (hm hr) aW (ak (cg (K:=K) rfl (cf (pv 0) rfl)) (ak (cE P w K mg base 1 (gB (cg (K:=K) rfl (cf (pv 0) rfl)) (hm hr) aW)) ax))) ax)) ax)))) bU)
   (aJ (bN (bV (cx hu) (pv 1) az (bP _)) (aK (bq (aO (bX T.H_Q2 (xZ T)) (hm hr) aW (ak (aO (bX T.H_Xe (DV T)) (hm hr) aW (ak (cE P w K mg base 1 (gB (cg (K:=K) rfl (cf (pv 0) rfl)) (hm hr) aW)) ax)) ax)))) bU)
   (aJ (bN (bV (cx hu) (pv 1) az (bP _)) (aK (bq (aO (bX T.H_Q2 (xZ T)) (hm hr) aW (ak (aO (bX T.H_Xe (DV T)) (hm hr) aW (ak (cE P w K mg base 1 (gB (cg (K:=K) rfl (cf (pv 0) rfl)) (hm hr) aW)) ax)) ax)))) bU)
   (aJ (bN (bV (cx hu) (pv 1) az (bP _)) (aK (bq (aO (bX T.H_Yd (xW T)) (hm hr) aW (ak (cg (K:=K) rfl (cf (pv 0) rfl)) ax)))) bU)
   (aK (dU T.x_Yb az (hr.mono (qz _))))))))),?_⟩
 exact(aI (bM (bQ (ah cw aj ay)) (bp (bW (ao (bW (ao (bW (ao (cj (fI T) aj) (ao (cy (De T) (cj (iF T) aj) av) av))) av)) av))) bT)
   (aI (bM (bQ (ah cw aj ay)) (bp (bW (ao (bW (ao (bW (ao (cj (fI T) aj) (ao (cy (De T) (cj (iF T) aj) av) av))) av)) av))) bT)
   (aI (bM (bQ (ah cw aj ay)) (bp (bW (ao (bW (ao (cy (IU T) (cj (iF T) aj) av) av)) av))) bT)
   (aI (bM (bQ (ah cw aj ay)) (bp (bW (ao (bW (ao (cy (De T) (cj (iF T) aj) av) av)) av))) bT)
   (aI (bM (bQ (ah cw aj ay)) (bp (bW (ao (cj (fI T) aj) av))) bT)
   (dX (gX T) ay))))))
theorem LL:dn (ct T) mg base 9 "add_switch" yO:=by
 exact(cK (mf T) T.C_Yl.cl T.mt_Q7 (vU T) (by decide) T.H_Q7.B d6)
theorem MN:dn (ct T) mg base 9 "done" xI:=by
 exact(cK (mf T) T.C_Yl.cl T.mt_Xk (Cb T) (by decide) T.H_Xk.B d6)
theorem PV:dn (ct T) mg base 1 "permit" Cw:=by
 exact(cK (iy T) T.C_Ya.cl T.mt_X0 (v7 T) (by decide) T.H_X0.B d6)
theorem Oi:dn (ct T) mg base 4 "reach" C6:=by
 exact(cK (mf T) T.C_Yl.cl T.mt_X6 (xr T) (by decide) T.H_X6.B d6)
theorem Py:dn (ct T) mg base 3 "tell" Bp:=by
 exact(cK (mf T) T.C_Yl.cl T.mt_Xf (Bo T) (by decide) T.H_Xf.B d6)
theorem Ba:FnOk P w K mg base (CXE P w) 10 T.f_Xu T.fd_Xu ["self","row"] (bG (ct T) aT):=by
 refine aN (b:=cu) T.H_Xu.F CK λcdv A outer s H E hr=> ?_;have hu:=hr.units;refine⟨_,(aJ (bK (i:=2) CK.nd rfl (by trivial) (kW (K:=K) rfl (kS PySem.F.plainAttrs_str PySem.F.slot_str_split PySem.F.type_str_split JU (pv 1) (ak az ax))))
   (aJ (bK (i:=3) CK.nd rfl (by trivial) (b7 P w K hu (pv 2) aC))
   (aJ (bN (bV (cx hu) (pv 3) az (bP _)) (aK (bq (cE P w K mg base 8 (dD (pv 0) (hm hr) aW (ak (u3 (ak (aO (bX T.H_Xo (yq T)) (hm hr) aW (ak (pv 1) ax)) (ak (bY ax) ax))) ax))))) bU)
   (aJ (bN (bV (sQ) (cg (K:=K) rfl (cf (pv 0) rfl)) CZ (bP _)) (aK (dU T.x_Yb az (hr.mono (qz _)))) bU)
   (aJ (bN (bV (Gb (P:=P) (w:=w) (K:=K) rfl rfl rfl hu) (pv 3) (u3 (ak az (ak az (ak az (ak az ax))))) (by with_unfolding_all rfl)) (aK (bq (cE P w K mg base 9 (dD (pv 0) (hm hr) aW (ak (pv 1) ax))))) bU)
   (aJ (bN (bV (Gb (P:=P) (w:=w) (K:=K) rfl rfl rfl hu) (pv 3) (u3 (ak az (ak az (ak az (ak az ax))))) (by with_unfolding_all rfl)) (aK (bq (cE P w K mg base 9 (dD (pv 0) (hm hr) aW (ak (pv 3) (ak (aO (bX T.H_X7 (vC T)) (hm hr) aW (ak (fz (cO (K:=K) rfl) (pv 2) (ee aC) fq) ax)) ax)))))) bU)
   (aJ (bN (bV (cx hu) (pv 3) az (bP _)) (aJ (bK (i:=4) CK.nd rfl (by trivial) (cE P w K mg base 1 (dD (cg (K:=K) rfl (cf (pv 0) rfl)) (hm hr) aW (ak (aO (bX T.H_X5 (Fh T)) (hm hr) aW (ak (fz (cO (K:=K) rfl) (pv 2) (ee aC) fq) (ak (b7 P w K hu (cg (K:=K) rfl (cf (pv 0) rfl)) aC) ax))) ax))))
   (aK (bq (oi (CB az (CB (K6 (pv 4)) JS)))))) bU)
   (aJ (bN (bV (cx hu) (pv 3) az (bP _)) (aK (bq (aO (bX T.H_Q2 (xZ T)) (hm hr) aW (ak (b7 P w K hu (aO (bX T.H_Qo (yK T)) (hm hr) aW (ak (cg (K:=K) rfl (cf (pv 0) rfl)) (ak (aO (bX T.H_X5 (Fh T)) (hm hr) aW (ak (fz (cO (K:=K) rfl) (pv 2) (ee aC) fq) (ak (b7 P w K hu (cg (K:=K) rfl (cf (pv 0) rfl)) aC) ax))) ax))) aC) ax)))) bU)
   (aJ (bN (bV (cx hu) (pv 3) az (bP _)) (aK (bq (cE P w K mg base 4 (dD (pv 0) (hm hr) aW (ak (fz (cO (K:=K) rfl) (pv 2) (ee aC) fq) ax))))) bU)
   (aJ (bN (bV (iz hu) (cT (gR (P:=P) (w:=w) (K:=K) rfl rfl rfl) (by rfl) T.b_len hZ (ak (pv 2) ax)) aC (bP _)) (aK (dU T.x_Yb az (hr.mono (qz _)))) bU)
   (aK (bq (cE P w K mg base 3 (dD (pv 0) (hm hr) aW (ak (pv 3) ax))))))))))))))),?_⟩
 exact(aI (bJ (bF (KQ aj (ao ay av))) a_)
   (aI (bJ (aR aj aB) a_)
   (aI (bM (bQ (ah cw aj ay)) (bp (cy (IG T) aj (ao (vf (ao (bW (ao aj av)) (ao (bF (bZ av)) av))) av))) bT)
   (aI (bM (bQ (ah xM (cj (fI T) aj) El)) (dX (gX T) ay) bT)
   (aI (bM (bQ (ah vj aj (vf (ao ay (ao ay (ao ay (ao ay av))))))) (bp (cy (LL T) aj (ao aj av))) bT)
   (aI (bM (bQ (ah vj aj (vf (ao ay (ao ay (ao ay (ao ay av))))))) (bp (cy (MN T) aj (ao aj (ao (bW (ao (cL aj (d8 aB) e8) av)) av)))) bT)
   (aI (bM (bQ (ah cw aj ay)) (aI (bJ (cy (PV T) (cj (iF T) aj) (ao (bW (ao (cL aj (d8 aB) e8) (ao (aR (cj (fI T) aj) aB) av))) av)) a_)
   (bp (wM (CW ay (CW (nZ aj) Jg))))) bT)
   (aI (bM (bQ (ah cw aj ay)) (bp (bW (ao (aR (bW (ao (cj (fI T) aj) (ao (bW (ao (cL aj (d8 aB) e8) (ao (aR (cj (fI T) aj) aB) av))) av))) aB) av))) bT)
   (aI (bM (bQ (ah cw aj ay)) (bp (cy (Oi T) aj (ao (cL aj (d8 aB) e8) av))) bT)
   (aI (bM (bQ (ah hX (aP gZ (ao aj av)) aB)) (dX (gX T) ay) bT)
   (bp (cy (Py T) aj (ao aj av)))))))))))))
theorem px:dn (ct T) mg base 10 "say" gW:=by
 exact(cK (mf T) T.C_Yl.cl T.mt_Xu (Ba T) (by decide) T.H_Xu.B d6)
theorem vL:FnOk P w K mg base (CXE P w) 11 T.f_Xc T.fd_Xc ["desk","script","rows"] (bG (ct T) j3):=by
 refine aN (b:=jE) T.H_Xc.F Gz λcdv A outer s H E hr=> ?_;have hu:=hr.units;refine⟨_,(aJ (mn eU rfl (cR (K:=K) rfl (pv 2)) (dj (i:=3) Gz.nd rfl (by trivial)) (aK (bN (bV (iz hu) (cE P w K mg base 10 (dD (pv 0) (hm hr) aW (ak (pv 3) ax))) az (bP _)) (aK (bq fh)) bU)))
   (aJ (mn eU rfl (zJ rfl T.b_range (ak (aE m4 (cT (gR (P:=P) (w:=w) (K:=K) rfl rfl rfl) (by rfl) T.b_len hZ (ak (pv 2) ax)) aC) ax)) (dj (i:=4) Gz.nd rfl (by trivial)) (aK (bN (PW.pt (lJ (bV (cx hu) (fz (cO (K:=K) rfl) (b7 P w K hu (pv 2) (aE (bA (K:=K) rfl) aC (pv 4))) fq (ee aC)) az (bP _)) (mr (bV (cx hu) (aE cM (aO (bX T.H_Xn (AI T)) (hm hr) aW (ak (pv 1) (ak (aE (bA (K:=K) rfl) aC (pv 4)) ax))) aC) aC (bP _))))) (aK (bN (bV (iz hu) (cE P w K mg base 10 (dD (pv 0) (hm hr) aW (ak (aE (bA (K:=K) rfl) az (eg (e_) (by rfl) T.b_str fo (ak (pv 4) ax))) ax))) az (bP _)) (aK (bq fh)) bU)) (aK (bN (PW.pt (lJ (bV (cx hu) (fz (cO (K:=K) rfl) (b7 P w K hu (pv 2) (aE (bA (K:=K) rfl) aC (pv 4))) fq (ee aC)) az (bP _)) (mr (bV (iz hu) (cE P w K mg base 10 (dD (pv 0) (hm hr) aW (ak (aE (bA (K:=K) rfl) az (eg (e_) (by rfl) T.b_str fo (ak (pv 4) ax))) ax))) az (bP _))))) (aK (bq fh)) bU)))))
   (aK (bq fh)))),?_⟩
 exact(aI (nG (cN aj) a_ (bM (bQ (ah hX (cy (px T) aj (ao aj av)) ay)) (bp cI) bT))
   (aI (nG (yR (ao (ah nN (aP gZ (ao aj av)) aB) av)) a_ (bM (mE (bQ (ah cw (cL (aR aj (ah bB aB aj)) e8 (d8 aB)) ay)) (bQ (ah cw (ah cQ (bW (ao aj (ao (ah bB aB aj) av))) aB) aB))) (bM (bQ (ah hX (cy (px T) aj (ao (ah bB ay (aP fe (ao aj av))) av)) ay)) (bp cI) bT) (bM (mE (bQ (ah cw (cL (aR aj (ah bB aB aj)) e8 (d8 aB)) ay)) (bQ (ah hX (cy (px T) aj (ao (ah bB ay (aP fe (ao aj av))) av)) ay))) (bp cI) bT)))
   (bp cI)))
theorem m8:FnOk P w K mg base (CXE P w) 11 T.f_Qz T.fd_Qz ["desk","row"] (bG (ct T) hV):=by
 refine aN (b:=j6) T.H_Qz.F nR λcdv A outer s H E hr=> ?_;have hu:=hr.units;refine⟨_,(aJ (bK (i:=2) nR.nd rfl (by trivial) (bY ax))
   (aJ (tR rfl rfl (PD (LR (Ny (P:=P) (w:=w) (K:=K) (mg:=mg) (base:=base) rfl rfl rfl rfl rfl (rC (k:=10) (pv 0) (hm hr) (ak (pv 1) ax)))) Qf) (qX (K:=K) rfl (vZ (i:=3) rfl nR.nd rfl rfl rfl T.x_Xm.mg_ T.w_Xm (λea=>(aJ (bK (i:=2) nR.nd rfl (by trivial) (bY (ak (cT (gG (K:=K) rfl) (by rfl) T.b_isinstance gJ (ak (pv 3) (ak (eW T.k_Yb) ax))) (ak (cT (gG (K:=K) rfl) (by rfl) T.b_isinstance gJ (ak (pv 3) (ak (eW T.k_Xh) ax))) (ak (cT (gG (K:=K) rfl) (by rfl) T.b_isinstance gJ (ak (pv 3) (ak (eW T.k_Yf) ax))) (ak (cT (gG (K:=K) rfl) (by rfl) T.b_isinstance gJ (ak (pv 3) (ak (eW T.k_Yg) ax))) ax))))))
   (aJ (bK (i:=2) nR.nd rfl (by trivial) (aE (bA (K:=K) rfl) (pv 2) (bY (ak (cT (gG (K:=K) rfl) (by rfl) T.b_isinstance gJ (ak (pv 3) (ak (eW T.k_Xq) ax))) (ak (cT (gG (K:=K) rfl) (by rfl) T.b_isinstance gJ (ak (pv 3) (ak (eW T.k_Xt) ax))) (ak (cT (gG (K:=K) rfl) (by rfl) T.b_isinstance gJ (ak (pv 3) (ak (eW T.k_Y3) ax))) (ak (cT (gG (K:=K) rfl) (by rfl) T.b_isinstance gJ (ak (pv 3) (ak (eW T.k_Xy) ax))) ax)))))))
   (aJ (bK (i:=2) nR.nd rfl (by trivial) (aE (bA (K:=K) rfl) (pv 2) (bY (ak (cT (gG (K:=K) rfl) (by rfl) T.b_isinstance gJ (ak (pv 3) (ak (eW T.k_Y7) ax))) (ak (cT (gG (K:=K) rfl) (by rfl) T.b_isinstance gJ (ak (pv 3) (ak (eW T.k_Yh) ax))) (ak (cT (gG (K:=K) rfl) (by rfl) T.b_isinstance gJ (ak (pv 3) (ak (eW T.k_Y8) ax))) (ak (cT (gG (K:=K) rfl) (by rfl) T.b_isinstance gJ (ak (pv 3) (ak (eW T.k_Xw) ax))) ax)))))))
   (aJ (bK (i:=2) nR.nd rfl (by trivial) (aE (bA (K:=K) rfl) (pv 2) (bY (ak (cT (gG (K:=K) rfl) (by rfl) T.b_isinstance gJ (ak (pv 3) (ak (eW T.k_Xj) ax))) (ak (cT (gG (K:=K) rfl) (by rfl) T.b_isinstance gJ (ak (pv 3) (ak (eW T.k_X9) ax))) (ak (cT (gG (K:=K) rfl) (by rfl) T.b_isinstance gJ (ak (pv 3) (ak (eW T.k_Xx) ax))) ax))))))
   (aK (bK (i:=2) nR.nd rfl (by trivial) (aE (bA (K:=K) rfl) (pv 2) (bY (ak (Ij (K:=K) rfl (cT (gG (K:=K) rfl) (by rfl) T.b_isinstance gJ (ak (pv 3) (ak (xx T.b_ValueError Od) ax)))) ax)))))))))) qL)))
   (aK (bq (pv 2))))),?_⟩
 exact(aI (bJ (bF (bZ av)) a_)
   (aI (tJ (tL (Mf (N8 (px T) (λ_=>aj) (ao aj av)))) (Bn (i:=3) (rL T) (aI (bJ (bF (bZ (ao (aP (gI (gK T)) (ao aj (ao (eG λ_ _=>by simp only[RV];exact(congrArg V.ref (gX T)).symm) av))) (ao (aP (gI (gK T)) (ao aj (ao (eG λ_ _=>by simp only[RV];exact(congrArg V.ref (yn T)).symm) av))) (ao (aP (gI (gK T)) (ao aj (ao (eG λ_ _=>by simp only[RV];exact(congrArg V.ref (vg T)).symm) av))) (ao (aP (gI (gK T)) (ao aj (ao (eG λ_ _=>by simp only[RV];exact(congrArg V.ref (Ao T)).symm) av))) av)))))) a_)
   (aI (bJ (ah bB aj (bF (bZ (ao (aP (gI (gK T)) (ao aj (ao (eG λ_ _=>by simp only[RV];exact(congrArg V.ref (vS T)).symm) av))) (ao (aP (gI (gK T)) (ao aj (ao (eG λ_ _=>by simp only[RV];exact(congrArg V.ref (v5 T)).symm) av))) (ao (aP (gI (gK T)) (ao aj (ao (eG λ_ _=>by simp only[RV];exact(congrArg V.ref (Aw T)).symm) av))) (ao (aP (gI (gK T)) (ao aj (ao (eG λ_ _=>by simp only[RV];exact(congrArg V.ref (yL T)).symm) av))) av))))))) a_)
   (aI (bJ (ah bB aj (bF (bZ (ao (aP (gI (gK T)) (ao aj (ao (eG λ_ _=>by simp only[RV];exact(congrArg V.ref (ve T)).symm) av))) (ao (aP (gI (gK T)) (ao aj (ao (eG λ_ _=>by simp only[RV];exact(congrArg V.ref (u0 T)).symm) av))) (ao (aP (gI (gK T)) (ao aj (ao (eG λ_ _=>by simp only[RV];exact(congrArg V.ref (A6 T)).symm) av))) (ao (aP (gI (gK T)) (ao aj (ao (eG λ_ _=>by simp only[RV];exact(congrArg V.ref (xF T)).symm) av))) av))))))) a_)
   (aI (bJ (ah bB aj (bF (bZ (ao (aP (gI (gK T)) (ao aj (ao (eG λ_ _=>by simp only[RV];exact(congrArg V.ref (BH T)).symm) av))) (ao (aP (gI (gK T)) (ao aj (ao (eG λ_ _=>by simp only[RV];exact(congrArg V.ref (DW T)).symm) av))) (ao (aP (gI (gK T)) (ao aj (ao (eG λ_ _=>by simp only[RV];exact(congrArg V.ref (Dr T)).symm) av))) av)))))) a_)
   (bJ (ah bB aj (bF (bZ (ao (JV (aP (gI (gK T)) (ao aj (ao Hf av)))) av)))) a_))))) (λc=>ri)))
   (bp aj)))
theorem xk:FnOk P w K mg base (CXE P w) 1 T.f_Qi T.fd_Qi ["self"] (bG (ct T) h_):=by
 refine aN (b:=kH) T.H_Qi.F vI λcdv A outer s H E hr=> ?_;have hu:=hr.units;refine⟨_,(aJ (fu (K:=K) rfl (fk (pv 0) CZ rfl))
   (aK (fu (K:=K) rfl (fk (pv 0) CZ rfl)))),?_⟩
 exact(aI (fc (fI T) aj El)
   (fc (iF T) aj El))
theorem ok_law:FnOk P w K mg base (CXE P w) 12 T.f_law T.fd_law ["script"] (bG (ct T) Ht):=by
 refine aN (b:=xl) T.H_law.F kU λcdv A outer s H E hr=> ?_;have hu:=hr.units;refine⟨_,(aJ (bK (i:=1) kU.nd rfl (by trivial) (pW (oX T.C_Yl T.mt_Qi T.H_Qi (xk T)) (hm hr) aW))
   (aJ (bK (i:=2) kU.nd rfl (by trivial) (aO (bX T.H_Qe (y0 T)) (hm hr) aW (ak (pv 0) ax)))
   (aJ (bK (i:=3) kU.nd rfl (by trivial) (eg (JG) (by rfl) T.b_int Kp (ak (fz (cO (K:=K) rfl) (b7 P w K hu (pv 2) aC) (ee aC) fq) ax)))
   (aJ (bN (bV (cx hu) (aE cM (aO (bX T.H_Xn (AI T)) (hm hr) aW (ak (pv 0) (ak aC ax))) aC) aC (bP _)) (aK (bK (i:=3) kU.nd rfl (by trivial) aC)) (aK (bN (jK (fw (K:=K) rfl (aO (bX T.H_Xc (vL T)) (hm hr) aW (ak (pv 1) (ak (pv 0) (ak (pv 2) ax)))) (λ_=>rfl))) (aK (bq fh)) bU)))
   (aJ (bK (i:=4) kU.nd rfl (by trivial) (bY ax))
   (aJ (bN (bV (CQ) (pv 3) aC (bP _)) (aK (Ey (i:=4) kU.nd rfl (by trivial) (CompOk.mk (tgs:=["word"]) (cap:=["desk"]) (idx:=[1]) rfl rfl (by decide+kernel) (by decide+kernel) (zg.mpr ⟨rfl,(qx _)⟩) rfl (.cons rfl (by trivial) (by trivial) rfl rfl .nil)) rfl (cR (K:=K) rfl (bY (ak az (ak az (ak az ax))))) (gN (by decide)) (λ_ _ _ _=>(dj (i:=0) (show List.Nodup (α:=PySem.Str) ["word","desk"] by decide+kernel) rfl (by trivial))) (λ_ _ _ _=>gM) (λ_ _ _ _=>(cE P w K mg base 10 (dD (pv 1) (hm hr) k_ (ak (pv 0) ax)))))) bU)
   (aJ (bN (PW.pt (lJ (bV (CQ) (pv 3) aC (bP _)) (mr (bV (iz hu) (b7 P w K hu (pv 4) aC) (kW (K:=K) rfl (kS PySem.F.plainAttrs_str PySem.F.slot_str_join PySem.F.type_str_join (qA (K:=K) rfl) az (ak (pv 2) ax))) (bP _))))) (aK (bq fh)) bU)
   (aJ (mn eU rfl (cR (K:=K) rfl (fz (cO (K:=K) rfl) (pv 0) fq (ee aC))) (dj (i:=5) kU.nd rfl (by trivial)) (aJ (ug (aO (bX T.H_Qr (yh T)) (hm hr) aW (ak (pv 5) (ak (pv 3) (ak (aE m4 (cT (gR (P:=P) (w:=w) (K:=K) rfl rfl rfl) (by rfl) T.b_len hZ (ak (pv 2) ax)) aC) ax)))) (F6 (K:=K) rfl (FV (n:=2) rfl (uT (dj (i:=6) kU.nd rfl (by trivial)) (uT (dj (i:=7) kU.nd rfl (by trivial)) ED)))))
   (aJ (bN (bV (iz hu) (aO (bX T.H_Qz (m8 T)) (hm hr) aW (ak (pv 1) (ak (pv 6) ax))) (iu (CompOk.mk (tgs:=["k"]) (cap:=["due"]) (idx:=[7]) rfl rfl (by decide+kernel) (by decide+kernel) (zg.mpr ⟨rfl,(qx _)⟩) rfl (.cons rfl (by trivial) (by trivial) rfl rfl .nil)) rfl (zJ rfl T.b_range (ak aC ax)) (gN (by decide)) (λ_ _ _ _=>(dj (i:=0) (show List.Nodup (α:=PySem.Str) ["k","due"] by decide+kernel) rfl (by trivial))) (λ_ _ _ _=>gM) (λ_ _ _ _=>(mF (cx hu) (pv 1) (pv 0) (bP _)))) (bP _)) (aK (bq fh)) bU)
   (aK (bN (PW.pt (lJ (bV (CQ) (pv 3) aC (bP _)) (mr (bV (iz hu) (iu (CompOk.mk (tgs:=["word"]) (cap:=["desk"]) (idx:=[1]) rfl rfl (by decide+kernel) (by decide+kernel) (zg.mpr ⟨rfl,(qx _)⟩) rfl (.cons rfl (by trivial) (by trivial) rfl rfl .nil)) rfl (cR (K:=K) rfl (bY (ak az (ak az (ak az ax))))) (gN (by decide)) (λ_ _ _ _=>(dj (i:=0) (show List.Nodup (α:=PySem.Str) ["word","desk"] by decide+kernel) rfl (by trivial))) (λ_ _ _ _=>gM) (λ_ _ _ _=>(cE P w K mg base 10 (dD (pv 1) (hm hr) k_ (ak (pv 0) ax))))) (pv 4) (bP _))))) (aK (bq fh)) bU)))))
   (aJ (bN (PW.pt (u9 (bV (cx hu) (pv 3) aC (bP _)) (u6 (bV (cx hu) (cT (gR (P:=P) (w:=w) (K:=K) rfl rfl rfl) (by rfl) T.b_len hZ (ak (pv 2) ax)) aC (bP _))))) (aK (bq fh)) bU)
   (aJ (bN (bV (iz hu) (fz (cO (K:=K) rfl) (aO (bX T.H_Qz (m8 T)) (hm hr) aW (ak (pv 1) (ak (aE (bA (K:=K) rfl) az (eg (e_) (by rfl) T.b_str fo (ak (pv 3) ax))) ax))) fq (ee aC)) (bY (ak fh (ak fh (ak fh (ak fh ax))))) (bP _)) (aK (bq fh)) bU)
   (aK (bq (sR (mF (cx hu) (cE P w K mg base 10 (dD (pv 1) (hm hr) aW (ak (aE (bA (K:=K) rfl) az (eg (e_) (by rfl) T.b_str fo (ak (aE m4 (pv 3) aC) ax))) ax))) az (bP _)) (Kj (mF (cx hu) (cE P w K mg base 10 (dD (pv 1) (hm hr) aW (ak az ax))) az (bP _)))))))))))))))),?_⟩
 exact(aI (bJ (Kg (mf T) av) a_)
   (aI (bJ (bW (ao aj av)) a_)
   (aI (bJ (aP JO (ao (cL (aR aj aB) (d8 aB) e8) av)) a_)
   (aI (bM (bQ (ah cw (ah cQ (bW (ao aj (ao aB av))) aB) aB)) (bJ aB a_) (bM (kF (ft (bW (ao aj (ao aj (ao aj av)))))) (bp cI) bT))
   (aI (bJ (bF (bZ av)) a_)
   (aI (bM (bQ (ah Df aj aB)) (Fy (bF (fR (cN (bF (bZ (ao ay (ao ay (ao ay av)))))) a_ gF (cy (px T) aj (ao aj av))))) bT)
   (aI (bM (mE (bQ (ah Df aj aB)) (bQ (ah hX (aR aj aB) (ig qB ay (ao aj av))))) (bp cI) bT)
   (aI (nG (cN (cL aj e8 (d8 aB))) a_ (aI (bJ (bW (ao aj (ao aj (ao (ah nN (aP gZ (ao aj av)) aB) av)))) (Hj rfl (uX (uX Hg))))
   (aI (bM (bQ (ah hX (bW (ao aj (ao aj av))) (bF (fR (yR (ao aB av)) a_ gF (ah cw aj aj))))) (bp cI) bT)
   (bM (mE (bQ (ah Df aj aB)) (bQ (ah hX (bF (fR (cN (bF (bZ (ao ay (ao ay (ao ay av)))))) a_ gF (cy (px T) aj (ao aj av)))) aj))) (bp cI) bT))))
   (aI (bM (uA (bQ (ah cw aj aB)) (bQ (ah cw (aP gZ (ao aj av)) aB))) (bp cI) bT)
   (aI (bM (bQ (ah hX (cL (bW (ao aj (ao (ah bB ay (aP fe (ao aj av))) av))) e8 (d8 aB)) (bF (bZ (ao cI (ao cI (ao cI (ao cI av)))))))) (bp cI) bT)
   (bp (qY (ah cw (cy (px T) aj (ao (ah bB ay (aP fe (ao (ah nN aj aB) av))) av)) ay) (ah cw (cy (px T) aj (ao ay av)) ay)))))))))))))
end
end My
local macro_rules | `(tactic| k_head) => do
 let hw:=Lean.mkIdent `hw;let hc:=Lean.mkIdent `hc
 `(tactic| refine PySem.W.holds_open (q:=My.vw) (loose:=[(PySem.Str.ofString "NUMBERS_BEHIND")]) (Xt:=(λs=>PySem.W.xlAt My.vw [] s&&PySem.W.recOk (PySem.Challenge.rw_earthward_k39_rows_refused).row.records s)) (XP:=PySem.W.XL My.vw []) (Yf:=PySem.W.Hook.obs (PySem.W.kHook My.pre.heap_39 My.wAl My.wHk)) (Ya:=PySem.W.Hook.val (PySem.W.kHook My.pre.heap_39 My.wAl My.wHk)) (YP:=PySem.W.Hook.says (PySem.W.kHook My.pre.heap_39 My.wAl My.wHk)) (N:=9474) My.left (PySem.W.Hook.of (PySem.W.kHook My.pre.heap_39 My.wAl My.wHk)) (PySem.W.Hook.keeps (PySem.W.kHook My.pre.heap_39 My.wAl My.wHk)) (λs e=>PySem.W.xl_of s (wp.mp e).1) PySem.W.XL.keeps (by rfl) (by rfl) (by rfl) (λs e=>PySem.W.recFacts_of (wp.mp e).2) (by rfl) (by first | assumption | decide+kernel) (by decide+kernel) ⟨rfl,rfl,rfl,rfl,rfl,by decide+kernel⟩ ?$hw ?$hc)
set_option maxRecDepth 100000 in
set_option maxHeartbeats 0 in
theorem PySem.Challenge.cw_earthward_k39_rows_refused_holds : PySem.Challenge.rw_earthward_k39_rows_refused.Holds := by
 w_on;o_law;k_head;(case hw=>w_witness2)
 k_fill
 refine L2.walk_ofE (l:=PySem.Challenge.rw_earthward_k39_rows_refused) (n:=63) (k:=12) (x:="script") (CX:=λw=>L2.CXE (PySem.Challenge.rw_earthward_k39_rows_refused).prog w) (sp:=L2.spL) rfl (by decide) rfl ⟨rfl,by decide,by decide⟩ (λw h Y=>PySem.W.kIn_of Y) ?F ?S ?C
 case F=>
  intro w mg fa h KX G hmg
  have T:Nonempty (My.Txt (PySem.Challenge.rw_earthward_k39_rows_refused).prog w (L2.KOf KX) mg):=by
   dsimp only[L2.KOf]
   open L2 in refine' ⟨⟨_,clm KX G ?_ ?_ ?_ ?_ ?_ ?_ ?_,_,_,⟨?_,?_,?_⟩,fnm ?_ ?_ ?_,_,_,⟨?_,?_,?_⟩,fnm ?_ ?_ ?_,_,_,⟨?_,?_,?_⟩,fnm ?_ ?_ ?_,_,_,⟨?_,?_,?_⟩,fnm ?_ ?_ ?_,_,clm KX G ?_ ?_ ?_ ?_ ?_ ?_ ?_,_,_,⟨?_,?_,?_⟩,fnm ?_ ?_ ?_,_,_,⟨?_,?_,?_⟩,fnm ?_ ?_ ?_,⟨?_,?_,?_⟩,⟨?_,?_,?_⟩,⟨?_,?_,?_⟩,naOf ?_,_,clm KX G ?_ ?_ ?_ ?_ ?_ ?_ ?_,_,_,⟨?_,?_,?_⟩,fnm ?_ ?_ ?_,_,_,⟨?_,?_,?_⟩,fnm ?_ ?_ ?_,⟨?_,?_,?_⟩,⟨?_,?_,?_⟩,⟨?_,?_,?_⟩,naOf ?_,_,clm KX G ?_ ?_ ?_ ?_ ?_ ?_ ?_,_,_,⟨?_,?_,?_⟩,fnm ?_ ?_ ?_,_,_,⟨?_,?_,?_⟩,fnm ?_ ?_ ?_,⟨?_,?_,?_⟩,⟨?_,?_,?_⟩,⟨?_,?_,?_⟩,naOf ?_,naOf ?_,_,clm KX G ?_ ?_ ?_ ?_ ?_ ?_ ?_,_,_,⟨?_,?_,?_⟩,fnm ?_ ?_ ?_,_,_,⟨?_,?_,?_⟩,fnm ?_ ?_ ?_,_,_,⟨?_,?_,?_⟩,fnm ?_ ?_ ?_,⟨?_,?_,?_⟩,⟨?_,?_,?_⟩,naOf ?_,naOf ?_,_,clm KX G ?_ ?_ ?_ ?_ ?_ ?_ ?_,_,_,⟨?_,?_,?_⟩,fnm ?_ ?_ ?_,_,_,⟨?_,?_,?_⟩,fnm ?_ ?_ ?_,_,_,⟨?_,?_,?_⟩,fnm ?_ ?_ ?_,_,_,⟨?_,?_,?_⟩,fnm ?_ ?_ ?_,_,_,⟨?_,?_,?_⟩,fnm ?_ ?_ ?_,_,_,⟨?_,?_,?_⟩,fnm ?_ ?_ ?_,_,_,⟨?_,?_,?_⟩,fnm ?_ ?_ ?_,naOf ?_,_,clm KX G ?_ ?_ ?_ ?_ ?_ ?_ ?_,naOf ?_,naOf ?_,naOf ?_,naOf ?_,naOf ?_,naOf ?_,naOf ?_,_,clm KX G ?_ ?_ ?_ ?_ ?_ ?_ ?_,_,_,⟨?_,?_,?_⟩,fnm ?_ ?_ ?_,_,_,⟨?_,?_,?_⟩,fnm ?_ ?_ ?_,_,_,⟨?_,?_,?_⟩,fnm ?_ ?_ ?_,_,_,⟨?_,?_,?_⟩,fnm ?_ ?_ ?_,_,_,⟨?_,?_,?_⟩,fnm ?_ ?_ ?_,_,_,⟨?_,?_,?_⟩,fnm ?_ ?_ ?_,_,_,⟨?_,?_,?_⟩,fnm ?_ ?_ ?_,_,_,⟨?_,?_,?_⟩,fnm ?_ ?_ ?_,_,_,⟨?_,?_,?_⟩,fnm ?_ ?_ ?_,naOf ?_,naOf ?_,naOf ?_,naOf ?_,naOf ?_,naOf ?_,_,clm KX G ?_ ?_ ?_ ?_ ?_ ?_ ?_,_,_,⟨?_,?_,?_⟩,fnm ?_ ?_ ?_,_,_,⟨?_,?_,?_⟩,fnm ?_ ?_ ?_,_,_,⟨?_,?_,?_⟩,fnm ?_ ?_ ?_,_,_,⟨?_,?_,?_⟩,fnm ?_ ?_ ?_,_,_,⟨?_,?_,?_⟩,fnm ?_ ?_ ?_,_,_,⟨?_,?_,?_⟩,fnm ?_ ?_ ?_,_,_,⟨?_,?_,?_⟩,fnm ?_ ?_ ?_,naOf ?_,naOf ?_,_,?_,?_,PySem.W.mg_of KX G ?_,_,?_,?_,PySem.W.mg_of KX G ?_,_,?_,?_,PySem.W.mg_of KX G ?_,_,?_,?_,PySem.W.mg_of KX G ?_,_,?_,?_,PySem.W.mg_of KX G ?_,_,?_,?_,PySem.W.mg_of KX G ?_,_,?_,?_,PySem.W.mg_of KX G ?_,_,?_,?_,PySem.W.mg_of KX G ?_,_,?_,?_,PySem.W.mg_of KX G ?_,_,?_,?_,PySem.W.mg_of KX G ?_,_,?_,?_,PySem.W.mg_of KX G ?_,_,?_,?_,PySem.W.mg_of KX G ?_,_,?_,?_,PySem.W.mg_of KX G ?_,_,?_,?_,PySem.W.mg_of KX G ?_,_,?_,?_,PySem.W.mg_of KX G ?_,_,?_,?_,PySem.W.mg_of KX G ?_,_,rfl,_,_,fnt KX G ?_ (fnm ?_ ?_ ?_),_,_,fnt KX G ?_ (fnm ?_ ?_ ?_),_,_,fnt KX G ?_ (fnm ?_ ?_ ?_),_,_,fnt KX G ?_ (fnm ?_ ?_ ?_),_,_,fnt KX G ?_ (fnm ?_ ?_ ?_),_,_,fnt KX G ?_ (fnm ?_ ?_ ?_),_,_,fnt KX G ?_ (fnm ?_ ?_ ?_),_,_,fnt KX G ?_ (fnm ?_ ?_ ?_),_,_,fnt KX G ?_ (fnm ?_ ?_ ?_),_,_,fnt KX G ?_ (fnm ?_ ?_ ?_),_,_,fnt KX G ?_ (fnm ?_ ?_ ?_),_,_,fnt KX G ?_ (fnm ?_ ?_ ?_),_,_,fnt KX G ?_ (fnm ?_ ?_ ?_),_,_,fnt KX G ?_ (fnm ?_ ?_ ?_),_,_,fnt KX G ?_ (fnm ?_ ?_ ?_),_,_,fnt KX G ?_ (fnm ?_ ?_ ?_),_,_,fnt KX G ?_ (fnm ?_ ?_ ?_),_,_,fnt KX G ?_ (fnm ?_ ?_ ?_),_,_,fnt KX G ?_ (fnm ?_ ?_ ?_),_,_,fnt KX G ?_ (fnm ?_ ?_ ?_),_,_,fnt KX G ?_ (fnm ?_ ?_ ?_),_,_,fnt KX G ?_ (fnm ?_ ?_ ?_),_,_,fnt KX G ?_ (fnm ?_ ?_ ?_),_,_,fnt KX G ?_ (fnm ?_ ?_ ?_),_,_,fnt KX G ?_ (fnm ?_ ?_ ?_),_,_,fnt KX G ?_ (fnm ?_ ?_ ?_),_,_,fnt KX G ?_ (fnm ?_ ?_ ?_),_,_,fnt KX G ?_ (fnm ?_ ?_ ?_),_,_,fnt KX G ?_ (fnm ?_ ?_ ?_),_,_,fnt KX G ?_ (fnm ?_ ?_ ?_),_,_,fnt KX G ?_ (fnm ?_ ?_ ?_),_,_,fnt KX G ?_ (fnm ?_ ?_ ?_),_,_,fnt KX G ?_ (fnm ?_ ?_ ?_),_,_,fnt KX G ?_ (fnm ?_ ?_ ?_),_,_,fnt KX G ?_ (fnm ?_ ?_ ?_),_,_,fnt KX G ?_ (fnm ?_ ?_ ?_),PySem.W.mg_none_of KX G ?_,PySem.W.mg_none_of KX G ?_,PySem.W.mg_none_of KX G ?_,PySem.W.mg_none_of KX G ?_,PySem.W.mg_none_of KX G ?_,PySem.W.mg_none_of KX G ?_,PySem.W.mg_none_of KX G ?_,PySem.W.mg_none_of KX G ?_,PySem.W.mg_none_of KX G ?_,PySem.W.mg_none_of KX G ?_,PySem.W.mg_none_of KX G ?_,PySem.W.mg_none_of KX G ?_,PySem.W.mg_none_of KX G ?_,PySem.W.mg_none_of KX G ?_,PySem.W.mg_none_of KX G ?_,PySem.W.mg_none_of KX G ?_,PySem.W.mg_none_of KX G ?_,_,⟨_,PySem.W.mg_of KX G ?_,rfl⟩,⟨_,PySem.W.mg_of KX G ?_,_,rfl⟩,⟨_,PySem.W.mg_of KX G ?_,_,rfl⟩,⟨_,PySem.W.mg_of KX G ?_,_,rfl⟩,⟨_,PySem.W.mg_of KX G ?_,_,rfl⟩,⟨?_,?_,?_⟩,?_,?_,?_,?_,?_,?_,?_,?_,?_,?_,?_,?_,?_,?_,?_,⟨?_,?_,?_,?_,?_,?_⟩,?_,⟨?_,?_,?_,?_,?_,?_⟩,?_,⟨?_,?_,?_,?_,?_,?_⟩,?_,⟨?_,?_,?_,?_,?_,?_⟩,?_,⟨?_,?_,?_,?_,?_,?_⟩,?_,⟨?_,?_,?_,?_,?_,?_⟩,?_,⟨?_,?_,?_,?_,?_,?_⟩,?_,⟨?_,?_,?_,?_,?_,?_⟩,?_,⟨?_,?_,?_,?_,?_,?_⟩,?_,⟨?_,?_,?_,?_,?_,?_⟩,?_,⟨?_,?_,?_,?_,?_,?_⟩,?_,⟨?_,?_,?_,?_,?_,?_⟩,?_,⟨?_,?_,?_,?_,?_,?_⟩,?_,⟨?_,?_,?_,?_,?_,?_⟩,?_,⟨?_,?_,?_,?_,?_,?_⟩,?_,kdict_of ?_ ?_ ?_ ?_ (by decide+kernel),?_⟩⟩
   all_goals try first|(k_is;done)|(k_exc;done)|((dsimp only[L2.IoL];repeat' first|exact True.intro|refine And.intro ?_ ?_|kit_is);done)|(rfl;done)|(k_keys;done)|((repeat (first|exact True.intro|refine And.intro ⟨_,_,rfl,rfl⟩ (And.intro ⟨_,rfl⟩ ?_)));done)|(intro s u;exact .of_eq rfl;done)
  obtain⟨T⟩:=T
  have e0:=hmg.symm.trans T.H_law.m
  cases e0
  exact⟨_,T.Bl,λbase kb nb=>L2.law_ok (C:=My.ct T) (My.ok_law T) My.law_true⟩
 case S=>exact L2.spL_of
 case C=>exact λ_ _ _ _ _ z=>L2.cxe_out z
#print axioms PySem.Challenge.cw_earthward_k39_rows_refused_holds
