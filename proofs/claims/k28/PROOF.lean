import PyProof.Rows.All
import Wide.All
import OpenK.AllK
import Wide.FinOn
import Lean
import PyProof.EqAt
import PyProof.EqKinds
import PyProof.TupleCall
import PyProof.StrBlockL
import PyProof.Lay0
import KE.IntText
import PyProof.SliceList
import PyProof.StrLawsReplace
import PyProof.StrLawsIn
import KE.IntTextLaws
import KE.KIntText
import KE.KPairComp
import PyProof.Rows.StrMul
import PyProof.Rows.BitMore
import PySem.Challenge.RW_earthward_k28_two_ways
set_option Elab.async false
set_option linter.all false
set_option maxRecDepth 100000
noncomputable section
set_option genSizeOf false
set_option maxHeartbeats 4000000
section
local macro_rules | `(tactic| o_head $H) => `(tactic| exact False.elim (by assumption))
set_option maxHeartbeats 0 in
theorem My.pre(hF:False):PySem.Challenge.rw_earthward_k28_two_ways.Holds:=by
 w_on;o_law;k_head
end
namespace My
section
open PySem PySem.W
theorem left_boot{p q:Program}{loose:List Str}{Xt:Shared->Bool}{α:Type}{Yf:Shared->α}{Ya:World->α}{N:Nat}{g0:Bool}(e:opening p=plainProg p.main.scope.names)(hN:Nat.ble 600 N=true)(f:∀s,fenceModules? p s=some s)
  (h:∀(w:World) (os:OsState),(topFrom treeTable p w N ⟨boot_heap w.params,Array.mk [],boot_drawn,boot_toks,os⟩).map (λs=>(openSeen q loose (importedModules p.main.body) Xt g0 s,Yf s))=some (openGood q loose,Ya w)):LeftO p q loose Xt Yf Ya N g0:=λw=>by
 obtain⟨⟨hh,gs,d,k,os⟩,e1,e2⟩:=Option.map_eq_some_iff.mp (boot_open e hN f w)
 simp only[Prod.mk.injEq] at e2
 obtain⟨rfl,rfl,rfl,rfl⟩:=e2
 unfold openEnds
 rw[e1]
 exact h w os
abbrev RunOk(p q:Program)(loose:List Str)(Xt:Shared->Bool){α:Type}(Yf:Shared->α)(Ya:World->α)(g0:Bool)(w:World)(m₀:Nat)(ann:Option Value)(env:Env)(qp pb pf:Pos)(n3 n4:Nat)(Sb:SharedT)(l:List Stmt):Prop:=
  (segRunT treeTable p w m₀ ann 1 n3 Sb (piecesOf l env (.body (behindTheImports p) env) pb [topFrame qp])).bind (λr=>(topRun treeTable p w m₀ ann n4 r.2.1.abs ⟨doneF .next,.body (behindTheImports p) env,pf,[topFrame qp]⟩).bind λs₁=>
    some ((r.1,r.2.2.1,r.2.2.2),(staticsOk (importedModules p.main.body) (boot_heap w.params) s₁.heap&&namesBound p s₁.heap&&gensDone s₁&&laidKept (boot_heap w.params) s₁.heap),openSeen q loose (importedModules p.main.body) Xt g0 s₁,Yf s₁))=some ((.next,.body (behindTheImports p) env,pf),true,openGood q loose,Ya w)
abbrev RunA{β:Type}(p:Program)(w:World)(m₀:Nat)(ann:Option Value)(env:Env)(qp pb pf:Pos)(n3 n4:Nat)(Sb:SharedT)(l:List Stmt)(F:Shared->β)(v:β):Prop:=
  (segRunT treeTable p w m₀ ann 1 n3 Sb (piecesOf l env (.body (behindTheImports p) env) pb [topFrame qp])).bind (λr=>(topRun treeTable p w m₀ ann n4 r.2.1.abs ⟨doneF .next,.body (behindTheImports p) env,pf,[topFrame qp]⟩).bind λs₁=>some ((r.1,r.2.2.1,r.2.2.2),F s₁))=some ((.next,.body (behindTheImports p) env,pf),v)
abbrev chkA(p:Program)(w:World){α:Type}(Yf:Shared->α)(s₁:Shared):Bool×α:=(staticsOk (importedModules p.main.body) (boot_heap w.params) s₁.heap&&namesBound p s₁.heap&&gensDone s₁&&laidKept (boot_heap w.params) s₁.heap,Yf s₁)
def Ends(p q:Program)(loose:List Str)(Xt:Shared->Bool){α:Type}(Yf:Shared->α)(Ya:World->α)(g0:Bool)(w:World)(m₀:Nat)(ann:Option Value)(env:Env)(qp pb:Pos)(n:Nat)(Sb:SharedT)(l:List Stmt):Prop:=
  ∃s₁,topRun treeTable p w m₀ ann n Sb.abs (restOf l env (.body (behindTheImports p) env) pb [topFrame qp])=some s₁ /\ (staticsOk (importedModules p.main.body) (boot_heap w.params) s₁.heap&&namesBound p s₁.heap&&gensDone s₁&&laidKept (boot_heap w.params) s₁.heap)=true /\ openSeen q loose (importedModules p.main.body) Xt g0 s₁=openGood q loose /\ Yf s₁=Ya w
section
variable {p q : Program} {loose : List Str} {Xt : Shared -> Bool} {α : Type} {Yf : Shared -> α} {Ya : World -> α} {g0 : Bool} {w : World} {m₀ : Nat} {ann : Option Value} {env : Env} {qp pb : Pos} {Sb : SharedT} {l : List Stmt}
theorem ends_one{pf:Pos}{n3 n4:Nat}(run:RunOk p q loose Xt Yf Ya g0 w m₀ ann env qp pb pf n3 n4 Sb l):Ends p q loose Xt Yf Ya g0 w m₀ ann env qp pb (n3+n4) Sb l:=by
 obtain⟨⟨f,s2,c2,p2⟩,hr,h⟩:=Option.bind_eq_some_iff.mp run
 obtain⟨s₁,hs,h⟩:=Option.bind_eq_some_iff.mp h
 simp only[Option.some.injEq,Prod.mk.injEq] at h
 obtain⟨⟨rfl,rfl,rfl⟩,l1,l2,l3⟩:=h
 have k3:=piece_app (rest:=[]) (segRun_of hr) (piece_nil hs)
 rw[List.append_nil] at k3
 exact⟨s₁,k3,l1,l2,l3⟩
end
theorem top_tree{p q:Program}{loose:List Str}{Xt:Shared->Bool}{α:Type}{Yf:Shared->α}{Ya:World->α}{N:Nat}{g0:Bool}{w:World}{os:OsState}{m₀:Nat}{ann:Option Value}{env:Env}{qp pp pb:Pos}{n1 n2 n3:Nat}{Sa:Shared}{Sb:SharedT}
  (size:((boot_heap w.params).isNs mainGlobals&&(Array.mk []:Array GenState).size==0,(boot_heap w.params).objs.size,(boot_heap w.params).nsMap mainGlobals "__annotations__")=(true,m₀,ann))
  (pre:topGo treeTable p w m₀ ann n1 ⟨boot_heap w.params,Array.mk [],boot_drawn,boot_toks,os⟩ (topStub p)=some (Sa,⟨denote treeTable (.body (behindTheImports p) env),.body (behindTheImports p) env,pp,[topFrame qp]⟩))
  (block:segRun treeTable p w m₀ ann 1 n2 Sa (blockOf (behindTheImports p) env (.body (behindTheImports p) env) pp [topFrame qp])=some (.next,Sb.abs,.body (behindTheImports p) env,pb))
  (run:Ends p q loose Xt Yf Ya g0 w m₀ ann env qp pb n3 Sb (behindTheImports p))
  (le:Nat.ble (n1+(n2+n3)) N=true):
  (topFrom treeTable p w N ⟨boot_heap w.params,Array.mk [],boot_drawn,boot_toks,os⟩).map (λs=>(openSeen q loose (importedModules p.main.body) Xt g0 s,Yf s))=some (openGood q loose,Ya w):=by
 obtain⟨s₁,k3,l1,l2,l3⟩:=run
 have k1:=go_top pre (piece_block block k3)
 have r:=topRun_mono (N - (n1+(n2+n3))) _ _ _ _ k1
 rw[show n1+(n2+n3)+(N - (n1+(n2+n3)))=N by have:=Nat.le_of_ble_eq_true le;omega] at r
 obtain⟨z1,z2,z3⟩:_ /\ _ /\ _:=by simpa only[Prod.mk.injEq] using size
 have t:topFrom treeTable p w N ⟨boot_heap w.params,Array.mk [],boot_drawn,boot_toks,os⟩=some s₁:=by
  unfold topFrom
  dsimp only
  rw[z1,z2,z3,r]
  show(match staticsOk (importedModules p.main.body) (boot_heap w.params) s₁.heap&&namesBound p s₁.heap&&gensDone s₁&&laidKept (boot_heap w.params) s₁.heap with | true=>_ | false=>_)=_
  rw[l1]
 rw[t]
 exact congrArg some (Prod.ext l2 l3)
end
def o0:=PySem.W.boot_o_0
def o1:=PySem.W.boot_o_1
def o2:=PySem.W.boot_o_2
def o3:=PySem.W.boot_o_3
def o4:=PySem.W.boot_o_4
def o5:=PySem.W.boot_o_5
def o6:=PySem.W.boot_o_6
def o7:=PySem.W.boot_o_7
def o8:=PySem.W.boot_o_8
def o9:=PySem.W.boot_o_9
def o10:=PySem.W.boot_o_10
def o11(_:PySem.Params):PySem.Obj:= .mk (.type "tuple") none (.seq #[]) #[]
def o12(_:PySem.Params):PySem.Obj:= .mk .none none (.fields #[]) #[]
def o13(_:PySem.Params):PySem.Obj:= .mk (.type "code") none (.fields #[.str (PySem.Str.ofString "<module>") 182,.str (PySem.Str.ofString "<module>") 183,.str (PySem.Str.ofString "/claim/cut.py") 184,.int 1 0,.int 0 0,.int 0 0,.int 0 0,.int 0 0,.ref 11,.bool false,.int 181 0,.ref 12,.none,.none,.none,.none,.int 185 0,.int 1 0,.str (PySem.Str.ofString "/claim/cut.py") 186]) #[]
def o14(_:PySem.Params):PySem.Obj:= .mk (.type "frame") none .plain #[some (.ref 13),some (.ref 3),some (.ref 3),none,some (.str (PySem.Str.ofString "__main__") 164),none,some (.ref 0)]
def Sa(w:PySem.World)(os:PySem.OsState):PySem.Shared:=let P:=w.params;⟨⟨⟨[o0 P,o1 P,o2 P,o3 P,o4 P,o5 P,o6 P,o7 P,o8 P,o9 P,o10 P,o11 P,o12 P,o13 P,o14 P]⟩,{}⟩,Array.mk [],{},187,os⟩
def bt(P:PySem.Params):PySem.W.BT:=(.node (o0 P) (.node (o1 P) (.node (o3 P) (.node (o7 P) .nil .nil) (.node (o11 P) .nil .nil)) (.node (o5 P) (.node (o9 P) .nil .nil) (.node (o13 P) .nil .nil))) (.node (o2 P) (.node (o4 P) (.node (o8 P) .nil .nil) (.node (o12 P) .nil .nil)) (.node (o6 P) (.node (o10 P) .nil .nil) (.node (o14 P) .nil .nil))))
def Sb(w:PySem.World)(os:PySem.OsState):PySem.W.SharedT:=⟨bt w.params,15,{},Array.mk [],{},187,os⟩
def tenv:PySem.Env:={scope:=PySem.Challenge.pw_earthward_k28_two_ways.main.scope,locals:=PySem.mainNs,globals:=PySem.mainNs,cells:=[],code:= .ref 13,frame:=some 14}
def vw:PySem.Program:={PySem.Challenge.pw_earthward_k28_two_ways with main:={PySem.Challenge.pw_earthward_k28_two_ways.main with body:=[0,2,3,4,5,6,7,9,10,11,12,13,14,15,17,18,20,21,22,23,24,25,26,27,28,29,30].filterMap λi=>PySem.Challenge.pw_earthward_k28_two_ways.main.body[i]?}}
end My
set_option maxRecDepth 100000
set_option maxHeartbeats 0
abbrev My.kL:List PySem.Addr:=[2,3,15,17,18,20,21,29,31,32,34,35,36,38,39,41,42,43,45,46,48,49,50,52,53,55,56,57,58,59,60,61,64,71,73,74,76,77,78,80,81,83,84,85,86,87,90,97,99,100,102,103,104,106,107,109,110,111,112,113,116,123,125,126,128,129,130,132,133,135,136,137,138,139,142,149,151,152,154,155,156,158,159,161,162,163,165,166,168,169,170,171,172,175,177,178,180,181,182,184,185,187,188,196,199,200,201,204,205,206,209,210,211,213,214,216,217,218,220,221,223,224,225,227,228,230,231,232,234,235,237,238,239,240,241,242,243,246,248,249,251,252,253,256,257,258,260,261,263,264,265,267,268,270,271,272,274,275,277,278,286,288,289,291,292,293,295,296,298,299,300,302,303,305,306,307,309,310,312,313,314,316,317,319,320,321,323,324,326,327,328,330,331,333,334,335,337,338,340,341,342,344,345,347,348,349,351,352,354,355,356,358,359,361,362,363,364,365,366,367,370,373,374,375,377,378,380,381,382,384,385,387,388,389,391,392,394,395,396,399,400,401,404,405,406,408,409,411,412,413,415,416,418,419,420,422,423,425,426,427,429,430,432,433,434,437,438,439,441,442,444,445]
namespace My
theorem run0(w:PySem.World)(os:PySem.OsState):RunOk PySem.Challenge.pw_earthward_k28_two_ways My.vw [] (λs=>PySem.W.xlAt My.vw [] s&&PySem.W.recOk (PySem.Challenge.rw_earthward_k28_two_ways).row.records s) (PySem.W.Hook.obs (PySem.W.kHook My.pre.heap_39 My.kL (λ_=>by kernel_rfl))) (PySem.W.Hook.val (PySem.W.kHook My.pre.heap_39 My.kL (λ_=>by kernel_rfl))) true w 11 (some (.ref 6)) My.tenv ⟨0,0,0,0⟩ ⟨0,0,0,0⟩ ⟨309,0,317,15⟩ 3485 5 (My.Sb w os) (PySem.W.behindTheImports PySem.Challenge.pw_earthward_k28_two_ways):=by kernel_rfl
theorem left:PySem.W.LeftO PySem.Challenge.pw_earthward_k28_two_ways My.vw [] (λs=>PySem.W.xlAt My.vw [] s&&PySem.W.recOk (PySem.Challenge.rw_earthward_k28_two_ways).row.records s) (PySem.W.Hook.obs (PySem.W.kHook My.pre.heap_39 My.kL (λ_=>by kernel_rfl))) (PySem.W.Hook.val (PySem.W.kHook My.pre.heap_39 My.kL (λ_=>by kernel_rfl))) 4185 true:=My.left_boot (by kernel_rfl) (by kernel_rfl) (λs=>rfl) (λw os=>My.top_tree (os:=os) (m₀:=11) (ann:=some (.ref 6)) (env:=My.tenv) (qp:=⟨0,0,0,0⟩) (pp:=⟨0,0,0,0⟩) (pb:=⟨0,0,0,0⟩) (n1:=12) (n2:=1) (n3:=3490) (Sa:=My.Sa w os) (Sb:=My.Sb w os) (by kernel_rfl) (by kernel_rfl) (by kernel_rfl) (My.ends_one (My.run0 w os)) (by kernel_rfl))
end My
set_option maxHeartbeats 4000000
namespace L2
open PySem PySem.Spec PyProof.Rows
abbrev Key:=Sum Int Str
def jkh:Key->Value->Bool
 | .inl k,v=>Value.isInt k v
 | .inr x,v=>Value.isStrOf x v
def keyH(w:World):Key->Int
 | .inl k=>hashInt k
 | .inr x=>hashStr w x
theorem jbl:∀{k:Key} {v:Value},jkh k v=true->(∃i t,k=Sum.inl i /\ v=Value.int i t) \/ (∃x t,k=Sum.inr x /\ v=Value.str x t)
 | .inl i,v,h=>by
  obtain⟨t,e⟩:=Value.isInt_shape (k:=i) (v:=v) h
  exact .inl ⟨i,t,rfl,e⟩
 | .inr x,v,h=>by
  obtain⟨t,e⟩:=Value.isStrOf_shape (x:=x) (v:=v) h
  exact .inr ⟨x,t,rfl,e⟩
theorem jra(i:Int)(t:Tok):jkh (.inl i) (.int i t)=true:=by simp[jkh,Value.isInt]
theorem jps(x:Str)(t:Tok):jkh (.inr x) (.str x t)=true:=by simp[jkh,Value.isStrOf]
theorem key_ll(a b:Int):decide ((Sum.inl a:Key)=Sum.inl b)=(a==b):=by
 by_cases e:a=b
 ·subst e;simp
 ·have h:¬(Sum.inl a:Key)=Sum.inl b:=λq=>e (Sum.inl.inj q)
  rw[decide_eq_false h]
  exact(beq_eq_false_iff_ne.mpr e).symm
theorem key_rr(a b:Str):decide ((Sum.inr a:Key)=Sum.inr b)=decide (a=b):=by
 by_cases e:a=b
 ·subst e;simp
 ·have h:¬(Sum.inr a:Key)=Sum.inr b:=λq=>e (Sum.inr.inj q)
  rw[decide_eq_false h,decide_eq_false e]
theorem key_lr(a:Int)(b:Str):decide ((Sum.inl a:Key)=Sum.inr b)=false:=decide_eq_false (λq=>nomatch q)
theorem key_rl(a:Str)(b:Int):decide ((Sum.inr a:Key)=Sum.inl b)=false:=decide_eq_false (λq=>nomatch q)
def jbf(prog:Program)(w:World):PySem.KeyKind prog w Key where
 is:=jkh
 hash:=keyH w
 inj:=λv a b ha hb=>by
  rcases jbl ha with⟨i,t,rfl,rfl⟩ | ⟨x,t,rfl,rfl⟩
  ·rcases jbl hb with⟨j,u,rfl,e⟩ | ⟨y,u,rfl,e⟩
   ·injection e with e1 _;rw[e1]
   ·exact nomatch e
  ·rcases jbl hb with⟨j,u,rfl,e⟩ | ⟨y,u,rfl,e⟩
   ·exact nomatch e
   ·injection e with e1 _;rw[e1]
 byValue:=λk v h=>by
  rcases jbl h with⟨i,t,rfl,rfl⟩ | ⟨x,t,rfl,rfl⟩<;>rfl
 pyHash:=λhv h=>by
  rcases jbl hv with⟨i,t,rfl,rfl⟩ | ⟨x,t,rfl,rfl⟩
  ·exact wpAny_pyHash_int h
  ·exact wpAny_pyHash_str h
 eqBool:=λhu hv h=>by
  rcases jbl hu with⟨i,t,rfl,rfl⟩ | ⟨x,t,rfl,rfl⟩
  ·rcases jbl hv with⟨j,u,rfl,rfl⟩ | ⟨y,u,rfl,rfl⟩
   ·rw[key_ll] at h;exact wpAny_eqBool_int h
   ·rw[key_lr] at h;exact SeqAt.EqAt.int_str i t y u _ _ _ _ h
  ·rcases jbl hv with⟨j,u,rfl,rfl⟩ | ⟨y,u,rfl,rfl⟩
   ·rw[key_rl] at h;exact SeqAt.EqAt.str_int x t j u _ _ _ _ h
   ·rw[key_rr] at h;exact wpAny_eqBool_str h
 «strs»:=λk x t v h=>by
  rcases jbl h with⟨i,u,rfl,e⟩ | ⟨y,u,rfl,e⟩
  ·exact nomatch e
  ·injection e with e1 _
   subst e1
   cases v<;>rfl
theorem jm2(prog:Program)(w:World)(i:Int)(t:Tok):(jbf prog w).is (.inl i) (.int i t)=true:=jra i t
theorem jm1(prog:Program)(w:World)(x:Str)(t:Tok):(jbf prog w).is (.inr x) (.str x t)=true:=jps x t
inductive V where
 | non | bl (b:Bool) | int (i:Int) | str (x:Str) | byt (b:Array UInt8) | flt (b:UInt64) | ref (a:Addr) | ty (n:String)
 deriving DecidableEq
def RelV:V->Value->Prop
 | .non,u=>u=Value.none
 | .bl b,u=>u=Value.bool b
 | .int i,u=>∃t,u=Value.int i t
 | .str x,u=>∃t,u=Value.str x t
 | .byt b,u=>∃t,u=Value.bytes b t
 | .flt b,u=>∃t,u=Value.float b t
 | .ref a,u=>u=Value.ref a
 | .ty n,u=>u=Value.type n
abbrev Vals:List V->List Value->Prop:=Paired RelV
theorem Vals.length{xs:List V}{us:List Value}(r:Vals xs us):xs.length=us.length:=Paired.length r
theorem Vals.get:∀{xs:List V} {us:List Value} {i:Nat} {x:V},Vals xs us->xs[i]?=some x->∃u,us[i]?=some u /\ RelV x u
 | _,_,_,_,.nil,e=>by simp at e
 | _,_,0,_,.cons r _,e=>by simp at e;subst e;exact⟨_,rfl,r⟩
 | _,_,i+1,x,.cons _ t,e=>by
  obtain⟨u,h1,h2⟩:=Vals.get (i:=i) (x:=x) t (by simpa using e)
  exact⟨u,by simpa using h1,h2⟩
theorem Vals.append:∀{xs ys:List V} {us ws:List Value},Vals xs us->Vals ys ws->Vals (xs++ys) (us++ws)
 | _,_,_,_,.nil,s=>s
 | _,_,_,_,.cons r t,s=> .cons r (Vals.append t s)
theorem Vals.take:∀{xs:List V} {us:List Value} (n:Nat),Vals xs us->Vals (xs.take n) (us.take n)
 | _,_,0,_=> .nil
 | _,_,_+1,.nil=> .nil
 | _,_,n+1,.cons r t=> .cons r (Vals.take n t)
theorem Vals.drop:∀{xs:List V} {us:List Value} (n:Nat),Vals xs us->Vals (xs.drop n) (us.drop n)
 | _,_,0,r=>r
 | _,_,_+1,.nil=> .nil
 | _,_,n+1,.cons _ t=>Vals.drop n t
def RelO:Option V->Option Value->Prop
 | some v,some u=>RelV v u
 | none,none=>True
 | _,_=>False
def KV{κ:Type}:List (κ×V)->List (κ×Value)->Prop:=Paired λ(p:κ×V) (q:κ×Value)=>p.1=q.1 /\ RelV p.2 q.2
def kV:Key->V
 | .inl i=> .int i
 | .inr x=> .str x
inductive HO where
 | lst (xs:List V)
 | tup (xs:List V)
 | dK (kvs:List (Key×V)) | dT (kvs:List (List Key×V))
 | set (S:Int->Bool) (n:Nat)
 | ins (C dx:Addr) (fs:List (Str×V))
 | own (x:Addr)
 | xd (fs:List (Str×V))
 | met (f x:Addr)
 | rng (lo hi:Int)
 | frz (o:Obj) (u:HO)
 | tbl (ps:Array Value)
 | ext (φ:Heap->Prop)
abbrev Hp:=Addr->Option HO
def upd(H:Hp)(a:Addr)(o:HO):Hp:=λb=>if b=a then some o else H b
theorem jap{H:Hp}{a:Addr}{o:HO}:upd H a o a=some o:=by unfold upd;rw[if_pos rfl]
theorem jad{H:Hp}{a b:Addr}{o:HO}(h:b≠a):upd H a o b=H b:=by unfold upd;rw[if_neg h]
theorem ne_of{H:Hp}{a b:Addr}{o u:HO}(h:H a=some o)(h':H b=some u)(d:o≠u):a≠b:=by
 intro e;subst e;rw[h] at h';exact d (Option.some.inj h')
theorem jb4{H:Hp}{a b:Addr}{o:HO}(h:H a=some o)(h':H b=none):a≠b:=by
 intro e;subst e;rw[h] at h';cases h'
section
variable (P : Program) (w : World)
def jby(H:Hp)(h:Heap)(a:Addr):HO->Prop
 | .lst xs=>xs.length<=sizeLine /\ ∃(its:List Value) (n:Nat),Vals xs its /\ h.get? a=some {cls:= .type "list",data:= .seq its.toArray n}
 | .tup xs=>xs.length<=sizeLine /\ ∃its:List Value,Vals xs its /\ IsTup h a its.toArray
 | .dK kvs=>kvs.length<=sizeLine /\ (a==sysModules)=false /\ ∃vs,KV kvs vs /\ h.DictOf (jbf P w) a vs
 | .dT kvs=>kvs.length<=sizeLine /\ (a==sysModules)=false /\ ∃xs:List (List Key×Addr×Value),
   Paired (λ(p:List Key×V) (q:List Key×Addr×Value)=>p.1=q.1 /\ H q.2.1=some (.tup (p.1.map kV)) /\ RelV p.2 q.2.2) kvs xs /\
   ∃o es ep,h.get? a=some o /\ o.ExactDict /\ o.data= .dict es ep /\ es.toList=xs.map (entryOfKey (tupleKind (jbf P w))) /\ (xs.map (·.1)).Nodup
 | .set S n=>h.SetOf (intKind P w) a S n
 | .ins C dx fs=>H dx=some (.own a) /\ fs.length<=1000 /\ dx≠a /\ h.get? a=some (W.instObj C dx) /\
   ∃mA,h.Ns1 dx mA /\ (∀f,RelO (fs.lookup f) (mA f)) /\ PySem.Within mA (fs.map (·.1))
 | .own _=>∃o,h.get? a=some o
 | .xd fs=>∃mA,h.Ns1 a mA /\ ∀f,RelO (fs.lookup f) (mA f)
 | .rng lo hi=>∃t u v,h.get? a=some {cls:= .type "range",data:= .fields #[.int lo t,.int hi u,.int 1 v]}
 | .frz o u=>h.get? a=some o /\ jby H h a u
 | .tbl ps=>h.get? a=some {cls:= .none,data:= .fields ps}
 | .met f x=>h.get? a=some (W.methodObj (.ref f) (.ref x))
 | .ext φ=>φ h /\ (∃o,h.get? a=some o) /\ ∀h1 h2:Heap,φ h1->(∀o,h1.get? a=some o->h2.get? a=some o)->φ h2
def HOk(H:Hp)(h:Heap):Prop:=∀a o,H a=some o->jby P w H h a o
end
section
variable {P : Program} {w : World} {H H' : Hp} {h h' : Heap} {a : Addr} {o : HO}
theorem jby.lt(x:jby P w H h a o):a<h.objs.size:=by
 cases o with
 | lst xs=>obtain⟨_,_,_,_,e⟩:=x;exact Heap.lt_size e
 | tup xs=>obtain⟨_,_,_,p⟩:=x;exact p.lt
 | dK kvs=>obtain⟨_,_,_,_,o,_,_,e,_⟩:=x;exact Heap.lt_size e
 | dT kvs=>obtain⟨_,_,_,_,o,_,_,e,_⟩:=x;exact Heap.lt_size e
 | set S n=>obtain⟨o,_,_,_,e,_⟩:=x;exact Heap.lt_size e
 | ins C dx fs=>obtain⟨_,_,_,e,_⟩:=x;exact Heap.lt_size e
 | own y=>obtain⟨_,e⟩:=x;exact Heap.lt_size e
 | xd fs=>obtain⟨_,⟨_,_,_,e,_⟩,_⟩:=x;exact Heap.lt_size e
 | rng lo hi=>obtain⟨_,_,_,e⟩:=x;exact Heap.lt_size e
 | frz ob u=>obtain⟨e,_⟩:=x;exact Heap.lt_size e
 | tbl ps=>exact Heap.lt_size (show h.get? a=some _ from x)
 | met f y=>exact Heap.lt_size (show h.get? a=some _ from x)
 | ext φ=>obtain⟨_,⟨_,e⟩,_⟩:=x;exact Heap.lt_size e
theorem Paired.mapP{α β:Type}{F G:α->β->Prop}:∀{l₁:List α} {l₂:List β},Paired F l₁ l₂->(∀a b,F a b->G a b)->Paired G l₁ l₂
 | _,_,.nil,_=> .nil
 | _,_,.cons r t,f=> .cons (f _ _ r) (Paired.mapP t f)
theorem jby.stay(x:jby P w H h a o)(k:∀b u,(b=a \/ H b=some (.own a))->h.get? b=some u->h'.get? b=some u)
  (ho:∀b,H b=some (.own a)->H' b=some (.own a)) (ht:∀b xs,H b=some (.tup xs)->H' b=some (.tup xs)):jby P w H' h' a o:=by
 induction o with
 | lst xs=>obtain⟨z,its,n,r,e⟩:=x;exact⟨z,its,n,r,k _ _ (.inl rfl) e⟩
 | tup xs=>obtain⟨z,its,r,ob,e,c⟩:=x;exact⟨z,its,r,ob,k _ _ (.inl rfl) e,c⟩
 | dK kvs=>obtain⟨z,y,vs,r,ob,es,ep,e,c⟩:=x;exact⟨z,y,vs,r,ob,es,ep,k _ _ (.inl rfl) e,c⟩
 | dT kvs=>
  obtain⟨z,y,xs,r,ob,es,ep,e,c⟩:=x
  exact⟨z,y,xs,Paired.mapP r λp q z=>⟨z.1,ht _ _ z.2.1,z.2.2⟩,ob,es,ep,k _ _ (.inl rfl) e,c⟩
 | set S n=>obtain⟨ob,es,ep,t,e,c⟩:=x;exact⟨ob,es,ep,t,k _ _ (.inl rfl) e,c⟩
 | ins C dx fs=>
  obtain⟨d,z,ne,e,mA,⟨od,es,ep,e2,c⟩,r⟩:=x
  exact⟨ho _ d,z,ne,k _ _ (.inl rfl) e,mA,⟨od,es,ep,k _ _ (.inr d) e2,c⟩,r⟩
 | own y=>obtain⟨ob,e⟩:=x;exact⟨ob,k _ _ (.inl rfl) e⟩
 | xd fs=>obtain⟨mA,⟨od,es,ep,e,c⟩,r⟩:=x;exact⟨mA,⟨od,es,ep,k _ _ (.inl rfl) e,c⟩,r⟩
 | rng lo hi=>obtain⟨t,u,v,e⟩:=x;exact⟨t,u,v,k _ _ (.inl rfl) e⟩
 | frz ob u ih=>obtain⟨e,q⟩:=x;exact⟨k _ _ (.inl rfl) e,ih q⟩
 | tbl ps=>
  have e:h.get? a=some {cls:= .none,data:= .fields ps}:=x
  show h'.get? a=some {cls:= .none,data:= .fields ps}
  exact k a _ (.inl rfl) e
 | met f y=>
  have e:h.get? a=some (W.methodObj (.ref f) (.ref y)):=x
  show h'.get? a=some (W.methodObj (.ref f) (.ref y))
  exact k a _ (.inl rfl) e
 | ext φ=>obtain⟨p,⟨o,e⟩,st⟩:=x;exact⟨st _ _ p λo q=>k _ _ (.inl rfl) q,⟨o,k _ _ (.inl rfl) e⟩,st⟩
theorem HOk.lt(x:HOk P w H h)(e:H a=some o):a<h.objs.size:=(x a o e).lt
theorem HOk.fresh(x:HOk P w H h)(e:h.objs.size<=a):H a=none:=by
 cases q:H a with
 | none=>rfl
 | some u=>exact absurd (Nat.lt_of_lt_of_le (x.lt q) e) (Nat.lt_irrefl _)
theorem HOk.kept(x:HOk P w H h)(k:∀b u,h.get? b=some u->h'.get? b=some u):HOk P w H h':=λa o e=>
 (x a o e).stay (λb u _ q=>k b u q) (λ_ q=>q) λ_ _ q=>q
theorem HOk.laid(x:HOk P w H h)(k:∀b u,h.get? b=some u->h'.get? b=some u)(hp:h.objs.size<=a)(new:jby P w (upd H a o) h' a o):HOk P w (upd H a o) h':=λb u e=>by
 have hn:=x.fresh hp
 by_cases hb:b=a
 ·subst hb;rw[jap] at e;cases e;exact new
 ·rw[jad hb] at e
  exact(x b u e).stay (λc v _ q=>k c v q) (λc q=>by rw[jad (jb4 q hn)];exact q) λc xs q=>by rw[jad (jb4 q hn)];exact q
end
def Rd(H:Hp)(a:Addr)(u:HO):Prop:=H a=some u \/ ∃o,H a=some (.frz o u)
theorem Rd.ok{P:Program}{w:World}{H:Hp}{h:Heap}{a:Addr}{u:HO}(r:Rd H a u)(x:HOk P w H h):jby P w H h a u:=by
 rcases r with r | ⟨o,r⟩
 ·exact x a u r
 ·obtain⟨_,q⟩:=x a _ r
  exact q
def Mut:Option HO->Prop
 | some (.lst _)=>True
 | some (.dK _)=>True
 | some (.dT _)=>True
 | some (.set _ _)=>True
 | some (.ins _ _ _)=>True
 | some (.ext _)=>True
 | _=>False
section
variable {P : Program} {w : World} {H : Hp} {h h' : Heap} {x e : Addr} {o' : HO}
theorem HOk.write(ok:HOk P w H h)(mu:Mut (H x))(he:e=x \/ H e=some (.own x))(k:∀b u,b≠e->h.get? b=some u->h'.get? b=some u)(heo:∃u,h'.get? e=some u)
  (new:jby P w (upd H x o') h' x o'):HOk P w (upd H x o') h':=λb u q=>by
 have nown:∀c y,H c=some (.own y)->c≠x:=λc y r z=>by subst z;rw[r] at mu;exact mu
 have ntup:∀c xs,H c=some (.tup xs)->c≠x:=λc xs r z=>by subst z;rw[r] at mu;exact mu
 by_cases hb:b=x
 ·subst hb;rw[jap] at q;cases q;exact new
 ·rw[jad hb] at q
  by_cases hbe:b=e
  ·have q':H b=some (.own x):=by
    rcases he with z | z
    ·exact absurd (hbe.trans z) hb
    ·rw[hbe];exact z
   rw[q] at q';cases q'
   obtain⟨v,hv⟩:=heo
   exact⟨v,by rw[hbe];exact hv⟩
  ·refine(ok b u q).stay (λc v hc r=>k c v ?_ r) (λc r=>by rw[jad (nown c b r)];exact r) λc xs r=>by rw[jad (ntup c xs r)];exact r
   rcases hc with rfl | hc
   ·exact hbe
   ·rintro rfl
    rcases he with z | z
    ·exact nown c b hc z
    ·rw[hc] at z;cases z;exact hb rfl
end
structure Un (fs ex:List Addr) (H H':Hp) (h h':Heap):Prop where
 keep:∀b o,h.get? b=some o->H b=none->b∉fs->b∉ex->h'.get? b=some o
 slot:∀b o,h.get? b=some o->H b=none->b∈fs->b∉ex->∃sl,h'.get? b=some {o with slots:=sl}
 free:∀b o,h.get? b=some o->H b=none->b∉ex->H' b=none
 there:∀b o,h.get? b=some o->b∉ex->∃o',h'.get? b=some o'
 tups:∀b xs,H b=some (.tup xs)->H' b=some (.tup xs)
 frzs:∀b o u,H b=some (.frz o u)->H' b=some (.frz o u)
 tbls:∀b ps,H b=some (.tbl ps)->∃more,H' b=some (.tbl (ps++more))
section
variable {fs fs' ex ex' : List Addr} {H H1 H2 : Hp} {h h1 h2 h' : Heap} {a x e : Addr} {o : HO}
theorem Un.any(u:Un fs ex H H1 h h1){b:Addr}{ob:Obj}(q:h.get? b=some ob)(n:H b=none)(hx:b∉ex):∃sl,h1.get? b=some {ob with slots:=sl}:=by
 by_cases hb:b∈fs
 ·exact u.slot b ob q n hb hx
 ·exact⟨ob.slots,u.keep b ob q n hb hx⟩
theorem Un.kept(k:∀b u,h.get? b=some u->h'.get? b=some u):Un fs ex H H h h':=
 ⟨λb ob q _ _ _=>k b ob q,λb ob q _ _ _=>⟨ob.slots,k b ob q⟩,λ_ _ _ n _=>n,λb ob q _=>⟨ob,k b ob q⟩,λ_ _ q=>q,λ_ _ _ q=>q,λ_ ps q=>⟨#[],by rw[q];simp⟩⟩
theorem Un.refl:Un fs ex H H h h:=Un.kept λ_ _ q=>q
theorem Un.laid(k:∀b u,h.get? b=some u->h'.get? b=some u)(hp:h.objs.size<=a)(hn:H a=none):Un fs ex H (upd H a o) h h' where
 keep:=λb u q _ _ _=>k b u q
 slot:=λb u q _ _ _=>⟨u.slots,k b u q⟩
 free:=λb u q n _=>by rw[jad (Nat.ne_of_lt (Nat.lt_of_lt_of_le (Heap.lt_size q) hp))];exact n
 there:=λb u q _=>⟨u,k b u q⟩
 tups:=λb xs q=>by rw[jad (jb4 q hn)];exact q
 frzs:=λb u xs q=>by rw[jad (jb4 q hn)];exact q
 tbls:=λb ps q=>⟨#[],by rw[jad (jb4 q hn),q];simp⟩
theorem Un.write(mu:Mut (H x))(he:e=x \/ H e=some (.own x))(k:∀b u,b≠e->h.get? b=some u->h'.get? b=some u)(heo:∃u,h'.get? e=some u):Un fs ex H (upd H x o) h h':=by
 have hx:∀b,H b=none->b≠x:=λb n z=>by subst z;rw[n] at mu;exact mu
 have hb:∀b,H b=none->b≠e:=λb n z=>by
  subst z
  rcases he with r | r
  ·exact hx b n r
  ·rw[n] at r;cases r
 have hm:∀b u,H b=some u->¬Mut (some u)->b≠x:=λb u q nm z=>by subst z;rw[q] at mu;exact nm mu
 refine⟨λb u q n _ _=>k b u (hb b n) q,λb u q n _ _=>⟨u.slots,k b u (hb b n) q⟩,λb u q n _=>by rw[jad (hx b n)];exact n,λb u q _=> ?_,
  λb xs q=>by rw[jad (hm b _ q λz=>z)];exact q,λb u xs q=>by rw[jad (hm b _ q λz=>z)];exact q,λb ps q=>⟨#[],by rw[jad (hm b _ q λz=>z),q];simp⟩⟩
 by_cases hbe:b=e
 ·subst hbe;exact heo
 ·exact⟨u,k b u hbe q⟩
end
def trk(h:Heap)(H:Hp):List Addr:=(List.range h.objs.size).filter λa=>(H a).isSome
def hidT(h:Heap)(H:Hp):Heap:=W.hideAll h (trk h H)
theorem jrj(h:Heap)(H:Hp):(hidT h H).objs.size=h.objs.size:=W.hideAll_size _ _
theorem jt7{h:Heap}{H:Hp}{b:Addr}{o:Obj}(e:h.get? b=some o)(n:H b=none):(hidT h H).get? b=some o:=
 W.hideAll_get _ e λhm=>by
  have q:(H b).isSome=true:=(List.mem_filter.mp hm).2
  rw[n] at q;simp at q
theorem jwc{h:Heap}{H:Hp}{b:Addr}{o:Obj}(e:(hidT h H).get? b=some o):h.get? b=some o /\ H b=none:=by
 have e':h.get? b=some o:=W.of_hideAll (trk h H) e
 refine⟨e',?_⟩
 cases q:H b with
 | none=>rfl
 | some x=>
  have hm:b∈trk h H:=List.mem_filter.mpr ⟨List.mem_range.mpr (Heap.lt_size e'),by simp[q]⟩
  have z:(hidT h H).get? b=none:=W.hideAll_none (trk h H) hm
  rw[z] at e;cases e
structure Mod (K:W.Frag) (mg:Str->Option Value) (base:Heap):Prop where
 kin:K.In base
 glob:base.Ns mainGlobals mg
 blt:∃mb,base.Ns builtinsNs mb /\ ∀x:Str,x≠"__name__"->mb x=bootBuiltins x
 nolimit:base.NoLimit
structure Cx where
 prog:Program
 w:World
 K:W.Frag
 mg:Str->Option Value
 base:Heap
 A:Around
 N:List Str
 s₀:Shared
 H₀:Hp
 env:Env
 outer:List Env
 stack:List Env
 ex:List Addr
 fn:Str->Bool
 calm:Bool
 pn:List (Addr×Obj)
 xe:Value->Shared->Prop
def frs(l:List Env):List Addr:=l.filterMap (·.frame)
abbrev Cx.fs(X:Cx):List Addr:=frs X.outer
def Vis(sc:Scope)(x:Str):Prop:=sc.names.lookup x=some .local \/ sc.names.lookup x=some .cell \/ sc.names.lookup x=some .free
def Loc(sc:Scope)(x:Str):Prop:=sc.names.lookup x=some .local \/ sc.names.lookup x=some .cell
def Look(env:Env)(h:Heap)(m:Str->Option Value)(x:Str)(u:Value):Prop:=
 (env.kindOf x=some .local /\ m x=some u) \/ ((env.kindOf x=some .cell \/ env.kindOf x=some .free) /\ ∃c,env.cells.lookup x=some c /\ h.IsCell c (some u))
structure Cx.Ok (X:Cx):Prop where
 mod:Mod X.K X.mg X.base
 kind:X.env.scope.kind= .function
 glob:X.env.globals=mainGlobals
 blt:X.env.builtins=builtinsNs
 above:X.s₀.heap.objs.size<=X.env.locals
 inj:∀x y c,X.env.cells.lookup x=some c->X.env.cells.lookup y=some c->x=y
 has:∀x,(X.env.kindOf x=some .cell \/ X.env.kindOf x=some .free)->∃c,X.env.cells.lookup x=some c
 cab:∀x c,X.fn x=true->X.env.cells.lookup x=some c->X.s₀.heap.objs.size<=c
 hd:X.calm=true->X.A.handled=none
 frames:X.A.frames=some X.stack
 stk:X.stack=X.outer \/ (X.stack=X.env::X.outer /\ X.env.frame=some X.env.locals)
 exf:∀b∈X.ex,b≠X.env.locals /\ ∀x c,X.env.cells.lookup x=some c->c≠b
 bs:∀b o,X.base.get? b=some o->X.s₀.heap.get? b=some o /\ X.H₀ b=none
 bsz:X.base.objs.size<=X.s₀.heap.objs.size
 noex:∀b o,X.base.get? b=some o->b∉X.ex
 exfs:∀b∈X.ex,b∉X.fs
 funs:X.s₀.heap.FunFrames X.base X.outer
 frf:∀b∈X.fs,X.H₀ b=none
structure Inv (X:Cx) (pins:List (Addr×Obj)) (σ:List (Option V)) (H:Hp) (s:Shared):Prop where
 ok:X.Ok
 os:s.os=X.s₀.os
 bare:AllBare s.gens
 base:Un X.fs X.ex X.H₀ H X.s₀.heap s.heap
 loc:∃m,s.heap.Ns X.env.locals m /\ ∀(i:Nat) (x:Str) (v:V),X.N[i]?=some x->σ[i]?=some (some v)->Vis X.env.scope x->∃u,RelV v u /\ Look X.env s.heap m x u
 cell:∀x c,X.env.cells.lookup x=some c->∃v,s.heap.IsCell c v
 free:H X.env.locals=none
 freeC:∀x c,X.env.cells.lookup x=some c->H c=none
 pin:∀p∈X.pn++pins,s.heap.get? p.1=some p.2 /\ H p.1=none /\ p.1≠X.env.locals /\ p.1∉X.fs /\ ∀v,p.2.data≠ .cell v
 hok:HOk X.prog X.w H s.heap
 len:σ.length=X.N.length
section
variable {X : Cx} {pins : List (Addr × Obj)} {σ : List (Option V)} {H H' : Hp} {s : Shared} {h' : Heap}
theorem Cx.Ok.nofr(ok:X.Ok){b:Addr}{o:Obj}(e:X.base.get? b=some o):b∉X.fs:=λhb=>by
 have:=(ok.funs.mem hb).1
 rw[e] at this;cases this
theorem Inv.bs(I:Inv X pins σ H s):∀b o,X.base.get? b=some o->s.heap.get? b=some o /\ H b=none:=λb o e=>
 ⟨I.base.keep b o (I.ok.bs b o e).1 (I.ok.bs b o e).2 (I.ok.nofr e) (I.ok.noex b o e),I.base.free b o (I.ok.bs b o e).1 (I.ok.bs b o e).2 (I.ok.noex b o e)⟩
theorem Inv.bk(I:Inv X pins σ H s):∀b o,X.base.get? b=some o->s.heap.get? b=some o:=λb o e=>(I.bs b o e).1
theorem Inv.mod(I:Inv X pins σ H s):Mod X.K X.mg X.base:=I.ok.mod
theorem Inv.kIn(I:Inv X pins σ H s):X.K.In s.heap:=I.ok.mod.kin.keeps I.bk
theorem Inv.lt(I:Inv X pins σ H s):X.env.locals<s.heap.objs.size:=let ⟨_,hn,_⟩:=I.loc;hn.lt
theorem Inv.sz(I:Inv X pins σ H s):X.s₀.heap.objs.size<=s.heap.objs.size:=Nat.le_trans I.ok.above (Nat.le_of_lt I.lt)
theorem Inv.nofs(I:Inv X pins σ H s){a:Addr}(h:s.heap.objs.size<=a):a∉X.fs:=λhb=>by
 obtain⟨_,o,ho,_⟩:=I.ok.funs.mem hb
 exact absurd (Nat.lt_of_lt_of_le (Heap.lt_size ho) (Nat.le_trans I.sz h)) (Nat.lt_irrefl _)
theorem Inv.cne(I:Inv X pins σ H s):∀x c,X.env.cells.lookup x=some c->c≠X.env.locals:=λx c e z=>by
 obtain⟨v,o,ho,hd⟩:=I.cell x c e
 obtain⟨m,⟨o',es,ep,ho',hd',_⟩,_⟩:=I.loc
 rw[z,ho'] at ho;cases ho;rw[hd'] at hd;cases hd
theorem Inv.funs(I:Inv X pins σ H s):s.heap.FunFrames X.base X.outer:=by
 have all:∀(l:List Env),(∀b∈frs l,b∈X.fs)->X.s₀.heap.FunFrames X.base l->s.heap.FunFrames X.base l:=by
  intro l
  induction l with
  | nil=>intro _ _;trivial
  | cons env r ih=>
   intro hs hl
   obtain⟨hk,⟨L,o,hf,hn,ho,hd⟩,hr⟩:=hl
   have hL:L∈X.fs:=hs L (by unfold frs;rw[List.filterMap_cons,hf];exact List.mem_cons_self)
   obtain⟨sl,e⟩:=I.base.slot L o ho (I.ok.frf L hL) hL λz=>I.ok.exfs L z hL
   exact⟨hk,⟨L,_,hf,hn,e,hd⟩,ih (λb hb=>hs b (by unfold frs;rw[List.filterMap_cons,hf];exact List.mem_cons_of_mem _ hb)) hr⟩
 exact all X.outer (λ_ hb=>hb) I.ok.funs
theorem Inv.stack(I:Inv X pins σ H s):s.heap.FunFrames X.base X.stack:=by
 rcases I.ok.stk with e | ⟨e,hf⟩
 ·rw[e];exact I.funs
 ·rw[e]
  obtain⟨m,hn,_⟩:=I.loc
  refine .cons (by rw[I.ok.kind];decide) hf hn ?_ I.funs
  exact Heap.get?_none_of_le (Nat.le_trans I.ok.bsz I.ok.above)
theorem Inv.stkSub(I:Inv X pins σ H s):∀b∈frs X.stack,b∈X.env.locals::X.fs:=λb hb=>by
 rcases I.ok.stk with e | ⟨e,hf⟩
 ·rw[e] at hb;exact List.mem_cons_of_mem _ hb
 ·rw[e] at hb
  unfold frs at hb
  rw[List.filterMap_cons,hf] at hb
  exact hb
theorem Inv.stkFree(I:Inv X pins σ H s):∀b∈frs X.stack,H b=none:=λb hb=>by
 rcases List.mem_cons.mp (I.stkSub b hb) with e | hb
 ·rw[e];exact I.free
 ·obtain⟨_,o,ho,_⟩:=I.ok.funs.mem hb
  exact I.base.free b o ho (I.ok.frf b hb) λz=>I.ok.exfs b z hb
theorem Inv.step{g':Array GenState}{t':Nat}{d':Drawn}{ch:List Addr}(I:Inv X pins σ H s)
  (hch:∀b∈ch,(b∈X.ex \/ X.s₀.heap.objs.size<=b) /\ b≠X.env.locals /\ (∀x c,X.env.cells.lookup x=some c->c≠b) /\ ∀p∈X.pn++pins,p.1≠b)
  (keep:∀b o,b≠X.env.locals->b∉X.fs->b∉ch->s.heap.get? b=some o->H b=none->h'.get? b=some o)
  (slot:∀b o,b≠X.env.locals->b∈X.fs->b∉ch->s.heap.get? b=some o->H b=none->∃sl,h'.get? b=some {o with slots:=sl}) (free:∀b o,b∉ch->s.heap.get? b=some o->H b=none->H' b=none)
  (there:∀b o,b∉ch->s.heap.get? b=some o->∃o',h'.get? b=some o')
  (tups:∀b xs,H b=some (.tup xs)->H' b=some (.tup xs)) (frzs:∀b o u,H b=some (.frz o u)->H' b=some (.frz o u)) (tbls:∀b ps,H b=some (.tbl ps)->∃more,H' b=some (.tbl (ps++more)))
  (ns:∀m,s.heap.Ns X.env.locals m->h'.Ns X.env.locals m) (hok:HOk X.prog X.w H' h') (hg:AllBare g'):
  Inv X pins σ H' {s with heap:=h',gens:=g',drawn:=d',toks:=t'}:=by
 have neL:∀b o,X.s₀.heap.get? b=some o->b≠X.env.locals:=λb o e=>Nat.ne_of_lt (Nat.lt_of_lt_of_le (Heap.lt_size e) I.ok.above)
 have neC:∀b o,X.s₀.heap.get? b=some o->b∉X.ex->b∉ch:=λb o e hx hb=>by
  rcases(hch b hb).1 with z | z
  ·exact hx z
  ·exact absurd (Nat.lt_of_lt_of_le (Heap.lt_size e) z) (Nat.lt_irrefl _)
 have cellK:∀x c,X.env.cells.lookup x=some c->∀v,s.heap.IsCell c v->h'.IsCell c v:=λx c e v ⟨o,ho,hd⟩=>by
  have nch:c∉ch:=λz=>(hch c z).2.2.1 x c e rfl
  by_cases hc:c∈X.fs
  ·obtain⟨sl,q⟩:=slot c o (I.cne x c e) hc nch ho (I.freeC x c e)
   exact⟨_,q,hd⟩
  ·exact⟨o,keep c o (I.cne x c e) hc nch ho (I.freeC x c e),hd⟩
 refine⟨I.ok,I.os,hg,⟨λb o e n hb hx=> ?_,λb o e n hb hx=> ?_,λb o e n hx=> ?_,λb o e hx=> ?_,λb xs e=>tups b xs (I.base.tups b xs e),λb o xs e=>frzs b o xs (I.base.frzs b o xs e),λb ps e=> ?_⟩,?_,λx c e=> ?_,?_,λx c e=> ?_,λp hp=> ?_,hok,I.len⟩
 ·exact keep b o (neL b o e) hb (neC b o e hx) (I.base.keep b o e n hb hx) (I.base.free b o e n hx)
 ·obtain⟨sl,e1⟩:=I.base.slot b o e n hb hx
  obtain⟨sl',e2⟩:=slot b _ (neL b o e) hb (neC b o e hx) e1 (I.base.free b o e n hx)
  exact⟨sl',e2⟩
 ·obtain⟨o',e1⟩:=I.base.there b o e hx
  exact free b o' (neC b o e hx) e1 (I.base.free b o e n hx)
 ·obtain⟨o',e1⟩:=I.base.there b o e hx
  exact there b o' (neC b o e hx) e1
 ·obtain⟨m1,e1⟩:=I.base.tbls b ps e
  obtain⟨m2,e2⟩:=tbls b _ e1
  exact⟨m1++m2,by rw[e2,Array.append_assoc]⟩
 ·obtain⟨m,hn,hl⟩:=I.loc
  refine⟨m,ns m hn,λi x v e1 e2 e3=> ?_⟩
  obtain⟨u,r,l⟩:=hl i x v e1 e2 e3
  refine⟨u,r,?_⟩
  rcases l with l | ⟨k,c,e,z⟩
  ·exact .inl l
  ·exact .inr ⟨k,c,e,cellK x c e _ z⟩
 ·obtain⟨v,z⟩:=I.cell x c e
  exact⟨v,cellK x c e v z⟩
 ·obtain⟨m,⟨o,_,_,ho,_⟩,_⟩:=I.loc
  exact free _ o (λz=>(hch _ z).2.1 rfl) ho I.free
 ·obtain⟨v,o,ho,hd⟩:=I.cell x c e
  exact free c o (λz=>(hch c z).2.2.1 x c e rfl) ho (I.freeC x c e)
 ·obtain⟨e,n,ne,nf,d⟩:=I.pin p hp
  have nch:p.1∉ch:=λz=>(hch p.1 z).2.2.2 p hp rfl
  exact⟨keep p.1 p.2 ne nf nch e n,free p.1 p.2 nch e n,ne,nf,d⟩
theorem Inv.un{t':Nat}(I:Inv X pins σ H s)(u:Un X.fs [] H H' s.heap h')(hok:HOk X.prog X.w H' h'):Inv X pins σ H' {s with heap:=h',toks:=t'}:=by
 obtain⟨m,⟨o,es,ep,ho,r⟩,_⟩:=id I.loc
 obtain⟨sl,hL⟩:=u.any ho I.free (by simp)
 exact I.step (g':=s.gens) (d':=s.drawn) (ch:=[]) (λ_ z=>nomatch z) (λb o _ hb _ e n=>u.keep b o e n hb (by simp)) (λb o _ hb _ e n=>u.slot b o e n hb (by simp)) (λb o _ e n=>u.free b o e n (by simp)) (λb o _ e=>u.there b o e (by simp)) u.tups u.frzs u.tbls (λm' hm=>by
  obtain⟨o',es',ep',ho',r'⟩:=hm
  rw[ho] at ho';cases ho'
  exact⟨_,es',ep',hL,r'⟩) hok I.bare
theorem Inv.call{g':Array GenState}{t':Nat}{d':Drawn}{ch:List Addr}(I:Inv X pins σ H s)(u:Un (frs X.stack) ch H H' s.heap h')(hok:HOk X.prog X.w H' h')(hg:AllBare g')
  (hch:∀b∈ch,(b∈X.ex \/ X.s₀.heap.objs.size<=b) /\ b≠X.env.locals /\ (∀x c,X.env.cells.lookup x=some c->c≠b) /\ ∀p∈X.pn++pins,p.1≠b):
  Inv X pins σ H' {s with heap:=h',gens:=g',drawn:=d',toks:=t'}:=by
 obtain⟨m,⟨o,es,ep,ho,r⟩,_⟩:=id I.loc
 obtain⟨sl,hL⟩:=u.any ho I.free λz=>(hch _ z).2.1 rfl
 exact I.step (ch:=ch) hch (λb o hL hb hc e n=>u.keep b o e n (λz=>(List.mem_cons.mp (I.stkSub b z)).elim hL hb) hc) (λb o _ _ hc e n=>u.any e n hc) (λb o hc e n=>u.free b o e n hc) (λb o hc e=>u.there b o e hc) u.tups u.frzs u.tbls (λm' hm=>by
  obtain⟨o',es',ep',ho',r'⟩:=hm
  rw[ho] at ho';cases ho'
  exact⟨_,es',ep',hL,r'⟩) hok hg
theorem Inv.turned{t':Nat}{it:Addr}(I:Inv X pins σ H s)(k:∀b o,b≠it->s.heap.get? b=some o->h'.get? b=some o)(hn:H it=none)(hL:it≠X.env.locals)
  (h1:it∈X.ex \/ X.s₀.heap.objs.size<=it) (h2:∀x c,X.env.cells.lookup x=some c->c≠it) (h3:∀p∈X.pn++pins,p.1≠it):Inv X pins σ H {s with heap:=h',toks:=t'}:=by
 have nit:∀b u,H b=some u->b≠it:=λb u e z=>by rw[z,hn] at e;cases e
 refine I.step (g':=s.gens) (d':=s.drawn) (ch:=[it]) (λb hb=> ?_) (λb o _ _ hc e _=>k b o (λz=>hc (by simp[z])) e) (λb o _ _ hc e _=>⟨o.slots,k b o (λz=>hc (by simp[z])) e⟩) (λ_ _ _ _ n=>n)
  (λb o hc e=>⟨o,k b o (λz=>hc (by simp[z])) e⟩) (λ_ _ e=>e) (λ_ _ _ e=>e) (λb ps e=>⟨#[],by rw[e];simp⟩) (λm hm=> ?_) (λb u e=> ?_) I.bare
 ·have e:b=it:=by simpa using hb
  subst e
  exact⟨h1,hL,h2,h3⟩
 ·obtain⟨o,es,ep,ho,r⟩:=hm
  exact⟨o,es,ep,k _ o (Ne.symm hL) ho,r⟩
 ·refine(I.hok b u e).stay (λc v hc q=>k c v ?_ q) (λ_ q=>q) λ_ _ q=>q
  rcases hc with z | z
  ·rw[z];exact nit b u e
  ·exact nit c _ z
theorem Inv.tok(I:Inv X pins σ H s)(t:Nat):Inv X pins σ H {s with toks:=t}:=I.un (h':=s.heap) (t':=t) Un.refl I.hok
theorem Inv.kept{t':Nat}(I:Inv X pins σ H s)(k:∀b u,s.heap.get? b=some u->h'.get? b=some u):Inv X pins σ H {s with heap:=h',toks:=t'}:=I.un (Un.kept k) (I.hok.kept k)
theorem Inv.laid{a:Addr}{o:HO}{t':Nat}(I:Inv X pins σ H s)(k:∀b u,s.heap.get? b=some u->h'.get? b=some u)(hp:s.heap.objs.size<=a)(new:jby X.prog X.w (upd H a o) h' a o):
  Inv X pins σ (upd H a o) {s with heap:=h',toks:=t'}:=I.un (Un.laid k hp (I.hok.fresh hp)) (I.hok.laid k hp new)
theorem Inv.write{x e:Addr}{o:HO}{t':Nat}(I:Inv X pins σ H s)(mu:Mut (H x))(he:e=x \/ H e=some (.own x))(k:∀b u,b≠e->s.heap.get? b=some u->h'.get? b=some u)(heo:∃u,h'.get? e=some u)
  (new:jby X.prog X.w (upd H x o) h' x o):Inv X pins σ (upd H x o) {s with heap:=h',toks:=t'}:=I.un (Un.write mu he k heo) (I.hok.write mu he k heo new)
theorem Inv.weak{σ':List (Option V)}(I:Inv X pins σ H s)(hl:σ'.length=σ.length)(w:∀(i:Nat) v,σ'[i]?=some (some v)->σ[i]?=some (some v)):Inv X pins σ' H s:=
 ⟨I.ok,I.os,I.bare,I.base,let ⟨m,hn,hl'⟩:=I.loc;⟨m,hn,λi x v e1 e2 e3=>hl' i x v e1 (w i v e2) e3⟩,I.cell,I.free,I.freeC,I.pin,I.hok,hl.trans I.len⟩
theorem Inv.pins_of{pins':List (Addr×Obj)}(I:Inv X pins σ H s)(h:∀p∈pins',s.heap.get? p.1=some p.2 /\ H p.1=none /\ p.1≠X.env.locals /\ p.1∉X.fs /\ ∀v,p.2.data≠ .cell v):Inv X pins' σ H s:=
 ⟨I.ok,I.os,I.bare,I.base,I.loc,I.cell,I.free,I.freeC,λp hp=>(List.mem_append.mp hp).elim (λz=>I.pin p (List.mem_append_left _ z)) (h p),I.hok,I.len⟩
theorem jnf{N:List Str}(hN:N.Nodup){i j:Nat}{x:Str}(a:N[i]?=some x)(b:N[j]?=some x):i=j:=by
 obtain⟨h1,e1⟩:=List.getElem?_eq_some_iff.mp a
 obtain⟨h2,e2⟩:=List.getElem?_eq_some_iff.mp b
 exact(List.getElem_inj hN).mp (e1.trans e2.symm)
theorem jl7{M:Model}{A:Around}{E:Value->Shared->Prop}{i:Nat}{x:Str}{v:V}{u:Value}{Q:Unit->Shared->Prop}(I:Inv X pins σ H s)(hN:X.N.Nodup)(hi:X.N[i]?=some x)(hx:Loc X.env.scope x)(r:RelV v u)
  (h:∀s',Inv X pins (σ.set i (some v)) H s'->(∃a,Heap.SameBut a s.heap s'.heap /\ (a=X.env.locals \/ X.env.cells.lookup x=some a))->Q () s') (hf:X.fn x=true \/ X.env.scope.names.lookup x=some .local:=by first | exact .inl rfl | exact .inr rfl | assumption):wpAny M A (storeName X.env x u) Q E s:=by
 obtain⟨m,hn,hl⟩:=id I.loc
 have hcls:(X.env.scope.kind== .class||(X.env.scope.kind== .module&&X.env.locals !=X.env.globals))=false:=by rw[I.ok.kind];rfl
 have hiσ:i<σ.length:=by rw[I.len];exact(List.getElem?_eq_some_iff.mp hi).1
 have cne:=I.cne
 have tracked:∀{a:Addr} {h':Heap},(∃o,s.heap.get? a=some o /\ H a=none)->Heap.SameBut a s.heap h'->HOk X.prog X.w H h':=fun{a h'} ha hs b ob e=>by
  obtain⟨_,_,hfree⟩:=ha
  refine(I.hok b ob e).stay (λc w' hc q=>(hs.2 c ?_).trans q) (λ_ q=>q) λ_ _ q=>q
  rintro rfl
  rcases hc with rfl | hc
  ·rw[hfree] at e;cases e
  ·rw[hfree] at hc;cases hc
 rcases hx with hk | hk
 ·refine wpAny_storeName_local hk hn (λh' hn' hs=> ?_) hcls
  obtain⟨oL,_,_,hoL,_⟩:=id hn
  refine h _ ⟨I.ok,I.os,I.bare,⟨λb o e n hb hx=> ?_,λb o e n hb hx=> ?_,I.base.free,λb o e hx=> ?_,I.base.tups,I.base.frzs,I.base.tbls⟩,⟨_,hn',λj y v' e1 e2 e3=> ?_⟩,λy c e=> ?_,I.free,I.freeC,λp hp=> ?_,tracked ⟨oL,hoL,I.free⟩ hs,by simpa using I.len⟩ ⟨_,hs,.inl rfl⟩
  ·exact(hs.2 b (Nat.ne_of_lt (Nat.lt_of_lt_of_le (Heap.lt_size e) I.ok.above))).trans (I.base.keep b o e n hb hx)
  ·obtain⟨sl,e1⟩:=I.base.slot b o e n hb hx
   exact⟨sl,(hs.2 b (Nat.ne_of_lt (Nat.lt_of_lt_of_le (Heap.lt_size e) I.ok.above))).trans e1⟩
  ·obtain⟨o',e1⟩:=I.base.there b o e hx
   exact⟨o',(hs.2 b (Nat.ne_of_lt (Nat.lt_of_lt_of_le (Heap.lt_size e) I.ok.above))).trans e1⟩
  ·by_cases hj:j=i
   ·subst hj
    rw[hi] at e1;cases e1
    rw[List.getElem?_set_self hiσ] at e2
    cases e2
    exact⟨u,r,.inl ⟨hk,by simp⟩⟩
   ·rw[List.getElem?_set_ne (Ne.symm hj)] at e2
    obtain⟨u',r',q⟩:=hl j y v' e1 e2 e3
    refine⟨u',r',?_⟩
    rcases q with⟨k,e⟩ | ⟨k,c,e,z⟩
    ·refine .inl ⟨k,?_⟩
     have:y≠x:=λe=>hj (jnf hN e1 (e▸hi))
     simp[this,e]
    ·exact .inr ⟨k,c,e,z.sameBut hs (cne y c e)⟩
  ·obtain⟨w',z⟩:=I.cell y c e
   exact⟨w',z.sameBut hs (cne y c e)⟩
  ·obtain⟨e,n,ne,nf,d⟩:=I.pin p hp
   exact⟨(hs.2 p.1 ne).trans e,n,ne,nf,d⟩
 ·have hfn:X.fn x=true:=by
   rcases hf with z | z
   ·exact z
   ·rw[z] at hk;cases hk
  obtain⟨c,hc⟩:=I.ok.has x (.inl hk)
  obtain⟨w',z⟩:=I.cell x c hc
  refine wpAny_storeName_cell I.ok.kind hk hc z (λh' hc' hs=> ?_)
  obtain⟨oc,hoc,hocd⟩:=id z
  refine h {s with heap:=h'} ⟨I.ok,I.os,I.bare,⟨λb o e n hb hx=> ?_,λb o e n hb hx=> ?_,I.base.free,λb o e hx=> ?_,I.base.tups,I.base.frzs,I.base.tbls⟩,⟨m,hn.sameBut hs (Ne.symm (cne x c hc)),λj y v' e1 e2 e3=> ?_⟩,λy c' e=> ?_,I.free,I.freeC,λp hp=> ?_,tracked ⟨oc,hoc,I.freeC x c hc⟩ hs,by simpa using I.len⟩ ⟨c,hs,.inr hc⟩
  ·exact(hs.2 b (Nat.ne_of_lt (Nat.lt_of_lt_of_le (Heap.lt_size e) (I.ok.cab x c hfn hc)))).trans (I.base.keep b o e n hb hx)
  ·obtain⟨sl,e1⟩:=I.base.slot b o e n hb hx
   exact⟨sl,(hs.2 b (Nat.ne_of_lt (Nat.lt_of_lt_of_le (Heap.lt_size e) (I.ok.cab x c hfn hc)))).trans e1⟩
  ·obtain⟨o',e1⟩:=I.base.there b o e hx
   exact⟨o',(hs.2 b (Nat.ne_of_lt (Nat.lt_of_lt_of_le (Heap.lt_size e) (I.ok.cab x c hfn hc)))).trans e1⟩
  ·by_cases hj:j=i
   ·subst hj
    rw[hi] at e1;cases e1
    rw[List.getElem?_set_self hiσ] at e2
    cases e2
    exact⟨u,r,.inr ⟨.inl hk,c,hc,hc'⟩⟩
   ·rw[List.getElem?_set_ne (Ne.symm hj)] at e2
    obtain⟨u',r',q⟩:=hl j y v' e1 e2 e3
    refine⟨u',r',?_⟩
    rcases q with q | ⟨k,c',e,z'⟩
    ·exact .inl q
    ·refine .inr ⟨k,c',e,z'.sameBut hs ?_⟩
     rintro rfl
     exact hj (jnf hN e1 (I.ok.inj _ _ _ e hc▸hi))
  ·by_cases hcc:c'=c
   ·subst hcc;exact⟨_,hc'⟩
   ·obtain⟨w2,z2⟩:=I.cell y c' e
    exact⟨w2,z2.sameBut hs hcc⟩
  ·obtain⟨e,n,ne,nf,d⟩:=I.pin p hp
   refine⟨(hs.2 p.1 ?_).trans e,n,ne,nf,d⟩
   intro q
   rw[q,hoc] at e
   have q':oc=p.2:=Option.some.inj e
   exact d w' (by rw[<-q'];exact hocd)
theorem jn1{M:Model}{A:Around}{E:Value->Shared->Prop}{i:Nat}{x:Str}{v:V}{u:Value}{Q:Unit->Shared->Prop}(I:Inv X pins σ H s)(hN:X.N.Nodup)(hi:X.N[i]?=some x)(hx:Loc X.env.scope x)(r:RelV v u)
  (h:∀s',Inv X pins (σ.set i (some v)) H s'->Q () s') (hf:X.fn x=true \/ X.env.scope.names.lookup x=some .local:=by first | exact .inl rfl | exact .inr rfl | assumption):wpAny M A (storeName X.env x u) Q E s:=
 jl7 I hN hi hx r (λs' I' _=>h s' I') hf
theorem Inv.call'{s':Shared}{ch:List Addr}(I:Inv X pins σ H s)(ho:s'.os=s.os)(u:Un (frs X.stack) ch H H' s.heap s'.heap)(hok:HOk X.prog X.w H' s'.heap)(hg:AllBare s'.gens)
  (hch:∀b∈ch,(b∈X.ex \/ X.s₀.heap.objs.size<=b) /\ b≠X.env.locals /\ (∀x c,X.env.cells.lookup x=some c->c≠b) /\ ∀p∈X.pn++pins,p.1≠b):Inv X pins σ H' s':=by
 obtain⟨h',g',d',t',o'⟩:=s'
 have e:o'=s.os:=ho
 subst e
 exact I.call (g':=g') (t':=t') (d':=d') u hok hg hch
end
abbrev XK:=Value->Option Addr->Hp->Prop
abbrev St:=List (Option V)
abbrev VK:=V->Hp->Prop
abbrev TE:=St->Hp->VK->Prop
abbrev TT:=St->Hp->(Bool->Hp->Prop)->Prop
abbrev TA:=St->Hp->(List V->Hp->Prop)->Prop
structure Ends where
 nx:St->Hp->Prop
 rt:VK
 bk:St->Hp->Prop:=λ_ _=>False
 ct:St->Hp->Prop:=λ_ _=>False
abbrev TS:=Ends->St->Hp->Prop
def EP(X:Cx)(pins:List (Addr×Obj))(σ:St)(Q:VK)(u:Value)(s':Shared):Prop:=∃v H',Inv X pins σ H' s' /\ RelV v u /\ Q v H'
def TP(X:Cx)(pins:List (Addr×Obj))(σ:St)(Q:Bool->Hp->Prop)(b:Bool)(s':Shared):Prop:=∃H',Inv X pins σ H' s' /\ Q b H'
def AP(X:Cx)(pins:List (Addr×Obj))(σ:St)(Q:List V->Hp->Prop)(us:List Value)(s':Shared):Prop:=∃vs H',Inv X pins σ H' s' /\ Vals vs us /\ Q vs H'
def SP(X:Cx)(pins:List (Addr×Obj))(D:Ends)(f:Flow)(s':Shared):Prop:=
 match f with
 | .next=>∃σ' H',Inv X pins σ' H' s' /\ D.nx σ' H'
 | .brk=>∃σ' H',Inv X pins σ' H' s' /\ D.bk σ' H'
 | .cont=>∃σ' H',Inv X pins σ' H' s' /\ D.ct σ' H'
 | .ret u=>∃v σ' H',Inv X pins σ' H' s' /\ RelV v u /\ D.rt v H'
def PE(X:Cx)(e:Expr)(t:TE):Prop:=
 ∀(pins:List (Addr×Obj)) (s:Shared) (σ:St) (H:Hp) (Q:VK),Inv X pins σ H s->t σ H Q->wpAny (model X.prog X.w) X.A (eval e X.env) (EP X pins σ Q) X.xe s
def PT(X:Cx)(e:Expr)(t:TT):Prop:=
 ∀(pins:List (Addr×Obj)) (s:Shared) (σ:St) (H:Hp) (Q:Bool->Hp->Prop),Inv X pins σ H s->t σ H Q->wpAny (model X.prog X.w) X.A (isTrue e X.env (eval e X.env)) (TP X pins σ Q) X.xe s
def PW(X:Cx)(e:Expr)(t:TT):Prop:=
 ∀(whole:Sem Value) (pins:List (Addr×Obj)) (s:Shared) (σ:St) (H:Hp) (Q:Bool->Hp->Prop),Inv X pins σ H s->t σ H Q->wpAny (model X.prog X.w) X.A (isTrue e X.env whole) (TP X pins σ Q) X.xe s
theorem PW.pt{X:Cx}{e:Expr}{t:TT}(h:PW X e t):PT X e t:=h _
def PA(X:Cx)(es:List Expr)(t:TA):Prop:=
 ∀(pos:Pos) (pins:List (Addr×Obj)) (s:Shared) (σ:St) (H:Hp) (Q:List V->Hp->Prop),Inv X pins σ H s->t σ H Q->wpAny (model X.prog X.w) X.A (spliced (backTo pos (starEach es X.env))) (AP X pins σ Q) X.xe s
def PS(X:Cx)(st:Stmt)(t:TS):Prop:=
 ∀(pins:List (Addr×Obj)) (s:Shared) (σ:St) (H:Hp) (D:Ends),Inv X pins σ H s->t D σ H->wpAny (model X.prog X.w) X.A (exec st X.env) (SP X pins D) X.xe s
def PSs(X:Cx)(st:List Stmt)(t:TS):Prop:=
 ∀(pins:List (Addr×Obj)) (s:Shared) (σ:St) (H:Hp) (D:Ends),Inv X pins σ H s->t D σ H->wpAny (model X.prog X.w) X.A (execs st X.env) (SP X pins D) X.xe s
theorem thn{α:Type}{t:Sem α}{Q Q':α->Shared->Prop}{M:Model}{A:Around}{E:Value->Shared->Prop}{s:Shared}(h:wpAny M A t Q E s)(hQ:∀a s,Q a s->Q' a s):wpAny M A t Q' E s:=wpAny_mono h hQ λ_ _ x=>x
section
variable {X : Cx}
def tVar(i:Nat):TE:=λσ H Q=>∃v,σ[i]?=some (some v) /\ Q v H
def tC(v:V):TE:=λ_ H Q=>Q v H
theorem pe_var{i:Nat}{x:Str}{pos:Pos}(hN:X.N[i]?=some x)(hv:Vis X.env.scope x)(hd:(x==("__debug__":Str))=false:=by decide)(hcd:(x==("__classdict__":Str))=false:=by decide):PE X (.Name x pos) (tVar i):=by
 intro pins s σ H Q I h
 obtain⟨v,e,h⟩:=h
 obtain⟨m,hn,hl⟩:=I.loc
 obtain⟨u,r,l⟩:=hl i x v hN e hv
 have fin:EP X pins σ Q u s:=⟨v,H,I,r,h⟩
 rcases l with⟨hk,hm⟩ | ⟨hk,c,hc,hcell⟩
 ·exact wpAny_Name (wpAny_loadName_local I.ok.kind hk hn hm fin) hd
 ·rcases hk with hk | hk
  ·exact wpAny_Name (wpAny_loadName_cell I.ok.kind hk hc hcell fin) hd
  ·exact wpAny_Name (wpAny_loadName_free I.ok.kind hk hc hcell fin hcd) hd
theorem ja5{i j pos}:PE X (.Constant (.int i) j pos) (tC (.int i)):=λ_ _ _ H _ I h=>wpAny_Constant_int ⟨.int i,H,I.tok _,⟨_,rfl⟩,h⟩
theorem jfs{b j pos}:PE X (.Constant (.bool b) j pos) (tC (.bl b)):=λ_ _ _ H _ I h=>Constant_bool ⟨.bl b,H,I,rfl,h⟩
theorem jnh{j pos}:PE X (.Constant .none j pos) (tC .non):=λ_ _ _ H _ I h=>Constant_none ⟨.non,H,I,rfl,h⟩
theorem jd1{x j pos}:PE X (.Constant (.str x) j pos) (tC (.str x)):=λ_ _ _ H _ I h=>Calls.Constant_str ⟨.str x,H,I.tok _,⟨_,rfl⟩,h⟩
def Gl(X:Cx)(x:Str):Prop:=X.env.kindOf x=some .globalImplicit
theorem joe{E:Value->Shared->Prop}{pins:List (Addr×Obj)}{s:Shared}{σ:St}{H:Hp}{x:Str}{u:Value}{pos:Pos}{Q:Value->Shared->Prop}(I:Inv X pins σ H s)(hg:Gl X x)(hm:X.mg x=some u)(h:Q u s)
  (hd:(x==("__debug__":Str))=false:=by decide):wpAny (model X.prog X.w) X.A (eval (.Name x pos) X.env) Q E s:=
 Calls.Name_function_global I.ok.kind hg (Calls.loadGlobal_global (by rw[I.ok.glob];exact I.mod.glob.keeps I.bk) hm h) hd
theorem jgj{E:Value->Shared->Prop}{pins:List (Addr×Obj)}{s:Shared}{σ:St}{H:Hp}{x:Str}{u:Value}{pos:Pos}{Q:Value->Shared->Prop}(I:Inv X pins σ H s)(hg:Gl X x)(hm:X.mg x=none)(hv:bootBuiltins x=some u)(h:Q u s)
  (hn:x≠"__name__":=by decide) (hd:(x==("__debug__":Str))=false:=by decide):wpAny (model X.prog X.w) X.A (eval (.Name x pos) X.env) Q E s:=by
 obtain⟨mb,h1,h2⟩:=I.mod.blt
 exact Calls.Name_function_global I.ok.kind hg (Calls.loadGlobal_builtin (by rw[I.ok.glob];exact I.mod.glob.keeps I.bk) hm (by rw[I.ok.blt];exact h1.keeps I.bk) ((h2 x hn).trans hv) h) hd
theorem jwf{x:Str}{v:V}{u:Value}{pos:Pos}(hg:Gl X x)(hm:X.mg x=none)(hv:bootBuiltins x=some u)(r:RelV v u)(hn:x≠"__name__":=by decide)(hd:(x==("__debug__":Str))=false:=by decide):PE X (.Name x pos) (tC v):=
 λ_ _ _ H _ I h=>jgj I hg hm hv ⟨v,H,I,r,h⟩ hn hd
variable {a b : Expr} {ta tb : TE} {pos : Pos}
def tB(t:TE):TT:=λσ H Q=>t σ H λx H1=>∃c,x= .bl c /\ Q c H1
variable {tA tB' : TT} {rest : List Expr}
def tAnd(t u:TT):TT:=λσ H Q=>t σ H λc H1=>if c=true then u σ H1 Q else Q false H1
def tOr(t u:TT):TT:=λσ H Q=>t σ H λc H1=>if c=true then Q true H1 else u σ H1 Q
def tNot(t:TT):TT:=λσ H Q=>t σ H λc H1=>Q (!c) H1
theorem jdr(ha:PT X a tA):PW X (.BoolOp .And [a] pos) tA:=by
 intro wh pins s σ H Q I h
 refine isTrue_and (thn (ha pins s σ H Q I h) λc s1 e=> ?_)
 cases c with
 | true=>exact isTrue_and_nil e
 | false=>exact e
theorem jgh(ha:PT X a tA):PW X (.BoolOp .Or [a] pos) tA:=by
 intro wh pins s σ H Q I h
 refine isTrue_or (thn (ha pins s σ H Q I h) λc s1 e=> ?_)
 cases c with
 | false=>exact isTrue_or_nil e
 | true=>exact e
theorem jep(ha:PT X a tA)(hb:PW X (.BoolOp .And (b::rest) pos) tB'):PW X (.BoolOp .And (a::b::rest) pos) (tAnd tA tB'):=by
 intro wh pins s σ H Q I h
 refine isTrue_and (thn (ha pins s σ H _ I h) λc s1 ⟨H1,I1,q1⟩=> ?_)
 cases c with
 | true=>exact hb wh pins s1 σ H1 Q I1 q1
 | false=>exact⟨H1,I1,q1⟩
theorem jij(ha:PT X a tA)(hb:PW X (.BoolOp .Or (b::rest) pos) tB'):PW X (.BoolOp .Or (a::b::rest) pos) (tOr tA tB'):=by
 intro wh pins s σ H Q I h
 refine isTrue_or (thn (ha pins s σ H _ I h) λc s1 ⟨H1,I1,q1⟩=> ?_)
 cases c with
 | true=>exact⟨H1,I1,q1⟩
 | false=>exact hb wh pins s1 σ H1 Q I1 q1
theorem jef(ha:PT X a tA):PT X (.UnaryOp .Not a pos) (tNot tA):=by
 intro pins s σ H Q I h
 exact isTrue_not (ha pins s σ H (λc H1=>Q (!c) H1) I h)
def tAndV(ta tb:TE):TE:=λσ H Q=>ta σ H λx H1=>∃c,x= .bl c /\ if c=true then tb σ H1 Q else Q (.bl false) H1
theorem pe_one{op}{t:TE}(h:PE X a t):PE X (.BoolOp op [a] pos) t:=λpins s σ H Q I hw=>BoolOp_one (h pins s σ H Q I hw)
theorem pe_and(ha:PE X a ta)(hb:PE X (.BoolOp .And (b::rest) pos) tb):PE X (.BoolOp .And (a::b::rest) pos) (tAndV ta tb):=by
 intro pins s σ H Q I h
 refine BoolOp_and (thn (ha pins s σ H _ I h) λv s1 ⟨x,H1,I1,r1,q1⟩=> ?_)
 obtain⟨c,rfl,q1⟩:=q1
 cases r1
 refine wpAny_truthy_bool ?_
 cases c with
 | true=>exact hb pins s1 σ H1 Q I1 q1
 | false=>exact⟨.bl false,H1,I1,rfl,q1⟩
end
def SqL(K:W.Frag)(H:Hp)(a:Addr)(xs:List V):Prop:=
 Rd H a (.lst xs) \/
  ∃(o:Obj) (its:Array Value) (n:Nat),K.lookup a=some o /\ o.cls= .type "list" /\ o.dict=none /\ o.data= .seq its n /\ its.size<=sizeLine /\ Vals xs its.toList
def SqT(K:W.Frag)(H:Hp)(a:Addr)(xs:List V):Prop:=
 Rd H a (.tup xs) \/
  ∃(o:Obj) (its:Array Value) (n:Nat),K.lookup a=some o /\ o.cls= .type "tuple" /\ o.data= .seq its n /\ its.size<=sizeLine /\ Vals xs its.toList
def absV:Value->Option V
 | .none=>some .non
 | .bool b=>some (.bl b)
 | .int i _=>some (.int i)
 | .str x _=>some (.str x)
 | .bytes b _=>some (.byt b)
 | .float b _=>some (.flt b)
 | .ref a=>some (.ref a)
 | .type n=>some (.ty n)
 | _=>none
theorem RelV.abs{x:V}{u:Value}(r:RelV x u):absV u=some x:=by
 cases x with
 | non=>cases r;rfl
 | bl _=>cases r;rfl
 | int _=>obtain⟨t,rfl⟩:=r;rfl
 | str _=>obtain⟨t,rfl⟩:=r;rfl
 | byt _=>obtain⟨t,rfl⟩:=r;rfl
 | flt _=>obtain⟨t,rfl⟩:=r;rfl
 | ref _=>cases r;rfl
 | ty _=>cases r;rfl
theorem RelV.inj{x y:V}{u:Value}(r:RelV x u)(q:RelV y u):x=y:=Option.some.inj (r.abs.symm.trans q.abs)
theorem Vals.inj:∀{xs ys:List V} {us:List Value},Vals xs us->Vals ys us->xs=ys
 | _,_,_,.nil,.nil=>rfl
 | _,_,_,.cons r t,.cons r' t'=>by rw[r.inj r',Vals.inj t t']
section
variable {X : Cx} {pins : List (Addr × Obj)} {σ : St} {H : Hp} {s : Shared} {a : Addr} {xs ys : List V}
theorem SqL.of{K:W.Frag}(h:H a=some (.lst xs)):SqL K H a xs:= .inl (.inl h)
theorem SqT.of{K:W.Frag}(h:H a=some (.tup xs)):SqT K H a xs:= .inl (.inl h)
theorem Inv.list(I:Inv X pins σ H s)(h:SqL X.K H a xs):∃its:List Value,Vals xs its /\ PlainL s.heap a its.toArray /\ xs.length<=sizeLine:=by
 rcases h with h | ⟨o,its,n,hk,hc,hd,hs,hz,r⟩
 ·obtain⟨z,its,n,r,e⟩:=h.ok I.hok
  exact⟨its,r,⟨_,n,e,rfl,rfl,rfl⟩,z⟩
 ·refine⟨its.toList,r,⟨o,n,I.kIn a o hk,hc,hd,by simpa using hs⟩,?_⟩
  have e:=r.length
  simp only[Array.length_toList] at e
  omega
theorem Inv.tuple(I:Inv X pins σ H s)(h:SqT X.K H a xs):∃its:List Value,Vals xs its /\ IsTup s.heap a its.toArray /\ xs.length<=sizeLine:=by
 rcases h with h | ⟨o,its,n,hk,hc,hs,hz,r⟩
 ·obtain⟨z,its,r,p⟩:=h.ok I.hok
  exact⟨its,r,p,z⟩
 ·refine⟨its.toList,r,⟨o,I.kIn a o hk,hc,n,by simpa using hs⟩,?_⟩
  have e:=r.length
  simp only[Array.length_toList] at e
  omega
theorem Inv.list_inj(I:Inv X pins σ H s)(h:SqL X.K H a xs)(h':SqL X.K H a ys):xs=ys:=by
 obtain⟨its,r,⟨o,n,e,_,_,d⟩,_⟩:=I.list h
 obtain⟨its',r',⟨o',n',e',_,_,d'⟩,_⟩:=I.list h'
 rw[e] at e';cases e'
 rw[d] at d'
 injection d' with d1 _
 have:its=its':=by simpa using congrArg Array.toList d1
 subst this
 exact r.inj r'
theorem Inv.tuple_inj(I:Inv X pins σ H s)(h:SqT X.K H a xs)(h':SqT X.K H a ys):xs=ys:=by
 obtain⟨its,r,⟨o,e,_,n,d⟩,_⟩:=I.tuple h
 obtain⟨its',r',⟨o',e',_,n',d'⟩,_⟩:=I.tuple h'
 rw[e] at e';cases e'
 rw[d] at d'
 injection d' with d1 _
 have:its=its':=by simpa using congrArg Array.toList d1
 subst this
 exact r.inj r'
end
section
variable {X : Cx} {st : Stmt} {rest : List Stmt} {t u : TS} {e : Expr} {te : TE} {pos : Pos}
def tNext:TS:=λD σ H=>D.nx σ H
def tSeq(t u:TS):TS:=λD σ H=>t {D with nx:=u D} σ H
theorem jaw:PSs X [] tNext:=λ_ _ σ H _ I h=>wpAny_execs_nil ⟨σ,H,I,h⟩
theorem ja3(h1:PS X st t)(h2:PSs X rest u):PSs X (st::rest) (tSeq t u):=by
 intro pins s σ H D I h
 refine wpAny_execs_cons (thn (h1 pins s σ H {D with nx:=u D} I h) λf s1 q=> ?_)
 cases f with
 | next=>
  obtain⟨σ',H',I',q⟩:=q
  exact h2 pins s1 σ' H' D I' q
 | ret v=>exact q
 | brk=>exact q
 | cont=>exact q
theorem ja6(h1:PS X st t):PSs X [st] t:=by
 intro pins s σ H D I h
 refine wpAny_execs_cons (thn (h1 pins s σ H D I h) λf s1 q=> ?_)
 cases f with
 | next=>exact wpAny_execs_nil q
 | ret v=>exact q
 | brk=>exact q
 | cont=>exact q
theorem Inv.quiet{pins:List (Addr×Obj)}{σ:St}{H:Hp}{s:Shared}(I:Inv X pins σ H s):interactive X.env=false:=by simp[interactive,I.ok.kind]
def jsa(te:TE):TS:=λD σ H=>te σ H λ_ H1=>D.nx σ H1
theorem jcl(he:PE X e te)(hs:swapsWith e none pos.line X.env=pure false:=by rfl):PS X (.Expr e pos) (jsa te):=by
 intro pins s σ H D I h
 exact wpAny_Expr_any (thn (he pins s σ H _ I h) λv s1 ⟨x,H1,I1,r1,q1⟩=>⟨σ,H1,I1,q1⟩) I.quiet hs
def tRet(te:TE):TS:=λD σ H=>te σ H D.rt
theorem jan(he:PE X e te):PS X (.Return (some e) pos) (tRet te):=by
 intro pins s σ H D I h
 exact wpAny_Return_some (thn (he pins s σ H _ I h) λv s1 ⟨x,H1,I1,r1,q1⟩=>⟨x,σ,H1,I1,r1,q1⟩)
def tIfS(c:TT)(t u:TS):TS:=λD σ H=>c σ H λb H1=>if b=true then t D σ H1 else u D σ H1
theorem jc8{c:Expr}{a b:List Stmt}{tc:TT}(hc:PT X c tc)(ha:PSs X a t)(hb:PSs X b u):PS X (.If c a b pos) (tIfS tc t u):=by
 intro pins s σ H D I h
 refine wpAny_If (thn (hc pins s σ H _ I h) λd s1 ⟨H1,I1,q1⟩=> ?_)
 cases d with
 | true=>exact ha pins s1 σ H1 D I1 q1
 | false=>exact hb pins s1 σ H1 D I1 q1
end
abbrev TG:=V->St->Hp->(St->Hp->Prop)->Prop
abbrev TGs:=List V->St->Hp->(St->Hp->Prop)->Prop
def PG(X:Cx)(target:Expr)(t:TG):Prop:=
 ∀(pins:List (Addr×Obj)) (s:Shared) (σ:St) (H:Hp) (v:V) (u:Value) (Q:St->Hp->Prop),Inv X pins σ H s->RelV v u->t v σ H Q->
  wpAny (model X.prog X.w) X.A (assign target X.env u) (λ_ s'=>∃σ' H',Inv X pins σ' H' s' /\ Q σ' H') X.xe s
def PGs(X:Cx)(ts:List Expr)(t:TGs):Prop:=
 ∀(pins:List (Addr×Obj)) (s:Shared) (σ:St) (H:Hp) (vs:List V) (us:List Value) (Q:St->Hp->Prop),Inv X pins σ H s->Vals vs us->t vs σ H Q->
  wpAny (model X.prog X.w) X.A (assignInOrder ((assignEach ts X.env).map (·.2)) us) (λ_ s'=>∃σ' H',Inv X pins σ' H' s' /\ Q σ' H') X.xe s
section
variable {X : Cx} {pos : Pos}
def ja8(i:Nat):TG:=λv σ H Q=>Q (σ.set i (some v)) H
theorem jav{i:Nat}{x:Str}(hN:X.N.Nodup)(hi:X.N[i]?=some x)(hx:Loc X.env.scope x)(hf:X.fn x=true \/ X.env.scope.names.lookup x=some .local:=by first | exact .inl rfl | exact .inr rfl | assumption):PG X (.Name x pos) (ja8 i):=by
 intro pins s σ H v u Q I r h
 exact wpAny_assign_Name (jn1 I hN hi hx r (λs' I'=>⟨_,H,I',h⟩) hf)
def gNil:TGs:=λvs σ H Q=>vs=[] /\ Q σ H
def jva(t:TG)(u:TGs):TGs:=λvs σ H Q=>∃v r,vs=v::r /\ t v σ H λσ' H'=>u r σ' H' Q
theorem jg5:PGs X [] gNil:=by
 intro pins s σ H vs us Q I r h
 obtain⟨e,h⟩:=h
 subst e
 cases r
 exact assignInOrder_nil ⟨σ,H,I,h⟩
theorem jcc{e:Expr}{es:List Expr}{t:TG}{u:TGs}(h1:PG X e t)(h2:PGs X es u)
  (hs:(assignEach (e::es) X.env).map (·.2)=assign e X.env::(assignEach es X.env).map (·.2):=by rfl):PGs X (e::es) (jva t u):=by
 intro pins s σ H vs us Q I r h
 obtain⟨v,vr,e1,h⟩:=h
 subst e1
 cases r with
 | cons r rr=>
  rw[hs]
  refine assignInOrder_cons (thn (h1 pins s σ H _ _ _ I r h) λ_ s1 ⟨σ1,H1,I1,q1⟩=> ?_)
  exact h2 pins s1 σ1 H1 _ _ Q I1 rr q1
def gTup(K:W.Frag)(n:Nat)(t:TGs):TG:=λv σ H Q=>∃a xs,v= .ref a /\ SqT K H a xs /\ xs.length=n /\ t xs σ H Q
theorem pg_tup{es:List Expr}{k:Nat}{t:TGs}{n:Nat}(hc:X.calm=true)(h:PGs X es t)
  (hn:(assignEach es X.env).length=n:=by rfl) (hst:(assignEach es X.env).findIdx? (·.1)=none:=by rfl):PG X (.Tuple es k pos) (gTup X.K n t):=by
 intro pins s σ H v u Q I r hw
 obtain⟨a,xs,e1,hq,hl,hw⟩:=hw
 subst e1
 cases r
 obtain⟨its,rv,ht,hz⟩:=I.tuple hq
 refine assign_Tuple_tuple (I.ok.hd hc) ht (by simp[hn,<-hl,rv.length]) hst λh' hx=> ?_
 have I1:Inv X pins σ H {s with heap:=h'}:=I.kept (t':=s.toks) λb o e=>hx b o (Nat.ne_of_lt (Heap.lt_size e)) e
 exact h pins _ σ H xs _ Q I1 (by simpa using rv) hw
def tAsg(te:TE)(g:TG):TS:=λD σ H=>te σ H λx H1=>g x σ H1 D.nx
theorem jaj{i:Nat}{x:Str}{e:Expr}{te:TE}{pos':Pos}(hN:X.N.Nodup)(hi:X.N[i]?=some x)(hx:Loc X.env.scope x)(he:PE X e te)(hs:swapsWith e (some (.Name x pos')) pos.line X.env=pure false:=by rfl)(hf:X.fn x=true \/ X.env.scope.names.lookup x=some .local:=by first | exact .inl rfl | exact .inr rfl | assumption):
  PS X (.Assign [.Name x pos'] e pos) (tAsg te (ja8 i)):=by
 intro pins s σ H D I h
 refine wpAny_Assign_Name (thn (he pins s σ H _ I h) λv s1 ⟨y,H1,I1,r1,q1⟩=> ?_) hs
 exact jn1 I1 hN hi hx r1 (λs2 I2=>⟨_,H1,I2,q1⟩) hf
end
section
variable {X : Cx} {pos : Pos}
def ju9(c:TT)(tb:TS):TS:=λD σ H=>∃W:Nat->St->Hp->Prop,(∃m,W m σ H) /\ ∀m σ H,W m σ H->
 c σ H λb H1=>if b=true then ∃N:St->Hp->Prop,(∀σ' H',N σ' H'->∃m',m'<m /\ W m' σ' H') /\ tb {D with nx:=N,ct:=N,bk:=D.nx} σ H1 else D.nx σ H1
theorem jex{c:Expr}{body:List Stmt}{tc:TT}{tb:TS}(hp:PassesOwn (model X.prog X.w) X.A X.env X.xe)(hc:PT X c tc)(hb:PSs X body tb):PS X (.While c body [] pos) (ju9 tc tb):=by
 intro pins s σ H D I h
 obtain⟨W,⟨m0,w0⟩,turn⟩:=h
 refine wpAny_While (codeAny_whileLoop (λn s'=>∃σ' H',Inv X pins σ' H' s' /\ W n σ' H') ?_ m0 ⟨σ,H,I,w0⟩)
 rintro n s1 ⟨σ1,H1,I1,w1⟩
 refine wpAny_passesOwn hp (thn (hc pins s1 σ1 H1 _ I1 (turn n σ1 H1 w1)) λb s2 ⟨H2,I2,q2⟩=> ?_)
 cases b with
 | true=>
  obtain⟨N,hN,q2⟩:=q2
  rw[if_pos rfl]
  refine wpAny_passesOwn hp (thn (hb pins s2 σ1 H2 _ I2 q2) λf s3 q3=> ?_)
  cases f with
  | next=>
   obtain⟨σ3,H3,I3,n3⟩:=q3
   obtain⟨m',hm,w3⟩:=hN σ3 H3 n3
   exact⟨m',hm,σ3,H3,I3,w3⟩
  | cont=>
   obtain⟨σ3,H3,I3,n3⟩:=q3
   obtain⟨m',hm,w3⟩:=hN σ3 H3 n3
   exact⟨m',hm,σ3,H3,I3,w3⟩
  | brk=>exact q3
  | ret v=>exact q3
 | false=>
  rw[if_neg Bool.false_ne_true]
  exact wpAny_execs_nil ⟨σ1,H2,I2,q2⟩
end
structure It where
 go:Nat->Hp->Prop
 yld:Nat->Hp->V->Hp->Prop
 stop:Nat->Hp->Prop
def FpOk(X:Cx)(pins:List (Addr×Obj))(H:Hp)(b:Addr):Prop:=
 H b=none /\ b≠X.env.locals /\ b∉X.fs /\ (b∈X.ex \/ X.s₀.heap.objs.size<=b) /\ (∀x c,X.env.cells.lookup x=some c->c≠b) /\ ∀p∈X.pn++pins,p.1≠b
theorem Inv.fpOk{X:Cx}{pins:List (Addr×Obj)}{σ:St}{H H':Hp}{s:Shared}{b:Addr}(I:Inv X pins σ H s)(hb:s.heap.objs.size<=b)(hn:H' b=none):FpOk X pins H' b:=by
 refine⟨hn,Nat.ne_of_gt (Nat.lt_of_lt_of_le I.lt hb),I.nofs hb,.inr (Nat.le_trans I.sz hb),λx c e z=> ?_,λp hp z=> ?_⟩
 ·obtain⟨v,q⟩:=I.cell x c e
  exact absurd (Nat.lt_of_lt_of_le q.lt (by rw[z];exact hb)) (Nat.lt_irrefl _)
 ·exact absurd (Nat.lt_of_lt_of_le (Heap.lt_size (I.pin p hp).1) (by rw[z];exact hb)) (Nat.lt_irrefl _)
structure Turn (P:Program) (w:World) (K:W.Frag) (tg:Expr) (J:It) (fp:List Addr) (it:Addr) (tn:Nat->Heap->Prop):Prop where
 mem:it∈fp
 obj:∀i h,tn i h->∀b∈fp,∃o,h.get? b=some o /\ ∀v,o.data≠ .cell v
 keep:∀i h h',tn i h->(∀b∈fp,∀o,h.get? b=some o->h'.get? b=some o)->tn i h'
 item:∀(X:Cx),X.prog=P->X.w=w->X.K=K->X.calm=true->∀(i:Nat) (pins:List (Addr×Obj)) (s:Shared) (σ:St) (H:Hp) (E:Value->Shared->Prop),Inv X pins σ H s->(∀b∈fp,FpOk X pins H b)->tn i s.heap->J.go i H->
  wpAny (model P w) X.A (pyNext (.ref it)) (λr s1=>∃u,r=some u /\
   wpAny (model P w) X.A (letOwnedTupleGo tg (.ref it) u) (λ_ s2=>∃x H',Inv X pins σ H' s2 /\ RelV x u /\ J.yld i H x H' /\ tn (i+1) s2.heap /\ ∀b∈fp,H' b=none) E s1) E s
 done:∀(X:Cx),X.prog=P->X.w=w->X.K=K->X.calm=true->∀(i:Nat) (pins:List (Addr×Obj)) (s:Shared) (σ:St) (H:Hp) (E:Value->Shared->Prop),Inv X pins σ H s->(∀b∈fp,FpOk X pins H b)->tn i s.heap->J.stop i H->
  wpAny (model P w) X.A (pyNext (.ref it)) (λr s1=>r=none /\ Inv X pins σ H s1) E s
 self:∀(A:Around) (i:Nat) (s:Shared) (Q:Value->Shared->Prop) (E:Value->Shared->Prop),tn i s.heap->Q (.ref it) s->wpAny (model P w) A (pyIter (.ref it)) Q E s
abbrev TI:=St->Hp->(It->Hp->Prop)->Prop
def PIE(X:Cx)(pins:List (Addr×Obj))(σ:St)(tg:Expr)(R:It->Hp->Prop)(itv:Value)(s2:Shared):Prop:=
 ∃(it:Addr) (fp:List Addr) (tn:Nat->Heap->Prop) (J:It) (H':Hp),itv= .ref it /\ Inv X pins σ H' s2 /\ Turn X.prog X.w X.K tg J fp it tn /\ tn 0 s2.heap /\ (∀b∈fp,FpOk X pins H' b) /\ R J H'
def PI(X:Cx)(tg iter:Expr)(wi:TI):Prop:=
 ∀(pins:List (Addr×Obj)) (s:Shared) (σ:St) (H:Hp) (R:It->Hp->Prop),Inv X pins σ H s->wi σ H R->
  wpAny (model X.prog X.w) X.A (eval iter X.env) (λv s1=>wpAny (model X.prog X.w) X.A (pyIter v) (PIE X pins σ tg R) X.xe s1) X.xe s
theorem jmm{M:Model}{A:Around}{E:Value->Shared->Prop}{s:Shared}{tg:Expr}{it:Addr}{u:Value}{o:Obj}{n:String}{vs:Array Value}{Q:Unit->Shared->Prop}(ho:s.heap.get? it=some o)(hc:o.cls= .type n)(hd:o.data= .fields vs)
    (hn:["enumerate","zip","dict_itemiterator","dict_reverseitemiterator","odict_iterator","itertools.zip_longest","itertools.pairwise"].contains n=false) (hQ:Q () s):wpAny M A (letOwnedTupleGo tg (.ref it) u) Q E s:=by
  unfold letOwnedTupleGo
  cases tg<;>first
    | exact wpAny_pure hQ
    | (cases u<;>first
        | exact wpAny_pure hQ
        | (refine wpAny_bind (wpAny_load ho ?_)
           rw[hc,hd]
           show wpAny M A (if(["enumerate","zip","dict_itemiterator","dict_reverseitemiterator","odict_iterator","itertools.zip_longest","itertools.pairwise"].contains n&&vs[0]?==some (rawInt _))=true then _ else _) Q E s
           rw[if_neg (by intro h;rw[hn,Bool.false_and] at h;cases h)]
           exact wpAny_pure hQ))
def Itl(K:W.Frag)(a:Addr):It:=
 ⟨λi H=>∃xs x,SqL K H a xs /\ xs[i]?=some x,λi H x H'=>H'=H /\ ∀xs,SqL K H a xs->xs[i]?=some x,λi H=>∃xs,SqL K H a xs /\ xs.length<=i⟩
def Itt(K:W.Frag)(a:Addr):It:=
 ⟨λi H=>∃xs x,SqT K H a xs /\ xs[i]?=some x,λi H x H'=>H'=H /\ ∀xs,SqT K H a xs->xs[i]?=some x,λi H=>∃xs,SqT K H a xs /\ xs.length<=i⟩
def Itr(lo:Int)(n:Nat):It:=⟨λi _=>i<n,λi H x H'=>H'=H /\ x= .int (lo+i),λi _=>n<=i⟩
theorem joj{P:Program}{w:World}{K:W.Frag}{tg:Expr}(a it:Addr):Turn P w K tg (Itl K a) [it] it (λi h=>h.IsListIter it a i) where
 mem:=by simp
 obj:=λi h st b hb=>by
  have e:b=it:=by simpa using hb
  subst e
  obtain⟨o,e,c,d⟩:=st
  exact⟨o,e,λv z=>by rw[d] at z;cases z⟩
 keep:=λi h h' st k=>st.at λo e=>k it (by simp) o e
 item:=by
  intro X hP hw hK hc i pins s σ H E I hf st hg
  subst hP hw hK
  obtain⟨xs,x,hq,hx⟩:=hg
  obtain⟨its,rv,p,hz⟩:=I.list hq
  obtain⟨u,hu,ru⟩:=rv.get hx
  obtain⟨f0,f1,f2,f3,f4,f5⟩:=hf it (by simp)
  refine wpAny_pyNext_list_item st p.isList (x:=u) (by simpa using hu) λh' st' sb=> ?_
  have I1:Inv X pins σ H {s with heap:=h'}:=I.turned (t':=s.toks) (λb o hb e=>(sb.2 b hb).trans e) f0 f1 f3 f4 f5
  obtain⟨o,e,c,d⟩:=id st'
  exact⟨u,rfl,jmm (s:={s with heap:=h'}) e c d (by decide) ⟨x,H,I1,ru,⟨rfl,λys hy=>by rw[I.list_inj hy hq];exact hx⟩,st',λb hb=>(hf b hb).1⟩⟩
 done:=by
  intro X hP hw hK hc i pins s σ H E I hf st hg
  subst hP hw hK
  obtain⟨xs,hq,hx⟩:=hg
  obtain⟨its,rv,p,hz⟩:=I.list hq
  obtain⟨f0,f1,f2,f3,f4,f5⟩:=hf it (by simp)
  have hl:=rv.length
  exact wpAny_pyNext_list_end (I.ok.hd hc) st p.isList (by simp;omega) λh' eb=>⟨rfl,I.turned (t':=s.toks) (λb o hb e=>eb b o hb e) f0 f1 f3 f4 f5⟩
 self:=λ_ _ _ _ _ st h=>wpAny_pyIter_listiter st h
theorem jo2{P:Program}{w:World}{K:W.Frag}{tg:Expr}(a it:Addr):Turn P w K tg (Itt K a) [it] it (λi h=>h.IsTupleIter it a i) where
 mem:=by simp
 obj:=λi h st b hb=>by
  have e:b=it:=by simpa using hb
  subst e
  obtain⟨o,e,c,d⟩:=st
  exact⟨o,e,λv z=>by rw[d] at z;cases z⟩
 keep:=λi h h' st k=>st.at λo e=>k it (by simp) o e
 item:=by
  intro X hP hw hK hc i pins s σ H E I hf st hg
  subst hP hw hK
  obtain⟨xs,x,hq,hx⟩:=hg
  obtain⟨its,rv,p,hz⟩:=I.tuple hq
  obtain⟨u,hu,ru⟩:=rv.get hx
  obtain⟨f0,f1,f2,f3,f4,f5⟩:=hf it (by simp)
  refine wpAny_pyNext_tuple_item st (show s.heap.IsTuple a its.toArray from p) (x:=u) (by simpa using hu) λh' st' sb=> ?_
  have I1:Inv X pins σ H {s with heap:=h'}:=I.turned (t':=s.toks) (λb o hb e=>(sb.2 b hb).trans e) f0 f1 f3 f4 f5
  obtain⟨o,e,c,d⟩:=id st'
  exact⟨u,rfl,jmm (s:={s with heap:=h'}) e c d (by decide) ⟨x,H,I1,ru,⟨rfl,λys hy=>by rw[I.tuple_inj hy hq];exact hx⟩,st',λb hb=>(hf b hb).1⟩⟩
 done:=by
  intro X hP hw hK hc i pins s σ H E I hf st hg
  subst hP hw hK
  obtain⟨xs,hq,hx⟩:=hg
  obtain⟨its,rv,p,hz⟩:=I.tuple hq
  obtain⟨f0,f1,f2,f3,f4,f5⟩:=hf it (by simp)
  have hl:=rv.length
  exact wpAny_pyNext_tuple_end (I.ok.hd hc) st (show s.heap.IsTuple a its.toArray from p) (by simp;omega) λh' eb=>⟨rfl,I.turned (t':=s.toks) (λb o hb e=>eb b o hb e) f0 f1 f3 f4 f5⟩
 self:=λ_ _ _ _ _ st h=>wpAny_pyIter_tupleiter st h
theorem jo9{P:Program}{w:World}{K:PySem.W.Frag}{tg:Expr}(it:Addr)(lo:Int)(n:Nat):Turn P w K tg (Itr lo n) [it] it (λi h=>IsRangeIter h it (lo+(i:Nat)*1) ((n:Int) - (i:Nat)) 1) where
 mem:=by simp
 obj:=λi h st b hb=>by
  have e:b=it:=by simpa using hb
  subst e
  exact⟨_,st,λv z=>by
   have z':Data.fields _=Data.cell v:=z
   cases z'⟩
 keep:=λi h h' st k=>k it (by simp) _ st
 item:=by
  intro X hP hw hK hc i pins s σ H E I hf st hg
  subst hP hw hK
  obtain⟨f0,f1,f2,f3,f4,f5⟩:=hf it (by simp)
  have W:=Walks.range (prog:=X.prog) (w:=X.w) (I.ok.hd hc) it lo 1 n
  refine W.item i s _ _ hg st λv h' tk hv st' kk=> ?_
  obtain⟨t,rfl⟩:=hv
  have I1:Inv X pins σ H {s with heap:=h',toks:=tk}:=I.turned (λb o hb e=>kk b o (by simpa using hb) e) f0 f1 f3 f4 f5
  refine⟨_,rfl,jmm (s:={s with heap:=h',toks:=tk}) (n:="range_iterator") st' rfl rfl (by decide) ⟨.int (lo+i),H,I1,⟨t,?_⟩,⟨rfl,rfl⟩,st',λb hb=>(hf b hb).1⟩⟩
  rw[Int.mul_one]
 done:=by
  intro X hP hw hK hc i pins s σ H E I hf st hg
  subst hP hw hK
  obtain⟨f0,f1,f2,f3,f4,f5⟩:=hf it (by simp)
  exact wpAny_pyNext_range_end (I.ok.hd hc) st (by have:n<=i:=hg;omega) λh' eb=>⟨rfl,I.turned (t':=s.toks) (λb o hb e=>eb b o hb e) f0 f1 f3 f4 f5⟩
 self:=λ_ _ _ _ _ st h=>wpAny_pyIter_rangeiter st h
section
variable {X : Cx} {tg : Expr}
theorem jsm{pins:List (Addr×Obj)}{σ:St}{H:Hp}{s:Shared}{R:It->Hp->Prop}{E:Value->Shared->Prop}{lo hi:Int}{t u v:Tok}{tk:Nat}(I:Inv X pins σ H s)(h1: -(2^62)<=lo)(h2:lo<2^62)(h3: -(2^62)<=hi)(h4:hi<2^62)
  (q:R (Itr lo (hi - lo).toNat) H):wpAny (model X.prog X.w) X.A (pyIter (.ref s.heap.objs.size)) (PIE X pins σ tg R) E {s with heap:=s.heap.push {cls:= .type "range",data:= .fields #[.int lo t,.int hi u,.int 1 v]},toks:=tk}:=by
 refine wpAny_pyIter_range (IsRange.new ..) (small_one h1 h2 h3 h4) ?_
 have I1:Inv X pins σ H {s with heap:=s.heap.push {cls:= .type "range",data:= .fields #[.int lo t,.int hi u,.int 1 v]},toks:=tk}:=I.kept λb o e=>Heap.get?_push_of_some _ e
 refine⟨(s.heap.push {cls:= .type "range",data:= .fields #[.int lo t,.int hi u,.int 1 v]}).objs.size,[(s.heap.push {cls:= .type "range",data:= .fields #[.int lo t,.int hi u,.int 1 v]}).objs.size],_,_,H,rfl,
  I1.kept (t':=tk) λb o e=>Heap.get?_push_of_some _ e,jo9 _ lo (hi - lo).toNat,?_,λb hb=> ?_,q⟩
 ·have e1:lo+((0:Nat):Int)*1=lo:=by simp
  have e2:(((hi - lo).toNat:Nat):Int) - ((0:Nat):Int)=Builtin.Range.rangeSize lo hi 1:=by rw[rangeSize_one];split<;>omega
  show IsRangeIter _ _ (lo+((0:Nat):Int)*1) ((((hi - lo).toNat:Nat):Int) - ((0:Nat):Int)) 1
  rw[e1,e2]
  exact Heap.get?_push_size _ rfl
 ·have e:b=(s.heap.push {cls:= .type "range",data:= .fields #[.int lo t,.int hi u,.int 1 v]}).objs.size:=by simpa using hb
  subst e
  exact I1.fpOk (Nat.le_refl _) (I1.hok.fresh (Nat.le_refl _))
def iRng1(ta:TA):TI:=λσ H R=>ta σ H λvs H1=>∃j:Int,vs=[.int j] /\ -(2^62)<=j /\ j<2^62 /\ R (Itr 0 j.toNat) H1
theorem jfl{a:Expr}{ta:TA}{p pos:Pos}(hg:Gl X "range")(hm:X.mg "range"=none)(ha:PA X [a] ta)(hs:starEach [a] X.env=[(false,eval a X.env)]:=by rfl):PI X tg (.Call (.Name "range" p) [a] [] pos) (iRng1 ta):=by
 intro pins s σ H R I h
 refine Call_ (jgj I hg hm boot_range (PyProof.Rows.callWith_type1 (thn (ha pos pins s σ H _ I h) λus s1 ⟨vs,H1,I1,r1,q1⟩=> ?_) hs rfl))
 obtain⟨j,e,q1,q2,q⟩:=q1
 subst e
 cases r1 with
 | cons r rr=>
  cases rr
  obtain⟨t,rfl⟩:=r
  exact call_range_1 (jsm I1 (by omega) (by omega) q1 q2 (by simpa using q))
def tFor(wi:TI)(g:TG)(tb:TS):TS:=λD σ H=>wi σ H λJ H1=>∃W:Nat->Nat->St->Hp->Prop,(∃m,W 0 m σ H1) /\ ∀i m σ H,W i m σ H->
 (J.stop i H /\ D.nx σ H) \/ (J.go i H /\ ∃N:St->Hp->Prop,(∀σ' H',N σ' H'->∃m',m'<m /\ W (i+1) m' σ' H') /\ ∀x H',J.yld i H x H'->g x σ H' λσ2 H2=>tb {D with nx:=N,ct:=N,bk:=D.nx} σ2 H2)
def jlj(fp:List Addr)(h:Heap):List (Addr×Obj):=fp.filterMap λb=>(h.get? b).map λo=>(b,o)
theorem jf5{fp:List Addr}{h:Heap}{b:Addr}{o:Obj}(hb:b∈fp)(e:h.get? b=some o):(b,o)∈jlj fp h:=List.mem_filterMap.mpr ⟨b,hb,by rw[e];rfl⟩
theorem jq8{fp:List Addr}{h:Heap}{p:Addr×Obj}(hp:p∈jlj fp h):p.1∈fp /\ h.get? p.1=some p.2:=by
 obtain⟨b,hb,e⟩:=List.mem_filterMap.mp hp
 cases q:h.get? b with
 | none=>rw[q] at e;cases e
 | some o=>
  rw[q] at e
  have e':(b,o)=p:=Option.some.inj e
  subst e'
  exact⟨hb,q⟩
theorem Inv.pinned{pins:List (Addr×Obj)}{σ:St}{H:Hp}{s:Shared}{fp:List Addr}(I:Inv X pins σ H s)(hf:∀b∈fp,FpOk X pins H b)(ho:∀b∈fp,∃o,s.heap.get? b=some o /\ ∀v,o.data≠ .cell v):Inv X (pins++jlj fp s.heap) σ H s:=
 I.pins_of λp hp=>(List.mem_append.mp hp).elim (λz=>I.pin p (List.mem_append_right _ z)) λz=>by
  obtain⟨hb,e⟩:=jq8 z
  obtain⟨f0,f1,f2,_⟩:=hf p.1 hb
  obtain⟨o,e',d⟩:=ho p.1 hb
  rw[e] at e';cases e'
  exact⟨e,f0,f1,f2,d⟩
theorem Inv.unpinned{pins pl:List (Addr×Obj)}{σ:St}{H:Hp}{s:Shared}(I:Inv X (pins++pl) σ H s):Inv X pins σ H s:=I.pins_of λp hp=>I.pin p (List.mem_append_right _ (List.mem_append_left _ hp))
theorem jcr{iter:Expr}{body:List Stmt}{wi:TI}{g:TG}{tb:TS}{pos:Pos}(hp:PassesOwn (model X.prog X.w) X.A X.env X.xe)(hc:X.calm=true)(hi:PI X tg iter wi)(hg:PG X tg g)(hb:PSs X body tb)
  (hs:∀x,foldedSetIterable iter X.env x=pure x:=by intro _;rfl):PS X (.For tg iter body [] pos) (tFor wi g tb):=by
 intro pins s σ H D I h
 refine wpAny_For (thn (hi pins s σ H _ I h) λv s1 h1=>thn h1 λitv s2 h2=> ?_) hs
 obtain⟨it,fp,tn,J,H2,e,I2,T,st2,f2,W,⟨m0,w0⟩,turn⟩:=h2
 subst e
 have stat:∀{H':Hp},(∀b∈fp,H' b=none)->∀b∈fp,FpOk X pins H' b:=λhn b hb=>⟨hn b hb,(f2 b hb).2⟩
 refine codeAny_forLoop_any (λn s'=>∃i σ' H',Inv X pins σ' H' s' /\ tn i s'.heap /\ (∀b∈fp,H' b=none) /\ W i n σ' H') ?_ m0 ⟨0,σ,H2,I2,st2,λb hb=>(f2 b hb).1,w0⟩
 rintro n s3 ⟨i,σ3,H3,I3,st3,fr3,w3⟩
 rcases turn i n σ3 H3 w3 with⟨stop,qn⟩ | ⟨go,N,hN,step⟩
 ·refine wpAny_passesOwn hp (thn (T.done X rfl rfl rfl hc i pins s3 σ3 H3 X.xe I3 (stat fr3) st3 stop) λr s4 ⟨hr,I4⟩=> ?_)
  subst hr
  exact wpAny_execs_nil ⟨σ3,H3,I4,qn⟩
 ·refine wpAny_passesOwn hp (thn (T.item X rfl rfl rfl hc i pins s3 σ3 H3 X.xe I3 (stat fr3) st3 go) λr s4 ⟨u,hr,h4⟩=> ?_)
  subst hr
  refine wpAny_passesOwn hp (thn h4 λ_ s5 ⟨x,H5,I5,r5,y5,st5,fr5⟩=> ?_)
  have I5':=I5.pinned (stat fr5) (T.obj _ _ st5)
  refine wpAny_passesOwn hp (thn (hg _ s5 σ3 H5 x u _ I5' r5 (step x H5 y5)) λ_ s6 ⟨σ6,H6,I6,q6⟩=> ?_)
  refine wpAny_passesOwn hp (thn (hb _ s6 σ6 H6 _ I6 q6) λf s7 q7=> ?_)
  have again:∀{σ7:St} {H7:Hp},Inv X (pins++jlj fp s5.heap) σ7 H7 s7->N σ7 H7->∃m,m<n /\ ∃i σ' H',Inv X pins σ' H' s7 /\ tn i s7.heap /\ (∀b∈fp,H' b=none) /\ W i m σ' H':=fun{σ7 H7} I7 n7=>by
   obtain⟨m',hm,w7⟩:=hN σ7 H7 n7
   refine⟨m',hm,i+1,σ7,H7,I7.unpinned,T.keep _ _ _ st5 λb hb o e=>(I7.pin (b,o) (List.mem_append_right _ (List.mem_append_right _ (jf5 hb e)))).1,λb hb=> ?_,w7⟩
   obtain⟨o,e,d⟩:=T.obj _ _ st5 b hb
   exact(I7.pin (b,o) (List.mem_append_right _ (List.mem_append_right _ (jf5 hb e)))).2.1
  cases f with
  | next=>obtain⟨σ7,H7,I7,n7⟩:=q7;exact again I7 n7
  | cont=>obtain⟨σ7,H7,I7,n7⟩:=q7;exact again I7 n7
  | brk=>obtain⟨σ7,H7,I7,q7⟩:=q7;exact⟨σ7,H7,I7.unpinned,q7⟩
  | ret v=>obtain⟨x7,σ7,H7,I7,r7,q7⟩:=q7;exact⟨x7,σ7,H7,I7.unpinned,r7,q7⟩
end
abbrev R2:=V->V->Hp->VK->Prop
def OpR(X:Cx)(f:Value->Value->Sem Value)(r:R2):Prop:=
 ∀(pins:List (Addr×Obj)) (s:Shared) (σ:St) (H:Hp) (x y:V) (v u:Value) (Q:VK),Inv X pins σ H s->RelV x v->RelV y u->r x y H Q->
  wpAny (model X.prog X.w) X.A (f v u) (EP X pins σ Q) X.xe s
def UnR(X:Cx)(f:Value->Sem Value)(r:V->Hp->VK->Prop):Prop:=
 ∀(pins:List (Addr×Obj)) (s:Shared) (σ:St) (H:Hp) (x:V) (v:Value) (Q:VK),Inv X pins σ H s->RelV x v->r x H Q->
  wpAny (model X.prog X.w) X.A (f v) (EP X pins σ Q) X.xe s
def jdx(X:Cx)(f:Value)(r:List V->Hp->VK->Prop):Prop:=
 ∀(pins:List (Addr×Obj)) (s:Shared) (σ:St) (H:Hp) (xs:List V) (us:List Value) (Q:VK),Inv X pins σ H s->Vals xs us->r xs H Q->
  wpAny (model X.prog X.w) X.A (call f us) (EP X pins σ Q) X.xe s
def TruR(X:Cx)(r:V->Hp->(Bool->Hp->Prop)->Prop):Prop:=
 ∀(pins:List (Addr×Obj)) (s:Shared) (σ:St) (H:Hp) (x:V) (v:Value) (Q:Bool->Hp->Prop),Inv X pins σ H s->RelV x v->r x H Q->
  wpAny (model X.prog X.w) X.A (truthy v) (TP X pins σ Q) X.xe s
def tOp(r:R2)(ta tb:TE):TE:=λσ H Q=>ta σ H λx H1=>tb σ H1 λy H2=>r x y H2 Q
def tUn(r:V->Hp->VK->Prop)(ta:TE):TE:=λσ H Q=>ta σ H λx H1=>r x H1 Q
def rI(C:Int->Int->Prop)(g:Int->Int->V):R2:=λx y H Q=>∃i j,x= .int i /\ y= .int j /\ C i j /\ Q (g i j) H
def rI0(g:Int->Int->V):R2:=λx y H Q=>∃i j,x= .int i /\ y= .int j /\ Q (g i j) H
def rU(g:Int->V):V->Hp->VK->Prop:=λx H Q=>∃i,x= .int i /\ Q (g i) H
section
variable {X : Cx} {a b c : Expr} {ta tb tc : TE} {pos : Pos}
theorem binT(ha:PE X a ta)(hb:PE X b tb){pins:List (Addr×Obj)}{s:Shared}{σ:St}{H:Hp}{R:V->V->Hp->Prop}(I:Inv X pins σ H s)
  (h:ta σ H λx H1=>tb σ H1 λy H2=>R x y H2) {Q:Value->Shared->Prop} {f:Value->Value->Sem Value}
  (hf:∀v u s2 x y H2,Inv X pins σ H2 s2->RelV x v->RelV y u->R x y H2->wpAny (model X.prog X.w) X.A (f v u) Q X.xe s2):
  wpAny (model X.prog X.w) X.A (eval a X.env) (λv s₁=>wpAny (model X.prog X.w) X.A (eval b X.env) (λu s₂=>wpAny (model X.prog X.w) X.A (f v u) Q X.xe s₂) X.xe s₁) X.xe s:=by
 refine thn (ha pins s σ H _ I h) λv s1 ⟨x,H1,I1,r1,q1⟩=> ?_
 refine thn (hb pins s1 σ H1 _ I1 q1) λu s2 ⟨y,H2,I2,r2,q2⟩=> ?_
 exact hf v u s2 x y H2 I2 r1 r2 q2
theorem jah{op:Operator}{r:R2}(ho:OpR X (binaryOp op) r)(ha:PE X a ta)(hb:PE X b tb):PE X (.BinOp a op b pos) (tOp r ta tb):=by
 intro pins s σ H Q I h
 exact wpAny_BinOp (binT ha hb I h λv u s2 x y H2 I2 rx ry q=>ho pins s2 σ H2 x y v u Q I2 rx ry q)
theorem ji0{op:UnaryOp}{r:V->Hp->VK->Prop}(ho:UnR X (unaryOp op) r)(ha:PE X a ta):PE X (.UnaryOp op a pos) (tUn r ta):=by
 intro pins s σ H Q I h
 exact UnaryOp_ (thn (ha pins s σ H _ I h) λv s1 ⟨x,H1,I1,r1,q1⟩=>ho pins s1 σ H1 x v Q I1 r1 q1)
theorem opI{f:Value->Value->Sem Value}{C:Int->Int->Prop}{g:Int->Int->Int}
  (rule:∀(i j:Int) (t u:Tok) (s:Shared) (Q:Value->Shared->Prop) (E:Value->Shared->Prop),C i j->Q (.int (g i j) s.toks) {s with toks:=s.toks+1}->wpAny (model X.prog X.w) X.A (f (.int i t) (.int j u)) Q E s):
  OpR X f (rI C λi j=> .int (g i j)):=by
 intro pins s σ H x y v u Q I rx ry h
 obtain⟨i,j,rfl,rfl,hc,q⟩:=h
 obtain⟨t,rfl⟩:=rx
 obtain⟨t',rfl⟩:=ry
 exact rule i j t t' s _ _ hc ⟨.int (g i j),H,I.tok _,⟨_,rfl⟩,q⟩
theorem opI0{f:Value->Value->Sem Value}{g:Int->Int->Int}
  (rule:∀(i j:Int) (t u:Tok) (s:Shared) (Q:Value->Shared->Prop) (E:Value->Shared->Prop),Q (.int (g i j) s.toks) {s with toks:=s.toks+1}->wpAny (model X.prog X.w) X.A (f (.int i t) (.int j u)) Q E s):
  OpR X f (rI0 λi j=> .int (g i j)):=by
 intro pins s σ H x y v u Q I rx ry h
 obtain⟨i,j,rfl,rfl,q⟩:=h
 obtain⟨t,rfl⟩:=rx
 obtain⟨t',rfl⟩:=ry
 exact rule i j t t' s _ _ ⟨.int (g i j),H,I.tok _,⟨_,rfl⟩,q⟩
theorem opB0{f:Value->Value->Sem Value}{g:Int->Int->Bool}
  (rule:∀(i j:Int) (t u:Tok) (s:Shared) (Q:Value->Shared->Prop) (E:Value->Shared->Prop),Q (.bool (g i j)) s->wpAny (model X.prog X.w) X.A (f (.int i t) (.int j u)) Q E s):
  OpR X f (rI0 λi j=> .bl (g i j)):=by
 intro pins s σ H x y v u Q I rx ry h
 obtain⟨i,j,rfl,rfl,q⟩:=h
 obtain⟨t,rfl⟩:=rx
 obtain⟨t',rfl⟩:=ry
 exact rule i j t t' s _ _ ⟨.bl (g i j),H,I,rfl,q⟩
def CDiv(i j:Int):Prop:=0<j /\ j<1073741824
def CPow(i j:Int):Prop:=0<=j /\ j<=1000000 /\ i.natAbs<2^64
theorem jo3(k:Nat):(0:Int)<=2^k:=by
 rw[two_pow_cast]
 exact Int.natCast_nonneg _
theorem op_add:OpR X (binaryOp .Add) (rI0 λi j=> .int (i+j)):=opI0 λ_ _ _ _ _ _ _ q=>add_int q
theorem jpa:OpR X (binaryOp .Sub) (rI0 λi j=> .int (i - j)):=opI0 λ_ _ _ _ _ _ _ q=>sub_int q
theorem jcn:OpR X (binaryOp .FloorDiv) (rI CDiv λi j=> .int (i / j)):=opI λi j _ _ _ _ _ hc q=>by
 have h1:(0:Int)<j:=hc.1
 have h2:j<1073741824:=hc.2
 exact floordiv_int (by omega) (by rw[Int.fdiv_eq_ediv_of_nonneg i (by omega)];exact q) (.inl (PyProof.noPylong_small (by omega)))
theorem jcf:OpR X (binaryOp .Mod) (rI (λ_ j=>0<j) λi j=> .int (i % j)):=opI λi j _ _ _ _ _ hc q=>by
 have h1:(0:Int)<j:=hc
 exact mod_int' (by omega) (by rw[Int.fmod_eq_emod_of_nonneg i (by omega)];exact q)
theorem jd2:OpR X (binaryOp .LShift) (rI CPow λi j=> .int (i*2^j.toNat)):=opI λ_ _ _ _ _ _ _ hc q=>lshift_int_small hc.1 hc.2.1 hc.2.2 q
theorem jhg:OpR X (binaryOp .RShift) (rI (λ_ j=>0<=j) λi j=> .int (i / 2^j.toNat)):=opI λi j _ _ _ _ _ hc q=>
 rshift_int hc (by rw[Int.fdiv_eq_ediv_of_nonneg i (jo3 _)];exact q)
theorem jbh:OpR X (binaryOp .BitAnd) (rI0 λi j=> .int (Builtin.bitAnd i j)):=opI0 λ_ _ _ _ _ _ _ q=>and_int q
theorem jip:OpR X (binaryOp .BitOr) (rI0 λi j=> .int (Builtin.bitOr i j)):=opI0 λ_ _ _ _ _ _ _ q=>or_int q
theorem unI{f:Value->Sem Value}{g:Int->Int}
  (rule:∀(i:Int) (t:Tok) (s:Shared) (Q:Value->Shared->Prop) (E:Value->Shared->Prop),Q (.int (g i) s.toks) {s with toks:=s.toks+1}->wpAny (model X.prog X.w) X.A (f (.int i t)) Q E s):
  UnR X f (rU λi=> .int (g i)):=by
 intro pins s σ H x v Q I rx h
 obtain⟨i,rfl,q⟩:=h
 obtain⟨t,rfl⟩:=rx
 exact rule i t s _ _ ⟨.int (g i),H,I.tok _,⟨_,rfl⟩,q⟩
theorem un_neg:UnR X (unaryOp .USub) (rU λi=> .int (-i)):=unI λ_ _ _ _ _ q=>neg_int q
theorem jfb:UnR X (unaryOp .Invert) (rU λi=> .int (Builtin.bitNot i)):=unI λ_ _ _ _ _ q=>invert_int q
end
def scal:V->V->Bool
 | .non,.non=>true | .non,.int _=>true | .int _,.non=>true | .non,.bl _=>true | .bl _,.non=>true | .non,.str _=>true | .str _,.non=>true
 | .int _,.int _=>true | .bl _,.bl _=>true | .str _,.str _=>true | .byt _,.byt _=>true
 | .int _,.str _=>true | .str _,.int _=>true | .bl _,.str _=>true | .str _,.bl _=>true
 | _,_=>false
def rEq:R2:=λx y H Q=>scal x y=true /\ Q (.bl (decide (x=y))) H
def rNe:R2:=λx y H Q=>scal x y=true /\ Q (.bl (!decide (x=y))) H
theorem jog{i j:Int}:decide (V.int i=V.int j)=(i==j):=by
 rw[Bool.eq_iff_iff]
 simp
theorem jqf{i j:Bool}:decide (V.bl i=V.bl j)=(i==j):=by
 rw[Bool.eq_iff_iff]
 simp
theorem jp4{i j:Str}:decide (V.str i=V.str j)=(i==j):=by
 rw[Bool.eq_iff_iff]
 simp
theorem jpi{i j:Array UInt8}:decide (V.byt i=V.byt j)=(i.toList==j.toList):=by
 rw[Bool.eq_iff_iff]
 cases i
 cases j
 simp
section
variable {X : Cx} {a b c : Expr} {ta tb tc : TE} {pos : Pos}
theorem jbd{pins:List (Addr×Obj)}{σ:St}{H:Hp}{s:Shared}{Q:VK}{k k':Bool}(I:Inv X pins σ H s)(q:Q (.bl k) H)(e:k=k'):EP X pins σ Q (.bool k') s:=by
 subst e
 exact⟨.bl k,H,I,rfl,q⟩
theorem op_eq:OpR X (compareOp .Eq) rEq:=by
 intro pins s σ H x y v u Q I rx ry h
 obtain⟨hs,q⟩:=h
 cases x with
 | non=>
  cases rx
  cases y with
  | non=>cases ry;exact PySem.EqNone.eq_none_none (jbd I q (by simp))
  | bl j=>cases ry;exact PySem.EqNone.eq_none_bool (jbd I q (by simp))
  | int j=>obtain⟨t',rfl⟩:=ry;exact PySem.EqNone.eq_none_int (jbd I q (by simp))
  | str j=>obtain⟨t',rfl⟩:=ry;exact PySem.EqNone.eq_none_str (jbd I q (by simp))
  | _=>exact absurd (show false=true from hs) Bool.false_ne_true
 | bl i=>
  cases rx
  cases y with
  | non=>cases ry;exact PySem.EqNone.eq_bool_none (jbd I q (by simp))
  | bl j=>cases ry;exact eq_bool (jbd I q jqf)
  | str j=>obtain⟨t',rfl⟩:=ry;exact PySem.EqMixed.eq_bool_str (jbd I q (by simp))
  | _=>exact absurd (show false=true from hs) Bool.false_ne_true
 | int i=>
  obtain⟨t,rfl⟩:=rx
  cases y with
  | non=>cases ry;exact PySem.EqNone.eq_int_none (jbd I q (by simp))
  | int j=>obtain⟨t',rfl⟩:=ry;exact eq_int (jbd I q jog)
  | str j=>obtain⟨t',rfl⟩:=ry;exact PySem.EqMixed.eq_int_str (jbd I q (by simp))
  | _=>exact absurd (show false=true from hs) Bool.false_ne_true
 | str i=>
  obtain⟨t,rfl⟩:=rx
  cases y with
  | non=>cases ry;exact PySem.EqNone.eq_str_none (jbd I q (by simp))
  | bl j=>cases ry;exact PySem.EqMixed.eq_str_bool (jbd I q (by simp))
  | int j=>obtain⟨t',rfl⟩:=ry;exact PySem.EqMixed.eq_str_int (jbd I q (by simp))
  | str j=>obtain⟨t',rfl⟩:=ry;exact eq_str (jbd I q jp4)
  | _=>exact absurd (show false=true from hs) Bool.false_ne_true
 | byt i=>
  obtain⟨t,rfl⟩:=rx
  cases y with
  | byt j=>obtain⟨t',rfl⟩:=ry;exact W.eq_bytes (jbd I q jpi)
  | _=>exact absurd (show false=true from hs) Bool.false_ne_true
 | _=>cases y<;>exact absurd (show false=true from hs) Bool.false_ne_true
theorem op_ne:OpR X (compareOp .NotEq) rNe:=by
 intro pins s σ H x y v u Q I rx ry h
 obtain⟨hs,q⟩:=h
 cases x with
 | non=>
  cases rx
  cases y with
  | non=>cases ry;exact PySem.EqNone.ne_none_none (jbd I q (by simp))
  | bl j=>cases ry;exact PySem.EqNone.ne_none_bool (jbd I q (by simp))
  | int j=>obtain⟨t',rfl⟩:=ry;exact PySem.EqNone.ne_none_int (jbd I q (by simp))
  | str j=>obtain⟨t',rfl⟩:=ry;exact PySem.EqNone.ne_none_str (jbd I q (by simp))
  | _=>exact absurd (show false=true from hs) Bool.false_ne_true
 | bl i=>
  cases rx
  cases y with
  | non=>cases ry;exact PySem.EqNone.ne_bool_none (jbd I q (by simp))
  | bl j=>cases ry;exact ne_bool (jbd I q (congrArg not jqf))
  | str j=>obtain⟨t',rfl⟩:=ry;exact PySem.EqMixed.ne_bool_str (jbd I q (by simp))
  | _=>exact absurd (show false=true from hs) Bool.false_ne_true
 | int i=>
  obtain⟨t,rfl⟩:=rx
  cases y with
  | non=>cases ry;exact PySem.EqNone.ne_int_none (jbd I q (by simp))
  | int j=>obtain⟨t',rfl⟩:=ry;exact ne_int (jbd I q (congrArg not jog))
  | str j=>obtain⟨t',rfl⟩:=ry;exact PySem.EqMixed.ne_int_str (jbd I q (by simp))
  | _=>exact absurd (show false=true from hs) Bool.false_ne_true
 | str i=>
  obtain⟨t,rfl⟩:=rx
  cases y with
  | non=>cases ry;exact PySem.EqNone.ne_str_none (jbd I q (by simp))
  | bl j=>cases ry;exact PySem.EqMixed.ne_str_bool (jbd I q (by simp))
  | int j=>obtain⟨t',rfl⟩:=ry;exact PySem.EqMixed.ne_str_int (jbd I q (by simp))
  | str j=>obtain⟨t',rfl⟩:=ry;exact ne_str (jbd I q (congrArg not jp4))
  | _=>exact absurd (show false=true from hs) Bool.false_ne_true
 | byt i=>
  obtain⟨t,rfl⟩:=rx
  cases y with
  | byt j=>obtain⟨t',rfl⟩:=ry;exact W.ne_bytes (jbd I q (congrArg not jpi))
  | _=>exact absurd (show false=true from hs) Bool.false_ne_true
 | _=>cases y<;>exact absurd (show false=true from hs) Bool.false_ne_true
theorem jsy:OpR X (compareOp .Lt) (rI0 λi j=> .bl (decide (i<j))):=opB0 λ_ _ _ _ _ _ _ q=>lt_int q
theorem op_gt:OpR X (compareOp .Gt) (rI0 λi j=> .bl (decide (j<i))):=opB0 λ_ _ _ _ _ _ _ q=>gt_int q
theorem jpe:OpR X (compareOp .In) (λx y H Q=>∃i j,x= .str i /\ y= .str j /\ Q (.bl (!(Builtin.Str.occurrences j i 0 j.length 1).isEmpty)) H):=by
 intro pins s σ H x y v u Q I rx ry h
 obtain⟨i,j,rfl,rfl,q⟩:=h
 obtain⟨t,rfl⟩:=rx
 obtain⟨t',rfl⟩:=ry
 exact in_str (jbd I q rfl)
theorem jb0(b:Expr){op:CmpOp}(h:op≠ .In:=by decide)(h2:op≠ .NotIn:=by decide):behindInMarks op b=false:=by
 have e1:(op==CmpOp.In)=false:=by cases op<;>first | rfl | exact absurd rfl h
 have e2:(op==CmpOp.NotIn)=false:=by cases op<;>first | rfl | exact absurd rfl h2
 cases b<;>simp[behindInMarks,e1,e2]
theorem jg3{op:CmpOp}{r:R2}(ho:OpR X (compareOp op) r)(ha:PE X a ta)(hb:PE X b tb)(hm:behindInMarks op b=false):PE X (.Compare a [op] [b] pos) (tOp r ta tb):=by
 intro pins s σ H Q I h
 exact wpAny_Compare1 (binT ha hb I h λv u s2 x y H2 I2 rx ry q=>ho pins s2 σ H2 x y v u Q I2 rx ry q) hm
def tTest(t:TE):TT:=λσ H Q=>t σ H λx H'=>∃k,x= .bl k /\ Q k H'
theorem jar{op:CmpOp}{r:R2}(ho:OpR X (compareOp op) r)(ha:PE X a ta)(hb:PE X b tb)(hm:behindInMarks op b=false):PT X (.Compare a [op] [b] pos) (tTest (tOp r ta tb)):=by
 intro pins s σ H Q I h
 refine wpAny_isTrue_Compare1 (thn (ha pins s σ H _ I h) λv s1 ⟨x,H1,I1,r1,q1⟩=>thn (hb pins s1 σ H1 _ I1 q1) λu s2 ⟨y,H2,I2,r2,q2⟩=>
  thn (ho pins s2 σ H2 x y v u _ I2 r1 r2 q2) λc s3 ⟨z,H3,I3,r3,k,e,q3⟩=> ?_) hm
 subst e
 cases r3
 exact wpAny_truthy_bool ⟨H3,I3,q3⟩
def TruV(K:W.Frag)(x:V)(H:Hp)(k:Bool):Prop:=
 match x with
 | .non=>k=false
 | .bl b=>k=b
 | .int i=>k=(i !=0)
 | .str y=>y.length<=sizeLine /\ k=((y.length:Int)!=0)
 | .byt y=>y.size<=sizeLine /\ k=((y.size:Int)!=0)
 | .ref p=>(∃xs,SqL K H p xs /\ k= !xs.isEmpty) \/ (∃xs,SqT K H p xs /\ k= !xs.isEmpty) \/ ∃kvs,H p=some (.dK kvs) /\ k= !kvs.isEmpty
 | _=>False
theorem jnl{κ:Type}{kvs:List (κ×V)}{vs:List (κ×Value)}(r:KV kvs vs):(!vs.isEmpty)= !kvs.isEmpty:=by
 cases r<;>rfl
theorem jj6{xs:List V}{its:List Value}(r:Vals xs its):(!its.toArray.isEmpty)= !xs.isEmpty:=by
 cases r<;>simp
theorem jj4:(sizeLine:Nat)<2^63:=by rw[sizeLine_eq];decide
theorem jtk:TruR X (λx H Q=>∃k,TruV X.K x H k /\ Q k H):=by
 intro pins s σ H x v Q I rx h
 obtain⟨k,e,q⟩:=h
 have hl:=jj4
 have hs:sizeLine=16777216:=sizeLine_eq
 cases x with
 | non=>
  cases rx
  have e':k=false:=e
  subst e'
  exact truthy_none ⟨H,I,q⟩
 | bl b=>
  cases rx
  have e':k=b:=e
  subst e'
  exact wpAny_truthy_bool ⟨H,I,q⟩
 | int i=>
  obtain⟨t,rfl⟩:=rx
  have e':k=(i !=0):=e
  subst e'
  exact PySem.P.truthy_int ⟨H,I,q⟩
 | str y=>
  obtain⟨t,rfl⟩:=rx
  obtain⟨hy,e'⟩:y.length<=sizeLine /\ k=((y.length:Int)!=0):=e
  subst e'
  exact PySem.P.truthy_str (by omega) ⟨H,I.tok _,q⟩
 | byt y=>
  obtain⟨t,rfl⟩:=rx
  obtain⟨hy,e'⟩:y.size<=sizeLine /\ k=((y.size:Int)!=0):=e
  subst e'
  exact W.truthy_bytes (by omega) ⟨H,I.tok _,q⟩
 | ref p=>
  cases rx
  have e':(∃xs,SqL X.K H p xs /\ k= !xs.isEmpty) \/ (∃xs,SqT X.K H p xs /\ k= !xs.isEmpty) \/ ∃kvs,H p=some (.dK kvs) /\ k= !kvs.isEmpty:=e
  rcases e' with⟨xs,hx,e'⟩ | ⟨xs,hx,e'⟩ | ⟨kvs,hx,e'⟩
  ·subst e'
   obtain⟨its,r,pl,hz⟩:=I.list hx
   have hlen:=r.length
   exact wpAny_truthy_list pl.isList (by simp only[List.size_toArray];omega) ⟨H,I.tok _,by rw[jj6 r];exact q⟩
  ·subst e'
   obtain⟨its,r,pl,hz⟩:=I.tuple hx
   have hlen:=r.length
   exact truthy_tuple pl (by simp only[List.size_toArray];omega) ⟨H,I.tok _,by rw[jj6 r];exact q⟩
  ·subst e'
   obtain⟨hz,hS,vs,r,m⟩:kvs.length<=sizeLine /\ (p==sysModules)=false /\ ∃vs,KV kvs vs /\ s.heap.DictOf (jbf X.prog X.w) p vs:=I.hok p _ hx
   have hlen:kvs.length=vs.length:=Paired.length r
   exact wpAny_truthy_dict hS m (by omega) ⟨H,I.tok _,by rw[jnl r];exact q⟩
 | _=>exact(show False from e).elim
theorem jsr(ha:PE X a ta)(he:∀whole,isTrue a X.env whole=(do let v<-whole;standAt a.pos;holding [v] (truthy v))):
  PT X a (λσ H Q=>ta σ H λx H'=>∃k,TruV X.K x H' k /\ Q k H'):=by
 intro pins s σ H Q I h
 exact isTrue_plain (thn (ha pins s σ H _ I h) λv s1 ⟨x,H1,I1,r1,q1⟩=>jtk pins s1 σ H1 x v Q I1 r1 q1) (he _)
theorem jnp:OpR X (binaryOp .Add) (λx y H Q=>∃i j,x= .str i /\ y= .str j /\ i.length+j.length<=sizeLine /\ Q (.str (i++j)) H):=by
 intro pins s σ H x y v u Q I rx ry h
 obtain⟨i,j,rfl,rfl,hz,q⟩:=h
 obtain⟨t,rfl⟩:=rx
 obtain⟨t',rfl⟩:=ry
 exact add_str (λt' tk=>⟨.str (i++j),H,I.tok _,⟨_,rfl⟩,q⟩) hz
theorem jl3{x:V}{us:List Value}(r:Vals [x] us):∃u,us=[u] /\ RelV x u:=by
 cases r with
 | cons r1 r2=>cases r2;exact⟨_,rfl,r1⟩
theorem vals2{x y:V}{us:List Value}(r:Vals [x,y] us):∃u w',us=[u,w'] /\ RelV x u /\ RelV y w':=by
 cases r with
 | cons r1 r2=>
  cases r2 with
  | cons r3 r4=>cases r4;exact⟨_,_,rfl,r1,r3⟩
end
structure ObjM (h:Heap) (x dx C:Addr) (mA:Str->Option Value):Prop where
 obj:h.get? x=some (W.instObj C dx)
 ns:h.Ns1 dx mA
 ne:dx≠x
theorem jp8{h:Heap}{dx:Addr}{mA:Str->Option Value}(n:h.Ns1 dx mA):∃od,h.get? dx=some od /\ ∀name,W.lookIn name od=some (mA name):=by
 obtain⟨o,es,ep,ho,hd,hk,_,hm⟩:=n
 refine⟨o,ho,λname=> ?_⟩
 have e:=hm name
 unfold nsFind findBy at e
 rw[<-Array.find?_toList] at e
 unfold W.lookIn
 rw[hd]
 dsimp only
 split
 ·rename_i y q
  rw[q] at e
  exact congrArg some e
 ·rename_i q
  rw[q] at e
  have a:es.toList.any (·.refKey)=false:=by
   rw[List.any_eq_false]
   intro y hy
   obtain⟨z,t,hkey⟩:=hk y (Array.mem_toList_iff.mp hy)
   simp[DictEntry.refKey,hkey]
  have a':¬es.toList.any (·.refKey)=true:=by rw[a];exact Bool.false_ne_true
  rw[if_neg a']
  exact congrArg some e
theorem ObjM.look{h:Heap}{x dx C:Addr}{mA:Str->Option Value}(I:ObjM h x dx C mA):∃od,W.InstAt h x (W.instObj C dx) C (some od) /\ ∀name,W.lookIn name od=some (mA name):=
 let ⟨od,ho,hl⟩:=jp8 I.ns
 ⟨od,⟨I.obj,rfl,rfl,ho⟩,hl⟩
section
variable {prog : Program} {w : World} {A : Around} {E : Value -> Shared -> Prop} {s : Shared} {K : W.Frag} {x dx C f : Addr} {mA : Str -> Option Value} {name : Str} {v : Value}
theorem jv1{expr:Bool}{Q:Value->Shared->Prop}(X:K.In s.heap)(I:ObjM s.heap x dx C mA)(hg:W.plainGet K C name=true)(hh:W.hasDictIn K C=true)
  (ha:W.findIn K (.ref C) name=some none) (hv:mA name=some v) (hv':W.handedIn v=true) (h:Q v {s with toks:=s.toks+1}):
  wpAny (model prog w) A (getAttr (.ref x) name expr) Q E s:=by
 obtain⟨od,J,hl⟩:=I.look
 exact W.get_value X J (W.plainGet_of hg).1 (W.findObj_own hh ha rfl (by rw[hl,hv])) hv' h
theorem jsv{pl:Sem Bool}{Q:Value×List Value->Shared->Prop}(X:K.In s.heap)(I:ObjM s.heap x dx C mA)(hg:W.plainGet K C name=true)
  (hf:W.findIn K (.ref C) name=some (some (.ref f))) (ht:W.isFn K (.ref f)=true) (hv:mA name=none) (h:Q (.ref f,[.ref x]) s):
  wpAny (model prog w) A (getMethod (.ref x) name pl) Q E s:=by
 obtain⟨od,J,hl⟩:=I.look
 exact W.method_fn X J (W.plainGet_of hg).1 (W.plainGet_of hg).2 hf (beq_iff_eq.mp ht) (by show(W.lookIn name od).map (·.isSome)=some false;rw[hl,hv];rfl) h
theorem jub{ns:List Str}{Q:Unit->Shared->Prop}(X:K.In s.heap)(I:ObjM s.heap x dx C mA)
  (hs:W.findIn K (.ref C) "__setattr__"=some (some (.builtin "object.__setattr__"))) (hp:W.plainOver K C=true) (ht:W.takerIn K C name=some none) (hh:W.hasDictIn K C=true)
  (hw:PySem.Within mA ns) (hsz:ns.length<=sizeLine)
  (h:∀h',ObjM h' x dx C (λy=>if y=name then some v else mA y)->Heap.SameBut dx s.heap h'->Q () {s with heap:=h',toks:=s.toks+2}):
  wpAny (model prog w) A (setAttr (.ref x) name v) Q E s:=by
 obtain⟨od,J,hl⟩:=I.look
 refine W.set_plain X J hs (W.osa_open (s:={s with toks:=s.toks+1}) (r:=none) X J hp ht λb=> ?_)
 obtain⟨cd,hc,hd'⟩:=W.any_some hh
 have hx:s.heap.get? x=some ⟨.ref C,some dx,.plain,#[]⟩:=I.obj
 refine wpAny_bind (wpAny_pure (wpAny_bind (wpAny_bind (wpAny_loadPart hx (wpAny_bind (W.Looks.here (s:={s with toks:=s.toks+1}) (W.looks_clsIn X hc) ?_))))))
 rw[hd']
 refine wpAny_pure (a:=some dx) (wpAny_bind (wpAny_pure (wpAny_bind ?_)))
 refine wpAny_nsSet1 (s:={s with toks:=s.toks+1}) I.ns λh' hn2 hs2=> ?_
 obtain⟨oD,esD,epD,hoD,hdD,hcD⟩:=hn2.count (PySem.Within.cons name v hw)
 refine wpAny_bind (wpAny_lookBehind hoD (by rw[hdD];exact pastItsLine_dict (Nat.le_trans hcD (by rw[List.length_cons];omega))) ?_)
 exact wpAny_pure (h _ ⟨(hs2.2 _ (Ne.symm I.ne)).trans I.obj,hn2,I.ne⟩ hs2)
theorem jrp{R:Result->Shared->Prop}{vs:List Value}{kw:List (Str×Value)}(X:K.In s.heap)(hm:W.makesIn K C=true)
    (hi:W.findIn K (.ref C) "__init__"=some (some (.ref f))) (hf:W.typeIn K (.ref f)=some (.type "function"))
    (h:codeAny (model prog w) (A.under (.builtin "type.__call__" ⟨.ref C::vs,kw⟩)) (.call (.ref f) ⟨.ref (s.heap.objs.size+1)::vs,kw⟩) (W.InitBack (s.heap.objs.size+1) R)
      {s with heap:=(s.heap.push W.emptyDict).push (W.instObj C s.heap.objs.size)}):
    codeAny (model prog w) A (.call (.ref C) ⟨vs,kw⟩) R s:=by
  obtain⟨hh,g,d,t,os⟩:=s
  exact W.make_core (W.makes_of X hm) (W.looks_findIn X hi) (λself=>W.bind_fn X self hf) (.inl rfl) h
end
def putF(f:Str)(v:V):List (Str×V)->List (Str×V)
  | []=>[(f,v)]
  | (g,x)::r=>if g=f then(g,v)::r else(g,x)::putF f v r
theorem ji4(f g:Str)(v:V):∀fs:List (Str×V),(putF f v fs).lookup g=if g=f then some v else fs.lookup g
  | []=>by
    show List.lookup g [(f,v)]=_
    by_cases h:g=f
    · have hb:(g==f)=true:=beq_iff_eq.mpr h
      simp only[List.lookup,hb,if_pos h]
    · have hb:(g==f)=false:=beq_eq_false_iff_ne.mpr h
      simp only[List.lookup,hb,if_neg h]
  | (k,x)::r=>by
    have ih:=ji4 f g v r
    rw[show putF f v ((k,x)::r)=(if k=f then(k,v)::r else(k,x)::putF f v r) from rfl]
    by_cases hk:k=f
    · rw[if_pos hk]
      by_cases h:g=k
      · have hb:(g==k)=true:=beq_iff_eq.mpr h
        simp only[List.lookup,hb,if_pos (h.trans hk)]
      · have hb:(g==k)=false:=beq_eq_false_iff_ne.mpr h
        simp only[List.lookup,hb,if_neg (λe:g=f=>h (e.trans hk.symm))]
    · rw[if_neg hk]
      by_cases h:g=k
      · have hb:(g==k)=true:=beq_iff_eq.mpr h
        simp only[List.lookup,hb,if_neg (λe:g=f=>hk (h.symm.trans e))]
      · have hb:(g==k)=false:=beq_eq_false_iff_ne.mpr h
        simp only[List.lookup,hb]
        exact ih
theorem ji5(f:Str)(v:V):∀fs:List (Str×V),f∈(putF f v fs).map (·.1) /\ ∀g,g∈fs.map (·.1)->g∈(putF f v fs).map (·.1)
  | []=>⟨by simp[putF],λg h=>by simp at h⟩
  | (k,x)::r=>by
    obtain⟨i1,i2⟩:=ji5 f v r
    rw[show putF f v ((k,x)::r)=(if k=f then(k,v)::r else(k,x)::putF f v r) from rfl]
    by_cases hk:k=f
    · rw[if_pos hk]
      subst hk
      exact⟨by simp,λg h=>by simpa using h⟩
    · rw[if_neg hk]
      refine⟨?_,λg h=> ?_⟩
      · rw[List.map_cons]
        exact List.mem_cons_of_mem _ i1
      · rw[List.map_cons] at h ⊢
        rcases List.mem_cons.mp h with e | e
        · exact List.mem_cons.mpr (.inl e)
        · exact List.mem_cons_of_mem _ (i2 g e)
theorem jhz(f:Str)(v:V):∀fs:List (Str×V),(putF f v fs).length<=fs.length+1
  | []=>by simp[putF]
  | (k,x)::r=>by
    have ih:=jhz f v r
    rw[show putF f v ((k,x)::r)=(if k=f then(k,v)::r else(k,x)::putF f v r) from rfl]
    by_cases hk:k=f
    · rw[if_pos hk,List.length_cons,List.length_cons];omega
    · rw[if_neg hk,List.length_cons,List.length_cons];omega
theorem RelO.some_of{v:V}{o:Option Value}(r:RelO (some v) o):∃u,o=some u /\ RelV v u:=by
 cases o with
 | none=>exact(show False from r).elim
 | some u=>exact⟨u,rfl,r⟩
theorem RelO.none_of{o:Option Value}(r:RelO none o):o=none:=by
 cases o with
 | none=>rfl
 | some u=>exact(show False from r).elim
theorem jr6{v:V}{u:Value}(r:RelV v u):W.handedIn u=true:=by
 cases v with
 | non=>cases (show u=Value.none from r);rfl
 | bl b=>cases (show u=Value.bool b from r);rfl
 | int i=>obtain⟨t,e⟩:=(show ∃t,u=Value.int i t from r);cases e;rfl
 | str x=>obtain⟨t,e⟩:=(show ∃t,u=Value.str x t from r);cases e;rfl
 | byt b=>obtain⟨t,e⟩:=(show ∃t,u=Value.bytes b t from r);cases e;rfl
 | flt b=>obtain⟨t,e⟩:=(show ∃t,u=Value.float b t from r);cases e;rfl
 | ref a=>cases (show u=Value.ref a from r);rfl
 | ty n=>cases (show u=Value.type n from r);rfl
section
variable {P : Program} {w : World} {H H' : Hp} {h h' : Heap} {a C dx : Addr} {fs fs' : List (Str × V)}
theorem jjq(hok:HOk P w H h)(e:H a=some (.ins C dx fs)):∃mA,ObjM h a dx C mA /\ (∀f,RelO (fs.lookup f) (mA f)) /\ PySem.Within mA (fs.map (·.1)) /\ fs.length<=1000 /\ H dx=some (.own a):=by
 obtain⟨d,z,ne,ob,mA,n,r,q⟩:=(show jby P w H h a (.ins C dx fs) from hok a _ e)
 exact⟨mA,⟨ob,n,ne⟩,r,q,z,d⟩
end
structure Cls (K:W.Frag) (C:Addr):Prop where
 pg:W.plainGet K C Str.empty=true
 hd:W.hasDictIn K C=true
 po:W.plainOver K C=true
 sa:W.findIn K (.ref C) "__setattr__"=some (some (.builtin "object.__setattr__"))
theorem Cls.get{K:W.Frag}{C:Addr}(c:Cls K C)(f:Str):W.plainGet K C f=true:=c.pg
def jbw(K:W.Frag)(C:Addr)(f:Str):Prop:=W.findIn K (.ref C) f=some none
theorem jbw.taker{K:W.Frag}{C:Addr}{f:Str}(n:jbw K C f):W.takerIn K C f=some none:=by
 unfold W.takerIn
 rw[show W.findIn K (.ref C) f=some none from n]
 rfl
structure Meth (K:W.Frag) (C:Addr) (m:Str) (f:Addr):Prop where
 at_:W.findIn K (.ref C) m=some (some (.ref f))
 fn:W.isFn K (.ref f)=true
 kp:W.keepIn K (.ref f)=true
section
variable {X : Cx} {pins : List (Addr × Obj)} {σ : St} {H : Hp} {s : Shared} {a C dx : Addr} {fs : List (Str × V)} {f : Str} {v : V} {A : Around} {E : Value -> Shared -> Prop}
theorem jo0{b:Bool}{Q:Value->Shared->Prop}(I:Inv X pins σ H s)(e:H a=some (.ins C dx fs))(c:Cls X.K C)(n:jbw X.K C f)(l:fs.lookup f=some v)
  (h:∀u s',Inv X pins σ H s'->RelV v u->Q u s'):wpAny (model X.prog X.w) A (getAttr (.ref a) f b) Q E s:=by
 obtain⟨mA,O,r,_,_,_⟩:=jjq I.hok e
 obtain⟨u,hu,ru⟩:=RelO.some_of (v:=v) (o:=mA f) (by rw[<-l];exact r f)
 exact jv1 I.kIn O (c.get f) c.hd n hu (jr6 ru) (h u _ (I.tok _) ru)
theorem jis{m:Str}{g:Addr}{pl:Sem Bool}{Q:Value×List Value->Shared->Prop}(I:Inv X pins σ H s)(e:H a=some (.ins C dx fs))(c:Cls X.K C)(k:Meth X.K C m g)(l:fs.lookup m=none)
  (h:Q (.ref g,[.ref a]) s):wpAny (model X.prog X.w) A (getMethod (.ref a) m pl) Q E s:=by
 obtain⟨mA,O,r,_,_,_⟩:=jjq I.hok e
 have hn:mA m=none:=RelO.none_of (by rw[<-l];exact r m)
 exact jsv I.kIn O (c.get m) k.at_ k.fn hn h
theorem jny{y:V}{u:Value}{Q:Unit->Shared->Prop}(I:Inv X pins σ H s)(e:H a=some (.ins C dx fs))(c:Cls X.K C)(n:jbw X.K C f)(hl:fs.length<1000)(ry:RelV y u)
  (h:∀s',Inv X pins σ (upd H a (.ins C dx (putF f y fs))) s'->Q () s'):wpAny (model X.prog X.w) A (setAttr (.ref a) f u) Q E s:=by
 obtain⟨mA,O,r,wi,_,ho⟩:=jjq I.hok e
 have hz:(fs.map (·.1)).length<=sizeLine:=by rw[List.length_map,sizeLine_eq];omega
 refine jub I.kIn O c.sa c.po n.taker c.hd wi hz λh' O' sb=>h _ ?_
 have hd:∃o,h'.get? dx=some o:=let ⟨o,_,_,e',_⟩:=O'.ns;⟨o,e'⟩
 refine I.write (x:=a) (e:=dx) (by rw[e];exact True.intro) (.inr ho) (λb q hb z=>(sb.2 b hb).trans z) hd ?_
 refine⟨by rw[jad O.ne];exact ho,?_,O.ne,O'.obj,_,O'.ns,λg=> ?_,λg hg=> ?_⟩
 ·have:=jhz f y fs;omega
 ·show RelO ((putF f y fs).lookup g) (if g=f then some u else mA g)
  rw[ji4]
  by_cases q:g=f
  ·rw[if_pos q,if_pos q];exact ry
  ·rw[if_neg q,if_neg q];exact r g
 ·by_cases q:g=f
  ·rw[q];exact(ji5 f y fs).1
  ·refine(ji5 f y fs).2 g (wi g λz=>hg ?_)
   show(if g=f then some u else mA g)=none
   rw[if_neg q];exact z
theorem Inv.made(I:Inv X pins σ H s):Inv X pins σ (upd (upd H s.heap.objs.size (.own (s.heap.objs.size+1))) (s.heap.objs.size+1) (.ins C s.heap.objs.size []))
    {s with heap:=(s.heap.push W.emptyDict).push (W.instObj C s.heap.objs.size)}:=by
  have e1:(s.heap.push W.emptyDict).get? s.heap.objs.size=some W.emptyDict:=Heap.get?_push_size s.heap rfl
  have e2:((s.heap.push W.emptyDict).push (W.instObj C s.heap.objs.size)).get? (s.heap.objs.size+1)=some (W.instObj C s.heap.objs.size):=by
    have:=Heap.get?_push_size (s.heap.push W.emptyDict) (o:=W.instObj C s.heap.objs.size) rfl
    rwa [Heap.size_push] at this
  have e3:(s.heap.push W.emptyDict).Ns s.heap.objs.size (λ_=>none):=⟨W.emptyDict,#[],_,e1,rfl,(λe he=>absurd he (by simp)),λ_=>rfl⟩
  have I1:=I.laid (a:=s.heap.objs.size) (o:= .own (s.heap.objs.size+1)) (h':=s.heap.push W.emptyDict) (t':=s.toks) (λb u q=>Heap.get?_push_of_some _ q) (Nat.le_refl _) ⟨_,e1⟩
  refine I1.laid (a:=s.heap.objs.size+1) (o:= .ins C s.heap.objs.size []) (t':=s.toks) (λb u q=>Heap.get?_push_of_some _ q) (Nat.le_of_eq (Heap.size_push _ _)) ?_
  have ne:s.heap.objs.size≠s.heap.objs.size+1:=Nat.ne_of_lt (Nat.lt_succ_self _)
  refine⟨by rw[jad ne,jap],Nat.zero_le _,ne,e2,λ_=>none,(Heap.Ns1.of_empty e3).at λo q=>Heap.get?_push_of_some _ q,λ_=>True.intro,λy hy=>absurd rfl hy⟩
theorem jvf{prog:Program}{w:World}{env:Env}{e:Expr}{f:Str}{pos:Pos}{s:Shared}{Q:Value->Shared->Prop}(hb:attributeBase e f env (eval e env)=eval e env)
  (h:wpAny (model prog w) A (eval e env) (λo s₁=>wpAny (model prog w) A (getAttr o f true) Q E s₁) E s):wpAny (model prog w) A (eval (.Attribute e f pos) env) Q E s:=
 Attribute_any_ h (by rw[arm_eval_Attribute,hb])
end
def tFld(K:W.Frag)(ta:TE)(f:Str):TE:=λσ H Q=>ta σ H λx H1=>∃a C dx fs v,x= .ref a /\ H1 a=some (.ins C dx fs) /\ Cls K C /\ jbw K C f /\ fs.lookup f=some v /\ Q v H1
def sFld(K:W.Frag)(ta tv:TE)(f:Str):TS:=λD σ H=>tv σ H λy H1=>ta σ H1 λx H2=>∃a C dx fs,x= .ref a /\ H2 a=some (.ins C dx fs) /\ Cls K C /\ jbw K C f /\ fs.length<1000 /\
 D.nx σ (upd H2 a (.ins C dx (putF f y fs)))
section
variable {X : Cx} {o e value : Expr} {f : Str} {pos pos' tpos : Pos} {ta tv : TE}
theorem jb9(he:PE X e ta)(hb:attributeBase e f X.env (eval e X.env)=eval e X.env):PE X (.Attribute e f pos) (tFld X.K ta f):=by
 intro pins s σ H Q I h
 refine jvf hb (thn (he pins s σ H _ I h) λu s1 ⟨x,H1,I1,rx,a,C,dx,fs,v,ex,ea,c,n,l,q⟩=> ?_)
 subst ex
 obtain rfl:u=Value.ref a:=rx
 exact jo0 I1 ea c n l λu' s2 I2 ru=>⟨v,H1,I2,ru,q⟩
theorem jdi(ha:PE X o ta)(hv:PE X value tv)(hs:swapsWith value (some (.Attribute o f pos')) pos.line X.env=pure false):PS X (.Assign [.Attribute o f pos'] value pos) (sFld X.K ta tv f):=by
 intro pins s σ H D I h
 refine plainObj_wpAny_Assign_Attribute (thn (hv pins s σ H _ I h) λu s1 ⟨y,H1,I1,ry,q⟩=>thn (ha pins s1 σ H1 _ I1 q) λov s2 ⟨x,H2,I2,rx,a,C,dx,fs,ex,ea,c,n,l,q2⟩=> ?_) hs
 subst ex
 obtain rfl:ov=Value.ref a:=rx
 exact jny I2 ea c n l ry λs3 I3=>⟨σ,_,I3,q2⟩
end
section
variable {X : Cx} {pins : List (Addr × Obj)} {σ : St} {H : Hp} {s : Shared} {A : Around} {E : Value -> Shared -> Prop} {Q : Value -> Shared -> Prop} {c : Value} {b : Bool}
inductive TyOf (K:W.Frag) (H:Hp):V->Value->Prop where
 | non:TyOf K H .non (.type "NoneType")
 | bl (x:Bool):TyOf K H (.bl x) (.type "bool")
 | int (i:Int):TyOf K H (.int i) (.type "int")
 | str (x:Str):TyOf K H (.str x) (.type "str")
 | flt (x:UInt64):TyOf K H (.flt x) (.type "float")
 | lst {a:Addr} {xs:List V} (e:H a=some (.lst xs)):TyOf K H (.ref a) (.type "list")
 | frz {a:Addr} {o:Obj} {xs:List V} (e:H a=some (.frz o (.lst xs))):TyOf K H (.ref a) (.type "list")
 | tup {a:Addr} {xs:List V} (e:H a=some (.tup xs)):TyOf K H (.ref a) (.type "tuple")
 | dK {a:Addr} {kvs:List (Key×V)} (e:H a=some (.dK kvs)):TyOf K H (.ref a) (.type "dict")
 | dT {a:Addr} {kvs:List (List Key×V)} (e:H a=some (.dT kvs)):TyOf K H (.ref a) (.type "dict")
 | ins {a C dx:Addr} {fs:List (Str×V)} (e:H a=some (.ins C dx fs)) (cl:Cls K C) (ha:W.findIn K (.ref C) "__class__"=some (some (.builtin "object.__class__")))
   (hn:W.specialIn K (.builtin "object.__class__") "__get__"=some (some (.builtin "getset_descriptor.__get__"))) (htk:W.takesIn K (.builtin "object.__class__")=some true)
   (hm:W.mroIn K C (.type "object")=some true):TyOf K H (.ref a) (.ref C)
theorem joq{x:V}{u t:Value}(I:Inv X pins σ H s)(rx:RelV x u)(ty:TyOf X.K H x t)(e:W.kitOne X.K t c=some b)(h:∀tk,Q (.bool b) {s with toks:=tk}):
  wpAny (model X.prog X.w) A (call (.builtin "isinstance") [u,c]) Q E s:=by
 cases ty with
 | non=>cases (show u=Value.none from rx);exact W.kia_one W.kitx_none I.kIn True.intro e (λz=>nomatch z) h
 | bl y=>cases (show u=Value.bool y from rx);exact W.kia_one W.kitx_bool I.kIn True.intro e (λz=>nomatch z) h
 | int i=>obtain⟨t,q⟩:=(show ∃t,u=Value.int i t from rx);cases q;exact W.kia_one W.kitx_int I.kIn True.intro e (λz=>nomatch z) h
 | str y=>obtain⟨t,q⟩:=(show ∃t,u=Value.str y t from rx);cases q;exact W.kia_one W.kitx_str I.kIn True.intro e (λz=>nomatch z) h
 | flt y=>obtain⟨t,q⟩:=(show ∃t,u=Value.float y t from rx);cases q;exact W.kia_one W.kitx_float I.kIn True.intro e (λz=>nomatch z) h
 | @lst a xs ea=>
  cases (show u=Value.ref a from rx)
  obtain⟨_,_,n,_,h1⟩:=(show jby X.prog X.w H s.heap a (.lst xs) from I.hok a _ ea)
  exact W.kia_one W.kitx_list I.kIn ⟨_,h1,rfl⟩ e (λz=>nomatch z) h
 | @frz a ob xs ea=>
  cases (show u=Value.ref a from rx)
  obtain⟨_,_,_,n,_,h1⟩:=(show jby X.prog X.w H s.heap a (.frz ob (.lst xs)) from I.hok a _ ea)
  exact W.kia_one W.kitx_list I.kIn ⟨_,h1,rfl⟩ e (λz=>nomatch z) h
 | @tup a xs ea=>
  cases (show u=Value.ref a from rx)
  obtain⟨_,_,_,p⟩:=(show jby X.prog X.w H s.heap a (.tup xs) from I.hok a _ ea)
  obtain⟨o,h1,h2,_⟩:=p
  exact W.kia_one W.kitx_tuple I.kIn ⟨o,h1,h2⟩ e (λz=>nomatch z) h
 | @dK a kvs ea=>
  cases (show u=Value.ref a from rx)
  obtain⟨_,_,vs,_,p⟩:=(show jby X.prog X.w H s.heap a (.dK kvs) from I.hok a _ ea)
  obtain⟨o,es,ep,h1,h2,_⟩:=p
  exact W.kia_one W.kitx_dict I.kIn ⟨o,h1,h2.1⟩ e (λz=>nomatch z) h
 | @dT a kvs ea=>
  cases (show u=Value.ref a from rx)
  obtain⟨_,_,xs,_,o,es,ep,h1,h2,_⟩:=(show jby X.prog X.w H s.heap a (.dT kvs) from I.hok a _ ea)
  exact W.kia_one W.kitx_dict I.kIn ⟨o,h1,h2.1⟩ e (λz=>nomatch z) h
 | @ins a C dx fs ea cl ha hn htk hm=>
  cases (show u=Value.ref a from rx)
  obtain⟨mA,O,_⟩:=jjq I.hok ea
  obtain⟨od,J,_⟩:=O.look
  exact W.kia_one (W.kitx_own (cl.get _) cl.hd ha hn htk hm) I.kIn J e (λz=>nomatch z) h
end
structure Room (k:Nat) (A:Around):Prop where
 hd:A.handled=none
 dp:A.depth+3*k+5<recursionLimit
 un:A.units+16*k+200<cLine
theorem Room.mono{j k:Nat}{A:Around}(r:Room k A)(h:j<=k):Room j A:=⟨r.hd,by have:=r.dp;omega,by have:=r.un;omega⟩
theorem Room.deeper{k:Nat}{A:Around}(r:Room (k+1) A)(env:Env):Room k (A.deeper env):=
 ⟨r.hd,by have:=r.dp;show A.depth+1+3*k+5<_;omega,by have:=r.un;show A.units+3+16*k+200<_;omega⟩
theorem jnz{A:Around}{C:Addr}{us:List Value}{kw:List (Str×Value)}:(A.under (.builtin "type.__call__" ⟨.ref C::us,kw⟩)).depth=A.depth+1:=by
 first | rfl | simp[Around.under,Code.weight,Code.isCreation,Code.isGuard,Code.isCaller,Code.frames,Code.isFrame,guardIds]
theorem joc{A:Around}{C:Addr}{us:List Value}{kw:List (Str×Value)}:(A.under (.builtin "type.__call__" ⟨.ref C::us,kw⟩)).units=A.units+1:=by
 first | rfl | simp[Around.under,Code.cUnits,Code.frames,Code.isFrame]
theorem Room.make{k:Nat}{A:Around}(r:Room (k+1) A)(C:Addr)(us:List Value)(kw:List (Str×Value)):Room k (A.under (.builtin "type.__call__" ⟨.ref C::us,kw⟩)):=
 ⟨r.hd,by have:=r.dp;rw[jnz];omega,by have:=r.un;rw[joc];omega⟩
theorem Room.depth{k:Nat}{A:Around}(r:Room k A):A.depth<recursionLimit:=by have:=r.dp;omega
theorem Room.units{k:Nat}{A:Around}(r:Room k A):A.units+64<cLine:=by have:=r.un;omega
def tNil:TA:=λ_ H Q=>Q [] H
def jse(ta:TE)(tr:TA):TA:=λσ H Q=>ta σ H λx H1=>tr σ H1 λxs H2=>Q (x::xs) H2
section
variable {X : Cx} {e : Expr} {es : List Expr} {te : TE} {t : TA} {pos : Pos}
theorem ja7:PA X [] tNil:=λ_ _ _ _ H Q I h=>Calls.spliced_nil ⟨[],H,I,.nil,h⟩
theorem ja0(ha:PE X e te)(hr:PA X es t)(hs:starEach (e::es) X.env=(false,eval e X.env)::starEach es X.env:=by rfl):PA X (e::es) (jse te t):=by
 intro pos pins s σ H Q I h
 rw[hs]
 show wpAny _ _ (spliced ((false,eval e X.env)::backTo pos (starEach es X.env))) _ _ s
 refine Calls.spliced_cons (thn (ha pins s σ H _ I h) λu s1 ⟨x,H1,I1,r1,q1⟩=> ?_)
 exact thn (hr pos pins s1 σ H1 _ I1 q1) λus s2 ⟨xs,H2,I2,r2,q2⟩=>⟨x::xs,H2,I2,.cons r1 r2,q2⟩
def tTup(t:TA):TE:=λσ H Q=>t σ H λxs H1=>xs.length<=sizeLine /\ ∀p,H1 p=none->Q (.ref p) (upd H1 p (.tup xs))
def tLst(t:TA):TE:=λσ H Q=>t σ H λxs H1=>xs.length<=sizeLine /\ ∀p,H1 p=none->Q (.ref p) (upd H1 p (.lst xs))
theorem jc5{x1}(h:PA X es t):PE X (.Tuple es x1 pos) (tTup t):=by
 intro pins s σ H Q I hq
 refine wpAny_Tuple_spliced (thn (h pos pins s σ H _ I hq) λus s1 ⟨xs,H1,I1,r,z,q⟩=>⟨by rw[<-r.length];exact z,?_⟩)
 have hf:H1 s1.heap.objs.size=none:=I1.hok.fresh (Nat.le_refl _)
 refine⟨.ref s1.heap.objs.size,upd H1 s1.heap.objs.size (.tup xs),I1.laid (t':=s1.toks) (λb u e=>Heap.get?_push_of_some _ e) (Nat.le_refl _) ?_,rfl,q _ hf⟩
 exact⟨z,us,r,⟨_,Heap.get?_push_size _ rfl,rfl,_,rfl⟩⟩
theorem jdy(h:PA X es t):PE X (.List es pos) (tLst t):=by
 intro pins s σ H Q I hq
 refine wpAny_List_spliced (thn (h pos pins s σ H _ I hq) λus s1 ⟨xs,H1,I1,r,z,q⟩=>⟨by rw[<-r.length];exact z,?_⟩)
 have hf:H1 s1.heap.objs.size=none:=I1.hok.fresh (Nat.le_refl _)
 refine⟨.ref s1.heap.objs.size,upd H1 s1.heap.objs.size (.lst xs),I1.laid (t':=s1.toks) (λb u e=>Heap.get?_push_of_some _ e) (Nat.le_refl _) ?_,rfl,q _ hf⟩
 exact⟨z,us,0,r,Heap.get?_push_size _ rfl⟩
end
abbrev Sp:=List V->Hp->VK->XK->Prop
abbrev CXT:=List Env->Hp->Shared->XK->Value->Shared->Prop
structure Env0 (P:Program) (w:World) (K:W.Frag) (mg:Str->Option Value) (base:Heap) (A:Around) (outer:List Env) (s:Shared) (H:Hp):Prop where
 frames:A.frames=some outer
 mod:Mod K mg base
 bs:∀b o,base.get? b=some o->s.heap.get? b=some o /\ H b=none
 bsz:base.objs.size<=s.heap.objs.size
 funs:s.heap.FunFrames base outer
 frf:∀b∈frs outer,H b=none
 hok:HOk P w H s.heap
 bare:AllBare s.gens
def CE(outer:List Env)(P:Program)(w:World)(H:Hp)(s:Shared)(Q:VK)(u:Value)(s':Shared):Prop:=
 ∃v H',s'.os=s.os /\ AllBare s'.gens /\ Un (frs outer) [] H H' s.heap s'.heap /\ HOk P w H' s'.heap /\ RelV v u /\ Q v H'
def CR(CX:CXT)(outer:List Env)(P:Program)(w:World)(H:Hp)(s:Shared)(Q:VK)(E:XK)(r:Result)(s':Shared):Prop:=
 match r with
 | .ok (.ret u)=>CE outer P w H s Q u s'
 | .ok _=>False
 | .error e=>CX outer H s E e s'
structure FnOk (P:Program) (w:World) (K:W.Frag) (mg:Str->Option Value) (base:Heap) (CX:CXT) (k:Nat) (f:Addr) (fd:FuncData) (ps:List Str) (sp:Sp):Prop where
 len:∀vs H Q E,sp vs H Q E->vs.length=ps.length
 run:∀(A:Around) (outer:List Env) (s:Shared) (H:Hp) (args:Args) (us:List Value) (vs:List V) (Q:VK) (E:XK),Room k A->Env0 P w K mg base A outer s H->BindsTo s fd args (ps.zip us)->Vals vs us->sp vs H Q E->
  codeAny (model P w) A (.call (.ref f) args) (CR CX outer P w H s Q E) s
theorem FnOk.mono{P:Program}{w:World}{K:W.Frag}{mg:Str->Option Value}{base:Heap}{CX:CXT}{j k:Nat}{f:Addr}{fd:FuncData}{ps:List Str}{sp:Sp}(F:FnOk P w K mg base CX j f fd ps sp)(h:j<=k):
  FnOk P w K mg base CX k f fd ps sp:=⟨F.len,λA outer s H args us vs Q E hr=>F.run A outer s H args us vs Q E (hr.mono h)⟩
theorem FnOk.imp{P:Program}{w:World}{K:W.Frag}{mg:Str->Option Value}{base:Heap}{CX:CXT}{k:Nat}{f:Addr}{fd:FuncData}{ps:List Str}{sp sp':Sp}(F:FnOk P w K mg base CX k f fd ps sp)
  (h:∀vs H Q E,sp' vs H Q E->sp vs H Q E):FnOk P w K mg base CX k f fd ps sp':=
 ⟨λvs H Q E q=>F.len vs H Q E (h _ _ _ _ q),λA outer s H args us vs Q E hr he hb hv hs=>F.run A outer s H args us vs Q E hr he hb hv (h _ _ _ _ hs)⟩
theorem Env0.make{P:Program}{w:World}{K:W.Frag}{mg:Str->Option Value}{base:Heap}{A:Around}{outer:List Env}{s:Shared}{H:Hp}(e:Env0 P w K mg base A outer s H)(C:Addr)(us:List Value)(kw:List (Str×Value)):
  Env0 P w K mg base (A.under (.builtin "type.__call__" ⟨.ref C::us,kw⟩)) outer s H:=⟨by first | exact e.frames | (simpa [Around.under,Code.envs,Code.isFrame,pushEnvs] using e.frames),e.mod,e.bs,e.bsz,e.funs,e.frf,e.hok,e.bare⟩
section
variable {X : Cx} {pins : List (Addr × Obj)} {σ : St} {H : Hp} {s s' : Shared}
theorem Inv.env0(I:Inv X pins σ H s):Env0 X.prog X.w X.K X.mg X.base X.A X.stack s H:=
 ⟨I.ok.frames,I.ok.mod,I.bs,Nat.le_trans I.ok.bsz I.sz,I.stack,I.stkFree,I.hok,I.bare⟩
theorem Inv.after{Q:VK}{u:Value}(I:Inv X pins σ H s)(h:CE X.stack X.prog X.w H s Q u s'):EP X pins σ Q u s':=by
 obtain⟨v,H',os,bare,un,hok,r,q⟩:=h
 obtain⟨hh,g,d,t,os'⟩:=s'
 obtain rfl:os'=s.os:=os
 exact⟨v,H',I.call (h':=hh) (g':=g) (d':=d) (t':=t) (ch:=[]) un hok bare (λb z=>absurd z (by simp)),r,q⟩
end
def juc(sp:Sp)(dvs:List V)(E:XK)(t:TA):TE:=λσ H Q=>t σ H λvs H1=>sp (vs++dvs) H1 Q E
def jsn(C:Addr)(sp:Sp)(dvs:List V)(E:XK)(t:TA):TE:=λσ H Q=>t σ H λvs H1=>∀x dx,H1 x=none->H1 dx=none->dx≠x->
 sp (.ref x::(vs++dvs)) (upd (upd H1 dx (.own x)) x (.ins C dx [])) (λv H2=>v= .non /\ Q (.ref x) H2) E
def jfp(K:W.Frag)(fd:FuncData)(ps:List Str)(ds:List Value):Prop:=
 ∀(s:Shared) (us:List Value),K.In s.heap->(us++ds).length=ps.length->BindsTo s fd ⟨us,[]⟩ (ps.zip (us++ds))
theorem jfp.all{K:W.Frag}{fd:FuncData}{ps:List Str}(h:∀us:List Value,us.length=ps.length->bindArgs fd ⟨us,[]⟩=pure (ps.zip us)):jfp K fd ps []:=λs us _ hl=>by
 rw[List.append_nil] at hl ⊢
 exact .of_eq (h us hl)
def jfc(CX:CXT)(X:Cx)(E:XK):Prop:=∀(pins:List (Addr×Obj)) (σ:St) (H:Hp) (s:Shared) (e:Value) (s':Shared),Inv X pins σ H s->CX X.stack H s E e s'->X.xe e s'
section
variable {X : Cx} {CX : CXT} {k : Nat} {f C : Addr} {fd : FuncData} {ps : List Str} {sp : Sp} {dvs : List V} {ds : List Value} {E : XK} {x m : Str} {p pos apos : Pos} {e o : Expr} {es : List Expr} {ta : TE} {t : TA}
theorem jpu{pins:List (Addr×Obj)}{σ:St}{H:Hp}{s:Shared}{Q:VK}{us:List Value}{vs:List V}(F:FnOk X.prog X.w X.K X.mg X.base CX k f fd ps sp)(hr:Room k X.A)(hb:jfp X.K fd ps ds)(hd:Vals dvs ds)(hx:jfc CX X E)
  (I:Inv X pins σ H s) (r:Vals vs us) (h:sp (vs++dvs) H Q E):wpAny (model X.prog X.w) X.A (call (.ref f) us) (EP X pins σ Q) X.xe s:=by
 have r2:Vals (vs++dvs) (us++ds):=r.append hd
 have hl:(us++ds).length=ps.length:=by rw[<-r2.length];exact F.len _ _ _ _ h
 refine wpAny_call (codeAny_mono (F.run X.A X.stack s H ⟨us,[]⟩ (us++ds) (vs++dvs) Q E hr I.env0 (hb s us I.kIn hl) r2 h) λr s' hq=> ?_)
 cases r with
 | error e=>exact hx pins σ H s e s' I hq
 | ok fl=>
  cases fl with
  | ret u=>exact I.after hq
  | next=>exact False.elim hq
  | brk=>exact False.elim hq
  | cont=>exact False.elim hq
theorem juz(F:FnOk X.prog X.w X.K X.mg X.base CX k f fd ps sp)(hr:Room k X.A)(hg:Gl X x)(hm:X.mg x=some (.ref f))(hk:W.keepIn X.K (.ref f)=true)(hb:jfp X.K fd ps ds)(hd:Vals dvs ds)(hx:jfc CX X E)
  (ha:PA X (e::es) t) (hdb:(x==("__debug__":Str))=false:=by decide) (he:starEach (e::es) X.env=(false,eval e X.env)::starEach es X.env:=by rfl) (hpl:(backTo pos (starEach es X.env)).any (·.1)=false:=by rfl):
  PE X (.Call (.Name x p) (e::es) [] pos) (juc sp dvs E t):=by
 intro pins s σ H Q I h
 refine wpAny_Call_Name_kw (joe I hg hm ?_ hdb)
 refine W.callWith_K (h₀:=X.base) I.ok.mod.kin hk (thn (ha pos pins s σ H _ I h) λus s1 ⟨vs,H1,I1,r,q⟩=>⟨I1.kIn,?_⟩) he hpl
 exact jpu F hr hb hd hx I1 r q
structure Mk (K:W.Frag) (C f:Addr):Prop where
 makes:W.makesIn K C=true
 init:W.findIn K (.ref C) "__init__"=some (some (.ref f))
 fn:W.isFn K (.ref f)=true
 kp:W.keepIn K (.ref C)=true
theorem jsp{pins:List (Addr×Obj)}{σ:St}{H:Hp}{s:Shared}{Q:VK}{us:List Value}{vs:List V}(M:Mk X.K C f)(F:FnOk X.prog X.w X.K X.mg X.base CX k f fd ps sp)(hr:Room (k+1) X.A)(hb:jfp X.K fd ps ds)(hd:Vals dvs ds)
  (hx:jfc CX X E) (I:Inv X pins σ H s) (r:Vals vs us)
  (h:∀x dx,H x=none->H dx=none->dx≠x->sp (.ref x::(vs++dvs)) (upd (upd H dx (.own x)) x (.ins C dx [])) (λv H2=>v= .non /\ Q (.ref x) H2) E):
  wpAny (model X.prog X.w) X.A (call (.ref C) us) (EP X pins σ Q) X.xe s:=by
 have hq:=h (s.heap.objs.size+1) s.heap.objs.size (I.hok.fresh (Nat.le_succ _)) (I.hok.fresh (Nat.le_refl _)) (Nat.ne_of_lt (Nat.lt_succ_self _))
 have I2:=Inv.made (C:=C) I
 have r2:Vals (V.ref (s.heap.objs.size+1)::(vs++dvs)) (Value.ref (s.heap.objs.size+1)::(us++ds)):= .cons rfl (r.append hd)
 have hl:(Value.ref (s.heap.objs.size+1)::us++ds).length=ps.length:=by
  have e:=r2.length
  rw[F.len _ _ _ _ hq] at e
  exact e.symm
 refine wpAny_call (jrp (f:=f) I.kIn M.makes M.init (beq_iff_eq.mp M.fn) (codeAny_mono (F.run _ X.stack _ _ ⟨Value.ref (s.heap.objs.size+1)::us,[]⟩ (Value.ref (s.heap.objs.size+1)::(us++ds)) _ _ E (hr.make C us [])
  (I2.env0.make C us []) (hb _ (Value.ref (s.heap.objs.size+1)::us) I2.kIn hl) r2 hq) λr s' hq'=> ?_))
 cases r with
 | error e=>exact hx pins σ _ _ e s' I2 hq'
 | ok fl=>
  cases fl with
  | ret u=>
   obtain⟨v,H',I3,rv,ev,q3⟩:=I2.after hq'
   subst ev
   exact⟨rv,⟨V.ref (s.heap.objs.size+1),H',I3,rfl,q3⟩⟩
  | next=>exact False.elim hq'
  | brk=>exact False.elim hq'
  | cont=>exact False.elim hq'
theorem jwb(M:Mk X.K C f)(F:FnOk X.prog X.w X.K X.mg X.base CX k f fd ps sp)(hr:Room (k+1) X.A)(hg:Gl X x)(hm:X.mg x=some (.ref C))(hb:jfp X.K fd ps ds)(hd:Vals dvs ds)(hx:jfc CX X E)
  (ha:PA X (e::es) t) (hdb:(x==("__debug__":Str))=false:=by decide) (he:starEach (e::es) X.env=(false,eval e X.env)::starEach es X.env:=by rfl) (hpl:(backTo pos (starEach es X.env)).any (·.1)=false:=by rfl):
  PE X (.Call (.Name x p) (e::es) [] pos) (jsn C sp dvs E t):=by
 intro pins s σ H Q I h
 refine wpAny_Call_Name_kw (joe I hg hm ?_ hdb)
 refine W.callWith_K (h₀:=X.base) I.ok.mod.kin M.kp (thn (ha pos pins s σ H _ I h) λus s1 ⟨vs,H1,I1,r,q⟩=>⟨I1.kIn,?_⟩) he hpl
 exact jsp M F hr hb hd hx I1 r q
end
structure FnScope (N P:List Str) (sc:Scope):Prop where
 kind:sc.kind= .function
 co:sc.isCoroutine=false
 gen:sc.isGenerator=false
 nd:N.Nodup
 pre:N.take P.length=P
 par:∀x∈P,sc.names.lookup x=some .local \/ sc.names.lookup x=some .cell
 nofree:∀y∈sc.names,y.2≠ .free
theorem jlb{kindOf:Str->Option NameKind}{x:Str}:∀{binds:List (Str×Value)} {m:Str->Option Value},(∀v,(x,v)∉binds)->bindL kindOf binds m x=m x
  | [],_,_=>rfl
  | (n,v)::r,m,h=>by
    unfold bindL
    rw[jlb λw hw=>h w (List.mem_cons_of_mem _ hw)]
    split
    · have:x≠n:=by rintro rfl;exact h v List.mem_cons_self
      simp[this]
    · rfl
theorem jkm{kindOf:Str->Option NameKind}{x:Str}:∀{binds:List (Str×Value)} {m:Str->Option Value},(∀v,(x,v)∉binds)->bindC kindOf binds m x=m x
  | [],_,_=>rfl
  | (n,v)::r,m,h=>by
    unfold bindC
    rw[jkm λw hw=>h w (List.mem_cons_of_mem _ hw)]
    split
    · rfl
    · have:x≠n:=by rintro rfl;exact h v List.mem_cons_self
      simp[this]
theorem jkf{kindOf:Str->Option NameKind}{x:Str}{v:Value}:∀{P:List Str} {vs:List Value} {i:Nat} {m:Str->Option Value},P.Nodup->P[i]?=some x->vs[i]?=some v->kindOf x=some .local->
  bindL kindOf (P.zip vs) m x=some v
 | [],_,_,_,_,h,_,_=>by simp at h
 | _::_,[],_,_,_,_,h,_=>by simp at h
 | p::P,w::vs,0,m,nd,h1,h2,hk=>by
  simp at h1 h2;subst h1;subst h2
  show bindL kindOf ((p,w)::P.zip vs) m p=_
  unfold bindL
  rw[jlb λv hv=>(List.nodup_cons.mp nd).1 (List.of_mem_zip hv).1,if_pos hk]
  simp
 | p::P,w::vs,i+1,m,nd,h1,h2,hk=>by
  show bindL kindOf ((p,w)::P.zip vs) m x=_
  unfold bindL
  exact jkf (i:=i) (List.nodup_cons.mp nd).2 (by simpa using h1) (by simpa using h2) hk
theorem jkw{kindOf:Str->Option NameKind}{x:Str}{v:Value}:∀{P:List Str} {vs:List Value} {i:Nat} {m:Str->Option Value},P.Nodup->P[i]?=some x->vs[i]?=some v->kindOf x≠some .local->
  bindC kindOf (P.zip vs) m x=some v
 | [],_,_,_,_,h,_,_=>by simp at h
 | _::_,[],_,_,_,_,h,_=>by simp at h
 | p::P,w::vs,0,m,nd,h1,h2,hk=>by
  simp at h1 h2;subst h1;subst h2
  show bindC kindOf ((p,w)::P.zip vs) m p=_
  unfold bindC
  rw[jkm λv hv=>(List.nodup_cons.mp nd).1 (List.of_mem_zip hv).1,if_neg hk]
  simp
 | p::P,w::vs,i+1,m,nd,h1,h2,hk=>by
  show bindC kindOf ((p,w)::P.zip vs) m x=_
  unfold bindC
  exact jkw (i:=i) (List.nodup_cons.mp nd).2 (by simpa using h1) (by simpa using h2) hk
def start(N:List Str)(vs:List V):St:=vs.map some++List.replicate (N.length - vs.length) none
def cxOf(CX:CXT)(P:Program)(w:World)(K:W.Frag)(mg:Str->Option Value)(base:Heap)(N:List Str)(qual:Str)(scope:Scope)(f:Addr)(cd:Value)(A:Around)(outer:List Env)(s:Shared)(H:Hp)(E:XK):Cx where
 prog:=P
 w:=w
 K:=K
 mg:=mg
 base:=base
 A:=A.deeper (envOfC qual scope s.heap.objs.size f cd)
 N:=N
 s₀:=s
 H₀:=H
 env:=envOfC qual scope s.heap.objs.size f cd
 outer:=outer
 stack:=envOfC qual scope s.heap.objs.size f cd::outer
 ex:=[]
 calm:=true
 fn:=λ_=>true
 pn:=[]
 xe:=λe s'=>wpAny (model P w) (A.deeper (envOfC qual scope s.heap.objs.size f cd)) (leaving (envOfC qual scope s.heap.objs.size f cd) e) (λ_ s''=>CX outer H s E e s'') (λe' s''=>CX outer H s E e' s'') s'
theorem jmr{sc:Scope}{n:Nat}{x:Str}(h:sc.names.lookup x=some .cell):∃c,(cellsFrom n sc.names []).lookup x=some c:=by
 have q:=W.cellsFrom_some sc.names n [] (.inl h)
 exact Option.isSome_iff_exists.mp q
theorem jp7{CX:CXT}{P:Program}{w:World}{K:W.Frag}{mg:Str->Option Value}{base:Heap}{N ps:List Str}{qual:Str}{scope:Scope}{f:Addr}{cd:Value}{A:Around}{outer:List Env}{s s1:Shared}{H:Hp}{E:XK}{us:List Value}{vs:List V}
  (S:FnScope N ps scope) (hd:A.handled=none) (e0:Env0 P w K mg base A outer s H) (hl:vs.length=ps.length) (r:Vals vs us)
  (x:InCallC s s.heap.objs.size (bindL (envOfC qual scope s.heap.objs.size f cd).kindOf (ps.zip us) λ_=>none) (cellsFrom (s.heap.objs.size+1) scope.names []) (bindC (envOfC qual scope s.heap.objs.size f cd).kindOf (ps.zip us) λ_=>none) s1):
  Inv (cxOf CX P w K mg base N qual scope f cd A outer s H E) [] (start N vs) H s1:=by
 have hpl:ps.length<=N.length:=by have:=congrArg List.length S.pre;rw[List.length_take] at this;omega
 obtain⟨h1,tk,rfl,hk⟩:=x.done
 have noA:∀b:Addr,b∉(cxOf CX P w K mg base N qual scope f cd A outer s H E).ex:=λb z=>absurd (show b∈([]:List Addr) from z) (by simp)
 refine⟨⟨e0.mod,S.kind,rfl,rfl,Nat.le_refl _,λy z c h1 h2=> ?_,λy hy=> ?_,λy c _ h=> ?_,λ_=>hd,Around.frames_deeper e0.frames,.inr ⟨rfl,rfl⟩,λb z=>absurd z (noA b),e0.bs,e0.bsz,λb _ _=>noA b,λb z=>absurd z (noA b),e0.funs,e0.frf⟩,
  rfl,e0.bare,Un.kept hk,⟨_,x.toInCall.ns,λi y v h1 h2 h3=> ?_⟩,λy c h=>⟨_,x.cell y c h⟩,e0.hok.fresh (Nat.le_refl _),λy c h=> ?_,λp hp=>absurd (show p∈([]:List (Addr×Obj)) from hp) (by simp),e0.hok.kept hk,?_⟩
 ·exact name_of_addr x.apart (PySem.mem_of_lookup h1) (PySem.mem_of_lookup h2)
 ·have hy:scope.names.lookup y=some .cell \/ scope.names.lookup y=some .free:=hy
  rcases hy with hy | hy
  ·exact jmr hy
  ·exact absurd rfl (S.nofree _ (PySem.mem_of_lookup hy))
 ·exact Nat.le_of_lt (x.above y c (PySem.mem_of_lookup h))
 ·have hi:i<vs.length:=by
   unfold start at h2
   by_cases hi:i<vs.length
   ·exact hi
   ·rw[List.getElem?_append_right (by simpa using hi)] at h2
    rw[List.getElem?_replicate] at h2
    split at h2<;>cases h2
  have ha:vs[i]?=some v:=by
   unfold start at h2
   rw[List.getElem?_append_left (by simpa using hi),List.getElem?_map] at h2
   cases e:vs[i]? with
   | none=>rw[e] at h2;cases h2
   | some a=>rw[e] at h2;cases h2;rfl
  obtain⟨u,hu,rv⟩:=r.get ha
  have hp:ps[i]?=some y:=by
   rw[<-S.pre,List.getElem?_take_of_lt (by omega)];exact h1
  have ndP:ps.Nodup:=by rw[<-S.pre];exact S.nd.sublist (List.take_sublist _ _)
  refine⟨u,rv,?_⟩
  rcases S.par y (List.mem_of_getElem? hp) with k | k
  ·exact .inl ⟨k,jkf ndP hp hu k⟩
  ·obtain⟨c,e⟩:=jmr (n:=s.heap.objs.size+1) k
   refine .inr ⟨.inl k,c,e,?_⟩
   have q:=x.cell y c e
   rw[jkw ndP hp hu (by show scope.names.lookup y≠_;rw[k];decide)] at q
   exact q
 ·exact e0.hok.fresh (Nat.le_of_lt (x.above y c (PySem.mem_of_lookup h)))
 ·unfold start
  show _=N.length
  rw[List.length_append,List.length_map,List.length_replicate]
  omega
theorem fn_of{CX:CXT}{P:Program}{w:World}{K:W.Frag}{mg:Str->Option Value}{base:Heap}{k:Nat}{f:Addr}{name qual:Str}{params:Arguments}{body:List Stmt}{scope:Scope}{dV kV doc pm cdv ct oc:Value}{an od:Option Addr}
  {osl:Array (Option Value)} {N ps:List Str} {sp:Sp} (lk:K.lookup f=some ⟨oc,od,.func (W.fnOf name qual params body scope dV kV doc pm an cdv ct),osl⟩) (hcd:W.codeIn K cdv qual=true) (S:FnScope N ps scope)
  (len:∀vs H Q E,sp vs H Q E->vs.length=ps.length)
  (hbody:∀(A:Around) (outer:List Env) (s:Shared) (H:Hp) (vs:List V) (Q:VK) (E:XK),Room k (A.deeper (envOfC qual scope s.heap.objs.size f cdv))->sp vs H Q E->
   ∃t,PSs (cxOf CX P w K mg base N qual scope f cdv A outer s H E) body t /\ t {nx:=λ_ H'=>Q .non H',rt:=Q} (start N vs) H):
  FnOk P w K mg base CX (k+1) f (W.fnOf name qual params body scope dV kV doc pm an cdv ct) ps sp:=by
 refine⟨len,λA outer s H args us vs Q E hr e0 hb r hsp=> ?_⟩
 have hl:=len _ _ _ _ hsp
 have KX:K.In s.heap:=e0.mod.kin.keeps λb o e=>(e0.bs b o e).1
 have lim:s.heap.NoLimit:=e0.mod.nolimit.keeps λb o e=>(e0.bs b o e).1
 have hkind:∀y∈ps.zip us,scope.names.lookup y.1=some .local \/ (scope.names.lookup y.1=some .cell /\ ((cellsFrom (s.heap.objs.size+1) scope.names []).lookup y.1).isSome=true):=λ⟨n,v⟩ hy=>by
  rcases S.par n (List.of_mem_zip hy).1 with q | q
  ·exact .inl q
  ·exact .inr ⟨q,W.cellsFrom_some _ _ _ (.inl q)⟩
 refine codeAny_call_function hr.depth (KX _ _ lk) rfl S.co S.gen rfl (W.codeRec_of KX hcd) (hb _ _ _ _ ?_)
 refine wpAny_newFunctionEnv_cells S.kind hkind λenv he s1 x=> ?_
 subst he
 refine⟨lim.keeps x.toInCall.keep,codeAny_func ?_⟩
 obtain⟨t,ht,hq⟩:=hbody A outer s H vs Q E (hr.deeper _) hsp
 have I:Inv (cxOf CX P w K mg base N qual scope f cdv A outer s H E) [] (start N vs) H s1:=jp7 S hr.hd e0 hl r x
 refine wpAny_mono (ht [] s1 (start N vs) H _ I hq) (λfl s' hs=> ?_) λe s' hs=>hs
 have fin:∀{σ':St} {H':Hp} {v:V} {u:Value},Inv (cxOf CX P w K mg base N qual scope f cdv A outer s H E) [] σ' H' s'->RelV v u->Q v H'->CE outer P w H s Q u s':=
  fun{σ' H' v u} J rv q=>⟨v,H',J.os,J.bare,J.base,J.hok,rv,q⟩
 cases fl with
 | ret u=>
  obtain⟨v,σ',H',J,rv,q⟩:=hs
  exact fin J rv q
 | next=>
  obtain⟨σ',H',J,q⟩:=hs
  exact fin (v:=V.non) (u:=Value.none) J rfl q
 | brk=>
  obtain⟨_,_,_,q⟩:=hs
  exact False.elim q
 | cont=>
  obtain⟨_,_,_,q⟩:=hs
  exact False.elim q
section
variable {X : Cx} {x : Str} {p pos : Pos} {e : Expr} {es : List Expr} {t : TA} {id T : String} {r : List V -> Hp -> VK -> Prop}
def tCB(r:List V->Hp->VK->Prop)(t:TA):TE:=λσ H Q=>t σ H λvs H1=>r vs H1 Q
theorem jc1(hc:jdx X (.builtin id) r)(hg:Gl X x)(hm:X.mg x=none)(hv:bootBuiltins x=some (.builtin id))(ha:PA X (e::es) t)(hn:x≠"__name__":=by decide)(hdb:(x==("__debug__":Str))=false:=by decide)
  (he:starEach (e::es) X.env=(false,eval e X.env)::starEach es X.env:=by rfl) (hpl:(backTo pos (starEach es X.env)).any (·.1)=false:=by rfl):PE X (.Call (.Name x p) (e::es) [] pos) (tCB r t):=by
 intro pins s σ H Q I h
 refine wpAny_Call_Name_kw (jgj I hg hm hv ?_ hn hdb)
 exact PyProof.Rows.callWith_builtin1 (thn (ha pos pins s σ H _ I h) λus s1 ⟨vs,H1,I1,r1,q1⟩=>hc pins s1 σ H1 vs us Q I1 r1 q1) he hpl
theorem jlh(hc:jdx X (.type T) r)(hg:Gl X x)(hm:X.mg x=none)(hv:bootBuiltins x=some (.type T))(ha:PA X (e::es) t)(hn:x≠"__name__":=by decide)(hdb:(x==("__debug__":Str))=false:=by decide)
  (he:starEach (e::es) X.env=(false,eval e X.env)::starEach es X.env:=by rfl) (hpl:(backTo pos (starEach es X.env)).any (·.1)=false:=by rfl):PE X (.Call (.Name x p) (e::es) [] pos) (tCB r t):=by
 intro pins s σ H Q I h
 refine wpAny_Call_Name_kw (jgj I hg hm hv ?_ hn hdb)
 exact PyProof.Rows.callWith_type1 (thn (ha pos pins s σ H _ I h) λus s1 ⟨vs,H1,I1,r1,q1⟩=>hc pins s1 σ H1 vs us Q I1 r1 q1) he hpl
end
end L2
namespace HT
open PySem PyProof.Rows
section
variable {prog : Program} {w : World} {A : Around} {E : Value -> Shared -> Prop} {s : Shared}
theorem jv9{t b:Addr}{vs ws:List Value}{Q:Value->Shared->Prop}(ht:IsTup s.heap t vs.toArray)(hb:IsTup s.heap b ws.toArray)(hv:vs≠[])
  (h1:ws=[]->Q (.ref t) s) (h2:ws≠[]->Q (.ref s.heap.objs.size) {s with heap:=s.heap.push {cls:= .type "tuple",data:= .seq (vs++ws).toArray}})
  (hsz:vs.length+ws.length<=sizeLine):wpAny (model prog w) A (binaryOp .Add (.ref t) (.ref b)) Q E s:=by
 obtain⟨⟨cls,dd,data,sl⟩,ho,hc,n,hd⟩:=id ht
 obtain⟨⟨cls2,dd2,data2,sl2⟩,ho2,hc2,n2,hd2⟩:=id hb
 simp only at hc hd hc2 hd2
 subst hc hd hc2 hd2
 have e:vs.toArray++ws.toArray=(vs++ws).toArray:=by simp
 by_cases hw:ws=[]
 ·exact concat_meets ⟨_,ho,rfl⟩ ⟨_,ho2,rfl⟩ noFill_tuple_add seq_tuple_add PySem.F.slot_tuple_add PySem.F.entry_tuple_add (PySem.F.args_tuple_add_2 _ _)
   (tuple_addW1 t b vs.toArray ws.toArray n n2 dd dd2 sl sl2 (by simpa using hv) (by simp[hw])) ⟨ho,ho2,h1 hw⟩
 ·refine concat_meets ⟨_,ho,rfl⟩ ⟨_,ho2,rfl⟩ noFill_tuple_add seq_tuple_add PySem.F.slot_tuple_add PySem.F.entry_tuple_add (PySem.F.args_tuple_add_2 _ _)
   (tuple_addW2 t b vs.toArray ws.toArray n n2 dd dd2 sl sl2 (by simpa using hv) (by simpa using hw) (by rw[List.size_toArray,List.size_toArray];exact hsz)) ⟨ho,ho2,?_⟩
  rw[e]
  exact h2 hw
def sIx(n d:Nat):Option Int->Nat
 | none=>d
 | some v=>if v<0 then(v+(n:Int)).toNat else min v.toNat n
theorem sIx_le(n d:Nat)(hd:d<=n)(o:Option Int):sIx n d o<=n:=by
 cases o with
 | none=>exact hd
 | some v=>
  show(if v<0 then(v+(n:Int)).toNat else min v.toNat n)<=n
  by_cases hv:v<0
  ·rw[if_pos hv];omega
  ·rw[if_neg hv];exact Nat.min_le_right _ _
theorem joh(v:Int)(n d:Nat):(if v<0 then max (v+(n:Int)) 0 else min v (n:Int))=((sIx n d (some v):Nat):Int):=by
 show(if v<0 then max (v+(n:Int)) 0 else min v (n:Int))=(((if v<0 then(v+(n:Int)).toNat else min v.toNat n):Nat):Int)
 by_cases hv:v<0
 ·simp only[if_pos hv];omega
 ·simp only[if_neg hv];omega
theorem jnr(lo hi:Option Int)(n:Nat):Builtin.Slice.sliceAdjust lo hi 1 (n:Int)=(((sIx n 0 lo:Nat):Int),((sIx n n hi:Nat):Int)):=by
 have h1:¬((1:Int)<0):=by omega
 unfold Builtin.Slice.sliceAdjust
 simp only[h1,if_false]
 refine Prod.ext ?_ ?_
 ·cases lo with
  | none=>rfl
  | some v=>exact joh v n 0
 ·cases hi with
  | none=>rfl
  | some v=>exact joh v n n
theorem jo4(i j:Nat):Builtin.Slice.slicePlaces (i:Int) (j:Int) 1=j - i:=by
 unfold Builtin.Slice.slicePlaces
 have h1:(1:Int)>0:=by omega
 simp only[h1,if_true,Int.ediv_one]
 split<;>omega
theorem jiw{v:Value}{o:Option Int}{Q:Option Int->Shared->Prop}(p:IsPart v o)(h:Q o s):wpAny (model prog w) A (Builtin.Slice.slicePartIndex v) Q E s:=by
 cases p with
 | none=>exact slicePart_none h
 | int i t=>exact slicePart_int h
theorem jgt{sl:Addr}{vl vu:Value}{lo hi:Option Int}{n:Nat}{Q:Int×Int×Nat->Shared->Prop}(hs:s.heap.IsSliceOf sl vl vu .none)(pl:IsPart vl lo)(pu:IsPart vu hi)
  (h:Q (((sIx n 0 lo:Nat):Int),1,sIx n n hi - sIx n 0 lo) s):wpAny (model prog w) A (Builtin.Slice.sliceApplied (.ref sl) (pure (n:Int))) Q E s:=by
 obtain⟨os,hos,hcs,hds⟩:=id hs
 unfold Builtin.Slice.sliceApplied Builtin.Slice.sliceFields
 refine wpAny_bind (wpAny_bind (wpAny_field hos hds (x:=vl) rfl (wpAny_bind (wpAny_field hos hds (x:=vu) rfl (wpAny_bind (wpAny_field hos hds (x:= .none) rfl (wpAny_pure ?_)))))))
 refine wpAny_bind (slicePart_none ?_)
 show wpAny _ _ (if((1:Int)==0)=true then _ else _) _ _ s
 rw[if_neg (by decide)]
 refine wpAny_bind (jiw pl (wpAny_bind (jiw pu (wpAny_bind (wpAny_pure ?_)))))
 show wpAny _ _ (match Builtin.Slice.sliceAdjust lo hi 1 (n:Int) with | (lo,hi)=>pure (lo,(1:Int),Builtin.Slice.slicePlaces lo hi 1)) _ _ s
 rw[jnr lo hi n]
 show wpAny _ _ (pure (((sIx n 0 lo:Nat):Int),(1:Int),Builtin.Slice.slicePlaces ((sIx n 0 lo:Nat):Int) ((sIx n n hi:Nat):Int) 1)) _ _ s
 rw[jo4]
 exact wpAny_pure h
theorem jta(xs:Array Value)(i k:Nat):((List.range k).filterMap λ(m:Nat)=>xs[((i:Int)+(m:Int)*1).toNat]?).toArray=((xs.toList.drop i).take k).toArray:=by
 have e:(λ(m:Nat)=>xs[((i:Int)+(m:Int)*1).toNat]?)=λm=>xs[i+m]?:=by
  funext m
  have:((i:Int)+(m:Int)*1).toNat=i+m:=by omega
  rw[this]
 rw[e]
 have:=pick_run xs i k
 rw[List.filterMap_map] at this
 have e2:((λx=>xs[x]?)∘λx=>i+x)=λm=>xs[i+m]?:=rfl
 rw[e2] at this
 rw[this]
theorem jg9{t sl:Addr}{items:Array Value}{vl vu:Value}{lo hi:Option Int}{Q:Value->Shared->Prop}(ht:IsTup s.heap t items)(hs:s.heap.IsSliceOf sl vl vu .none)(pl:IsPart vl lo)(pu:IsPart vu hi)
  (hw:¬(sIx items.size 0 lo=0 /\ sIx items.size items.size hi=items.size))
  (h:Q (.ref s.heap.objs.size) {s with heap:=s.heap.push {cls:= .type "tuple",data:= .seq ((items.toList.drop (sIx items.size 0 lo)).take (sIx items.size items.size hi - sIx items.size 0 lo)).toArray}})
  (hsz:items.size<=sizeLine):wpAny (model prog w) A (getItem (.ref t) (.ref sl)) Q E s:=by
 have htake:sizeOk (.seq ((items.toList.drop (sIx items.size 0 lo)).take (sIx items.size items.size hi - sIx items.size 0 lo)).toArray):=by
  show((items.toList.drop (sIx items.size 0 lo)).take (sIx items.size items.size hi - sIx items.size 0 lo)).toArray.size<=sizeLine
  rw[List.size_toArray,List.length_take,List.length_drop,Array.length_toList]
  omega
 have hj:sIx items.size items.size hi<=items.size:=sIx_le _ _ (Nat.le_refl _) hi
 obtain⟨os,hos,hcs,hds⟩:=id hs
 have hTs:s.TypeIs (.ref sl) "slice":=⟨os,hos,hcs⟩
 unfold getItem
 try with_reducible refine wpAny_holding ?_
 first | refine wpAny_bind (wpAny_pure ?_) | skip
 refine wpAny_bind (wpAny_sequenceKey ht.typeIs (by decide) ?_)
 refine wpAny_bind (wpAny_callSpecial?_slot (name:=Str.ofString "__getitem__") ht.typeIs PyProof.Rows.slot_tuple_getitem
  (wpAny_call_entry PyProof.Rows.slot_tuple_getitem ht.typeIs entry_tuple_getitem ?_ (args_tuple_getitem _ _)))
 show wpAny _ _ (Builtin.Tuple.tupleItemsOf (.ref t) >>= _) _ _ s
 refine wpAny_bind (tupleItemsOf_ ht ?_)
 refine wpAny_bind (wpAny_typeOf hTs ?_)
 rw[if_pos (by decide)]
 refine wpAny_bind (jgt hs pl pu ?_)
 have hno:¬((((sIx items.size 0 lo:Nat):Int)==0&&(1:Int)==1&&(sIx items.size items.size hi - sIx items.size 0 lo)==items.size)=true):=by
  intro q
  rw[Bool.and_eq_true,Bool.and_eq_true] at q
  have q1:((sIx items.size 0 lo:Nat):Int)=0:=eq_of_beq q.1.1
  have q2:sIx items.size items.size hi - sIx items.size 0 lo=items.size:=eq_of_beq q.2
  exact hw ⟨by omega,by omega⟩
 show wpAny _ _ (if(((sIx items.size 0 lo:Nat):Int)==0&&(1:Int)==1&&(sIx items.size items.size hi - sIx items.size 0 lo)==items.size)=true then _ else _) _ _ s
 rw[if_neg hno,jta]
 first
  | exact wpAny_bind (m:=Builtin.Tuple.tupleExact _) (wpAny_newObj_type (wpAny_pure ⟨_,rfl,wpAny_pure h⟩) htake)
  | exact wpAny_bind (m:=Builtin.Tuple.tupleExact _) (wpAny_newObj_type (wpAny_bind (wpAny_pure (wpAny_pure ⟨_,rfl,wpAny_pure h⟩))) htake)
  | exact wpAny_bind (wpAny_bind (m:=Builtin.Tuple.tupleExact _) (wpAny_newObj_type (wpAny_pure (wpAny_pure ⟨_,rfl,wpAny_pure h⟩)) htake))
  | exact wpAny_bind (wpAny_bind (m:=Builtin.Tuple.tupleExact _) (wpAny_newObj_type (wpAny_pure ⟨_,rfl,wpAny_pure h⟩) htake))
end
end HT
namespace L2
open PySem PySem.Spec PyProof.Rows
abbrev TO:=St->Hp->(Option Int->Hp->Prop)->Prop
def PO(X:Cx)(e:Option Expr)(t:TO):Prop:=
 ∀(pins:List (Addr×Obj)) (s:Shared) (σ:St) (H:Hp) (Q:Option Int->Hp->Prop),Inv X pins σ H s->t σ H Q->
  wpAny (model X.prog X.w) X.A (evalPart e X.env) (λu s'=>∃o H',Inv X pins σ H' s' /\ IsPart u o /\ Q o H') X.xe s
def jq4:TO:=λ_ H Q=>Q none H
def tPart(t:TE):TO:=λσ H Q=>t σ H λx H1=>∃i,x= .int i /\ Q (some i) H1
section
variable {X : Cx} {e : Expr} {te : TE} {lo hi : Option Expr} {tl th : TO} {pos p2 : Pos}
theorem jht:PO X none jq4:=by
 intro pins s σ H Q I h
 rw[evalPart_none]
 exact wpAny_pure ⟨none,H,I,.none,h⟩
theorem je5(h:PE X e te):PO X (some e) (tPart te):=by
 intro pins s σ H Q I hw
 rw[evalPart_some]
 refine thn (h pins s σ H _ I hw) λu s1 ⟨x,H1,I1,r1,q1⟩=> ?_
 obtain⟨i,rfl,q⟩:=q1
 obtain⟨t,rfl⟩:=r1
 exact⟨some i,H1,I1,.int i t,q⟩
def SlR(X:Cx)(r:V->Option Int->Option Int->Hp->VK->Prop):Prop:=
 ∀(pins:List (Addr×Obj)) (s:Shared) (σ:St) (H:Hp) (x:V) (v vl vu:Value) (lo hi:Option Int) (sl:Addr) (Q:VK),Inv X pins σ H s->RelV x v->s.heap.IsSliceOf sl vl vu .none->IsPart vl lo->IsPart vu hi->r x lo hi H Q->
  ∃T id,typeLookup (.type T) "__getitem__"=pure (some (.builtin id)) /\ s.TypeIs v T /\ wpAny (model X.prog X.w) X.A (getItem v (.ref sl)) (EP X pins σ Q) X.xe s
theorem SlR.or{r r':V->Option Int->Option Int->Hp->VK->Prop}(h:SlR X r)(h':SlR X r'):SlR X (λx lo hi H Q=>r x lo hi H Q \/ r' x lo hi H Q):=by
 intro pins s σ H x v vl vu lo hi sl Q I rx hs pl pu q
 rcases q with q | q
 ·exact h pins s σ H x v vl vu lo hi sl Q I rx hs pl pu q
 ·exact h' pins s σ H x v vl vu lo hi sl Q I rx hs pl pu q
def tSl(r:V->Option Int->Option Int->Hp->VK->Prop)(te:TE)(tl th:TO):TE:=λσ H Q=>te σ H λx H1=>tl σ H1 λl H2=>th σ H2 λu H3=>r x l u H3 Q
theorem je9{r:V->Option Int->Option Int->Hp->VK->Prop}(hr:SlR X r)(he:PE X e te)(hl:PO X lo tl)(hu:PO X hi th):PE X (.Subscript e (.Slice lo hi none p2) pos) (tSl r te tl th):=by
 intro pins s σ H Q I h
 refine Subscript_ (thn (he pins s σ H _ I h) λv s1 ⟨x,H1,I1,r1,q1⟩=> ?_)
 refine wpAny_Slice (thn (hl pins s1 σ H1 _ I1 q1) λvl s2 ⟨l,H2,I2,pl,q2⟩=>thn (hu pins s2 σ H2 _ I2 q2) λvu s3 ⟨u,H3,I3,pu,q3⟩=> ?_)
 rw[evalPart_none]
 refine wpAny_pure ?_
 have I4:Inv X pins σ H3 {s3 with heap:=s3.heap.push {cls:= .type "slice",data:= .fields #[vl,vu,.none]}}:=I3.kept (t':=s3.toks) λb ob q=>Heap.get?_push_of_some _ q
 obtain⟨T,id,hT,ht,hg⟩:=hr pins {s3 with heap:=s3.heap.push {cls:= .type "slice",data:= .fields #[vl,vu,.none]}} σ H3 x v vl vu l u s3.heap.objs.size Q I4 r1 (Heap.IsSliceOf.new ..) pl pu q3
 show wpAny (model X.prog X.w) X.A (subscriptTail e (.Slice lo hi none p2) v (.ref s3.heap.objs.size)) (EP X pins σ Q) X.xe {s3 with heap:=s3.heap.push {cls:= .type "slice",data:= .fields #[vl,vu,.none]}}
 exact tail_any (ops:=[.ref s3.heap.objs.size,v]) ht hT hg (by with_unfolding_all rfl)
def cutV(xs:List V)(lo hi:Option Int):List V:=(xs.drop (HT.sIx xs.length 0 lo)).take (HT.sIx xs.length xs.length hi - HT.sIx xs.length 0 lo)
theorem jhq(xs:List V)(lo hi:Option Int):(cutV xs lo hi).length<=xs.length:=by
 unfold cutV
 rw[List.length_take,List.length_drop]
 omega
def rSlT(K:W.Frag):V->Option Int->Option Int->Hp->VK->Prop:=λx lo hi H Q=>∃a xs,x= .ref a /\ SqT K H a xs /\
 ¬(HT.sIx xs.length 0 lo=0 /\ HT.sIx xs.length xs.length hi=xs.length) /\ ∀p,H p=none->Q (.ref p) (upd H p (.tup (cutV xs lo hi)))
theorem sl_tup:SlR X (rSlT X.K):=by
 intro pins s σ H x v vl vu lo hi sl Q I rx hs pl pu h
 obtain⟨a,xs,rfl,hx,hw,q⟩:=h
 cases rx
 obtain⟨its,r,ht,hz⟩:=I.tuple hx
 have hlen:its.toArray.size=xs.length:=by rw[List.size_toArray];exact r.length.symm
 refine⟨"tuple",_,PyProof.Rows.slot_tuple_getitem.lookup,ht.typeIs,?_⟩
 refine HT.jg9 ht hs pl pu (by rw[hlen];exact hw) ?_ (by rw[hlen];exact hz)
 rw[hlen]
 refine⟨.ref s.heap.objs.size,_,I.laid (t':=s.toks) (o:= .tup (cutV xs lo hi)) (λb ob q=>Heap.get?_push_of_some _ q) (Nat.le_refl _) ?_,rfl,q _ (I.hok.fresh (Nat.le_refl _))⟩
 exact⟨Nat.le_trans (jhq xs lo hi) hz,_,(r.drop (HT.sIx xs.length 0 lo)).take (HT.sIx xs.length xs.length hi - HT.sIx xs.length 0 lo),IsTup.new _ _⟩
def rCatT(K:W.Frag):R2:=λx y H Q=>∃a b xs ys,x= .ref a /\ y= .ref b /\ SqT K H a xs /\ SqT K H b ys /\ xs≠[] /\ xs.length+ys.length<=sizeLine /\
 (ys=[]->Q (.ref a) H) /\ (ys≠[]->∀p,H p=none->Q (.ref p) (upd H p (.tup (xs++ys))))
theorem Vals.nil_iff{xs:List V}{us:List Value}(r:Vals xs us):us=[]↔xs=[]:=by
 cases r with
 | nil=>simp
 | cons _ _=>simp
theorem jvg:OpR X (binaryOp .Add) (rCatT X.K):=by
 intro pins s σ H x y v u Q I rx ry h
 obtain⟨a,b,xs,ys,rfl,rfl,ha,hb,hx,hz,q1,q2⟩:=h
 cases rx
 cases ry
 obtain⟨its,r1,p1,_⟩:=I.tuple ha
 obtain⟨its2,r2,p2,_⟩:=I.tuple hb
 refine HT.jv9 p1 p2 (λz=>hx (r1.nil_iff.mp z)) (λz=>⟨.ref a,H,I,rfl,q1 (r2.nil_iff.mp z)⟩) (λz=> ?_) (by rw[<-r1.length,<-r2.length];exact hz)
 refine⟨.ref s.heap.objs.size,_,I.laid (t':=s.toks) (o:= .tup (xs++ys)) (λb ob q=>Heap.get?_push_of_some _ q) (Nat.le_refl _) ?_,rfl,q2 (λw=>z (r2.nil_iff.mpr w)) _ (I.hok.fresh (Nat.le_refl _))⟩
 exact⟨by rw[List.length_append];exact hz,_,r1.append r2,IsTup.new _ _⟩
end
def ixN(n:Nat)(i:Int):Option Nat:=if 0<=i then(if i<n then some i.toNat else none) else if -(n:Int)<=i then some (i+n).toNat else none
def atI{α:Type}(xs:List α)(i:Int):Option α:=(ixN xs.length i).bind λj=>xs[j]?
theorem jvc{n:Nat}{i:Int}{j:Nat}(h:ixN n i=some j):seqIndex? i n=some j /\ j<n /\ -(n:Int)<=i /\ i<n:=by
 unfold ixN at h
 by_cases h0:0<=i
 ·rw[if_pos h0] at h
  by_cases h1:i<n
  ·rw[if_pos h1] at h
   have e:i.toNat=j:=Option.some.inj h
   exact⟨by rw[seqIndex_of h0 h1,e],by omega,by omega,h1⟩
  ·rw[if_neg h1] at h;cases h
 ·rw[if_neg h0] at h
  by_cases h1: -(n:Int)<=i
  ·rw[if_pos h1] at h
   have e:(i+n).toNat=j:=Option.some.inj h
   exact⟨by rw[seqIndex_neg (by omega) h1,e],by omega,h1,by omega⟩
  ·rw[if_neg h1] at h;cases h
theorem jm6{α:Type}{xs:List α}{i:Int}{v:α}(h:atI xs i=some v):∃j,seqIndex? i xs.length=some j /\ xs[j]?=some v /\ j<xs.length /\ -(xs.length:Int)<=i /\ i<xs.length:=by
 unfold atI at h
 cases e:ixN xs.length i with
 | none=>rw[e] at h;cases h
 | some j=>
  rw[e] at h
  obtain⟨h1,h2,h3,h4⟩:=jvc e
  exact⟨j,h1,h,h2,h3,h4⟩
def jqn(b:Expr):Prop:=∀o i,subscripted b false o i=operate [o,i] (getItem o i)
def IxR(X:Cx)(r:R2):Prop:=
 ∀(value slice:Expr) (pins:List (Addr×Obj)) (s:Shared) (σ:St) (H:Hp) (x y:V) (v u:Value) (Q:VK),Inv X pins σ H s->RelV x v->RelV y u->r x y H Q->
  subscripted slice false v u=operate [v,u] (getItem v u)->wpAny (model X.prog X.w) X.A (subscriptTail value slice v u) (EP X pins σ Q) X.xe s
def MtR(X:Cx)(id:String)(r:V->List V->Hp->VK->Prop):Prop:=
 ∀(pins:List (Addr×Obj)) (s:Shared) (σ:St) (H:Hp) (x:V) (xs:List V) (v:Value) (us:List Value) (Q:VK),Inv X pins σ H s->RelV x v->Vals xs us->r x xs H Q->
  wpAny (model X.prog X.w) X.A (call (.builtin id) (v::us)) (EP X pins σ Q) X.xe s
section
variable {X : Cx} {a b : Expr} {ta tb : TE} {pos : Pos}
theorem IxR.or{r r':R2}(h:IxR X r)(h':IxR X r'):IxR X (λx y H Q=>r x y H Q \/ r' x y H Q):=by
 intro value slice pins s σ H x y v u Q I rx ry q hs
 rcases q with q | q
 ·exact h value slice pins s σ H x y v u Q I rx ry q hs
 ·exact h' value slice pins s σ H x y v u Q I rx ry q hs
theorem pe_ix{r:R2}(hr:IxR X r)(ha:PE X a ta)(hb:PE X b tb)(hs:jqn b):PE X (.Subscript a b pos) (tOp r ta tb):=by
 intro pins s σ H Q I h
 exact Subscript_ (binT ha hb I h λv u s2 x y H2 I2 rx ry q=>hr a b pins s2 σ H2 x y v u Q I2 rx ry q (hs _ _))
def rIxL(K:W.Frag):R2:=λx y H Q=>∃p xs i v,x= .ref p /\ y= .int i /\ SqL K H p xs /\ atI xs i=some v /\ Q v H
def rIxT(K:W.Frag):R2:=λx y H Q=>∃p xs i v,x= .ref p /\ y= .int i /\ SqT K H p xs /\ atI xs i=some v /\ Q v H
def rIxS:R2:=λx y H Q=>∃z i c,x= .str z /\ y= .int i /\ z.length<=sizeLine /\ atI z.cps.toList i=some c /\ Q (.str ⟨#[c]⟩) H
theorem jvu:IxR X (rIxL X.K):=by
 intro value slice pins s σ H x y v u Q I rx ry h hs
 obtain⟨p,xs,i,z,rfl,rfl,hq,he,q⟩:=h
 cases rx
 obtain⟨t,rfl⟩:=ry
 obtain⟨its,r,pl,hz⟩:=I.list hq
 obtain⟨j,h1,h2,h3,h4,h5⟩:=jm6 he
 obtain⟨w,ew,rw'⟩:=r.get h2
 have hl:=r.length
 have hn:=jj4
 have fin:EP X pins σ Q w s:=⟨z,H,I,rw',q⟩
 by_cases h0:0<=i
 ·have hj:i.toNat=j:=by
   rw[seqIndex_of h0 h5] at h1
   exact Option.some.inj h1
  exact item_listR pl.isList h0 (by omega) (by rw[hj];simpa using ew) fin hs
 ·have hj:(i+(its.toArray.size:Int)).toNat=j:=by
   rw[seqIndex_neg (by omega) h4] at h1
   rw[List.size_toArray,<-hl]
   exact Option.some.inj h1
  exact subscriptTail_builtinR (x:=w) pl.isList.typeIs slot_list_getitem.lookup
   (wpAny_getItem_list_neg (Q:=λr s'=>r=w /\ EP X pins σ Q r s') pl.isList (by omega) (by rw[List.size_toArray]<;>omega) (by omega) (by rw[hj];simpa using ew) ⟨rfl,fin⟩) hs
theorem ix_tup:IxR X (rIxT X.K):=by
 intro value slice pins s σ H x y v u Q I rx ry h hs
 obtain⟨p,xs,i,z,rfl,rfl,hq,he,q⟩:=h
 cases rx
 obtain⟨t,rfl⟩:=ry
 obtain⟨its,r,pl,hz⟩:=I.tuple hq
 obtain⟨j,h1,h2,h3,h4,h5⟩:=jm6 he
 obtain⟨w,ew,rw'⟩:=r.get h2
 have hl:=r.length
 have hn:=jj4
 have fin:EP X pins σ Q w s:=⟨z,H,I,rw',q⟩
 exact subscriptTail_builtinR (x:=w) pl.typeIs slot_tuple_getitem.lookup
  (getItem_tuple (j:=j) (Q:=λr s'=>r=w /\ EP X pins σ Q r s') pl (by omega) (by omega) (by rw[List.size_toArray,<-hl];exact h1) (by simpa using ew) ⟨rfl,fin⟩) hs
theorem ix_str:IxR X rIxS:=by
 intro value slice pins s σ H x y v u Q I rx ry h hs
 obtain⟨z,i,c,rfl,rfl,hz,he,q⟩:=h
 obtain⟨t,rfl⟩:=rx
 obtain⟨t',rfl⟩:=ry
 obtain⟨j,h1,h2,h3,h4,h5⟩:=jm6 he
 have hl:z.cps.toList.length=z.length:=by simp[Str.length]
 rw[hl] at h1 h4 h5
 have hn:=jj4
 exact tail_any (typeIs_str s z t) slot_str_getitem.lookup (getItem_str (c:=c) (by
  have e1:decide (i< -(2^63:Int))=false:=decide_eq_false (by omega)
  have e2:decide (i>=2^63)=false:=decide_eq_false (by omega)
  rw[e1,e2,Bool.or_false]) (by rw[h1];simpa using h2) ⟨.str ⟨#[c]⟩,H,I.tok _,⟨_,rfl⟩,q⟩) hs
def rIx(K:W.Frag):R2:=λx y H Q=>rIxL K x y H Q \/ rIxT K x y H Q \/ rIxS x y H Q
theorem ix_seq:IxR X (rIx X.K):=jvu.or (ix_tup.or ix_str)
theorem jli(lo hi:Option Int)(n:Nat):(sliceBounds lo hi none n).1=((HT.sIx n 0 lo:Nat):Int) /\ (sliceBounds lo hi none n).2.1=((HT.sIx n n hi:Nat):Int) /\ (sliceBounds lo hi none n).2.2=1:=by
 refine⟨?_,?_,rfl⟩
 ·cases lo with
  | none=>simp[sliceBounds,HT.sIx]
  | some i=>
   simp only[sliceBounds,HT.sIx,Option.getD_none,show(1:Int)>0 by decide,if_true]
   by_cases h:i<0
   ·simp only[h,if_true]<;>omega
   ·simp only[h,if_false]<;>omega
 ·cases hi with
  | none=>simp[sliceBounds,HT.sIx]
  | some i=>
   simp only[sliceBounds,HT.sIx,Option.getD_none,show(1:Int)>0 by decide,if_true]
   by_cases h:i<0
   ·simp only[h,if_true]<;>omega
   ·simp only[h,if_false]<;>omega
theorem jk5(its:List Value)(lo hi:Option Int):slicePick its.toArray lo hi none=((its.drop (HT.sIx its.length 0 lo)).take (HT.sIx its.length its.length hi - HT.sIx its.length 0 lo)).toArray:=by
 obtain⟨h1,h2,h3⟩:=jli lo hi its.toArray.size
 unfold slicePick
 rw[h1,h2,h3]
 simp only[sliceRange_one,pick_run,List.size_toArray]<;>rfl
def rSlL(K:W.Frag):V->Option Int->Option Int->Hp->VK->Prop:=λx lo hi H Q=>∃a xs,x= .ref a /\ SqL K H a xs /\ ∀p,H p=none->Q (.ref p) (upd H p (.lst (cutV xs lo hi)))
theorem jve:SlR X (rSlL X.K):=by
 intro pins s σ H x v vl vu lo hi sl Q I rx hs pl pu h
 obtain⟨a,xs,rfl,hx,q⟩:=h
 cases rx
 obtain⟨its,r,ht,hz⟩:=I.list hx
 have hlen:=r.length
 refine⟨"list",_,slot_list_getitem.lookup,ht.isList.typeIs,?_⟩
 refine wpAny_getItem_list_slice ht.isList hs pl pu .none (by simp) ?_ (by rw[List.size_toArray]<;>omega)
 rw[jk5,<-hlen]
 refine⟨.ref s.heap.objs.size,_,I.laid (t':=s.toks) (o:= .lst (cutV xs lo hi)) (λb ob q=>Heap.get?_push_of_some _ q) (Nat.le_refl _) ?_,rfl,q _ (I.hok.fresh (Nat.le_refl _))⟩
 exact⟨Nat.le_trans (jhq xs lo hi) hz,_,0,(r.drop (HT.sIx xs.length 0 lo)).take (HT.sIx xs.length xs.length hi - HT.sIx xs.length 0 lo),Heap.get?_push_size _ rfl⟩
def jik:V->Bool
 | .non=>true
 | .bl _=>true
 | .int _=>true
 | .str _=>true
 | _=>false
def eqV:V->V->Bool
 | .non,.non=>true
 | .bl a,.bl b=>a==b
 | .bl a,.int b=>(if a then 1 else 0)==b
 | .int a,.bl b=>a==(if b then 1 else 0)
 | .int a,.int b=>a==b
 | .str a,.str b=>a==b
 | _,_=>false
theorem eqAt_V{A:Around}{s:Shared}{y x:V}{u v:Value}(ry:RelV y u)(rx:RelV x v)(fy:jik y=true)(fx:jik x=true):SeqAt.EqAt A s u v (eqV y x):=by
 cases y with
 | non=>
  cases ry
  cases x with
  | non=>cases rx;exact SeqAt.EqAt.same _
  | bl b=>cases rx;exact SeqAt.EqAt.none_bool b
  | int b=>obtain⟨t,rfl⟩:=rx;exact SeqAt.EqAt.none_int b t
  | str b=>obtain⟨t,rfl⟩:=rx;exact SeqAt.EqAt.none_str b t
  | _=>exact absurd (show false=true from fx) Bool.false_ne_true
 | bl a=>
  cases ry
  cases x with
  | non=>cases rx;exact SeqAt.EqAt.bool_none a
  | bl b=>cases rx;exact SeqAt.EqAt.bool_bool a b
  | int b=>obtain⟨t,rfl⟩:=rx;exact SeqAt.EqAt.bool_int a b t
  | str b=>obtain⟨t,rfl⟩:=rx;exact SeqAt.EqAt.bool_str a b t
  | _=>exact absurd (show false=true from fx) Bool.false_ne_true
 | int a=>
  obtain⟨t',rfl⟩:=ry
  cases x with
  | non=>cases rx;exact SeqAt.EqAt.int_none a t'
  | bl b=>cases rx;exact SeqAt.EqAt.int_bool a t' b
  | int b=>obtain⟨t,rfl⟩:=rx;exact SeqAt.EqAt.int_int a t' b t
  | str b=>obtain⟨t,rfl⟩:=rx;exact SeqAt.EqAt.int_str a t' b t
  | _=>exact absurd (show false=true from fx) Bool.false_ne_true
 | str a=>
  obtain⟨t',rfl⟩:=ry
  cases x with
  | non=>cases rx;exact SeqAt.EqAt.str_none a t'
  | bl b=>cases rx;exact SeqAt.EqAt.str_bool a t' b
  | int b=>obtain⟨t,rfl⟩:=rx;exact SeqAt.EqAt.str_int a t' b t
  | str b=>obtain⟨t,rfl⟩:=rx;exact SeqAt.EqAt.str_str a t' b t
  | _=>exact absurd (show false=true from fx) Bool.false_ne_true
 | _=>exact absurd (show false=true from fy) Bool.false_ne_true
def eqU(x:V)(u:Value):Bool:=match u with
 | .none=>eqV .non x
 | .bool b=>eqV (.bl b) x
 | .int i _=>eqV (.int i) x
 | .str z _=>eqV (.str z) x
 | _=>false
theorem jtj{x y:V}{u:Value}(r:RelV y u)(f:jik y=true):eqU x u=eqV y x:=by
 cases y with
 | non=>cases r;rfl
 | bl b=>cases r;rfl
 | int i=>obtain⟨t,rfl⟩:=r;rfl
 | str z=>obtain⟨t,rfl⟩:=r;rfl
 | _=>exact absurd (show false=true from f) Bool.false_ne_true
theorem jh9{x:V}:∀{xs:List V} {us:List Value},Vals xs us->xs.all jik=true->us.any (eqU x)=xs.any λy=>eqV y x
 | _,_,.nil,_=>rfl
 | y::xs,u::us,.cons r t,f=>by
  rw[List.all_cons,Bool.and_eq_true] at f
  rw[List.any_cons,List.any_cons,jtj r f.1,jh9 t f.2]
theorem jfq{A:Around}{s:Shared}{x:V}{v:Value}(rx:RelV x v)(fx:jik x=true):∀{xs:List V} {us:List Value},Vals xs us->xs.all jik=true->∀u∈us,SeqAt.EqAt A s u v (eqU x u)
 | _,_,.nil,_=>λu hu=>by cases hu
 | y::xs,u::us,.cons r t,f=>λu' hu=>by
  rw[List.all_cons,Bool.and_eq_true] at f
  rcases List.mem_cons.mp hu with rfl | hu
  ·rw[jtj r f.1];exact eqAt_V r rx f.1 fx
  ·exact jfq rx fx t f.2 u' hu
def inV(x:V)(xs:List V):Bool:=xs.any λy=>eqV y x
def rIn(K:W.Frag)(neg:Bool):R2:=λx y H Q=>∃p xs,y= .ref p /\ (SqL K H p xs \/ SqT K H p xs) /\ jik x=true /\ xs.all jik=true /\ Q (.bl (if neg then !inV x xs else inV x xs)) H
theorem jq9:OpR X (compareOp .In) (rIn X.K false):=by
 intro pins s σ H x y v u Q I rx ry h
 obtain⟨p,xs,rfl,hq,fx,fs,q⟩:=h
 cases ry
 rcases hq with hq | hq
 ·obtain⟨its,r,pl,hz⟩:=I.list hq
  refine SeqAt.in_listAt (eqU x) pl.isList (λw hw=>jfq rx fx r fs w (by simpa using hw)) ⟨.bl _,H,I,rfl,?_⟩
  rw[show its.toArray.any (eqU x)=its.any (eqU x) by simp,jh9 r fs]
  exact q
 ·obtain⟨its,r,pl,hz⟩:=I.tuple hq
  refine SeqAt.in_tupleAt (eqU x) pl (λw hw=>jfq rx fx r fs w (by simpa using hw)) ⟨.bl _,H,I,rfl,?_⟩
  rw[show its.toArray.any (eqU x)=its.any (eqU x) by simp,jh9 r fs]
  exact q
theorem jln:OpR X (compareOp .NotIn) (rIn X.K true):=by
 intro pins s σ H x y v u Q I rx ry h
 obtain⟨p,xs,rfl,hq,fx,fs,q⟩:=h
 cases ry
 rcases hq with hq | hq
 ·obtain⟨its,r,pl,hz⟩:=I.list hq
  refine SeqAt.notIn_listAt (eqU x) pl.isList (λw hw=>jfq rx fx r fs w (by simpa using hw)) ⟨.bl _,H,I,rfl,?_⟩
  rw[show its.toArray.any (eqU x)=its.any (eqU x) by simp,jh9 r fs]
  exact q
 ·obtain⟨its,r,pl,hz⟩:=I.tuple hq
  refine SeqAt.notIn_tupleAt (eqU x) pl (λw hw=>jfq rx fx r fs w (by simpa using hw)) ⟨.bl _,H,I,rfl,?_⟩
  rw[show its.toArray.any (eqU x)=its.any (eqU x) by simp,jh9 r fs]
  exact q
theorem jlk:OpR X (compareOp .NotIn) (λx y H Q=>∃i j,x= .str i /\ y= .str j /\ Q (.bl (!(!(Builtin.Str.occurrences j i 0 j.length 1).isEmpty))) H):=by
 intro pins s σ H x y v u Q I rx ry h
 obtain⟨i,j,rfl,rfl,q⟩:=h
 obtain⟨t,rfl⟩:=rx
 obtain⟨t',rfl⟩:=ry
 exact notIn_str ⟨.bl _,H,I,rfl,q⟩
theorem jkz:jdx X (.builtin "len") (λxs H Q=>∃p ys,xs=[.ref p] /\ (SqL X.K H p ys \/ SqT X.K H p ys) /\ Q (.int ys.length) H):=by
 intro pins s σ H xs us Q I r h
 obtain⟨p,ys,rfl,hq,q⟩:=h
 obtain⟨u,rfl,rx⟩:=jl3 r
 cases rx
 have hn:=jj4
 rcases hq with hq | hq
 ·obtain⟨its,r',pl,hz⟩:=I.list hq
  have hlen:=r'.length
  exact Calls.call_len_list pl.isList (by simp only[List.size_toArray]<;>omega) ⟨.int ys.length,H,I.tok _,⟨s.toks+1,by rw[List.size_toArray,hlen]⟩,q⟩
 ·obtain⟨its,r',pl,hz⟩:=I.tuple hq
  have hlen:=r'.length
  exact len_tuple pl (by simp only[List.size_toArray]<;>omega) ⟨.int ys.length,H,I.tok _,⟨s.toks+1,by rw[List.size_toArray,hlen]⟩,q⟩
theorem jlc:jdx X (.builtin "len") (λxs H Q=>∃z,xs=[.str z] /\ z.length<=sizeLine /\ Q (.int z.length) H):=by
 intro pins s σ H xs us Q I r h
 obtain⟨z,rfl,hz,q⟩:=h
 obtain⟨u,rfl,t,rfl⟩:=jl3 r
 have hn:=jj4
 exact len_str (by omega) ⟨.int z.length,H,I.tok _,⟨_,rfl⟩,q⟩
theorem jdx.or{f:Value}{r r':List V->Hp->VK->Prop}(h:jdx X f r)(h':jdx X f r'):jdx X f (λxs H Q=>r xs H Q \/ r' xs H Q):=by
 intro pins s σ H xs us Q I rs q
 rcases q with q | q
 ·exact h pins s σ H xs us Q I rs q
 ·exact h' pins s σ H xs us Q I rs q
theorem jl2:jdx X (.type "list") (λxs H Q=>∃p ys,xs=[.ref p] /\ (SqL X.K H p ys \/ SqT X.K H p ys) /\ ∀l,H l=none->Q (.ref l) (upd H l (.lst ys))):=by
 intro pins s σ H xs us Q I r h
 obtain⟨p,ys,rfl,hq,q⟩:=h
 obtain⟨u,rfl,rx⟩:=jl3 r
 cases rx
 have fin:∀(its:List Value),Vals ys its->ys.length<=sizeLine->∀(h':Heap) (c':Nat),(∀b o',s.heap.get? b=some o'->h'.get? b=some o')->
   h'.get? s.heap.objs.size=some {cls:= .type "list",dict:=none,data:= .seq its.toArray c',slots:=#[]}->EP X pins σ Q (.ref s.heap.objs.size) {s with heap:=h'}:=λits r' hz h' c' kp e=>
  ⟨.ref s.heap.objs.size,_,I.laid (t':=s.toks) kp (Nat.le_refl _) (show jby X.prog X.w _ h' _ (.lst ys) from⟨hz,its,c',r',e⟩),rfl,q _ (I.hok.fresh (Nat.le_refl _))⟩
 rcases hq with hq | hq
 ·obtain⟨its,r',pl,hz⟩:=I.list hq
  have hlen:=r'.length
  obtain⟨o,ho,hc,n,hd⟩:=pl.isList
  exact call_list_seq p (.inl rfl) ho hc hd (λh' c' kp e=>fin its r' hz h' c' kp e) (by simp only[List.size_toArray]<;>omega)
 ·obtain⟨its,r',pl,hz⟩:=I.tuple hq
  have hlen:=r'.length
  obtain⟨o,ho,hc,n,hd⟩:=pl
  exact call_list_seq p (.inr rfl) ho hc hd (λh' c' kp e=>fin its r' hz h' c' kp e) (by simp only[List.size_toArray]<;>omega)
def tyV(K:W.Frag)(T:String)(x:V)(H:Hp):Prop:=match x with
 | .str _=>T="str"
 | .int _=>T="int"
 | .ref p=>(T="list" /\ ∃xs,SqL K H p xs) \/ (T="tuple" /\ ∃o,K.lookup p=some o /\ o.cls= .type "tuple" /\ o.dict=none) \/
   (T="dict" /\ ((∃kvs,H p=some (.dK kvs)) \/ ∃kvs,H p=some (.dT kvs))) \/ (T="set" /\ ∃S n,H p=some (.set S n))
 | _=>False
theorem jp6{pins:List (Addr×Obj)}{σ:St}{H:Hp}{s:Shared}{T:String}{x:V}{v:Value}(I:Inv X pins σ H s)(r:RelV x v)(ty:tyV X.K T x H):
  s.TypeIs v T /\ ∀a,v= .ref a->∃ob,s.heap.get? a=some ob /\ ob.dict=none:=by
 cases x with
 | str z=>
  obtain⟨t,rfl⟩:=r
  cases (show T="str" from ty)
  exact⟨typeIs_str s z t,λ_ e=>nomatch e⟩
 | int i=>
  obtain⟨t,rfl⟩:=r
  cases (show T="int" from ty)
  exact⟨typeIs_int s i t,λ_ e=>nomatch e⟩
 | ref p=>
  cases r
  rcases ty with⟨rfl,xs,hq⟩ | ⟨rfl,o,hk,hc,hd⟩ | ⟨rfl,hk⟩ | ⟨rfl,S,n,hk⟩
  ·obtain⟨its,_,pl,_⟩:=I.list hq
   refine⟨pl.isList.typeIs,λa e=> ?_⟩
   cases e
   obtain⟨o,n,e,c,hd,_⟩:=pl
   exact⟨o,e,hd⟩
  ·refine⟨⟨o,I.kIn p o hk,hc⟩,λa e=> ?_⟩
   cases e
   exact⟨o,I.kIn _ o hk,hd⟩
  ·have z:∃o,s.heap.get? p=some o /\ o.ExactDict:=by
    rcases hk with⟨kvs,hk⟩ | ⟨kvs,hk⟩
    ·obtain⟨_,_,_,_,o,_,_,e,ex,_⟩:=I.hok p _ hk
     exact⟨o,e,ex⟩
    ·obtain⟨_,_,_,_,o,_,_,e,ex,_⟩:=I.hok p _ hk
     exact⟨o,e,ex⟩
   obtain⟨o,e,ex⟩:=z
   refine⟨⟨o,e,ex.1⟩,λa e2=> ?_⟩
   cases e2
   exact⟨o,e,ex.2.1⟩
  ·obtain⟨o,_,_,_,e,ex,_⟩:=I.hok p _ hk
   refine⟨⟨o,e,ex.1⟩,λa e2=> ?_⟩
   cases e2
   exact⟨o,e,ex.2.1⟩
 | _=>exact False.elim ty
def tBM0(K:W.Frag)(T:String)(r:V->List V->Hp->VK->Prop)(to:TE):TE:=λσ H Q=>to σ H λx H1=>tyV K T x H1 /\ r x [] H1 Q
def tBM(K:W.Frag)(T:String)(r:V->List V->Hp->VK->Prop)(to:TE)(t:TA):TE:=λσ H Q=>to σ H λx H1=>tyV K T x H1 /\ t σ H1 λxs H2=>r x xs H2 Q
variable {o e : Expr} {es : List Expr} {to : TE} {t : TA} {name : Str} {apos cpos : Pos} {T id : String} {r : V -> List V -> Hp -> VK -> Prop}
theorem pe_bm0(pa:PlainAttrs T)(slot:Slot T name id)(hty:typeOf (.builtin id)=pure (.type "method_descriptor"))(hm:MtR X id r)(ho:PE X o to)
  (hbase:attributeBase o name X.env (eval o X.env)=eval o X.env:=by rfl) (hline:(apos.endLine==cpos.line)=true:=by rfl):PE X (.Call (.Attribute o name apos) [] [] cpos) (tBM0 X.K T r to):=by
 intro pins s σ H Q I h
 refine wpAny_Call_method0_late hbase hline (thn (ho pins s σ H _ I h) λv s1 ⟨x,H1,I1,r1,ty,q1⟩=> ?_)
 obtain⟨h1,h2⟩:=jp6 I1 r1 ty
 exact⟨T,id,pa,slot,hty,h1,h2,Calls.callWith_builtin rfl (PySem.evalArgs_none (hm pins s1 σ H1 x [] v [] Q I1 r1 .nil q1))⟩
theorem jii(pa:PlainAttrs T)(slot:Slot T name id)(hty:typeOf (.builtin id)=pure (.type "method_descriptor"))(hm:MtR X id r)(ho:PE X o to)(ha:PA X (e::es) t)
  (hbase:attributeBase o name X.env (eval o X.env)=eval o X.env:=by rfl)
  (hfew:((backTo cpos (starEach (e::es) X.env)).all (λx=> !x.1)&&(backToKw cpos (keywordEach [] X.env)).all (λx=>x.1.isSome)
   &&decide ((e::es).length+([]:List Keyword).length+(if([]:List Keyword).isEmpty then 0 else 1)<30))=true:=by rfl)
  (hline:(apos.endLine==cpos.line)=true:=by rfl) (hs:starEach (e::es) X.env=(false,eval e X.env)::starEach es X.env:=by rfl) (hplain:(backTo cpos (starEach es X.env)).any (·.1)=false:=by rfl):
  PE X (.Call (.Attribute o name apos) (e::es) [] cpos) (tBM X.K T r to t):=by
 intro pins s σ H Q I h
 refine wpAny_Call_method_late hbase hfew hline rfl (thn (ho pins s σ H _ I h) λv s1 ⟨x,H1,I1,r1,ty,q1⟩=> ?_)
 obtain⟨h1,h2⟩:=jp6 I1 r1 ty
 refine⟨T,id,pa,slot,hty,h1,h2,?_⟩
 have hA:=ha cpos pins s1 σ H1 _ I1 q1
 rw[hs] at hA ⊢
 refine Calls.callWith_builtin (by show(false||(backTo cpos (starEach es X.env)).any (·.1))=false;rw[hplain]<;>rfl) (Calls.evalArgs_plain ?_)
 exact thn hA λus s2 ⟨vs,H2,I2,r2,q2⟩=>hm pins s2 σ H2 x vs v us Q I2 r1 r2 q2
/- xs.append(e),list.index on a module's tuple .. are MtR facts of 06m -/
end
def MtM(X:Cx)(id:String)(r:V->List V->Hp->VK->Prop):Prop:=
 ∀(pins:List (Addr×Obj)) (s:Shared) (σ:St) (H:Hp) (x:V) (xs:List V) (v:Value) (us:List Value) (Q:VK),Inv X pins σ H s->RelV x v->Vals xs us->r x xs H Q->
  wpAny (model X.prog X.w) X.A (call (.builtin id) (v::us)) (EP X pins σ Q) X.xe s
theorem Vals.one:∀{x:V} {us:List Value},Vals [x] us->∃u,us=[u] /\ RelV x u
 | _,_,.cons r .nil=>⟨_,rfl,r⟩
section
variable {X : Cx} {pins : List (Addr × Obj)} {σ : St} {H : Hp} {s : Shared} {l b : Addr} {xs ys zs : List V}
theorem Inv.lset{its its':List Value}{n:Nat}{f:Array Value->Array Value}{t':Nat}(I:Inv X pins σ H s)(hH:H l=some (.lst xs))
  (e:s.heap.get? l=some {cls:= .type "list",data:= .seq its.toArray n}) (hf:f its.toArray=its'.toArray) (hv:Vals ys its') (hz:ys.length<=sizeLine):
  Inv X pins σ (upd H l (.lst ys)) {s with heap:=s.heap.update l (Obj.mapSeq f),toks:=t'}:=by
 have q:=PySem.IsL.update e f
 rw[hf] at q
 refine I.write (x:=l) (e:=l) (by rw[hH];exact trivial) (.inl rfl) (λb' u hb hu=>(Heap.get?_update_other s.heap (Obj.mapSeq f) (Ne.symm hb)).trans hu) ⟨_,q⟩ ?_
 exact⟨hz,its',_,hv,q⟩
theorem Inv.lnew{its:List Value}{t':Nat}(I:Inv X pins σ H s)(hv:Vals ys its)(hz:ys.length<=sizeLine):
  Inv X pins σ (upd H s.heap.objs.size (.lst ys)) {s with heap:=s.heap.push {cls:= .type "list",data:= .seq its.toArray},toks:=t'}:=
 I.laid (λ_ _ q=>Heap.get?_push_of_some _ q) (Nat.le_refl _) ⟨hz,its,0,hv,Heap.get?_push_size _ rfl⟩
theorem Inv.fresh(I:Inv X pins σ H s):H s.heap.objs.size=none:=I.hok.fresh (Nat.le_refl _)
theorem Inv.lstM(I:Inv X pins σ H s)(hH:H l=some (.lst xs)):xs.length<=sizeLine /\ ∃(its:List Value) (n:Nat),Vals xs its /\ xs.length=its.length /\ s.heap.get? l=some {cls:= .type "list",data:= .seq its.toArray n}:=by
 obtain⟨z,its,n,r,e⟩:=I.hok l _ hH
 exact⟨z,its,n,r,r.length,e⟩
theorem js2{n:Nat}(h:n<=sizeLine):Builtin.List.listTooLong n=false:=by
 unfold Builtin.List.listTooLong
 exact decide_eq_false (by omega)
end
section
variable {X : Cx}
def jq6:V->List V->Hp->VK->Prop:=λx vs H Q=>∃l xs y,x= .ref l /\ vs=[y] /\ H l=some (.lst xs) /\ xs.length<sizeLine /\ Q .non (upd H l (.lst (xs++[y])))
theorem jde:MtM X "list.append" jq6:=by
 intro pins s σ H x vs v us Q I rx rv h
 obtain⟨l,xs,y,rfl,rfl,hH,hz,q⟩:=h
 cases rx
 obtain⟨u,rfl,ru⟩:=rv.one
 obtain⟨z,its,n,r,hl,e⟩:=I.lstM hH
 refine call_meets F.slot_list_append ⟨_,e,rfl⟩ F.entry_list_append (F.args_list_append_2 _ _) (PySem.list_append l its.toArray n u (by rw[List.size_toArray];omega)) ⟨e,?_⟩
 refine⟨.non,_,I.lset (its':=its++[u]) hH e (by simp) (r.append (.cons ru .nil)) ?_,rfl,q⟩
 rw[List.length_append,List.length_singleton]
 omega
def jox:V->List V->Hp->VK->Prop:=λx vs H Q=>∃l b xs zs,x= .ref l /\ vs=[.ref b] /\ H l=some (.lst xs) /\ H b=some (.lst zs) /\ xs.length+zs.length<=sizeLine /\ Q .non (upd H l (.lst (xs++zs)))
theorem jkn:MtM X "list.extend" jox:=by
 intro pins s σ H x vs v us Q I rx rv h
 obtain⟨l,b,xs,zs,rfl,rfl,hH,hB,hz,q⟩:=h
 cases rx
 obtain⟨u,rfl,ru⟩:=rv.one
 cases ru
 obtain⟨z,its,n,r,hl,e⟩:=I.lstM hH
 obtain⟨z2,its2,n2,r2,hl2,e2⟩:=I.lstM hB
 have hsz:its.toArray.size+its2.toArray.size<=sizeLine:=by rw[List.size_toArray,List.size_toArray];omega
 have hlong:¬(!its.toArray.isEmpty&&Builtin.List.listTooLong (its.toArray.size+its2.toArray.size))=true:=by
  rw[js2 hsz,Bool.and_false]
  exact Bool.false_ne_true
 refine call_meets F.slot_list_extend ⟨_,e,rfl⟩ F.entry_list_extend (F.args_list_extend_2 _ _)
  (AutoSeq1.list_extend_list_list_0 l its.toArray n b its2.toArray n2 hlong (by rw[List.size_toArray];omega) (by omega)) ⟨e,e2,?_⟩
 refine⟨.non,_,I.lset (its':=its++its2) hH e (by simp) (r.append r2) ?_,rfl,q⟩
 rw[List.length_append]
 omega
def rCat:R2:=λx y H Q=>∃l b xs zs,x= .ref l /\ y= .ref b /\ H l=some (.lst xs) /\ H b=some (.lst zs) /\ xs.length+zs.length<=sizeLine /\ ∀p,H p=none->Q (.ref p) (upd H p (.lst (xs++zs)))
theorem op_cat:OpR X (binaryOp .Add) rCat:=by
 intro pins s σ H x y v u Q I rx ry h
 obtain⟨l,b,xs,zs,rfl,rfl,hH,hB,hz,q⟩:=h
 cases rx
 cases ry
 obtain⟨z,its,n,r,hl,e⟩:=I.lstM hH
 obtain⟨z2,its2,n2,r2,hl2,e2⟩:=I.lstM hB
 refine PySem.P.add_list e e2 ?_ (by rw[List.size_toArray,List.size_toArray];omega)
 have ea:its.toArray++its2.toArray=(its++its2).toArray:=by simp
 rw[ea]
 exact⟨.ref _,_,I.lnew (t':=s.toks) (r.append r2) (by rw[List.length_append];omega),rfl,q _ I.fresh⟩
end
section
variable {κ : Type} [DecidableEq κ]
def valV(kvs:List (κ×V))(k:κ):Option V:=(kvs.find? λkv=>decide (kv.1=k)).map (·.2)
def putK(kvs:List (κ×V))(k:κ)(v:V):List (κ×V):=
 if(kvs.any λkv=>decide (kv.1=k))=true then kvs.map (λkv=>if kv.1=k then(kv.1,v) else kv) else kvs++[(k,v)]
def jjs(kvs:List (κ×V))(k:κ):List (κ×V):=kvs.filter λkv=>decide (kv.1≠k)
theorem jjl{p:κ×V}{r:List (κ×V)}{k:κ}(e:p.1=k):valV (p::r) k=some p.2:=by simp[valV,List.find?_cons,e]
theorem jjr{p:κ×V}{r:List (κ×V)}{k:κ}(e:¬p.1=k):valV (p::r) k=valV r k:=by simp[valV,List.find?_cons,e]
theorem jmx(k:κ):∀kvs:List (κ×V),(kvs.any λkv=>decide (kv.1=k))=(valV kvs k).isSome
 | []=>rfl
 | p::r=>by
  rw[List.any_cons]
  by_cases e:p.1=k
  ·simp only[jjl e,decide_eq_true e,Bool.true_or,Option.isSome_some]
  ·rw[jjr e,decide_eq_false e,Bool.false_or];exact jmx k r
theorem jfh(kvs:List (κ×V))(k:κ)(v:V):(putK kvs k v).length<=kvs.length+1:=by
 unfold putK
 split
 ·rw[List.length_map];omega
 ·rw[List.length_append,List.length_cons,List.length_nil];omega
theorem RelO.isSome_eq{o:Option V}{u:Option Value}(r:RelO o u):o.isSome=u.isSome:=by
 cases o with
 | none=>cases u with
  | none=>rfl
  | some _=>exact(show False from r).elim
 | some _=>cases u with
  | none=>exact(show False from r).elim
  | some _=>rfl
theorem KV.val{kvs:List (κ×V)}{vs:List (κ×Value)}(r:KV kvs vs)(k:κ):RelO (valV kvs k) (valueAt vs k):=by
 unfold KV at r
 induction r with
 | nil=>exact True.intro
 | @cons p q ps qs h t ih=>
  obtain⟨h1,h2⟩:=h
  by_cases e:p.1=k
  ·have e':q.1=k:=h1.symm.trans e
   have b:valueAt (q::qs) k=some q.2:=by simp[valueAt,List.find?_cons,e']
   rw[jjl e,b];exact h2
  ·have e':¬q.1=k:=λz=>e (h1.trans z)
   have b:valueAt (q::qs) k=valueAt qs k:=by simp[valueAt,List.find?_cons,e']
   rw[jjr e,b];exact ih
theorem KV.any{kvs:List (κ×V)}{vs:List (κ×Value)}(r:KV kvs vs)(k:κ):(kvs.any λkv=>decide (kv.1=k))=vs.any λkv=>decide (kv.1=k):=by
 unfold KV at r
 induction r with
 | nil=>rfl
 | cons h t ih=>rw[List.any_cons,List.any_cons,ih,h.1]
theorem KV.repl{kvs:List (κ×V)}{vs:List (κ×Value)}(r:KV kvs vs)(k:κ){y:V}{u:Value}(ry:RelV y u):
  KV (kvs.map λkv=>if kv.1=k then(kv.1,y) else kv) (vs.map λkv=>if kv.1=k then(kv.1,u) else kv):=by
 unfold KV at r ⊢
 induction r with
 | nil=>exact .nil
 | @cons p q ps qs h t ih=>
  rw[List.map_cons,List.map_cons]
  refine .cons ?_ ih
  obtain⟨h1,h2⟩:=h
  by_cases e:p.1=k
  ·rw[if_pos e,if_pos (h1.symm.trans e)];exact⟨h1,ry⟩
  ·rw[if_neg e,if_neg (λz=>e (h1.trans z))];exact⟨h1,h2⟩
theorem KV.put{kvs:List (κ×V)}{vs:List (κ×Value)}(r:KV kvs vs)(k:κ){y:V}{u:Value}(ry:RelV y u):KV (putK kvs k y) (stored vs k u):=by
 unfold putK stored
 rw[r.any k]
 by_cases e:(vs.any λkv=>decide (kv.1=k))=true
 ·rw[if_pos e,if_pos e];exact r.repl k ry
 ·rw[if_neg e,if_neg e];exact Paired.snoc r ⟨rfl,ry⟩
theorem KV.drop{kvs:List (κ×V)}{vs:List (κ×Value)}(r:KV kvs vs)(k:κ):KV (jjs kvs k) (without vs k):=by
 unfold KV at r ⊢
 unfold jjs without
 induction r with
 | nil=>exact .nil
 | @cons p q ps qs h t ih=>
  obtain⟨h1,h2⟩:=h
  rw[List.filter_cons,List.filter_cons]
  by_cases e:p.1=k
  ·have a:¬decide (p.1≠k)=true:=by simp[e]
   have b:¬decide (q.1≠k)=true:=by simp[h1.symm.trans e]
   rw[if_neg a,if_neg b];exact ih
  ·have e':¬q.1=k:=λz=>e (h1.trans z)
   have a:decide (p.1≠k)=true:=by simp[e]
   have b:decide (q.1≠k)=true:=by simp[e']
   rw[if_pos a,if_pos b];exact .cons ⟨h1,h2⟩ ih
theorem KV.keys{kvs:List (κ×V)}{vs:List (κ×Value)}(r:KV kvs vs):kvs.map (·.1)=vs.map (·.1):=by
 unfold KV at r
 induction r with
 | nil=>rfl
 | cons h t ih=>rw[List.map_cons,List.map_cons,ih,h.1]
theorem KV.length{kvs:List (κ×V)}{vs:List (κ×Value)}(r:KV kvs vs):kvs.length=vs.length:=Paired.length r
theorem jrr(kvs:List (κ×V))(k:κ):(jjs kvs k).length<=kvs.length:=List.length_filter_le _ _
end
theorem jgr{P:Program}{w:World}{k:Key}{u:Value}(r:RelV (kV k) u):(jbf P w).is k u=true:=by
 cases k with
 | inl i=>obtain⟨t,e⟩:=(show ∃t,u=Value.int i t from r);subst e;exact jm2 P w i t
 | inr x=>obtain⟨t,e⟩:=(show ∃t,u=Value.str x t from r);subst e;exact jm1 P w x t
theorem jl1{P:Program}{w:World}:∀{ks:List Key} {us:List Value},Vals (ks.map kV) us->ItemsAre (jbf P w) ks us
 | [],_,r=>by rw[List.map_nil] at r;cases r;exact .nil
 | k::ks,_,r=>by
  rw[List.map_cons] at r
  cases r with
  | cons h t=>exact .cons (jgr h) (jl1 t)
abbrev KT(H:Hp):List (List Key×V)->List (List Key×Addr×Value)->Prop:=Paired λp q=>p.1=q.1 /\ H q.2.1=some (.tup (p.1.map kV)) /\ RelV p.2 q.2.2
theorem KT.val{H:Hp}{kvs:List (List Key×V)}{xs:List (List Key×Addr×Value)}(r:KT H kvs xs)(k:List Key):RelO (valV kvs k) ((atKey xs k).map (·.2)):=by
 induction r with
 | nil=>exact True.intro
 | @cons p q ps qs h t ih=>
  obtain⟨h1,_,h2⟩:=h
  by_cases e:p.1=k
  ·have e':q.1=k:=h1.symm.trans e
   have b:atKey (q::qs) k=some q.2:=by simp[atKey,List.find?_cons,e']
   rw[jjl e,b];exact h2
  ·have e':¬q.1=k:=λz=>e (h1.trans z)
   have b:atKey (q::qs) k=atKey qs k:=by simp[atKey,List.find?_cons,e']
   rw[jjr e,b];exact ih
theorem KT.repl{H:Hp}{kvs:List (List Key×V)}{xs:List (List Key×Addr×Value)}(r:KT H kvs xs)(k:List Key){y:V}{u:Value}(ry:RelV y u):
  KT H (kvs.map λkv=>if kv.1=k then(kv.1,y) else kv) (xs.map (putAt k u)):=by
 induction r with
 | nil=>exact .nil
 | @cons p q ps qs h t ih=>
  rw[List.map_cons,List.map_cons]
  refine .cons ?_ ih
  obtain⟨h1,h2,h3⟩:=h
  unfold putAt
  by_cases e:p.1=k
  ·rw[if_pos e,if_pos (h1.symm.trans e)];exact⟨h1,h2,ry⟩
  ·rw[if_neg e,if_neg (λz=>e (h1.trans z))];exact⟨h1,h2,h3⟩
theorem KT.put{H:Hp}{kvs:List (List Key×V)}{xs:List (List Key×Addr×Value)}(r:KT H kvs xs)(k:List Key){b:Addr}{y:V}{u:Value}(hb:H b=some (.tup (k.map kV)))(ry:RelV y u):
  KT H (putK kvs k y) (storedH xs k b u):=by
 have e:(kvs.any λkv=>decide (kv.1=k))=(atKey xs k).isSome:=by
  rw[jmx,(r.val k).isSome_eq,Option.isSome_map]
 unfold putK storedH
 rw[e]
 by_cases q:(atKey xs k).isSome=true
 ·rw[if_pos q,if_pos q];exact r.repl k ry
 ·rw[if_neg q,if_neg q];exact Paired.snoc r ⟨rfl,hb,ry⟩
theorem KT.keeps{H H':Hp}{kvs:List (List Key×V)}{xs:List (List Key×Addr×Value)}(r:KT H kvs xs)(ht:∀b ys,H b=some (.tup ys)->H' b=some (.tup ys)):KT H' kvs xs:=
 Paired.mapP r λ_ _ z=>⟨z.1,ht _ _ z.2.1,z.2.2⟩
section
variable {P : Program} {w : World} {H : Hp} {h : Heap} {a : Addr}
theorem rd_of{u:HO}(ok:HOk P w H h)(e:Rd H a u):jby P w H h a u:=e.ok ok
theorem jlw{kvs:List (Key×V)}(ok:HOk P w H h)(e:Rd H a (.dK kvs)):kvs.length<=sizeLine /\ (a==sysModules)=false /\ ∃vs,KV kvs vs /\ h.DictOf (jbf P w) a vs:=
 show jby P w H h a (.dK kvs) from rd_of ok e
theorem jl6{kvs:List (Key×V)}(ok:HOk P w H h)(e:H a=some (.dK kvs)):kvs.length<=sizeLine /\ (a==sysModules)=false /\ ∃vs,KV kvs vs /\ h.DictOf (jbf P w) a vs:=jlw ok (.inl e)
theorem jlg{ks:List Key}(ok:HOk P w H h)(e:H a=some (.tup (ks.map kV))):(tupleKind (jbf P w)).is h ks a:=by
 obtain⟨_,its,r,o,h1,h2,n,h3⟩:=(show jby P w H h a (.tup (ks.map kV)) from ok a _ e)
 exact⟨o,its.toArray,n,h1,h2,h3,by simpa using jl1 r⟩
theorem jnk{kvs:List (List Key×V)}(ok:HOk P w H h)(e:Rd H a (.dT kvs)):kvs.length<=sizeLine /\ (a==sysModules)=false /\
  ∃xs,KT H kvs xs /\ h.DictOfH (tupleKind (jbf P w)) a xs:=by
 obtain⟨z,y,xs,r,o,es,ep,h1,h2,h3,h4,h5⟩:=(show jby P w H h a (.dT kvs) from rd_of ok e)
 refine⟨z,y,xs,r,o,es,ep,h1,h2,h3,h4,λx hx=> ?_,h5⟩
 have all:∀{l:List (List Key×V)} {m:List (List Key×Addr×Value)},KT H l m->∀x∈m,(tupleKind (jbf P w)).is h x.1 x.2.1:=by
  intro l m q
  induction q with
  | nil=>intro x hx;exact nomatch hx
  | @cons p q ps qs hq t ih=>
   intro x hx
   rcases List.mem_cons.mp hx with e | hx
   ·subst e
    exact jlg ok (by rw[<-hq.1];exact hq.2.1)
   ·exact ih x hx
 exact all r x hx
theorem dt_of{kvs:List (List Key×V)}(ok:HOk P w H h)(e:H a=some (.dT kvs)):kvs.length<=sizeLine /\ (a==sysModules)=false /\
  ∃xs,KT H kvs xs /\ h.DictOfH (tupleKind (jbf P w)) a xs:=jnk ok (.inl e)
end
def DGet(H:Hp)(a:Addr)(y:V)(r:Option V):Prop:=
 (∃kvs k,Rd H a (.dK kvs) /\ y=kV k /\ r=valV kvs k) \/ ∃kvs k b,Rd H a (.dT kvs) /\ y= .ref b /\ H b=some (.tup (k.map kV)) /\ r=valV kvs k
def DPut(H:Hp)(a:Addr)(y v:V)(H':Hp):Prop:=
 (∃kvs k,H a=some (.dK kvs) /\ y=kV k /\ kvs.length<sizeLine /\ H'=upd H a (.dK (putK kvs k v))) \/
 ∃kvs k b,H a=some (.dT kvs) /\ y= .ref b /\ H b=some (.tup (k.map kV)) /\ kvs.length<sizeLine /\ H'=upd H a (.dT (putK kvs k v))
theorem DGet.k{H:Hp}{a:Addr}{kvs:List (Key×V)}{k:Key}(e:H a=some (.dK kvs)):DGet H a (kV k) (valV kvs k):= .inl ⟨kvs,k,.inl e,rfl,rfl⟩
theorem DPut.k{H:Hp}{a:Addr}{kvs:List (Key×V)}{k:Key}{v:V}(e:H a=some (.dK kvs))(hl:kvs.length<sizeLine):DPut H a (kV k) v (upd H a (.dK (putK kvs k v))):= .inl ⟨kvs,k,e,rfl,hl,rfl⟩
section
variable {X : Cx} {pins : List (Addr × Obj)} {σ : St} {H : Hp} {s : Shared} {a : Addr} {y v : V} {u r : Value} {o : Option V} {A : Around} {E : Value -> Shared -> Prop}
theorem Inv.big(I:Inv X pins σ H s):sysModules<s.heap.objs.size:=by
 have h:mainGlobals<s.heap.objs.size:=(I.mod.glob.keeps I.bk).lt
 exact Nat.lt_trans (by decide) h
theorem jok{Q:Value->Shared->Prop}(hu:A.units+1<cLine)(I:Inv X pins σ H s)(g:DGet H a y (some v))(ry:RelV y u)(h:∀w' s',Inv X pins σ H s'->RelV v w'->Q w' s'):
  wpAny (model X.prog X.w) A (getItem (.ref a) u) Q E s:=by
 rcases g with⟨kvs,k,e,ey,l⟩ | ⟨kvs,k,b,e,ey,eb,l⟩
 ·subst ey
  obtain⟨z,hd,vs,rel,dd⟩:=jlw I.hok e
  obtain⟨w',hw,rw'⟩:=RelO.some_of (v:=v) (o:=valueAt vs k) (by rw[l];exact rel.val k)
  exact wpAny_getItem_of (jgr ry) dd.mapOf hw (h w' _ (I.tok _) rw')
 ·subst ey
  cases (show u=Value.ref b from ry)
  obtain⟨z,hd,xs,rel,dd⟩:=jnk I.hok e
  obtain⟨w',hw,rw'⟩:=RelO.some_of (v:=v) (o:=(atKey xs k).map (·.2)) (by rw[l];exact rel.val k)
  obtain⟨p,hp,hp2⟩:=Option.map_eq_some_iff.mp hw
  refine wpAny_getItem_heap (tupleKind_room_in1 hu) (jlg I.hok eb) dd hp ?_
  rw[hp2]
  exact h w' _ (I.tok _) rw'
theorem d_in{Q:Value->Shared->Prop}(hu:A.units+1<cLine)(I:Inv X pins σ H s)(g:DGet H a y o)(ry:RelV y u)(h:∀s',Inv X pins σ H s'->Q (.bool o.isSome) s'):
  wpAny (model X.prog X.w) A (compareOp .In u (.ref a)) Q E s:=by
 rcases g with⟨kvs,k,e,ey,l⟩ | ⟨kvs,k,b,e,ey,eb,l⟩
 ·subst ey
  obtain⟨z,hd,vs,rel,dd⟩:=jlw I.hok e
  refine wpAny_in_of (jgr ry) hd dd.mapOf ?_
  rw[<-(rel.val k).isSome_eq,<-l]
  exact h _ (I.tok _)
 ·subst ey
  cases (show u=Value.ref b from ry)
  obtain⟨z,hd,xs,rel,dd⟩:=jnk I.hok e
  refine wpAny_in_heap (tupleKind_room_in1 hu) (jlg I.hok eb) hd dd ?_
  have q:=(rel.val k).isSome_eq
  rw[Option.isSome_map] at q
  rw[<-q,<-l]
  exact h _ (I.tok _)
theorem jwj{Q:Value->Shared->Prop}(hu:A.units+1<cLine)(I:Inv X pins σ H s)(g:DGet H a y o)(ry:RelV y u)(h:∀s',Inv X pins σ H s'->Q (.bool (!o.isSome)) s'):
  wpAny (model X.prog X.w) A (compareOp .NotIn u (.ref a)) Q E s:=by
 rcases g with⟨kvs,k,e,ey,l⟩ | ⟨kvs,k,b,e,ey,eb,l⟩
 ·subst ey
  obtain⟨z,hd,vs,rel,dd⟩:=jlw I.hok e
  refine wpAny_notIn_of (jgr ry) hd dd.mapOf ?_
  rw[<-(rel.val k).isSome_eq,<-l]
  exact h _ (I.tok _)
 ·subst ey
  cases (show u=Value.ref b from ry)
  obtain⟨z,hd,xs,rel,dd⟩:=jnk I.hok e
  refine wpAny_notIn_heap (tupleKind_room_in1 hu) (jlg I.hok eb) hd dd ?_
  have q:=(rel.val k).isSome_eq
  rw[Option.isSome_map] at q
  rw[<-q,<-l]
  exact h _ (I.tok _)
theorem jjt{h':Heap}{t':Nat}{ob:HO}(I:Inv X pins σ H s)(mu:Mut (H a))(hs:Heap.SameBut a s.heap h')(he:∃q,h'.get? a=some q)(new:jby X.prog X.w (upd H a ob) h' a ob):
  Inv X pins σ (upd H a ob) {s with heap:=h',toks:=t'}:=
 I.write (x:=a) (e:=a) mu (.inl rfl) (λb q hb z=>(hs.2 b hb).trans z) he new
theorem jn8{P:Program}{w:World}{H':Hp}{h':Heap}{kvs:List (Key×V)}{vs:List (Key×Value)}(z:kvs.length<=sizeLine)(hd:(a==sysModules)=false)(rel:KV kvs vs)(dd:h'.DictOf (jbf P w) a vs):
  jby P w H' h' a (.dK kvs):=⟨z,hd,vs,rel,dd⟩
theorem jqw{H':Hp}{Q:Unit->Shared->Prop}(hu:A.units+1<cLine)(I:Inv X pins σ H s)(g:DPut H a y v H')(ry:RelV y u)(rv:RelV v r)(h:∀s',Inv X pins σ H' s'->Q () s'):
  wpAny (model X.prog X.w) A (setItem (.ref a) u r) Q E s:=by
 rcases g with⟨kvs,k,e,ey,l,eH⟩ | ⟨kvs,k,b,e,ey,eb,l,eH⟩
 ·subst ey eH
  obtain⟨z,hd,vs,rel,dd⟩:=jl6 I.hok e
  have hz:vs.length<=sizeLine:=by rw[<-rel.length];exact z
  have hl:(putK kvs k v).length<=sizeLine:=by have:=jfh kvs k v;omega
  refine wpAny_setItem_pairs (hsz:=hz) (jgr ry) dd λh' dd' hs=>h _ ?_
  have he:∃q,h'.get? a=some q:=let ⟨q,_,_,hq,_⟩:=dd';⟨q,hq⟩
  exact jjt I (by rw[e];exact True.intro) hs he (jn8 hl hd (rel.put k rv) dd')
 ·subst ey eH
  cases (show u=Value.ref b from ry)
  obtain⟨z,hd,xs,rel,dd⟩:=dt_of I.hok e
  have hz:xs.length<=sizeLine:=by rw[<-Paired.length rel];exact z
  have hl:(putK kvs k v).length<=sizeLine:=by have:=jfh kvs k v;omega
  refine wpAny_setItem_heap (hsz:=hz) (tupleKind_room_in1 hu) (jlg I.hok eb) dd λh' dd' hs=>h _ ?_
  obtain⟨q,es,ep,hq,h2,h3,h4,_,h5⟩:=dd'
  refine jjt I (by rw[e];exact True.intro) hs ⟨q,hq⟩ ⟨hl,hd,_,(rel.put k eb rv).keeps λc ys ec=> ?_,q,es,ep,hq,h2,h3,h4,h5⟩
  rw[jad (ne_of ec e (λz=>nomatch z))]
  exact ec
end
section
variable {X : Cx} {pins : List (Addr × Obj)} {σ : St} {H : Hp} {s : Shared} {a : Addr} {kvs : List (Key × V)} {k : Key} {u : Value} {A : Around} {E : Value -> Shared -> Prop}
theorem d_pop{v:V}{more:List Value}{Q:Value->Shared->Prop}(I:Inv X pins σ H s)(e:H a=some (.dK kvs))(ry:RelV (kV k) u)(l:valV kvs k=some v)(hm:more=[] \/ ∃x,more=[x])
  (h:∀w' s',Inv X pins σ (upd H a (.dK (jjs kvs k))) s'->RelV v w'->Q w' s'):wpAny (model X.prog X.w) A (call (.builtin "dict.pop") (.ref a::u::more)) Q E s:=by
 obtain⟨z,hd,vs,rel,dd⟩:=jl6 I.hok e
 obtain⟨w',hw,rw'⟩:=RelO.some_of (v:=v) (o:=valueAt vs k) (by rw[<-l];exact rel.val k)
 have hp:(keyPart u).isSome=true:=by
  cases k with
  | inl i=>obtain⟨t,q⟩:=(show ∃t,u=Value.int i t from ry);subst q;rfl
  | inr x=>obtain⟨t,q⟩:=(show ∃t,u=Value.str x t from ry);subst q;rfl
 have ha:argsOk "dict.pop" ⟨.ref a::u::more,[]⟩:=by
  rcases hm with q | ⟨x,q⟩
  ·subst q;exact PySem.F.args_dict_pop_2 _ _
  ·subst q;exact PySem.F.args_dict_pop_3 _ _ _
 refine call_meetsIn PySem.F.slot_dict_pop dd.typeIs PySem.F.entry_dict_pop ha (meets_dict_pop_there (jbf X.prog X.w) a (jgr ry) more hm hp)
  ⟨vs,w',dd,by rw[<-rel.length];exact z,hw,λh' dd' hs=>h w' _ ?_ rw'⟩
 have he:∃q,h'.get? a=some q:=let ⟨q,_,_,hq,_⟩:=dd';⟨q,hq⟩
 exact jjt I (by rw[e];exact True.intro) hs he (jn8 (Nat.le_trans (jrr kvs k) z) hd (rel.drop k) dd')
theorem d_len{Q:Value->Shared->Prop}(I:Inv X pins σ H s)(e:Rd H a (.dK kvs))(h:∀t s',Inv X pins σ H s'->Q (.int kvs.length t) s'):wpAny (model X.prog X.w) A (call (.builtin "len") [.ref a]) Q E s:=by
 obtain⟨z,hd,vs,rel,dd⟩:=jlw I.hok e
 refine call_len_dict hd dd (by rw[<-rel.length];rw[sizeLine_eq] at z;omega) ?_
 rw[<-rel.length]
 exact h _ _ (I.tok _)
end
theorem jmn{X:Cx}{pins:List (Addr×Obj)}{σ:St}{H:Hp}{s:Shared}{a:Addr}{y:V}{o:Option V}(I:Inv X pins σ H s)(g:DGet H a y o):s.TypeIs (.ref a) "dict":=by
 rcases g with⟨kvs,k,e,_,_⟩ | ⟨kvs,k,b,e,_,_,_⟩
 ·obtain⟨_,_,vs,_,dd⟩:=jlw I.hok e
  exact dd.typeIs
 ·obtain⟨_,_,xs,_,dd⟩:=jnk I.hok e
  exact dd.typeIs
def sDPut(td ty tv:TE):TS:=λD σ H=>tv σ H λv H1=>td σ H1 λx H2=>ty σ H2 λy H3=>∃a H4,x= .ref a /\ DPut H3 a y v H4 /\ D.nx σ H4
section
variable {X : Cx} {o i e value : Expr} {pos pos' tpos : Pos} {td ty tv : TE}
theorem jjg(hu:X.A.units+1<cLine)(ho:PE X o td)(hi:PE X i ty)(hv:PE X value tv)(hs:swapsWith value (some (.Subscript o i pos')) pos.line X.env=pure false):
  PS X (.Assign [.Subscript o i pos'] value pos) (sDPut td ty tv):=by
 intro pins s σ H D I h
 refine wpAny_Assign_Subscript (thn (hv pins s σ H _ I h) λr s1 ⟨v,H1,I1,rv,q1⟩=>thn (ho pins s1 σ H1 _ I1 q1) λu s2 ⟨x,H2,I2,rx,q2⟩=>thn (hi pins s2 σ H2 _ I2 q2) λiv s3 ⟨y,H3,I3,ry,a,H4,ex,g,q3⟩=> ?_) hs
 subst ex
 obtain rfl:u=Value.ref a:=rx
 exact jqw hu I3 g ry rv λs4 I4=>⟨σ,H4,I4,q3⟩
end
theorem jtc{P:Program}{w:World}{H:Hp}(h:Heap)(hb:sysModules<h.objs.size):jby P w H (h.push {cls:= .type "dict",data:= .dict #[]}) h.objs.size (.dK []):=
 ⟨Nat.zero_le _,beq_eq_false_iff_ne.mpr (Ne.symm (Nat.ne_of_lt hb)),[],.nil,Heap.DictOf.new h⟩
def jtu:TE:=λ_ H Q=>∀p,H p=none->Q (.ref p) (upd H p (.dK []))
section
variable {X : Cx} {pos : Pos}
theorem jfu:PE X (.Dict [] [] pos) jtu:=λpins s σ H Q I h=>
 wpAny_Dict_empty ⟨.ref s.heap.objs.size,_,I.laid (a:=s.heap.objs.size) (o:= .dK []) (t':=s.toks) (λ_ _ q=>Heap.get?_push_of_some _ q) (Nat.le_refl _) (jtc s.heap I.big),rfl,h _ (I.hok.fresh (Nat.le_refl _))⟩
end
def jid(kvs more:List (Key×V)):List (Key×V):=more.foldl (λacc kv=>putK acc kv.1 kv.2) kvs
theorem KV.merge:∀{more:List (Key×V)} {rs:List (Key×Value)} {kvs:List (Key×V)} {vs:List (Key×Value)},KV more rs->KV kvs vs->KV (jid kvs more) (merged vs rs):=by
 intro more rs kvs vs r
 unfold KV at r
 induction r generalizing kvs vs with
 | nil=>intro q;exact q
 | @cons p q ps qs h t ih=>
  intro r0
  have e:KV (putK kvs p.1 p.2) (stored vs q.1 q.2):=by
   have:=r0.put p.1 h.2
   rw[<-h.1];exact this
  exact ih e
theorem jg0:∀(more kvs:List (Key×V)),(jid kvs more).length<=kvs.length+more.length
 | [],kvs=>by show kvs.length<=kvs.length+0;omega
 | p::r,kvs=>by
  have h1:=jg0 r (putK kvs p.1 p.2)
  have h2:=jfh kvs p.1 p.2
  show(jid (putK kvs p.1 p.2) r).length<=_
  rw[List.length_cons];omega
structure M1 (X:Cx) (o:Expr) (m:Str) (apos:Pos) (e:Expr) (cpos:Pos):Prop where
 base:attributeBase o m X.env (eval o X.env)=eval o X.env
 few:((backTo cpos (starEach [e] X.env)).all (λx=> !x.1)&&(backToKw cpos (keywordEach [] X.env)).all (λx=>x.1.isSome)
  &&decide (([e]:List Expr).length+([]:List Keyword).length+(if([]:List Keyword).isEmpty then 0 else 1)<30))=true
 line:(apos.endLine==cpos.line)=true
 trees:backTo cpos (starEach [e] X.env)=[(false,eval e X.env)]
def IsD(H:Hp)(a:Addr):Prop:=(∃kvs,Rd H a (.dK kvs)) \/ ∃kvs,Rd H a (.dT kvs)
theorem isD_at{X:Cx}{pins:List (Addr×Obj)}{σ:St}{H:Hp}{s:Shared}{a:Addr}(I:Inv X pins σ H s)(d:IsD H a):
  s.TypeIs (.ref a) "dict" /\ (∀b,Value.ref a= .ref b->∃ob,s.heap.get? b=some ob /\ ob.dict=none) /\ (a==sysModules)=false:=by
 rcases d with⟨kvs,e⟩ | ⟨kvs,e⟩
 ·obtain⟨_,hd,vs,_,dd⟩:=jlw I.hok e
  refine⟨dd.typeIs,λb q=> ?_,hd⟩
  cases q
  obtain⟨ob,_,_,h1,h2,_⟩:=dd
  exact⟨ob,h1,h2.2.1⟩
 ·obtain⟨_,hd,xs,_,dd⟩:=jnk I.hok e
  refine⟨dd.typeIs,λb q=> ?_,hd⟩
  cases q
  obtain⟨ob,_,_,h1,h2,_⟩:=dd
  exact⟨ob,h1,h2.2.1⟩
def ju2(td ty:TE):TE:=λσ H Q=>td σ H λx H1=>∃a,x= .ref a /\ IsD H1 a /\ ty σ H1 λy H2=>∃kvs k v,H2 a=some (.dK kvs) /\ y=kV k /\ valV kvs k=some v /\ Q v (upd H2 a (.dK (jjs kvs k)))
section
variable {X : Cx} {o e f : Expr} {apos cpos : Pos} {td ty tx : TE}
theorem jmv(ho:PE X o td)(he:PE X e ty)(m:M1 X o "pop" apos e cpos):PE X (.Call (.Attribute o "pop" apos) [e] [] cpos) (ju2 td ty):=by
 intro pins s σ H Q I h
 refine wpAny_Call_method m.base m.few m.line PySem.F.plainAttrs_dict PySem.F.slot_dict_pop PySem.F.type_dict_pop (thn (ho pins s σ H _ I h) λu s1 ⟨x,H1,I1,rx,a,ex,d,q1⟩=> ?_)
 subst ex
 obtain rfl:u=Value.ref a:=rx
 obtain⟨t1,t2,_⟩:=isD_at I1 d
 refine⟨t1,t2,?_⟩
 rw[m.trees]
 refine Calls.callWith_builtin rfl (Calls.evalArgs_plain (Calls.spliced_cons (thn (he pins s1 σ H1 _ I1 q1) λiv s2 ⟨y,H2,I2,ry,kvs,k,v,ea,ey,l,q2⟩=>Calls.spliced_nil ?_)))
 subst ey
 exact d_pop I2 ea ry l (.inl rfl) λw' s3 I3 rw'=>⟨v,_,I3,rw',q2⟩
end
end L2
namespace Att
open PySem PySem.W PySem.Calls PyProof.Rows
theorem ji1{P:Params}{h:Heap}:∀(ns:List Int) (vs:List Value),WellAll P h vs (ns.map WData.int)->IntsAre vs ns:=by
 intro ns
 induction ns with
 | nil=>
  intro vs w
  rw[List.map_nil] at w
  cases w
  exact .nil
 | cons n ns ih=>
  intro vs w
  rw[List.map_cons] at w
  cases w with
  | cons a b=>
   cases a
   exact .cons _ _ (ih _ b)
theorem joi{l:OpenLaw}{n:Nat}(hn:l.most=some n){P:Params}{h:Heap}{args:List WData}{vals:List Value}
    (hpre:l.row.toRowW.claim.pre args=true) (hwl:WellAll P h vals args):
    ∃a vs ns,vals=[Value.ref a] /\ args=[WData.list (ns.map WData.int)] /\ h.get? a=some {cls:= .type "list",data:= .seq vs.toArray} /\ IntsAre vs ns /\ ns.length<=n:=by
  have hsh:WShape.hasAll [] args [.list .int]=true:=(pre_splitW hpre).1
  have hc:l.pre.holds [] {args:=args}=true:=(pre_splitW hpre).2
  obtain⟨d,r,rfl,h1,h2⟩:=hasAllW_cons hsh
  obtain rfl:=hasAllW_nil h2
  obtain⟨xs,rfl,h3⟩:=hasW_list h1
  obtain⟨ns,rfl⟩:=items_int h3
  have hlen:ns.length<=n:=by
    unfold OpenLaw.pre at hc
    have h4:(WTm.not (.lt (.lit (.int (n:Int))) (.len (.arg 0)))).holds [] {args:=[.list (ns.map .int)]}=true:=by
      have h4:=(holds_andW hc).1
      rw[hn] at h4
      exact h4
    have h5:=condW_of h4 (w_not (w_lt w_lit (w_len_list (w_arg rfl))))
    rw[List.length_map] at h5
    refine Nat.le_of_not_lt λq=> ?_
    have q':(n:Int)<((ns.length:Nat):Int):=by omega
    first
      | (rw[decide_eq_true q'] at h5;exact absurd h5 (by decide))
      | (simp at h5;omega)
  cases hwl with
  | cons w1 w2=>
    cases w2
    cases w1 with
    | list ho hall=>exact⟨_,_,ns,rfl,rfl,ho,ji1 ns _ hall,hlen⟩
theorem jqm(l:OpenLaw)(args:List WData):l.row.toRowW.claim.post args (.bool true) args=true:=
 postW_of (r:=l.row.toRowW) (X:=(true==true))
  (show WShape.has [] (.bool true) .bool=true by first | rfl | decide | simp[WShape.has,WShape.arms,WShape.armsAll])
  (show(WTm.eq .res (.lit (.bool true))).value [] {args:=args,res:=some (.bool true),after:=args}=some (.bool (true==true)) from w_eq_bool (w_res rfl) w_lit) rfl
theorem attach_call{l:OpenLaw}{n:Nat}{q:Program}{loose:List Str}{XP:(Str->Option Value)->Heap->Prop}{YP:World->Heap->Prop}{d:DefRec}
  (hn:l.most=some n) (hdf:d.params.defaults=[])
  (call:∀(w:World) (s₀ s₁:Shared) (mg mb:Str->Option Value) (fa:Addr) (o:Obj) (pm cd doc:Value) (a:Addr) (vs:List Value) (ns:List Int),
   Ground q loose [] XP w s₀ mg mb s₁.heap->YP w s₁.heap->
   s₁.heap.get? fa=some o->o.data= .func (docDef d.name d.params d.body d.scope pm cd doc)->s₁.heap.CodeRec cd d.name->mg d.name=some (.ref fa)->
   s₁.heap.get? a=some {cls:= .type "list",data:= .seq vs.toArray}->IntsAre vs ns->ns.length<=n->s₁.gens=#[]->
   codeAny (model l.prog w) callerA (.call (.ref fa) ⟨[.ref a],[]⟩) (λr s'=>r= .ok (.ret (.bool true)) /\ OldK s₁.heap s'.heap /\ s'.os=s₁.os /\ AllBare s'.gens) s₁):
  WalkO q loose XP YP l.row.toRowW d [] (λf vs=>PySem.call f vs):=by
 intro w s₀ s₁ mg mb G Y fa o pm cd doc dV kV ho hd hcd hD hmg hg args vals as hpre hlay hrd hwl hlo
 obtain rfl:dV= .none:=Dflts.none hD hdf
 obtain rfl:kV= .none:=Dflts.noKw hD
 obtain⟨a,vs,ns,rfl,rfl,hobj,hints,hlen⟩:=joi hn hpre hwl
 refine enter_call (codeAny_mono (call w s₀ s₁ mg mb fa o pm cd doc a vs ns G Y ho (fd_plain hd) hcd hmg hobj hints hlen hg) λr s' hq=> ?_)
 obtain⟨rfl,h2,h3,h4⟩:=hq
 exact⟨.inl ⟨.bool true,.bool true,[],rfl,λ_=>rfl,.bool true,jqm l _,λ_=>⟨List.Pairwise.nil,λ_ hm=>(nomatch hm)⟩⟩,h2,h3,h4⟩
end Att
namespace L2
open PySem PySem.Spec PyProof.Rows
theorem jlu:∀{vs:List Value} {ns:List Int},IntsAre vs ns->Vals (ns.map V.int) vs
 | _,_,.nil=> .nil
 | _,_,.cons n t h=> .cons ⟨t,rfl⟩ (jlu h)
def Only(H:Hp):Prop:=∀b,H b=none \/ ∃o xs,H b=some (.frz o (.lst xs))
theorem jsg{P:Program}{w:World}{K:W.Frag}{mg mb:Str->Option Value}{CX:CXT}{k:Nat}{fa a:Addr}{fd:FuncData}{x:Str}{sp:Sp}{s₁:Shared}{vs:List Value}{ns:List Int}
  (KX:K.In s₁.heap) (hns:s₁.heap.Ns mainGlobals mg) (hb:s₁.heap.Ns builtinsNs mb) (hbb:∀x:Str,x≠"__name__"->mb x=bootBuiltins x) (hlim:s₁.heap.NoLimit) (hg:s₁.gens=#[])
  (ha:s₁.heap.get? a=some {cls:= .type "list",data:= .seq vs.toArray}) (hi:IntsAre vs ns) (hl:ns.length<=sizeLine) (hr:Room k callerA)
  (F:∀base:Heap,K.In base->base.Ns mainGlobals mg->FnOk P w K mg base CX k fa fd [x] sp) (hbind:∀(s:Shared) (u:Value),BindsTo s fd ⟨[u],[]⟩ [(x,u)])
  (hsp:∀H:Hp,Only H->SqL K H a (ns.map V.int)->sp [.ref a] H (λv _=>v= .bl true) λ_ _ _=>False)
  (hCX:∀H e s',CX [] H s₁ (λ_ _ _=>False) e s'->False):
  codeAny (model P w) callerA (.call (.ref fa) ⟨[.ref a],[]⟩) (λr s'=>r= .ok (.ret (.bool true)) /\ OldK s₁.heap s'.heap /\ s'.os=s₁.os /\ AllBare s'.gens) s₁:=by
 have rv:=jlu hi
 have lenV:=hi.length
 have core:∀H:Hp,Only H->SqL K H a (ns.map V.int)->HOk P w H s₁.heap->(∀b,H b≠none->b=a)->(H a≠none->K.lookup a=none)->
   codeAny (model P w) callerA (.call (.ref fa) ⟨[.ref a],[]⟩) (λr s'=>r= .ok (.ret (.bool true)) /\ OldK s₁.heap s'.heap /\ s'.os=s₁.os /\ AllBare s'.gens) s₁:=by
  intro H hO hS hok hA hK
  have base_of:∀{b:Addr} {o:Obj},s₁.heap.get? b=some o->H b=none->(hidT s₁.heap H).get? b=some o:=λe n=>jt7 e n
  have noA:∀{b:Addr} {o:Obj} {es:Array DictEntry} {ep:Nat},s₁.heap.get? b=some o->o.data= .dict es ep->H b=none:=fun{b o es ep} e d=>by
   cases q:H b with
   | none=>rfl
   | some u=>
    have e':b=a:=hA b (by rw[q];simp)
    subst e'
    rw[ha] at e;cases e
    have d':Data.seq vs.toArray _=Data.dict es ep:=d
    cases d'
  have nsK:∀{b:Addr} {m:Str->Option Value},s₁.heap.Ns b m->(hidT s₁.heap H).Ns b m:=fun{b m} ⟨o,es,ep,e,d,r⟩=>⟨o,es,ep,base_of e (noA e d),d,r⟩
  have hKb:K.In (hidT s₁.heap H):=λb o e=>base_of (KX b o e) (by
   cases q:H b with
   | none=>rfl
   | some u=>
    have e':b=a:=hA b (by rw[q];simp)
    subst e'
    rw[hK (by rw[q];simp)] at e;cases e)
  have hM:Mod K mg (hidT s₁.heap H):=⟨hKb,nsK hns,⟨mb,nsK hb,hbb⟩,let ⟨mc,h1,h2⟩:=hlim;⟨mc,nsK h1,h2⟩⟩
  have e0:Env0 P w K mg (hidT s₁.heap H) callerA [] s₁ H:=⟨rfl,hM,λb o e=>jwc e,Nat.le_of_eq (jrj _ _),trivial,λb hb=>absurd (show b∈([]:List Addr) from hb) (by simp),hok,.of_eq hg⟩
  refine codeAny_mono ((F _ hKb (nsK hns)).run callerA [] s₁ H ⟨[.ref a],[]⟩ [.ref a] [.ref a] _ _ hr e0 (hbind s₁ (.ref a)) (.cons rfl .nil) (hsp H hO hS)) λr s' h=> ?_
  cases r with
  | error e=>exact(hCX H e s' h).elim
  | ok fl=>
   cases fl with
   | next=>exact False.elim h
   | brk=>exact False.elim h
   | cont=>exact False.elim h
   | ret u=>
    obtain⟨v,H',os,bare,un,hok',r',q⟩:=h
    have q':v= .bl true:=q
    subst q'
    obtain rfl:u=Value.bool true:=r'
    refine⟨rfl,OldK.of_keep λb o e=> ?_,os,bare⟩
    cases q:H b with
    | none=>exact un.keep b o e q (by intro z;exact absurd (show b∈([]:List Addr) from z) (by simp)) (by simp)
    | some u=>
     rcases hO b with z | ⟨ob,xs,z⟩
     ·rw[q] at z;cases z
     ·have z2:=un.frzs b ob _ z
      obtain⟨e1,_⟩:=hok b _ z
      obtain⟨e2,_⟩:=hok' b _ z2
      rw[e] at e1;cases e1
      exact e2
 cases hk:K.lookup a with
 | some o=>
  have e:=KX a o hk
  rw[ha] at e
  cases e
  refine core (λ_=>none) (λ_=> .inl rfl) (.inr ⟨_,vs.toArray,_,hk,rfl,rfl,rfl,by rw[List.size_toArray,lenV];exact hl,by simpa using rv⟩) (λb u z=>by have z':(none:Option HO)=some u:=z;cases z') (λb z=>absurd rfl z) λz=>absurd rfl z
 | none=>
  refine core (λb=>if b=a then some (.frz {cls:= .type "list",data:= .seq vs.toArray} (.lst (ns.map V.int))) else none) (λb=> ?_) (.inl (.inr ⟨{cls:= .type "list",data:= .seq vs.toArray},if_pos rfl⟩)) (λb u z=> ?_) (λb z=> ?_) λ_=>hk
  ·by_cases hb:b=a
   ·exact .inr ⟨_,_,if_pos hb⟩
   ·exact .inl (if_neg hb)
  ·by_cases hb:b=a
   ·have z':=(if_pos hb).symm.trans z
    cases z'
    subst hb
    exact⟨ha,by rw[List.length_map];exact hl,vs,_,rv,ha⟩
   ·have z':=(if_neg hb).symm.trans z
    cases z'
  ·by_cases hb:b=a
   ·exact hb
   ·exact absurd (if_neg hb) z
abbrev KOf{K:W.Frag}{h:Heap}(_:K.In h):W.Frag:=K
theorem jvd{l:W.OpenLaw}{n k:Nat}{q:Program}{loose:List Str}{XP:(Str->Option Value)->Heap->Prop}{YP:World->Heap->Prop}{d:DefRec}{K:Params->W.Frag}{CX:World->CXT}{sp:World->Sp}{x:Str}
  (hn:l.most=some n) (hn2:n<=sizeLine) (hdf:d.params.defaults=[]) (hr:Room k callerA)
  (hY:∀(w:World) (h:Heap),YP w h->(K w.params).In h)
  (F:∀(w:World) (mg:Str->Option Value) (fa:Addr) (h:Heap),(K w.params).In h->h.Ns mainGlobals mg->mg d.name=some (.ref fa)->
   ∃fd:FuncData,(∀(s:Shared) (u:Value),BindsTo s fd ⟨[u],[]⟩ [(x,u)]) /\
    ∀base:Heap,(K w.params).In base->base.Ns mainGlobals mg->FnOk l.prog w (K w.params) mg base (CX w) k fa fd [x] (sp w))
  (hsp:∀(w:World) (H:Hp) (a:Addr) (ns:List Int),ns.length<=n->Only H->SqL (K w.params) H a (ns.map V.int)->sp w [.ref a] H (λv _=>v= .bl true) λ_ _ _=>False)
  (hCX:∀(w:World) (H:Hp) (s:Shared) (e:Value) (s':Shared),CX w [] H s (λ_ _ _=>False) e s'->False):
  W.WalkO q loose XP YP l.row.toRowW d [] (λf vs=>PySem.call f vs):=by
 refine Att.attach_call hn hdf λw s₀ s₁ mg mb fa o pm cd doc a vs ns G Y ho hd hcd hmg hobj hints hlen hg=> ?_
 have KX:=hY w _ Y
 obtain⟨fd,hb,hF⟩:=F w mg fa _ KX G.T.g hmg
 exact jsg KX G.T.g G.T.b G.T.builtins G.T.nolimit hg hobj hints (Nat.le_trans hlen hn2) hr hF hb (λH hO hS=>hsp w H a ns hlen hO hS) λH e s'=>hCX w H s₁ e s'
def jbc(s:Stmt)(j:Nat):Stmt:=match s with
 | .ClassDef _ _ _ body _ _ _ _ _ _ _=>body.getD j (.Pass ⟨0,0,0,0⟩)
 | _=> .Pass ⟨0,0,0,0⟩
def jeb(s:Stmt):Arguments:=match s with
 | .FunctionDef _ a _ _ _ _ _ _ _ _=>a
 | _=>{posonlyargs:=[],args:=[],vararg:=none,kwonlyargs:=[],kw_defaults:=[],kwarg:=none,defaults:=[]}
def jcy(s:Stmt):List Stmt:=match s with
 | .FunctionDef _ _ b _ _ _ _ _ _ _=>b
 | _=>[]
def jac(s:Stmt):Scope:=match s with
 | .FunctionDef _ _ _ _ _ _ sc _ _ _=>sc
 | _=>{kind:= .function,names:=[],isGenerator:=false,isCoroutine:=false}
abbrev E0:XK:=λ_ _ _=>False
structure Fun (K:W.Frag) (x qual:Str) (st:Stmt) (f:Addr) (fd:FuncData):Prop where
 ex:∃(oc:Value) (od:Option Addr) (kV doc pm:Value) (an:Option Addr) (cdv ct:Value) (osl:Array (Option Value)),
  fd=W.fnOf x qual (jeb st) (jcy st) (jac st) .none kV doc pm an cdv ct /\ K.lookup f=some ⟨oc,od,.func fd,osl⟩ /\ W.codeIn K cdv qual=true
 kp:W.keepIn K (.ref f)=true
section
variable {P : Program} {w : World} {K : W.Frag} {mg : Str -> Option Value} {base : Heap}
theorem Fun.binds{x qual:Str}{st:Stmt}{f:Addr}{fd:FuncData}{ps:List Str}(F:Fun K x qual st f fd)
  (h:∀(kV doc pm:Value) (an:Option Addr) (cdv ct:Value) (us:List Value),us.length=ps.length->bindArgs (W.fnOf x qual (jeb st) (jcy st) (jac st) .none kV doc pm an cdv ct) ⟨us,[]⟩=pure (ps.zip us)):jfp K fd ps []:=by
 obtain⟨oc,od,kV,doc,pm,an,cdv,ct,osl,rfl,lk,hcd⟩:=F.ex
 exact .all (h kV doc pm an cdv ct)
theorem jts{x qual:Str}{st:Stmt}{f:Addr}{oc:Value}{od an:Option Addr}{osl:Array (Option Value)}{kV doc pm cdv ct:Value}(l:K.lookup f=some ⟨oc,od,.func (W.fnOf x qual (jeb st) (jcy st) (jac st) .none kV doc pm an cdv ct),osl⟩)
  (c:W.codeIn K cdv qual=true) (k:W.keepIn K (.ref f)=true):Fun K x qual st f (W.fnOf x qual (jeb st) (jcy st) (jac st) .none kV doc pm an cdv ct):=⟨⟨oc,od,kV,doc,pm,an,cdv,ct,osl,rfl,l,c⟩,k⟩
end
theorem hu_of{A:Around}{k:Nat}(hr:Room k A):A.units+1<cLine:=Nat.lt_of_le_of_lt (Nat.add_le_add_left (by decide:1<=64) _) hr.units
section
variable {X : Cx}
theorem pv(i:Nat){x:Str}{pos:Pos}(hN:X.N[i]?=some x:=by rfl)(hv:Vis X.env.scope x:=by first | exact Or.inl rfl | exact Or.inr (Or.inl rfl) | exact Or.inr (Or.inr rfl))(hd:(x==("__debug__":Str))=false:=by decide)
  (hcd:(x==("__classdict__":Str))=false:=by decide):PE X (.Name x pos) (tVar i):=pe_var hN hv hd hcd
theorem jp2:jdx X (.builtin "len") (λxs H Q=>∃a kvs,xs=[V.ref a] /\ H a=some (.dK kvs) /\ Q (.int kvs.length) H):=by
 intro pins s σ H xs us Q I r h
 obtain⟨a,kvs,rfl,ha,q⟩:=h
 obtain⟨u,rfl,ru⟩:=jl3 r
 cases ru
 exact d_len I (.inl ha) λt s' I'=>⟨.int kvs.length,H,I',⟨t,rfl⟩,q⟩
end
def Same(H H':Hp):Prop:=∀b o,H b=some o->H' b=some o
theorem Same.refl(H:Hp):Same H H:=λ_ _ h=>h
theorem Same.trans{H H1 H2:Hp}(a:Same H H1)(b:Same H1 H2):Same H H2:=λc o h=>b c o (a c o h)
theorem jku{prog:Program}{w:World}{A:Around}{R:Result->Shared->Prop}{s:Shared}{elt target iter:Expr}{ifs:List Expr}{scope:Scope}{pos:Pos}{it acc:Value}{env:Env}(I:Nat->Shared->Prop)
  (turn:∀n s,I n s->wpAny (model prog w) A (pyNext it) (λr s₁=>match r with
   | none=>R (.ok .next) s₁
   | some v=>wpAny (model prog w) A (letOwnedTupleGo target it v) (λ_ s₁'=>wpAny (model prog w) A (assign target env v) (λ_ s₂=>
     wpAny (model prog w) A (forIn ifs true λc r=>if r=true then do let ok<-isTrue c env (eval c env);pure (ForInStep.yield ok) else pure (ForInStep.yield r)) (λok s₃=>
      if ok=true then wpAny (model prog w) A (eval elt env) (λx s₄=>
       wpAny (model prog w) A (call (.builtin "list.append") [acc,x]) (λ_ s₅=>∃m,m<n /\ I m s₅) (λ_ _=>False) s₄) (λ_ _=>False) s₃
      else ∃m,m<n /\ I m s₃) (λ_ _=>False) s₂) (λ_ _=>False) s₁') (λ_ _=>False) s₁) (λ_ _=>False) s)
  (n:Nat) (h:I n s):
  codeAny (model prog w) A (.compLoop (.ListComp elt [⟨target,iter,ifs,0⟩] scope pos) 0 it acc env) R s:=by
 refine codeAny_loop rfl I (λn s hI=> ?_) n h
 show wpAny _ A ((compTurn (.ListComp elt [⟨target,iter,ifs,0⟩] scope pos) 0 it acc env).onRaise (λx=>do noteFrame x env;theTreesLotGoes x)) _ _ s
 refine wpAny_noted ?_
 rw[compTurn_list]
 refine wpAny_bind (wpAny_standAt (wpAny_bind (wpAny_mono (turn n s hI) (λr s₁ h₁=> ?_) λ_ _ f=>f.elim)))
 cases r with
 | none=>exact wpAny_pure h₁
 | some v=>
  refine wpAny_bind (wpAny_mono h₁ (λ_ s₁' h₁'=>wpAny_bind (wpAny_mono h₁' (λ_ s₂ h₂=>wpAny_bind (wpAny_mono h₂ (λok s₃ h₃=> ?_) λ_ _ f=>f.elim)) λ_ _ f=>f.elim)) λ_ _ f=>f.elim)
  cases ok with
  | false=>exact wpAny_pure ⟨rfl,h₃⟩
  | true=>
   exact wpAny_bind (wpAny_bind (wpAny_mono h₃ (λx s₄ h₄=>wpAny_bind (wpAny_mono h₄ (λ_ s₅ h₅=>wpAny_pure (wpAny_pure ⟨rfl,h₅⟩)) λ_ _ f=>f.elim)) λ_ _ f=>f.elim))
def PF(X:Cx)(ifs:List Expr)(t:TT):Prop:=
 ∀(pins:List (Addr×Obj)) (s:Shared) (σ:St) (H:Hp) (Q:Bool->Hp->Prop),Inv X pins σ H s->t σ H Q->
  wpAny (model X.prog X.w) X.A (forIn ifs true λc r=>if r=true then do let ok<-isTrue c X.env (eval c X.env);pure (ForInStep.yield ok) else pure (ForInStep.yield r)) (TP X pins σ Q) X.xe s
def tYes:TT:=λ_ H Q=>Q true H
theorem jnb{X:Cx}:PF X [] tYes:=λ_ s _ H _ I q=>wpAny_tests_nil ⟨H,I,q⟩
theorem jn6{X:Cx}{c:Expr}{t:TT}(h:PT X c t):PF X [c] t:=λpins s σ H Q I q=>wpAny_tests_one (h pins s σ H Q I q)
def cxC(X:Cx)(N':List Str)(scope:Scope)(cl:List (Str×Addr))(C:Addr)(s₂:Shared)(H₂:Hp)(fp:List Addr):Cx:=
  {prog:=X.prog,w:=X.w,K:=X.K,mg:=X.mg,base:=X.base,A:=X.A,N:=N',s₀:=s₂,H₀:=H₂,env:=compEnvC scope cl C X.env,outer:=X.stack,stack:=X.stack,ex:=fp,
    fn:=λ_=>false,calm:=X.calm,pn:=[],xe:=λ_ _=>False}
inductive Caps (X:Cx) (scope:Scope) (cl:List (Str×Addr)):List Str->List Nat->Prop
 | nil:Caps X scope cl [] []
 | cons {n:Str} {j:Nat} {ns:List Str} {js:List Nat} {c:Addr}:X.N[j]?=some n->(X.env.kindOf n=some .cell \/ X.env.kindOf n=some .free)->((relabel scope X.env).names.lookup n=some .cell \/ (relabel scope X.env).names.lookup n=some .free)->
   X.env.cells.lookup n=some c->cl.lookup n=some c->Caps X scope cl ns js->Caps X scope cl (n::ns) (j::js)
theorem Caps.len{X:Cx}{scope:Scope}{cl:List (Str×Addr)}:∀{ns:List Str} {js:List Nat},Caps X scope cl ns js->ns.length=js.length
 | _,_,.nil=>rfl
 | _,_,.cons _ _ _ _ _ r=>by simp[r.len]
theorem Caps.get{X:Cx}{scope:Scope}{cl:List (Str×Addr)}:∀{ns:List Str} {js:List Nat},Caps X scope cl ns js->∀(i:Nat) (n:Str),ns[i]?=some n->
  ∃j c,js[i]?=some j /\ X.N[j]?=some n /\ (X.env.kindOf n=some .cell \/ X.env.kindOf n=some .free) /\ ((relabel scope X.env).names.lookup n=some .cell \/ (relabel scope X.env).names.lookup n=some .free) /\ X.env.cells.lookup n=some c /\ cl.lookup n=some c
 | _,_,.nil,i,n,h=>by simp at h
 | _,_,.cons a b c d e r,0,n,h=>by
  simp at h;subst h;exact⟨_,_,rfl,a,b,c,d,e⟩
 | _,_,.cons a b c d e r,i+1,n,h=>by
  obtain⟨j,c',h1,h2⟩:=r.get i n (by simpa using h)
  exact⟨j,c',by simpa using h1,h2⟩
def jen(idx:List Nat)(σ:St):St:=idx.map λj=>(σ[j]?).getD none
def jv7(nt:Nat)(idx:List Nat)(wi:TI)(g:TG)(tc:TT)(te:TE):TE:=λσ H Q=>wi σ H λJ H1=>∀l,H1 l=none->
 ∃W:Nat->Nat->List V->Hp->Prop,(∃m,W 0 m [] (upd H1 l (.lst []))) /\ ∀i m ys H2,W i m ys H2->H2 l=some (.lst ys) /\ ys.length<sizeLine /\
  ((J.stop i H2 /\ Q (.ref l) H2) \/ (J.go i H2 /\ ∀x H3,J.yld i H2 x H3->g x (List.replicate nt none++jen idx σ) H3 λσ4 H4=>tc σ4 H4 λc H5=>
   if c=true then te σ4 H5 λy H6=>H6 l=some (.lst ys) /\ ∃m',m'<m /\ W (i+1) m' (ys++[y]) (upd H6 l (.lst (ys++[y]))) else ∃m',m'<m /\ W (i+1) m' ys H5))
theorem cl_sub{X:Cx}{cl:List (Str×Addr)}(hsub:∀p∈cl,X.env.cells.lookup p.1=some p.2):∀x c,cl.lookup x=some c->X.env.cells.lookup x=some c:=by
 intro x c h
 induction cl with
 | nil=>simp at h
 | cons p r ih=>
  obtain⟨y,d⟩:=p
  rw[List.lookup_cons] at h
  cases e:x==y with
  | true=>
   rw[e] at h
   simp at h;subst h
   have:=hsub (y,d) (by simp)
   rw[eq_of_beq e];exact this
  | false=>
   rw[e] at h
   exact ih (λp hp=>hsub p (by simp[hp])) (by simpa using h)
theorem Un.sameBut{fs ex:List Addr}{H₂ H₅:Hp}{h₂ h₅ h':Heap}{C:Addr}(u:Un fs ex H₂ H₅ h₂ h₅)(hC:h₂.objs.size<=C)(sb:Heap.SameBut C h₅ h'):Un fs ex H₂ H₅ h₂ h':=by
 have lt:∀{b o},h₂.get? b=some o->b≠C:=fun{b o} e q=>by
  have:=Heap.lt_size e
  rw[q] at this
  exact absurd this (Nat.not_lt.mpr hC)
 exact⟨λb o e n f x=>sb.extBut b _ (lt e) (u.keep b o e n f x),λb o e n f x=>by
   obtain⟨sl,q⟩:=u.slot b o e n f x
   exact⟨sl,sb.extBut b _ (lt e) q⟩,u.free,λb o e x=>by
   obtain⟨o',q⟩:=u.there b o e x
   exact⟨o',sb.extBut b _ (lt e) q⟩,u.tups,u.frzs,u.tbls⟩
theorem HOk.sameBut{P:Program}{w:World}{H:Hp}{h h':Heap}{C:Addr}(x:HOk P w H h)(hC:H C=none)(sb:Heap.SameBut C h h'):HOk P w H h':=λa o e=>
 (x a o e).stay (λb u hb q=>sb.extBut b u (by
  rintro rfl
  rcases hb with rfl | hb
  ·rw[hC] at e;cases e
  ·rw[hC] at hb;cases hb) q) (λ_ q=>q) λ_ _ q=>q
theorem Un.but{fs:List Addr}{H:Hp}{h h':Heap}{C:Addr}(sb:Heap.SameBut C h h'):Un fs [C] H H h h':=
 ⟨λb o e _ _ x=>sb.extBut b o (by simpa using x) e,λb o e _ _ x=>⟨o.slots,sb.extBut b o (by simpa using x) e⟩,λ_ _ _ n _=>n,λb o e x=>⟨o,sb.extBut b o (by simpa using x) e⟩,λ_ _ q=>q,λ_ _ _ q=>q,
  λ_ ps q=>⟨#[],by simpa using q⟩⟩
def GOk(nt:Nat)(g:TG):Prop:=∀x σ H Q,g x σ H Q->g x σ H λσ' H'=>Q σ' H' /\ σ'.length=σ.length /\ ∀i,nt<=i->σ'[i]?=σ[i]?
theorem jec{nt i:Nat}(h:i<nt):GOk nt (ja8 i):=λx σ H Q q=>⟨q,by simp,λj hj=>by rw[List.getElem?_set_ne (by omega)]⟩
section
variable {X : Cx} {elt target iter : Expr} {ifs : List Expr} {scope : Scope} {pos : Pos} {cl : List (Str × Addr)} {nt : Nat} {tgs cap : List Str} {idx : List Nat} {wi : TI} {g : TG} {tc : TT} {te : TE}
structure CompOk (X:Cx) (scope:Scope) (cl:List (Str×Addr)) (tgs cap:List Str) (idx:List Nat):Prop where
 clos:closureFor scope X.env=pure cl
 kind:scope.kind= .function
 cell:∀y∈scope.names,y.2≠ .cell
 names:∀y∈scope.names,y.2= .local->scope.names.lookup y.1=some .local
 sub:∀p∈cl,X.env.cells.lookup p.1=some p.2
 has:((relabel scope X.env).names.all λy=> !(y.2== .cell||y.2== .free)||(cl.lookup y.1).isSome)=true
 caps:Caps X scope cl cap idx
theorem has_of{names:List (Str×NameKind)}{cl:List (Str×Addr)}(h:(names.all λy=> !(y.2== .cell||y.2== .free)||(cl.lookup y.1).isSome)=true):
  ∀x,(names.lookup x=some .cell \/ names.lookup x=some .free)->∃c,cl.lookup x=some c:=by
 induction names with
 | nil=>intro x hx;simp at hx
 | cons p r ih=>
  obtain⟨y,k⟩:=p
  rw[List.all_cons,Bool.and_eq_true] at h
  intro x hx
  rw[List.lookup_cons] at hx
  cases e:x==y with
  | true=>
   rw[e] at hx
   have ey:=eq_of_beq e
   subst ey
   have h1:=h.1
   rcases hx with hx | hx<;>(simp at hx;subst hx;exact Option.isSome_iff_exists.mp (by simpa using h1))
  | false=>
   rw[e] at hx
   exact ih h.2 x (by simpa using hx)
theorem jo1{pins:List (Addr×Obj)}{s₂:Shared}{σ:St}{H₂:Hp}{fp:List Addr}{h₁:Heap}{tk:Nat}{C:Addr}(eC:C=s₂.heap.objs.size+1)(O:CompOk X scope cl tgs cap idx)(I:Inv X pins σ H₂ s₂)(hfp:∀b∈fp,FpOk X pins H₂ b)(hfo:∀b∈fp,b<s₂.heap.objs.size)
  (hns:h₁.Ns C (λx=>([]:List (Str×Value)).reverse.lookup x))
  (hsb:Heap.SameBut C ((s₂.heap.push {cls:= .type "list",dict:=none,data:= .seq ([]:List Value).toArray}).push {cls:= .type "dict",data:= .dict #[]}) h₁):
  Inv (cxC X (tgs++cap) scope cl C s₂ H₂ fp) [] (List.replicate tgs.length none++jen idx σ) (upd H₂ s₂.heap.objs.size (.lst [])) {s₂ with heap:=h₁,toks:=tk}:=by
 have ltC:∀{b:Addr},b<s₂.heap.objs.size->b≠C:=fun{b} lt=>by rw[eC];exact Nat.ne_of_lt (Nat.lt_succ_of_lt lt)
 have kp:∀b o,s₂.heap.get? b=some o->h₁.get? b=some o:=λb o e=>by
  have lt:=Heap.lt_size e
  exact hsb.extBut b o (ltC lt) (Heap.get?_push_of_some _ (Heap.get?_push_of_some _ e))
 have hD:h₁.get? s₂.heap.objs.size=some {cls:= .type "list",dict:=none,data:= .seq ([]:List Value).toArray}:=
  hsb.extBut _ _ (by rw[eC];exact Nat.ne_of_lt (Nat.lt_succ_self _)) (Heap.get?_push_of_some _ (Heap.get?_push_size _ rfl))
 have fresh:∀a,s₂.heap.objs.size<=a->H₂ a=none:=λa ha=>I.hok.fresh ha
 have stk:=I.stkSub
 have nf:∀b∈fp,b∉frs X.stack:=λb hb hm=>by
  rcases List.mem_cons.mp (stk b hm) with e | e
  ·exact(hfp b hb).2.1 e
  ·exact(hfp b hb).2.2.1 e
 have sub:=cl_sub O.sub
 have clt:∀x c,cl.lookup x=some c->c<s₂.heap.objs.size:=λx c e=>by
  obtain⟨v,o,e',_⟩:=I.cell x c (sub x c e)
  exact Heap.lt_size e'
 refine⟨⟨I.ok.mod,?_,I.ok.glob,I.ok.blt,(by show s₂.heap.objs.size<=C;rw[eC];exact Nat.le_succ _),?_,?_,?_,I.ok.hd,I.ok.frames,.inl rfl,?_,?_,?_,?_,nf,I.stack,I.stkFree⟩,rfl,I.bare,?_,?_,?_,?_,?_,?_,?_,?_⟩
 ·exact O.kind
 ·intro x y c h1 h2;exact I.ok.inj x y c (sub _ _ h1) (sub _ _ h2)
 ·exact has_of O.has
 ·intro x c h;cases h
 ·intro b hb
  have lt:=hfo b hb
  exact⟨ltC lt,λx c h=>(hfp b hb).2.2.2.2.1 x c (sub _ _ h)⟩
 ·exact I.bs
 ·exact Nat.le_trans I.ok.bsz I.sz
 ·intro b o e hb
  rcases(hfp b hb).2.2.2.1 with h | h
  ·exact I.ok.noex b o e h
  ·exact absurd (Heap.lt_size e) (Nat.not_lt.mpr (Nat.le_trans I.ok.bsz h))
 ·exact(Un.laid (a:=s₂.heap.objs.size) kp (Nat.le_refl _) (fresh _ (Nat.le_refl _)))
 ·refine⟨_,hns,λi x v hN hv hvis=> ?_⟩
  by_cases hi:i<tgs.length
  ·rw[List.getElem?_append_left (by simpa using hi)] at hv
   rw[List.getElem?_replicate] at hv
   simp[hi] at hv
  ·have hi':tgs.length<=i:=Nat.not_lt.mp hi
   have hN':(tgs++cap)[i]?=some x:=hN
   rw[List.getElem?_append_right hi'] at hN'
   rw[List.getElem?_append_right (by simpa using hi')] at hv
   simp only[List.length_replicate] at hv
   obtain⟨j,c,h1,h2,h3,h4,h5,h6⟩:=O.caps.get _ _ hN'
   unfold jen at hv
   rw[List.getElem?_map,h1] at hv
   simp at hv
   have hv':σ[j]?=some (some v):=by
    cases e:σ[j]? with
    | none=>rw[e] at hv;cases hv
    | some z=>rw[e] at hv;simp at hv;rw[hv]
   obtain⟨m,hm,lk⟩:=I.loc
   obtain⟨u,ru,lk⟩:=lk j x v h2 hv' (by rcases h3 with h3 | h3;exact .inr (.inl h3);exact .inr (.inr h3))
   refine⟨u,ru,.inr ⟨h4,?_⟩⟩
   rcases lk with⟨k1,_⟩ | ⟨_,c',k2,k3⟩
   ·rcases h3 with h3 | h3<;>(rw[h3] at k1;cases k1)
   ·rw[h5] at k2;cases k2
    obtain⟨o,k4,k5⟩:=k3
    exact⟨c,h6,o,kp _ _ k4,k5⟩
 ·intro x c e
  obtain⟨v,o,e',q⟩:=I.cell x c (sub x c e)
  exact⟨v,o,kp _ _ e',q⟩
 ·show(upd H₂ s₂.heap.objs.size (.lst [])) C=none
  rw[eC,jad (Nat.ne_of_gt (Nat.lt_succ_self _))];exact fresh _ (Nat.le_succ _)
 ·intro x c e
  have:=clt x c e
  rw[jad (Nat.ne_of_lt this)];exact I.freeC x c (sub x c e)
 ·intro p hp;cases hp
 ·exact I.hok.laid kp (Nat.le_refl _) ⟨Nat.zero_le _,[],0,.nil,hD⟩
 ·have:=O.caps.len
  simp[jen,cxC,this]
theorem jiy{RR:Value->Addr->Result->Shared->Prop}{E₀:Value->Shared->Prop}{pins:List (Addr×Obj)}{s₂:Shared}{σ:St}{H₂:Hp}{it:Addr}{fp:List Addr}{tn:Nat->Heap->Prop}{J:It}{Fin:Addr->Hp->Prop}
  (O:CompOk X scope cl tgs cap idx) (hc:X.calm=true) (hgo:GOk tgs.length g)
  (hg:∀C s₂ H₂ fp,PG (cxC X (tgs++cap) scope cl C s₂ H₂ fp) target g) (ht:∀C s₂ H₂ fp,PF (cxC X (tgs++cap) scope cl C s₂ H₂ fp) ifs tc) (he:∀C s₂ H₂ fp,PE (cxC X (tgs++cap) scope cl C s₂ H₂ fp) elt te)
  (I:Inv X pins σ H₂ s₂) (T:Turn X.prog X.w X.K target J fp it tn) (st:tn 0 s₂.heap) (hfp:∀b∈fp,FpOk X pins H₂ b)
  (rd:∀l,H₂ l=none->∃W:Nat->Nat->List V->Hp->Prop,(∃m,W 0 m [] (upd H₂ l (.lst []))) /\ ∀i m ys H2,W i m ys H2->H2 l=some (.lst ys) /\ ys.length<sizeLine /\
   ((J.stop i H2 /\ Fin l H2) \/ (J.go i H2 /\ ∀x H3,J.yld i H2 x H3->g x (List.replicate tgs.length none++jen idx σ) H3 λσ4 H4=>tc σ4 H4 λc H5=>
    if c=true then te σ4 H5 λy H6=>H6 l=some (.lst ys) /\ ∃m',m'<m /\ W (i+1) m' (ys++[y]) (upd H6 l (.lst (ys++[y]))) else ∃m',m'<m /\ W (i+1) m' ys H5)))
  (fin:∀C σ5 H5 s5,s₂.heap.objs.size<=C->s₂.heap.objs.size≠C->Inv (cxC X (tgs++cap) scope cl C s₂ H₂ fp) [] σ5 H5 s5->Fin s₂.heap.objs.size H5->RR (.ref s₂.heap.objs.size) C (.ok .next) s5):
  wpAny (model X.prog X.w) X.A (newList []) (λacc s₃=>wpAny (model X.prog X.w) X.A (newFunctionEnv scope X.env.globals cl [] X.env.qual none .none (some X.env)) (λcenv s₄=>
   codeAny (model X.prog X.w) X.A (.compStart (.ListComp elt [⟨target,iter,ifs,0⟩] scope pos) 0 (.ref it) acc {cenv with scope:=relabel scope X.env}) (RR acc cenv.locals) s₄) E₀ s₃) E₀ s₂:=by
 have hfo:∀b∈fp,b<s₂.heap.objs.size:=λb hb=>by
  obtain⟨o,e,_⟩:=T.obj 0 _ st b hb
  exact Heap.lt_size e
 refine wpAny_newObj_type (wpAny_newFunctionEnv O.cell (by intro y hy;simp at hy) (λh₁ hns₁ hsb₁=> ?_) O.kind)
 have eC:(s₂.heap.push {cls:= .type "list",dict:=none,data:= .seq ([]:List Value).toArray}).objs.size=s₂.heap.objs.size+1:=Heap.size_push ..
 dsimp only at hns₁ hsb₁ ⊢
 generalize (s₂.heap.push {cls:= .type "list",dict:=none,data:= .seq ([]:List Value).toArray}).objs.size=C at eC hns₁ hsb₁ ⊢
 have ltC:∀{b:Addr},b<s₂.heap.objs.size->b≠C:=fun{b} lt=>by rw[eC];exact Nat.ne_of_lt (Nat.lt_succ_of_lt lt)
 have IC:=jo1 (tk:=s₂.toks+([]:List (Str×Value)).length) eC O I hfp hfo hns₁ hsb₁
 have kp:∀b o,s₂.heap.get? b=some o->h₁.get? b=some o:=λb o e=>by
  have lt:=Heap.lt_size e
  exact hsb₁.extBut b o (ltC lt) (Heap.get?_push_of_some _ (Heap.get?_push_of_some _ e))
 have st₁:tn 0 h₁:=T.keep 0 _ _ st λb _ o e=>kp b o e
 obtain⟨W,⟨m₀,w₀⟩,step⟩:=rd s₂.heap.objs.size (I.hok.fresh (Nat.le_refl _))
 have fp0:∀b∈fp,(upd H₂ s₂.heap.objs.size (.lst [])) b=none:=λb hb=>by
  rw[jad (Nat.ne_of_lt (hfo b hb))];exact(hfp b hb).1
 have stat:∀{pl:List (Addr×Obj)} {H':Hp},(∀b∈fp,H' b=none)->pl=[]->∀b∈fp,FpOk (cxC X (tgs++cap) scope cl C s₂ H₂ fp) pl H' b:=fun{pl H'} hn hp b hb=>by
  subst hp
  have lt:=hfo b hb
  refine⟨hn b hb,ltC lt,IC.ok.exfs b hb,.inl hb,λx c h=>(IC.ok.exf b hb).2 x c h,λp hp=>by cases hp⟩
 have loop:codeAny (model X.prog X.w) X.A (.compLoop (.ListComp elt [⟨target,iter,ifs,0⟩] scope pos) 0 (.ref it) (.ref s₂.heap.objs.size) (compEnvC scope cl C X.env))
   (RR (.ref s₂.heap.objs.size) C) {s₂ with heap:=h₁,toks:=s₂.toks+([]:List (Str×Value)).length}:=by
  refine jku (λn s'=>∃i ys H',Inv (cxC X (tgs++cap) scope cl C s₂ H₂ fp) [] (List.replicate tgs.length none++jen idx σ) H' s' /\ tn i s'.heap /\ (∀b∈fp,H' b=none) /\ W i n ys H') ?_ m₀
   ⟨0,[],_,IC,st₁,fp0,w₀⟩
  rintro n s3 ⟨i,ys,H3,I3,st3,fr3,w3⟩
  obtain⟨hl,hz,w3⟩:=step i n ys H3 w3
  rcases w3 with⟨stop,q⟩ | ⟨go,w3⟩
  ·refine thn (T.done (cxC X (tgs++cap) scope cl C s₂ H₂ fp) rfl rfl rfl hc i [] s3 _ H3 _ I3 (stat fr3 rfl) st3 stop) λr s4 ⟨hr,I4⟩=> ?_
   subst hr
   exact fin C _ H3 s4 (by rw[eC];exact Nat.le_succ _) (by rw[eC];exact Nat.ne_of_lt (Nat.lt_succ_self _)) I4 q
  ·refine thn (T.item (cxC X (tgs++cap) scope cl C s₂ H₂ fp) rfl rfl rfl hc i [] s3 _ H3 _ I3 (stat fr3 rfl) st3 go) λr s4 ⟨u,hr,h4⟩=> ?_
   subst hr
   refine thn h4 λ_ s5 ⟨x,H5,I5,r5,y5,st5,fr5⟩=> ?_
   have I5':=I5.pinned (stat fr5 rfl) (T.obj _ _ st5)
   refine thn (hg _ _ _ _ _ s5 _ H5 x u _ I5' r5 (hgo _ _ _ _ (w3 x H5 y5))) λ_ s6 ⟨σ6,H6,I6,q6,len6,same6⟩=> ?_
   refine thn (ht _ _ _ _ _ s6 σ6 H6 _ I6 q6) λok s7 ⟨H7,I7,q7⟩=> ?_
   have again:∀{H8:Hp} {s8:Shared},Inv (cxC X (tgs++cap) scope cl C s₂ H₂ fp) ([]++jlj fp s5.heap) σ6 H8 s8->
     Inv (cxC X (tgs++cap) scope cl C s₂ H₂ fp) [] (List.replicate tgs.length none++jen idx σ) H8 s8 /\ tn (i+1) s8.heap /\ ∀b∈fp,H8 b=none:=fun{H8 s8} I8=>by
    refine⟨?_,T.keep _ _ _ st5 λb hb o e=>(I8.pin (b,o) (List.mem_append_right _ (List.mem_append_right _ (jf5 hb e)))).1,λb hb=> ?_⟩
    ·refine I8.unpinned.weak len6.symm λj v hv=> ?_
     by_cases hj:tgs.length<=j
     ·rw[same6 j hj];exact hv
     ·rw[List.getElem?_append_left (by simp;omega),List.getElem?_replicate] at hv
      simp[Nat.not_le.mp hj] at hv
    ·obtain⟨o,e,d⟩:=T.obj _ _ st5 b hb
     exact(I8.pin (b,o) (List.mem_append_right _ (List.mem_append_right _ (jf5 hb e)))).2.1
   cases ok with
   | false=>
    rw[if_neg Bool.false_ne_true] at q7 ⊢
    obtain⟨m',hm,w8⟩:=q7
    obtain⟨a1,a2,a3⟩:=again I7
    exact⟨m',hm,i+1,ys,H7,a1,a2,a3,w8⟩
   | true=>
    rw[if_pos rfl] at q7 ⊢
    refine thn (he _ _ _ _ _ s7 σ6 H7 _ I7 q7) λy s8 ⟨v,H8,I8,r8,hl8,m',hm,w8⟩=> ?_
    refine thn (jde _ s8 σ6 H8 (.ref s₂.heap.objs.size) [v] (.ref s₂.heap.objs.size) [y] (λ_ H9=>H9=upd H8 s₂.heap.objs.size (.lst (ys++[v]))) I8 rfl (.cons r8 .nil) ⟨_,ys,v,rfl,rfl,hl8,hz,rfl⟩) λz s9 ⟨v9,H9,I9,_,e9⟩=> ?_
    subst e9
    obtain⟨a1,a2,a3⟩:=again I9
    exact⟨m',hm,i+1,_,_,a1,a2,a3,w8⟩
 exact codeAny_compStart_list loop (T.self _ 0 _ _ _ st₁ loop)
theorem jj8{pins:List (Addr×Obj)}{s₂ s5:Shared}{σ σ5:St}{H₂ H5:Hp}{fp:List Addr}{C:Addr}{h':Heap}(I:Inv X pins σ H₂ s₂)(hfp:∀b∈fp,FpOk X pins H₂ b)(hC:s₂.heap.objs.size<=C)
  (I5:Inv (cxC X (tgs++cap) scope cl C s₂ H₂ fp) [] σ5 H5 s5) (sb:Heap.SameBut C s5.heap h'):Inv X pins σ H5 {s5 with heap:=h'}:=
 I.call' (ch:=fp) I5.os (Un.sameBut I5.base hC sb) (HOk.sameBut I5.hok I5.free sb) I5.bare λb hb=>⟨(hfp b hb).2.2.2.1,(hfp b hb).2.1,(hfp b hb).2.2.2.2.1,(hfp b hb).2.2.2.2.2⟩
theorem jp3(O:CompOk X scope cl tgs cap idx)(hc:X.calm=true)(hi:PI X target iter wi)(hgo:GOk tgs.length g)
  (hg:∀C s₂ H₂ fp,PG (cxC X (tgs++cap) scope cl C s₂ H₂ fp) target g) (ht:∀C s₂ H₂ fp,PF (cxC X (tgs++cap) scope cl C s₂ H₂ fp) ifs tc) (he:∀C s₂ H₂ fp,PE (cxC X (tgs++cap) scope cl C s₂ H₂ fp) elt te)
  (hs:∀x,foldedSetIterable iter X.env x=pure x:=by intro _;rfl):
  PE X (.ListComp elt [⟨target,iter,ifs,0⟩] scope pos) (jv7 tgs.length idx wi g tc te):=by
 intro pins s σ H Q I h
 rw[eval_ListComp]
 refine wpAny_comprehension_free (use:=none) rfl hs O.clos O.kind O.names (wpAny_mono (hi pins s σ H _ I h) (λxv s₁ h₁=>wpAny_mono h₁ (λitv s₂ h₂=> ?_) λ_ _ e=>e) λ_ _ e=>e)
 obtain⟨it,fp,tn,J,H₂,rfl,I₂,T,st,hfp,rd⟩:=h₂
 refine jiy (RR:=λacc C=>compPost (model X.prog X.w) X.A X.xe none (EP X pins σ Q) acc C) (Fin:=λl H=>Q (.ref l) H) O hc hgo hg ht he I₂ T st hfp rd ?_
 intro C σ5 H5 s5 hC _ I5 q
 obtain⟨m,hn,_⟩:=I5.loc
 exact⟨m,hn,λh' sb=>⟨.ref _,H5,jj8 I₂ hfp hC I5 sb,rfl,q⟩⟩
theorem jjx{i:Nat}{y:Str}{py spos:Pos}(hN:X.N.Nodup)(hy:X.N[i]?=some y)(hly:Loc X.env.scope y)(O:CompOk X scope cl tgs cap idx)(hc:X.calm=true)(hi:PI X target iter wi)(hgo:GOk tgs.length g)
  (hg:∀C s₂ H₂ fp,PG (cxC X (tgs++cap) scope cl C s₂ H₂ fp) target g) (ht:∀C s₂ H₂ fp,PF (cxC X (tgs++cap) scope cl C s₂ H₂ fp) ifs tc) (he:∀C s₂ H₂ fp,PE (cxC X (tgs++cap) scope cl C s₂ H₂ fp) elt te)
  (hsw:swapsWith (.ListComp elt [⟨target,iter,ifs,0⟩] scope pos) (some (.Name y py)) spos.line X.env=pure true:=by rfl)
  (hs:∀x,foldedSetIterable iter X.env x=pure x:=by intro _;rfl) (hf:X.fn y=true \/ X.env.scope.names.lookup y=some .local:=by first | exact .inl rfl | exact .inr rfl | assumption):
  PS X (.Assign [.Name y py] (.ListComp elt [⟨target,iter,ifs,0⟩] scope pos) spos) (λD σ H=>jv7 tgs.length idx wi g tc te σ H λx H1=>D.nx (σ.set i (some x)) H1):=by
 intro pins s σ H D I h
 rw[exec_Assign_Name_used _ _ _ _ hsw]
 refine wpAny_bind (wpAny_standAt (wpAny_bind ?_))
 show wpAny _ X.A (do let _<-comprehension (.ListComp elt [⟨target,iter,ifs,0⟩] scope pos) scope X.env _ (newList []) false (eval iter X.env) (some (assign (.Name y py) X.env))) _ _ s
 refine wpAny_bind (wpAny_mono (wpAny_comprehension_free (use:=some (assign (.Name y py) X.env)) (Q:=λ_ s'=>SP X pins D .next s') rfl hs O.clos O.kind O.names
  (wpAny_mono (hi pins s σ H _ I h) (λxv s₁ h₁=>wpAny_mono h₁ (λitv s₂ h₂=> ?_) λ_ _ e=>e) λ_ _ e=>e)) (λ_ s' hq=>wpAny_pure (wpAny_pure hq)) λ_ _ e=>e)
 obtain⟨it,fp,tn,J,H₂,rfl,I₂,T,st,hfp,rd⟩:=h₂
 refine jiy (RR:=λacc C=>compPost (model X.prog X.w) X.A X.xe (some (assign (.Name y py) X.env)) (λ_ s'=>SP X pins D .next s') acc C) (Fin:=λl H=>D.nx (σ.set i (some (.ref l))) H) O hc hgo hg ht he I₂ T st hfp rd ?_
 intro C σ5 H5 s5 hC hDC I5 q
 obtain⟨m,hn,_⟩:=I5.loc
 have I6:Inv X pins σ H5 s5:=jj8 I₂ hfp hC I5 (Heap.SameBut.refl _ _)
 show wpAny _ X.A (assign (.Name y py) X.env (.ref s₂.heap.objs.size)) _ _ _
 refine wpAny_assign_Name (jl7 I6 hN hy hly (v:= .ref s₂.heap.objs.size) rfl (λs7 I7 ⟨a,sb,ha⟩=> ?_) hf)
 have haC:C≠a:=by
  rcases ha with rfl | ha
  ·exact Nat.ne_of_gt (Nat.lt_of_lt_of_le I₂.lt hC)
  ·obtain⟨v,o,e,_⟩:=I₂.cell _ _ ha
   exact Nat.ne_of_gt (Nat.lt_of_lt_of_le (Heap.lt_size e) hC)
 refine⟨m,hn.sameBut sb haC,λh' sb'=>⟨_,H5,?_,q⟩⟩
 have hCn:H5 C=none:=I5.free
 refine I7.call' (ch:=[C]) rfl (Un.but sb') (HOk.sameBut I7.hok hCn sb') I7.bare λb hb=> ?_
 have eb:b=C:=by simpa using hb
 subst eb
 refine⟨.inr (Nat.le_trans I₂.sz hC),?_,λx c e=> ?_,λp hp=> ?_⟩
 ·exact Nat.ne_of_gt (Nat.lt_of_lt_of_le I₂.lt hC)
 ·obtain⟨v,o,e',_⟩:=I₂.cell _ _ e
  exact Nat.ne_of_lt (Nat.lt_of_lt_of_le (Heap.lt_size e') hC)
 ·exact Nat.ne_of_lt (Nat.lt_of_lt_of_le (Heap.lt_size (I₂.pin p hp).1) hC)
end
def FnG(P:Program)(w:World)(K:W.Frag)(mg:Str->Option Value)(base:Heap)(CX:CXT)(k:Nat)(x:Str)(sp:Sp):Prop:=
 ∃f fd ps,FnOk P w K mg base CX k f fd ps sp /\ mg x=some (.ref f) /\ W.keepIn K (.ref f)=true /\ jfp K fd ps []
def MethG(P:Program)(w:World)(K:W.Frag)(mg:Str->Option Value)(base:Heap)(CX:CXT)(k:Nat)(C:Addr)(m:Str)(sp:Sp):Prop:=
 ∃f fd ps,Meth K C m f /\ FnOk P w K mg base CX k f fd ps sp /\ jfp K fd ps []
def MakeG(P:Program)(w:World)(K:W.Frag)(mg:Str->Option Value)(base:Heap)(CX:CXT)(k:Nat)(x:Str)(C:Addr)(sp:Sp):Prop:=
 ∃f fd ps,Mk K C f /\ FnOk P w K mg base CX k f fd ps sp /\ mg x=some (.ref C) /\ jfp K fd ps []
section
variable {X : Cx} {CX : CXT} {k : Nat} {C : Addr} {sp : Sp} {E : XK} {x m : Str} {p pos apos : Pos} {e o : Expr} {es : List Expr} {ta : TE} {t : TA}
theorem pe_g(G:FnG X.prog X.w X.K X.mg X.base CX k x sp)(hr:Room k X.A)(hx:jfc CX X E)(ha:PA X (e::es) t)(hg:Gl X x:=by rfl)(hdb:(x==("__debug__":Str))=false:=by decide)
  (he:starEach (e::es) X.env=(false,eval e X.env)::starEach es X.env:=by rfl) (hpl:(backTo pos (starEach es X.env)).any (·.1)=false:=by rfl):
  PE X (.Call (.Name x p) (e::es) [] pos) (juc sp [] E t):=by
 obtain⟨f,fd,ps,F,hm,hk,hb⟩:=G
 exact juz F hr hg hm hk hb .nil hx ha hdb he hpl
theorem jlf(G:MakeG X.prog X.w X.K X.mg X.base CX k x C sp)(hr:Room (k+1) X.A)(hx:jfc CX X E)(ha:PA X (e::es) t)(hg:Gl X x:=by rfl)(hdb:(x==("__debug__":Str))=false:=by decide)
  (he:starEach (e::es) X.env=(false,eval e X.env)::starEach es X.env:=by rfl) (hpl:(backTo pos (starEach es X.env)).any (·.1)=false:=by rfl):
  PE X (.Call (.Name x p) (e::es) [] pos) (jsn C sp [] E t):=by
 obtain⟨f,fd,ps,M,F,hm,hb⟩:=G
 exact jwb M F hr hg hm hb .nil hx ha hdb he hpl
def jha(P:Program)(w:World)(K:W.Frag)(mg:Str->Option Value)(base:Heap)(CX:CXT)(k:Nat)(m:Str)(E:XK)(ta:TE)(t:TA):TE:=λσ H Q=>ta σ H λx H1=>
 ∃a C dx fs sp,x= .ref a /\ H1 a=some (.ins C dx fs) /\ Cls K C /\ MethG P w K mg base CX k C m sp /\ fs.lookup m=none /\ t σ H1 λvs H2=>sp (x::vs) H2 Q E
theorem jfz{pl:Sem Bool}(he:PE X o ta)(hr:Room k X.A)(hx:jfc CX X E)(ha:PA X (e::es) t)
  (hst:starEach (e::es) X.env=(false,eval e X.env)::starEach es X.env:=by rfl) (hpl:(backTo pos (starEach es X.env)).any (·.1)=false:=by rfl)
  (ht:eval (.Call (.Attribute o m apos) (e::es) [] pos) X.env=(do
   let ov<-eval o X.env
   standAt apos.atName
   let (f,first)<-holding [ov] (getMethod ov m pl)
   callWith pos f first (backTo pos (starEach (e::es) X.env)) (backToKw pos (keywordEach [] X.env))):=by rfl):
  PE X (.Call (.Attribute o m apos) (e::es) [] pos) (jha X.prog X.w X.K X.mg X.base CX k m E ta t):=by
 intro pins s σ H Q I h
 refine W.methodCall_KW (pl:=pl) (thn (he pins s σ H _ I h) λu s1 ⟨x,H1,I1,rx,a,C,dx,fs,sp,ex,ea,c,⟨f,fd,ps,hm,F,hb⟩,l,q⟩=> ?_) ht
 subst ex
 obtain rfl:u=Value.ref a:=rx
 refine jis I1 ea c hm l ?_
 refine W.callWith_K (first:=[.ref a]) (h₀:=X.base) I.ok.mod.kin hm.kp (thn (ha pos pins s1 σ H1 _ I1 q) λus s2 ⟨vs,H2,I2,r,q2⟩=>⟨I2.kIn,?_⟩) hst hpl
 exact jpu (us:= .ref a::us) (vs:= .ref a::vs) (dvs:=[]) (ds:=[]) F hr hb .nil hx I2 (.cons rfl r) (by simpa using q2)
theorem jeg{pl:Sem Bool}(he:PE X o ta)(hr:Room k X.A)(hx:jfc CX X E)
  (ht:eval (.Call (.Attribute o m apos) [] [] pos) X.env=(do
   let ov<-eval o X.env
   standAt apos.atName
   let (f,first)<-holding [ov] (getMethod ov m pl)
   callWith pos f first (backTo pos (starEach [] X.env)) (backToKw pos (keywordEach [] X.env))):=by rfl):
  PE X (.Call (.Attribute o m apos) [] [] pos) (jha X.prog X.w X.K X.mg X.base CX k m E ta tNil):=by
 intro pins s σ H Q I h
 refine W.methodCall_KW (pl:=pl) (thn (he pins s σ H _ I h) λu s1 ⟨x,H1,I1,rx,a,C,dx,fs,sp,ex,ea,c,⟨f,fd,ps,hm,F,hb⟩,l,q⟩=> ?_) ht
 subst ex
 obtain rfl:u=Value.ref a:=rx
 refine jis I1 ea c hm l ?_
 exact W.callWith_K0 (first:=[.ref a]) I1.kIn hm.kp (jpu (us:=[.ref a]) (vs:=[.ref a]) (dvs:=[]) (ds:=[]) F hr hb .nil hx I1 (.cons rfl .nil) q)
end
abbrev RU:=V->V->Hp->VK->Prop
def uAdd(K:W.Frag):RU:=λx y H Q=>match x,y with
 | .int i,.int j=>Q (.int (i+j)) H
 | .str a,.str b=>a.length+b.length<=sizeLine /\ Q (.str (a++b)) H
 | .ref a,.ref b=>rCat (.ref a) (.ref b) H Q \/ rCatT K (.ref a) (.ref b) H Q
 | _,_=>False
theorem jwm{X:Cx}:OpR X (binaryOp .Add) (uAdd X.K):=by
 intro pins s σ H x y v u Q I rx ry h
 cases x<;>cases y<;>first | exact h.elim | skip
 ·exact op_add pins s σ H _ _ v u Q I rx ry ⟨_,_,rfl,rfl,h⟩
 ·exact jnp pins s σ H _ _ v u Q I rx ry ⟨_,_,rfl,rfl,h.1,h.2⟩
 ·rcases h with h | h
  ·exact op_cat pins s σ H _ _ v u Q I rx ry h
  ·exact jvg pins s σ H _ _ v u Q I rx ry h
mutual
def Rep(H:Hp):V->PyData->Prop
 | v,.none=>v= .non
 | v,.bool b=>v= .bl b
 | v,.int i=>v= .int i
 | v,.str x=>v= .str x
 | v,.list ds=>∃a vs,v= .ref a /\ H a=some (.lst vs) /\ Reps H vs ds
 | v,.tuple ds=>∃a vs,v= .ref a /\ H a=some (.tup vs) /\ Reps H vs ds
 | _,.dict _=>False
def Reps(H:Hp):List V->List PyData->Prop
 | [],[]=>True
 | v::vs,d::ds=>Rep H v d /\ Reps H vs ds
 | _,_=>False
end
mutual
theorem Rep.same{H H':Hp}(e:Same H H'):∀{v:V} {d:PyData},Rep H v d->Rep H' v d
 | v,.none,h=>h
 | v,.bool b,h=>h
 | v,.int i,h=>h
 | v,.str x,h=>h
 | v,.list ds,h=>by
  simp only[Rep] at h ⊢
  obtain⟨a,vs,h1,h2,h3⟩:=h
  exact⟨a,vs,h1,e _ _ h2,Reps.same e h3⟩
 | v,.tuple ds,h=>by
  simp only[Rep] at h ⊢
  obtain⟨a,vs,h1,h2,h3⟩:=h
  exact⟨a,vs,h1,e _ _ h2,Reps.same e h3⟩
 | _,.dict _,h=>by simp only[Rep] at h
theorem Reps.same{H H':Hp}(e:Same H H'):∀{vs:List V} {ds:List PyData},Reps H vs ds->Reps H' vs ds
 | [],[],_=>by simp only[Reps]
 | v::vs,d::ds,h=>by
  simp only[Reps] at h ⊢
  exact⟨Rep.same e h.1,Reps.same e h.2⟩
 | [],_::_,h=>by simp only[Reps] at h
 | _::_,[],h=>by simp only[Reps] at h
end
mutual
theorem jfx{P:Program}{w:World}{H:Hp}{h:Heap}(hk:HOk P w H h):∀{x:V} {v:Value} {d:PyData},RelV x v->Rep H x d->∃as,Reads h v d as
 | x,v,.none,r,q=>by simp only[Rep] at q;subst q;cases r;exact⟨_,.none⟩
 | x,v,.bool b,r,q=>by simp only[Rep] at q;subst q;cases r;exact⟨_,.bool b⟩
 | x,v,.int i,r,q=>by simp only[Rep] at q;subst q;obtain⟨t,rfl⟩:=r;exact⟨_,.int i t⟩
 | x,v,.str y,r,q=>by simp only[Rep] at q;subst q;obtain⟨t,rfl⟩:=r;exact⟨_,.str y t⟩
 | x,v,.list ds,r,q=>by
  simp only[Rep] at q
  obtain⟨a,vs,rfl,e,q⟩:=q
  cases r
  obtain⟨_,its,n,rv,g⟩:=hk a _ e
  obtain⟨as,z⟩:=jhb hk rv q
  exact⟨_,.list g rfl rfl (by simpa using z)⟩
 | x,v,.tuple ds,r,q=>by
  simp only[Rep] at q
  obtain⟨a,vs,rfl,e,q⟩:=q
  cases r
  obtain⟨_,its,rv,o,g,hc,n,hd⟩:=hk a _ e
  obtain⟨as,z⟩:=jhb hk rv q
  exact⟨_,.tuple g hc hd (by simpa using z)⟩
 | _,_,.dict _,_,q=>by simp only[Rep] at q
theorem jhb{P:Program}{w:World}{H:Hp}{h:Heap}(hk:HOk P w H h):∀{xs:List V} {us:List Value} {ds:List PyData},Vals xs us->Reps H xs ds->∃as,ReadsAll h us ds as
 | _,_,[],.nil,_=>⟨_,.nil⟩
 | _,_,d::ds,.cons r rs,q=>by
  simp only[Reps] at q
  obtain⟨as,z⟩:=jfx hk r q.1
  obtain⟨bs,y⟩:=jhb hk rs q.2
  exact⟨_,.cons z y⟩
 | _,_,_::_,.nil,q=>by simp only[Reps] at q
 | _,_,[],.cons _ _,q=>by simp only[Reps] at q
end
def jgo(d:PyData):Prop:=SeqAt.shaped d=true
def uEq:RU:=λx y H Q=>(scal x y=true /\ Q (.bl (decide (x=y))) H) \/ ∃d e,Rep H x d /\ Rep H y e /\ jgo d /\ jgo e /\ Q (.bl (PyData.eqv d e)) H
def uNe:RU:=λx y H Q=>(scal x y=true /\ Q (.bl (!decide (x=y))) H) \/ ∃d e,Rep H x d /\ Rep H y e /\ jgo d /\ jgo e /\ Q (.bl (!PyData.eqv d e)) H
section
variable {X : Cx}
theorem jbx(hu:X.A.units+64<cLine):OpR X (compareOp .Eq) uEq:=by
 intro pins s σ H x y v u Q I rx ry h
 rcases h with h | ⟨d,e,hd,he,sd,se,q⟩
 ·exact op_eq pins s σ H x y v u Q I rx ry h
 ·obtain⟨as,ra⟩:=jfx I.hok rx hd
  obtain⟨bs,rb⟩:=jfx I.hok ry he
  exact eq_dataH ra rb sd se hu ⟨.bl _,H,I,rfl,q⟩
theorem jgn(hu:X.A.units+64<cLine):OpR X (compareOp .NotEq) uNe:=by
 intro pins s σ H x y v u Q I rx ry h
 rcases h with h | ⟨d,e,hd,he,sd,se,q⟩
 ·exact op_ne pins s σ H x y v u Q I rx ry h
 ·obtain⟨as,ra⟩:=jfx I.hok rx hd
  obtain⟨bs,rb⟩:=jfx I.hok ry he
  exact ne_dataH ra rb sd se hu ⟨.bl _,H,I,rfl,q⟩
def KDict(P:Program)(w:World)(K:W.Frag)(a:Addr)(kvs:List (Key×V)):Prop:=
 ∀h:Heap,K.In h->(a==sysModules)=false /\ ∃vs,KV kvs vs /\ h.DictOf (jbf P w) a vs
def jrx(P:Program)(w:World)(K:W.Frag)(H:Hp)(a:Addr)(y:V)(r:Option V):Prop:=
 DGet H a y r \/ (∃kvs k,KDict P w K a kvs /\ y=kV k /\ r=valV kvs k) \/ ∃o kvs k,H a=some (.frz o (.dK kvs)) /\ y=kV k /\ r=valV kvs k
def rIxD(P:Program)(w:World)(K:W.Frag):R2:=λx y H Q=>∃a v,x= .ref a /\ jrx P w K H a y (some v) /\ Q v H
theorem juo(hu:X.A.units+64<cLine):IxR X (rIxD X.prog X.w X.K):=by
 intro value slice pins s σ H x y v u Q I rx ry h hs
 obtain⟨a,z,rfl,g,q⟩:=h
 cases rx
 rcases g with g | ⟨kvs,k,kd,rfl,e⟩ | ⟨o,kvs,k,kd,rfl,e⟩
 ·exact tail_any (jmn I g) PySem.F.slot_dict_getitem.lookup (jok (by omega) I g ry λw' s3 I3 rw'=>⟨z,H,I3,rw',q⟩) hs
 ·obtain⟨hd,vs,rel,dd⟩:=kd _ I.kIn
  obtain⟨w',hw,rw'⟩:=RelO.some_of (v:=z) (o:=valueAt vs k) (by rw[e];exact rel.val k)
  exact tail_any dd.typeIs PySem.F.slot_dict_getitem.lookup (wpAny_getItem_of (jgr ry) dd.mapOf hw ⟨z,H,I.tok _,rw',q⟩) hs
 ·obtain⟨_,_,hd,vs,rel,dd⟩:=(show jby X.prog X.w H s.heap a (.frz o (.dK kvs)) from I.hok a _ kd)
  obtain⟨w',hw,rw'⟩:=RelO.some_of (v:=z) (o:=valueAt vs k) (by rw[e];exact rel.val k)
  exact tail_any dd.typeIs PySem.F.slot_dict_getitem.lookup (wpAny_getItem_of (jgr ry) dd.mapOf hw ⟨z,H,I.tok _,rw',q⟩) hs
def uIx(P:Program)(w:World)(K:W.Frag):R2:=λx y H Q=>rIx K x y H Q \/ rIxD P w K x y H Q
theorem ix_U(hu:X.A.units+64<cLine):IxR X (uIx X.prog X.w X.K):=IxR.or ix_seq (juo hu)
def uIn(P:Program)(w:World)(K:W.Frag)(neg:Bool):RU:=λx y H Q=>
 rIn K neg x y H Q \/ (∃i j,x= .str i /\ y= .str j /\ Q (.bl (if neg then !(!(Builtin.Str.occurrences j i 0 j.length 1).isEmpty) else !(Builtin.Str.occurrences j i 0 j.length 1).isEmpty)) H) \/
 ∃a o,y= .ref a /\ jrx P w K H a x o /\ Q (.bl (if neg then !o.isSome else o.isSome)) H
theorem op_inU(hu:X.A.units+64<cLine):OpR X (compareOp .In) (uIn X.prog X.w X.K false):=by
 intro pins s σ H x y v u Q I rx ry h
 rcases h with h | h | ⟨a,o,rfl,g,q⟩
 ·exact jq9 pins s σ H x y v u Q I rx ry h
 ·exact jpe pins s σ H x y v u Q I rx ry h
 ·cases ry
  rcases g with g | ⟨kvs,k,kd,rfl,e⟩ | ⟨o',kvs,k,kd,rfl,e⟩
  ·exact d_in (by omega) I g rx λs' I'=>⟨.bl _,H,I',rfl,q⟩
  ·obtain⟨hd,vs,rel,dd⟩:=kd _ I.kIn
   refine wpAny_in_of (jgr rx) hd dd.mapOf ?_
   rw[<-(rel.val k).isSome_eq,<-e]
   exact⟨.bl _,H,I.tok _,rfl,q⟩
  ·obtain⟨_,_,hd,vs,rel,dd⟩:=(show jby X.prog X.w H s.heap a (.frz o' (.dK kvs)) from I.hok a _ kd)
   refine wpAny_in_of (jgr rx) hd dd.mapOf ?_
   rw[<-(rel.val k).isSome_eq,<-e]
   exact⟨.bl _,H,I.tok _,rfl,q⟩
theorem jq2(hu:X.A.units+64<cLine):OpR X (compareOp .NotIn) (uIn X.prog X.w X.K true):=by
 intro pins s σ H x y v u Q I rx ry h
 rcases h with h | h | ⟨a,o,rfl,g,q⟩
 ·exact jln pins s σ H x y v u Q I rx ry h
 ·exact jlk pins s σ H x y v u Q I rx ry h
 ·cases ry
  rcases g with g | ⟨kvs,k,kd,rfl,e⟩ | ⟨o',kvs,k,kd,rfl,e⟩
  ·exact jwj (by omega) I g rx λs' I'=>⟨.bl _,H,I',rfl,q⟩
  ·obtain⟨hd,vs,rel,dd⟩:=kd _ I.kIn
   refine wpAny_notIn_of (jgr rx) hd dd.mapOf ?_
   rw[<-(rel.val k).isSome_eq,<-e]
   exact⟨.bl _,H,I.tok _,rfl,q⟩
  ·obtain⟨_,_,hd,vs,rel,dd⟩:=(show jby X.prog X.w H s.heap a (.frz o' (.dK kvs)) from I.hok a _ kd)
   refine wpAny_notIn_of (jgr rx) hd dd.mapOf ?_
   rw[<-(rel.val k).isSome_eq,<-e]
   exact⟨.bl _,H,I.tok _,rfl,q⟩
def rSlS:V->Option Int->Option Int->Hp->VK->Prop:=λx lo hi H Q=>∃z,x= .str z /\ z.length<=sizeLine /\ Q (.str (Txt.slice z lo hi)) H
def uSl(K:W.Frag):V->Option Int->Option Int->Hp->VK->Prop:=λx lo hi H Q=>rSlL K x lo hi H Q \/ rSlT K x lo hi H Q
theorem sl_U:SlR X (uSl X.K):=SlR.or jve sl_tup
def rLenU(P:Program)(w:World)(K:W.Frag):List V->Hp->VK->Prop:=λxs H Q=>(∃p ys,xs=[.ref p] /\ (SqL K H p ys \/ SqT K H p ys) /\ Q (.int ys.length) H) \/ ∃z,xs=[.str z] /\ z.length<=sizeLine /\ Q (.int z.length) H
theorem jpb:jdx X (.builtin "len") (rLenU X.prog X.w X.K):=jdx.or jkz jlc
def tyVal:V->Value
 | .ty n=> .type n
 | .ref a=> .ref a
 | _=> .none
def rIsi(K:W.Frag):List V->Hp->VK->Prop:=λxs H Q=>∃x c t b,xs=[x,c] /\ ((∃n,c= .ty n) \/ ∃a,c= .ref a) /\ TyOf K H x t /\ W.kitOne K t (tyVal c)=some b /\ Q (.bl b) H
theorem jrw:jdx X (.builtin "isinstance") (rIsi X.K):=by
 intro pins s σ H xs us Q I r h
 obtain⟨x,c,t,b,rfl,hc,ty,e,q⟩:=h
 obtain⟨u,w',rfl,rx,rc⟩:=vals2 r
 have ec:w'=tyVal c:=by
  rcases hc with⟨n,rfl⟩ | ⟨a,rfl⟩<;>exact rc
 subst ec
 exact joq I rx ty e λtk=>⟨.bl b,H,I.tok tk,rfl,q⟩
def GV(mg:Str->Option Value)(x:Str)(v:V):Prop:=∃u,mg x=some u /\ RelV v u
theorem jvy{a:Expr}{ta:TE}{pos:Pos}(ha:PE X a ta):PE X (.UnaryOp .Not a pos) (λσ H Q=>ta σ H λx H1=>∃k,TruV X.K x H1 k /\ Q (.bl (!k)) H1):=by
 intro pins s σ H Q I h
 refine UnaryOp_ (thn (ha pins s σ H _ I h) λv s1 ⟨x,H1,I1,r1,q1⟩=> ?_)
 exact not_of (thn (jtk pins s1 σ H1 x v (λk H2=>Q (.bl (!k)) H2) I1 r1 q1) λk s2 ⟨H2,I2,q2⟩=>⟨.bl (!k),H2,I2,rfl,q2⟩)
end
theorem jge:bootBuiltins "len"=some (.builtin "len"):=by decide+kernel
theorem bt_sum:bootBuiltins "sum"=some (.builtin "sum"):=by decide+kernel
theorem jd4:bootBuiltins "isinstance"=some (.builtin "isinstance"):=by decide+kernel
theorem bt_int:bootBuiltins "int"=some (.type "int"):=by decide+kernel
theorem jus:bootBuiltins "bool"=some (.type "bool"):=by decide+kernel
theorem jmg:bootBuiltins "list"=some (.type "list"):=by decide+kernel
theorem jtd:bootBuiltins "tuple"=some (.type "tuple"):=by decide+kernel
theorem jvo:bootBuiltins "dict"=some (.type "dict"):=by decide+kernel
theorem ji9:bootBuiltins "reversed"=some (.type "reversed"):=by decide+kernel
theorem jrz{X:Cx}{x:Str}{n:String}{pos:Pos}(hm:X.mg x=none)(hv:bootBuiltins x=some (.type n))(hg:Gl X x:=by rfl)(hn:x≠"__name__":=by decide)(hd:(x==("__debug__":Str))=false:=by decide):PE X (.Name x pos) (tC (.ty n)):=jwf hg hm hv rfl hn hd
def jv3(K:W.Frag)(a:Addr)(xs:List V):It:=
 ⟨λi H=>SqL K H a xs /\ i<xs.length,λi H x H'=>H'=H /\ xs[xs.length - 1 - i]?=some x,λi H=>SqL K H a xs /\ xs.length<=i⟩
theorem jsf{P:Program}{w:World}{K:W.Frag}{tg:Expr}(a it:Addr)(xs:List V):Turn P w K tg (jv3 K a xs) [it] it (λi h=>i<=xs.length /\ h.IsRevIter it a ((xs.length:Int) - 1 - (i:Int))) where
 mem:=by simp
 obj:=λi h st b hb=>by
  have e:b=it:=by simpa using hb
  subst e
  obtain⟨_,o,e,c,d⟩:=st
  exact⟨o,e,λv z=>by rw[d] at z;cases z⟩
 keep:=λi h h' st k=>⟨st.1,st.2.at λo e=>k it (by simp) o e⟩
 item:=by
  intro X hP hw hK hc i pins s σ H E I hf st hg
  subst hP hw hK
  obtain⟨hq,hi⟩:=hg
  obtain⟨its,rv,p,hz⟩:=I.list hq
  have hlen:=rv.length
  have hx:xs[xs.length - 1 - i]?=some (xs[xs.length - 1 - i]'(by omega)):=List.getElem?_eq_getElem (by omega)
  obtain⟨u,hu,ru⟩:=rv.get hx
  obtain⟨f0,f1,f2,f3,f4,f5⟩:=hf it (by simp)
  have e1:(xs.length:Int) - 1 - (i:Int)=((xs.length - 1 - i:Nat):Int):=by omega
  have st2:=st.2
  rw[e1] at st2
  refine wpAny_pyNext_rev_item st2 p.isList (x:=u) (by simpa using hu) λh' st' sb=> ?_
  have I1:Inv X pins σ H {s with heap:=h'}:=I.turned (t':=s.toks) (λb o hb e=>(sb.2 b hb).trans e) f0 f1 f3 f4 f5
  obtain⟨o,e,c,d⟩:=id st'
  have e2:((xs.length - 1 - i:Nat):Int) - 1=(xs.length:Int) - 1 - ((i+1:Nat):Int):=by omega
  exact⟨u,rfl,jmm (s:={s with heap:=h'}) e c d (by decide) ⟨_,H,I1,ru,⟨rfl,hx⟩,⟨by omega,by rw[<-e2];exact st'⟩,λb hb=>(hf b hb).1⟩⟩
 done:=by
  intro X hP hw hK hc i pins s σ H E I hf st hg
  subst hP hw hK
  obtain⟨hq,hx⟩:=hg
  obtain⟨f0,f1,f2,f3,f4,f5⟩:=hf it (by simp)
  have e1:(xs.length:Int) - 1 - (i:Int)= -1:=by have:=st.1;omega
  have st2:=st.2
  rw[e1] at st2
  exact wpAny_pyNext_rev_end (I.ok.hd hc) st2 λh' eb=>⟨rfl,I.turned (t':=s.toks) (λb o hb e=>eb b o hb e) f0 f1 f3 f4 f5⟩
 self:=λ_ _ _ _ _ st h=>wpAny_pyIter_revIter st.2 h
def iRev(K:W.Frag)(ta:TA):TI:=λσ H R=>ta σ H λvs H1=>∃a xs,vs=[.ref a] /\ SqL K H1 a xs /\ R (jv3 K a xs) H1
theorem pi_rev{X:Cx}{tg e:Expr}{ta:TA}{p pos:Pos}(hg:Gl X "reversed")(hm:X.mg "reversed"=none)(ha:PA X [e] ta)
  (hs:starEach [e] X.env=[(false,eval e X.env)]:=by rfl):PI X tg (.Call (.Name "reversed" p) [e] [] pos) (iRev X.K ta):=by
 intro pins s σ H R I h
 refine Call_ (jgj I hg hm ji9 (PyProof.Rows.callWith_type1 (thn (ha pos pins s σ H _ I h) λus s1 ⟨vs,H1,I1,r1,q1⟩=> ?_) hs rfl))
 obtain⟨a,xs,rfl,hq,q⟩:=q1
 cases r1 with
 | cons r rr=>
  cases rr
  cases r
  obtain⟨its,rv,pl,hz⟩:=I1.list hq
  have hlen:=rv.length
  have e:((its.toArray.size:Nat):Int) - 1=(xs.length:Int) - 1 - ((0:Nat):Int):=by rw[List.size_toArray];omega
  have st:(s1.heap.push (revObj a (((its.toArray.size:Nat):Int) - 1))).IsRevIter s1.heap.objs.size a ((xs.length:Int) - 1 - ((0:Nat):Int)):=by
   rw[<-e];exact⟨_,Heap.get?_push_size _ rfl,rfl,rfl⟩
  refine call_reversed_list pl.isList (wpAny_pyIter_revIter (s:={s1 with heap:=_}) st ?_)
  refine⟨s1.heap.objs.size,[s1.heap.objs.size],_,_,H1,rfl,I1.kept (t':=s1.toks) λb o e=>Heap.get?_push_of_some _ e,jsf a _ xs,⟨Nat.zero_le _,st⟩,λb hb=> ?_,q⟩
  have e:b=s1.heap.objs.size:=by simpa using hb
  subst e
  exact I1.fpOk (Nat.le_refl _) (I1.hok.fresh (Nat.le_refl _))
def CXE(P:Program)(w:World):CXT:=λouter H s E e s'=>
 ∃(ea C:Addr) (a0:Value) (B:Heap) (H':Hp),e= .ref ea /\ s'.os=s.os /\ AllBare s'.gens /\ Un (frs outer) [] H H' s.heap s'.heap /\ HOk P w H' B /\ Heap.FlyingW B outer ea (.ref C) a0 s'.heap /\
  (∀b o,s.heap.get? b=some o->b∉frs outer->∃o',B.get? b=some o') /\ (∀b o,s.heap.get? b=some o->H b=none->b∉frs outer->B.get? b=some o) /\ E (.ref C) none H'
theorem jiu{P:Program}{w:World}{X:Cx}:jfc (CXE P w) X E0:=λ_ _ _ _ _ _ _ ⟨_,_,_,_,_,_,_,_,_,_,_,_,_,h⟩=>h.elim
section
variable {P : Program} {w : World} {K : W.Frag} {mg : Str -> Option Value} {base : Heap} {N : List Str} {qual : Str} {scope : Scope} {f : Addr} {cd : Value} {A : Around} {outer : List Env} {s₀ : Shared} {H₀ : Hp} {E : XK}
theorem jb2:jfc (CXE P w) (cxOf (CXE P w) P w K mg base N qual scope f cd A outer s₀ H₀ E) E:=by
 intro pins σ H s e s' I h
 obtain⟨ea,C,a0,B,H',rfl,hos,hg,u,hok,fl,hB,hBk,hE⟩:=h
 have fsE:frs (cxOf (CXE P w) P w K mg base N qual scope f cd A outer s₀ H₀ E).stack=s₀.heap.objs.size::frs outer:=rfl
 have ltL:∀{b o},s₀.heap.get? b=some o->b≠s₀.heap.objs.size:=fun{b o} q=>Nat.ne_of_lt (Heap.lt_size q)
 have nst:∀{b o},s₀.heap.get? b=some o->b∉frs outer->b∉frs (cxOf (CXE P w) P w K mg base N qual scope f cd A outer s₀ H₀ E).stack:=fun{b o} q n hm=>by
  rw[fsE] at hm
  rcases List.mem_cons.mp hm with z | z
  ·exact ltL q z
  ·exact n z
 have bu:=I.base
 refine wpAny_leaves_onW (env:=envOfC qual scope s₀.heap.objs.size f cd) (outer:=outer) (L:=s₀.heap.objs.size) I.ok.frames rfl fl λh'' fl'' sm=> ?_
 have nf:∀{b},b∈frs (cxOf (CXE P w) P w K mg base N qual scope f cd A outer s₀ H₀ E).stack->∀o,s'.heap.get? b=some o->∀vs,o.data≠ .fields vs:=fun{b} hb o ho=>by
  obtain⟨_,o',ho',hd⟩:=fl.2.2.1.mem (b:=b) hb
  rw[ho] at ho';cases ho';exact hd
 refine⟨ea,C,a0,B,H',rfl,hos.trans I.os,hg,⟨?_,?_,?_,?_,?_,?_,?_⟩,hok,fl'',?_,?_,hE⟩
 ·intro b o q n nm _
  have q1:=bu.keep b o q n nm (by simp[cxOf])
  have n1:=bu.free b o q n (by simp[cxOf])
  exact fl''.1 b o (hBk b o q1 n1 (nst q nm))
 ·intro b o q n hm _
  obtain⟨sl,q1⟩:=bu.slot b o q n hm (by simp[cxOf])
  have n1:=bu.free b o q n (by simp[cxOf])
  have hm':b∈frs (cxOf (CXE P w) P w K mg base N qual scope f cd A outer s₀ H₀ E).stack:=by rw[fsE];exact List.mem_cons_of_mem _ hm
  obtain⟨sl2,q2⟩:=u.slot b _ q1 n1 hm' (by simp)
  obtain⟨sl3,q3⟩:=sm b _ q2 (nf hm' _ q2)
  exact⟨sl3,q3⟩
 ·intro b o q n _
  have n1:=bu.free b o q n (by simp[cxOf])
  obtain⟨o1,q1⟩:=bu.there b o q (by simp[cxOf])
  exact u.free b o1 q1 n1 (by simp)
 ·intro b o q _
  obtain⟨o1,q1⟩:=bu.there b o q (by simp[cxOf])
  by_cases hm:b∈frs outer
  ·have hm':b∈frs (cxOf (CXE P w) P w K mg base N qual scope f cd A outer s₀ H₀ E).stack:=by rw[fsE];exact List.mem_cons_of_mem _ hm
   obtain⟨o2,q2⟩:=u.there b o1 q1 (by simp)
   obtain⟨sl3,q3⟩:=sm b _ q2 (nf hm' _ q2)
   exact⟨_,q3⟩
  ·obtain⟨o2,q2⟩:=hB b o1 q1 (nst q hm)
   exact⟨o2,fl''.1 b o2 q2⟩
 ·intro b xs q;exact u.tups b xs (bu.tups b xs q)
 ·intro b o v q;exact u.frzs b o v (bu.frzs b o v q)
 ·intro b ps q
  obtain⟨m1,q1⟩:=bu.tbls b ps q
  obtain⟨m2,q2⟩:=u.tbls b _ q1
  exact⟨m1++m2,by rw[q2,Array.append_assoc]⟩
 ·intro b o q nm
  obtain⟨o1,q1⟩:=bu.there b o q (by simp[cxOf])
  exact hB b o1 q1 (nst q nm)
 ·intro b o q n nm
  have q1:=bu.keep b o q n nm (by simp[cxOf])
  have n1:=bu.free b o q n (by simp[cxOf])
  exact hBk b o q1 n1 (nst q nm)
theorem Fun.okE{x qual:Str}{st:Stmt}{f:Addr}{fd:FuncData}{N ps:List Str}{k:Nat}{sp:Sp}(F:Fun K x qual st f fd)(S:FnScope N ps (jac st))(len:∀vs H Q E,sp vs H Q E->vs.length=ps.length)
  (hbody:∀(cdv:Value) (A:Around) (outer:List Env) (s:Shared) (H:Hp) (vs:List V) (Q:VK) (E:XK),Room k (A.deeper (envOfC qual (jac st) s.heap.objs.size f cdv))->sp vs H Q E->
   ∃t,PSs (cxOf (CXE P w) P w K mg base N qual (jac st) f cdv A outer s H E) (jcy st) t /\ t {nx:=λ_ H'=>Q .non H',rt:=Q} (start N vs) H):FnOk P w K mg base (CXE P w) (k+1) f fd ps sp:=by
 obtain⟨oc,od,kV,doc,pm,an,cdv,ct,osl,rfl,lk,hcd⟩:=F.ex
 exact fn_of lk hcd S len λA outer s H vs Q E hr hsp=>hbody cdv A outer s H vs Q E hr hsp
theorem ownE:PassesOwn (model P w) (A.deeper (envOfC qual scope s₀.heap.objs.size f cd)) (envOfC qual scope s₀.heap.objs.size f cd) (cxOf (CXE P w) P w K mg base N qual scope f cd A outer s₀ H₀ E).xe:=PassesOwn.leaving
theorem cxe_out{H:Hp}{s:Shared}{e:Value}{s':Shared}(h:CXE P w [] H s (λ_ _ _=>False) e s'):False:=by
 obtain⟨_,_,_,_,_,_,_,_,_,_,_,_,_,h⟩:=h;exact h
end
def Its(z:Str):It:=⟨λi _=>i<z.length,λi H x H'=>H'=H /\ ∃c,z.cps[i]?=some c /\ x= .str ⟨#[c]⟩,λi _=>z.length<=i⟩
theorem jp0{P:Program}{w:World}{K:W.Frag}{tg:Expr}(z:Str)(t:Tok)(it:Addr):Turn P w K tg (Its z) [it] it (λi h=>h.IsStrIter it "str_ascii_iterator" z t i) where
 mem:=by simp
 obj:=λi h st b hb=>by
  have e:b=it:=by simpa using hb
  subst e
  obtain⟨o,e,c,d⟩:=st
  exact⟨o,e,λv z=>by rw[d] at z;cases z⟩
 keep:=λi h h' st k=>let ⟨o,ho,r⟩:=st;⟨o,k it (by simp) o ho,r⟩
 item:=by
  intro X hP hw hK hc i pins s σ H E I hf st hg
  subst hP hw hK
  obtain⟨f0,f1,f2,f3,f4,f5⟩:=hf it (by simp)
  have hi:i<z.cps.size:=hg
  refine wpAny_pyNext_ascii_item st (c:=z.cps[i]) (by simp[hi]) λh' st' sb=> ?_
  have I1:Inv X pins σ H {s with heap:=h',toks:=s.toks+1}:=I.turned (t':=s.toks+1) (λb o hb e=>(sb.2 b hb).trans e) f0 f1 f3 f4 f5
  obtain⟨o,e,c,d⟩:=id st'
  exact⟨_,rfl,jmm (s:={s with heap:=h',toks:=s.toks+1}) e c d (by decide) ⟨.str ⟨#[z.cps[i]]⟩,H,I1,⟨_,rfl⟩,⟨rfl,z.cps[i],by simp[hi],rfl⟩,st',λb hb=>(hf b hb).1⟩⟩
 done:=by
  intro X hP hw hK hc i pins s σ H E I hf st hg
  subst hP hw hK
  obtain⟨f0,f1,f2,f3,f4,f5⟩:=hf it (by simp)
  have hi:z.cps.size<=i:=hg
  exact wpAny_pyNext_ascii_end (I.ok.hd hc) st (by simp;omega) λh' eb=>⟨rfl,I.turned (t':=s.toks) (λb o hb e=>eb b o hb e) f0 f1 f3 f4 f5⟩
 self:=λ_ _ _ _ _ st h=>wpAny_pyIter_striter_ascii st h
theorem jpj{P:Program}{w:World}{K:W.Frag}{tg:Expr}(z:Str)(t:Tok)(it:Addr):Turn P w K tg (Its z) [it] it (λi h=>h.IsStrIter it "str_iterator" z t i) where
 mem:=by simp
 obj:=λi h st b hb=>by
  have e:b=it:=by simpa using hb
  subst e
  obtain⟨o,e,c,d⟩:=st
  exact⟨o,e,λv z=>by rw[d] at z;cases z⟩
 keep:=λi h h' st k=>let ⟨o,ho,r⟩:=st;⟨o,k it (by simp) o ho,r⟩
 item:=by
  intro X hP hw hK hc i pins s σ H E I hf st hg
  subst hP hw hK
  obtain⟨f0,f1,f2,f3,f4,f5⟩:=hf it (by simp)
  have hi:i<z.cps.size:=hg
  refine wpAny_pyNext_wide_item st (c:=z.cps[i]) (by simp[hi]) λh' st' sb=> ?_
  have I1:Inv X pins σ H {s with heap:=h',toks:=s.toks+1}:=I.turned (t':=s.toks+1) (λb o hb e=>(sb.2 b hb).trans e) f0 f1 f3 f4 f5
  obtain⟨o,e,c,d⟩:=id st'
  exact⟨_,rfl,jmm (s:={s with heap:=h',toks:=s.toks+1}) e c d (by decide) ⟨.str ⟨#[z.cps[i]]⟩,H,I1,⟨_,rfl⟩,⟨rfl,z.cps[i],by simp[hi],rfl⟩,st',λb hb=>(hf b hb).1⟩⟩
 done:=by
  intro X hP hw hK hc i pins s σ H E I hf st hg
  subst hP hw hK
  obtain⟨f0,f1,f2,f3,f4,f5⟩:=hf it (by simp)
  have hi:z.cps.size<=i:=hg
  exact wpAny_pyNext_wide_end (I.ok.hd hc) st (by simp;omega) λh' eb=>⟨rfl,I.turned (t':=s.toks) (λb o hb e=>eb b o hb e) f0 f1 f3 f4 f5⟩
 self:=λ_ _ _ _ _ st h=>wpAny_pyIter_striter_wide st h
def iV(K:W.Frag)(tl:TE):TI:=λσ H R=>tl σ H λx H1=>(∃a,x= .ref a /\ (((∃xs,SqL K H1 a xs) /\ R (Itl K a) H1) \/ ((∃xs,SqT K H1 a xs) /\ R (Itt K a) H1))) \/ ∃z,x= .str z /\ R (Its z) H1
section
variable {X : Cx}
theorem pi_V{tg l:Expr}{tl:TE}(hl:PE X l tl):PI X tg l (iV X.K tl):=by
 intro pins s σ H R I h
 refine thn (hl pins s σ H _ I h) λv s1 ⟨x,H1,I1,r1,q1⟩=> ?_
 have fp:∀b∈[s1.heap.objs.size],FpOk X pins H1 b:=λb hb=>by
  have e:b=s1.heap.objs.size:=by simpa using hb
  subst e
  exact I1.fpOk (Nat.le_refl _) (I1.hok.fresh (Nat.le_refl _))
 rcases q1 with⟨a,e,q⟩ | ⟨z,e,q⟩
 ·subst e
  cases r1
  rcases q with⟨⟨xs,hq⟩,q⟩ | ⟨⟨xs,hq⟩,q⟩
  ·obtain⟨its,rv,p,hz⟩:=I1.list hq
   refine wpAny_pyIter_list p.isList ?_
   exact⟨s1.heap.objs.size,[s1.heap.objs.size],_,_,H1,rfl,I1.kept (t':=s1.toks) λb o e=>Heap.get?_push_of_some _ e,joj a _,⟨_,Heap.get?_push_size _ rfl,rfl,rfl⟩,fp,q⟩
  ·obtain⟨its,rv,p,hz⟩:=I1.tuple hq
   refine wpAny_pyIter_tuple (show s1.heap.IsTuple a its.toArray from p) ?_
   exact⟨s1.heap.objs.size,[s1.heap.objs.size],_,_,H1,rfl,I1.kept (t':=s1.toks) λb o e=>Heap.get?_push_of_some _ e,jo2 a _,⟨_,Heap.get?_push_size _ rfl,rfl,rfl⟩,fp,q⟩
 ·subst e
  obtain⟨t,rfl⟩:=r1
  cases ha:z.cps.all (·<128)
  ·exact wpAny_pyIter_wide ha ⟨s1.heap.objs.size,[s1.heap.objs.size],_,_,H1,rfl,I1.kept (t':=s1.toks) λb o e=>Heap.get?_push_of_some _ e,jpj z t _,⟨_,Heap.get?_push_size _ rfl,rfl,rfl⟩,fp,q⟩
  ·exact wpAny_pyIter_ascii ha ⟨s1.heap.objs.size,[s1.heap.objs.size],_,_,H1,rfl,I1.kept (t':=s1.toks) λb o e=>Heap.get?_push_of_some _ e,jp0 z t _,⟨_,Heap.get?_push_size _ rfl,rfl,rfl⟩,fp,q⟩
/-! ### f"..{x}.." -/
end
section
variable {X : Cx}
theorem sl_txt:SlR X rSlS:=by
 intro pins s σ H x v vl vu lo hi sl Q I rx hs pl pu h
 obtain⟨z,rfl,hz,q⟩:=h
 obtain⟨t,rfl⟩:=rx
 refine⟨"str",_,F.slot_str_getitem.lookup,typeIs_str _ _ _,?_⟩
 obtain⟨l,rfl,rfl⟩:∃l:Option (Int×Tok),vl=partValue l /\ lo=l.map (·.1):=by
  cases pl with
  | none=>exact⟨none,rfl,rfl⟩
  | int i t=>exact⟨some (i,t),rfl,rfl⟩
 obtain⟨u,rfl,rfl⟩:∃l:Option (Int×Tok),vu=partValue l /\ hi=l.map (·.1):=by
  cases pu with
  | none=>exact⟨none,rfl,rfl⟩
  | int i t=>exact⟨some (i,t),rfl,rfl⟩
 exact wpAny_getItem_str_slice (l:=l) (u:=u) (st:=none) hs rfl (post_val_or_str ⟨Nat.le_trans (Txt.slice_le z _ _) hz,λt' k=>⟨.str _,H,I.tok k,⟨t',rfl⟩,q⟩⟩)
def uSlS(K:W.Frag):V->Option Int->Option Int->Hp->VK->Prop:=λx lo hi H Q=>uSl K x lo hi H Q \/ rSlS x lo hi H Q
theorem sl_S:SlR X (uSlS X.K):=SlR.or sl_U sl_txt
end
def Ite(K:W.Frag)(a:Addr):It:=
 ⟨λi H=>∃xs x,SqL K H a xs /\ xs[i]?=some x,λi H v H'=>∃p x,H p=none /\ (∀xs,SqL K H a xs->xs[i]?=some x) /\ v= .ref p /\ H'=upd H p (.tup [.int i,x]),λi H=>∃xs,SqL K H a xs /\ xs.length<=i⟩
theorem jpp{P:Program}{w:World}{K:W.Frag}{elts:List Expr}{x1}{tpos:Pos}(a en it:Addr)(hne:en≠it):Turn P w K (.Tuple elts x1 tpos) (Ite K a) [en,it] en (λi h=>∃old,IsEnum h en it ((i:Nat):Int) old /\ h.IsListIter it a i) where
 mem:=by simp
 obj:=λi h st b hb=>by
  obtain⟨old,h1,h2⟩:=st
  rcases List.mem_cons.mp hb with rfl | hb
  ·exact⟨_,h1,λv z=>by
    have z':Data.fields _=Data.cell v:=z
    cases z'⟩
  ·have e:b=it:=by simpa using hb
   subst e
   obtain⟨o,e,c,d⟩:=h2
   exact⟨o,e,λv z=>by rw[d] at z;cases z⟩
 keep:=λi h h' st k=>by
  obtain⟨old,h1,h2⟩:=st
  exact⟨old,k en (by simp) _ h1,h2.at λo e=>k it (by simp) o e⟩
 item:=by
  intro X hP hw hK hc i pins s σ H E I hf st hg
  subst hP hw hK
  obtain⟨xs,x,hq,hx⟩:=hg
  obtain⟨its,rv,p,hz⟩:=I.list hq
  obtain⟨u,hu,ru⟩:=rv.get hx
  obtain⟨old,he,hit⟩:=st
  have g0:=hf en (by simp)
  have f0:=hf it (by simp)
  refine wpAny_pyNext_enum_item he hit p.isList (x:=u) (by simpa using hu) hne λh₁ heo hit₁ ht₁ hz₁ hk₁=> ?_
  refine⟨.ref s.heap.objs.size,rfl,wpAny_letOwnedTupleGo_enum heo λh₂ he₂ hs₂=> ?_⟩
  replace hs₂:Heap.SameBut en h₁ h₂:=hs₂
  have fr:H s.heap.objs.size=none:=I.hok.fresh (Nat.le_refl _)
  have kp:∀b o,b≠en->b≠it->s.heap.get? b=some o->h₂.get? b=some o:=λb o n1 n2 e=>hs₂.extBut b o n1 (hk₁ b o n1 n2 e)
  have enlt:en<s.heap.objs.size:=Heap.lt_size he
  have tup:h₂.get? s.heap.objs.size=some {cls:= .type "tuple",data:= .seq #[.int i s.toks,u]}:=hs₂.extBut _ _ (Nat.ne_of_gt enlt) ht₁
  have tr:∀{b u},H b=some u->b≠en /\ b≠it:=fun{b u} e=>⟨λz=>(by rw[z,g0.1] at e;cases e),λz=>(by rw[z,f0.1] at e;cases e)⟩
  have hok:HOk X.prog X.w (upd H s.heap.objs.size (.tup [.int i,x])) h₂:=by
   intro b o e
   by_cases hb:b=s.heap.objs.size
   ·subst hb
    rw[jap] at e;cases e
    exact⟨(show 2<=sizeLine by decide),[.int i s.toks,u],.cons ⟨_,rfl⟩ (.cons ru .nil),⟨_,tup,rfl,_,rfl⟩⟩
   ·rw[jad hb] at e
    refine(I.hok b o e).stay (λc v hcc q=> ?_) (λc q=>by rw[jad (jb4 q fr)];exact q) λc ys q=>by rw[jad (jb4 q fr)];exact q
    have t:c≠en /\ c≠it:=by
     rcases hcc with rfl | hcc
     ·exact tr e
     ·exact tr hcc
    exact kp c v t.1 t.2 q
  have un:Un (frs X.stack) [en,it] H (upd H s.heap.objs.size (.tup [.int i,x])) s.heap h₂:=by
   have nx:∀{b:Addr},b∉[en,it]->b≠en /\ b≠it:=fun{b} hb=>⟨λz=>hb (by simp[z]),λz=>hb (by simp[z])⟩
   refine⟨λb o e _ _ hb=>kp b o (nx hb).1 (nx hb).2 e,λb o e _ _ hb=>⟨o.slots,kp b o (nx hb).1 (nx hb).2 e⟩,λb o e n _=> ?_,λb o e hb=>⟨o,kp b o (nx hb).1 (nx hb).2 e⟩,λb ys e=> ?_,λb o v e=> ?_,λb ps e=>⟨#[],?_⟩⟩
   ·rw[jad (Nat.ne_of_lt (Heap.lt_size e))];exact n
   ·rw[jad (jb4 e fr)];exact e
   ·rw[jad (jb4 e fr)];exact e
   ·rw[jad (jb4 e fr)];simpa using e
  have I2:Inv X pins σ (upd H s.heap.objs.size (.tup [.int i,x])) {s with heap:=h₂,toks:=s.toks+1}:=
   I.call' (s':={s with heap:=h₂,toks:=s.toks+1}) (ch:=[en,it]) rfl un hok I.bare λb hb=>⟨(hf b hb).2.2.2.1,(hf b hb).2.1,(hf b hb).2.2.2.2.1,(hf b hb).2.2.2.2.2⟩
  refine⟨.ref s.heap.objs.size,_,I2,rfl,⟨s.heap.objs.size,x,fr,λys hy=>by rw[I.list_inj hy hq];exact hx,rfl,rfl⟩,⟨u,?_,?_⟩,λb hb=> ?_⟩
  ·have:((i+1:Nat):Int)=(i:Int)+1:=by push_cast;rfl
   rw[this];exact he₂
  ·exact hit₁.extBut hs₂.extBut (Ne.symm hne)
  ·have:b<s.heap.objs.size:=by
    rcases List.mem_cons.mp hb with rfl | hb
    ·exact enlt
    ·have e:b=it:=by simpa using hb
     subst e
     obtain⟨o,e,_⟩:=hit
     exact Heap.lt_size e
   rw[jad (Nat.ne_of_lt this)];exact(hf b hb).1
 done:=by
  intro X hP hw hK hc i pins s σ H E I hf st hg
  subst hP hw hK
  obtain⟨xs,hq,hx⟩:=hg
  obtain⟨its,rv,p,hz⟩:=I.list hq
  obtain⟨f0,f1,f2,f3,f4,f5⟩:=hf it (by simp)
  have hl:=rv.length
  obtain⟨old,he,hit⟩:=st
  exact wpAny_pyNext_enum_end (I.ok.hd hc) he hit p.isList (by simp;omega) λh' eb=>⟨rfl,I.turned (t':=s.toks) (λb o hb e=>eb b o hb e) f0 f1 f3 f4 f5⟩
 self:=λ_ _ _ _ _ st h=>by
  obtain⟨old,he,_⟩:=st
  exact wpAny_pyIter_enum he h
theorem jkp:bootBuiltins "enumerate"=some (.type "enumerate"):=by decide+kernel
def jsx(K:W.Frag)(ta:TA):TI:=λσ H R=>ta σ H λvs H1=>∃a xs,vs=[.ref a] /\ SqL K H1 a xs /\ R (Ite K a) H1
theorem jhp{X:Cx}{elts:List Expr}{x1}{tpos:Pos}{e:Expr}{ta:TA}{p pos:Pos}(hg:Gl X "enumerate")(hm:X.mg "enumerate"=none)(ha:PA X [e] ta)
  (hs:starEach [e] X.env=[(false,eval e X.env)]:=by rfl):PI X (.Tuple elts x1 tpos) (.Call (.Name "enumerate" p) [e] [] pos) (jsx X.K ta):=by
 intro pins s σ H R I h
 refine Call_ (jgj I hg hm jkp (PyProof.Rows.callWith_type1 (thn (ha pos pins s σ H _ I h) λus s1 ⟨vs,H1,I1,r1,q1⟩=> ?_) hs rfl))
 obtain⟨a,xs,rfl,hq,q⟩:=q1
 cases r1 with
 | cons r rr=>
  cases rr
  cases r
  obtain⟨its,rv,pl,hz⟩:=I1.list hq
  refine call_enumerate_list pl.isList λh' he hit hsz kp=>wpAny_pyIter_enum (s:={s1 with heap:=h'}) he ?_
  have I2:Inv X pins σ H1 {s1 with heap:=h'}:=I1.kept (t':=s1.toks) kp
  refine⟨s1.heap.objs.size+1,[s1.heap.objs.size+1,s1.heap.objs.size],_,_,H1,rfl,I2,jpp a _ _ (Nat.succ_ne_self _),⟨_,he,hit⟩,λb hb=> ?_,q⟩
  have hb':s1.heap.objs.size<=b:=by
   rcases List.mem_cons.mp hb with rfl | hb
   ·omega
   ·have e:b=s1.heap.objs.size:=by simpa using hb
    exact Nat.le_of_eq e.symm
  exact I1.fpOk hb' (I1.hok.fresh hb')
theorem jfy{X:Cx}{K:W.Frag}{tg e:Expr}{ta:TA}(k:X.K=K)(h:PI X tg e (jsx X.K ta)):PI X tg e (jsx K ta):=by subst k;exact h
theorem jw9{X:Cx}{K:W.Frag}{tg e:Expr}{ta:TA}(k:X.K=K)(h:PI X tg e (iRev X.K ta)):PI X tg e (iRev K ta):=by subst k;exact h
section
variable {prog : Program} {w : World} {A : Around} {E : Value -> Shared -> Prop}
theorem jkc{it l:Addr}{items:Array Value}(hne:l≠it):∀(n i:Nat) (s:Shared) (Q:List Value->Shared->Prop),s.heap.IsListIter it l i->s.heap.IsList l items->i+n<=items.size->
  (∀h',h'.IsListIter it l (i+n)->Heap.SameBut it s.heap h'->Q ((items.toList.drop i).take n) {s with heap:=h'})->wpAny (model prog w) A (draw (.ref it) n) Q E s
 | 0,i,s,Q,hit,_,_,hQ=>by
  show wpAny _ _ (pure []) Q E s
  exact wpAny_pure (by simpa using hQ s.heap hit (Heap.SameBut.refl ..))
 | n+1,i,s,Q,hit,hl,hle,hQ=>by
  have hlt:i<items.size:=by omega
  show wpAny _ _ (pyNext (.ref it) >>= _) Q E s
  refine wpAny_bind (wpAny_pyNext_list_item hit hl (x:=items[i]) (by simp[hlt]) λh₁ hit₁ hs₁=> ?_)
  refine wpAny_bind (wpAny_holding (jkc hne n (i+1) _ _ hit₁ (hl.extBut hs₁.extBut hne) (by omega) λh₂ hit₂ hs₂=>wpAny_pure ?_))
  have hd:items.toList.drop i=items[i]::items.toList.drop (i+1):=by simp[List.drop_eq_getElem_cons,hlt]
  have:=hQ h₂ (by rw[show i+(n+1)=i+1+n by omega];exact hit₂) (hs₁.trans hs₂)
  rw[hd,List.take_succ_cons] at this
  exact this
theorem jgu{s:Shared}{l:Addr}{items:Array Value}{Q:List Value->Shared->Prop}(hh:A.handled=none)(hl:s.heap.IsList l items)
  (hQ:∀h',Heap.ExtBut s.heap.objs.size s.heap h'->Q items.toList {s with heap:=h'}):wpAny (model prog w) A (unpackItems (.ref l) items.size none) Q E s:=by
 have hlt:l≠s.heap.objs.size:=by obtain⟨o,ho,_⟩:=hl;exact Nat.ne_of_lt (Heap.lt_size ho)
 unfold unpackItems
 refine wpAny_bind ?_
 ·unfold notIterableAtAll
  refine wpAny_bind (wpAny_specialOf hl.typeIs slot_list_iter.lookup ?_)
  refine wpAny_pure ?_
  simp only[Bool.false_eq_true,if_false]
  refine wpAny_bind (wpAny_holding (wpAny_pyIter_list hl ?_))
  refine wpAny_bind (wpAny_holding (jkc hlt items.size 0 _ _ ⟨_,Heap.get?_push_size _ rfl,rfl,rfl⟩ (hl.push _) (by omega) λh₁ hit₁ hs₁=> ?_))
  have hall:List.take items.size (List.drop 0 items.toList)=items.toList:=by
   rw[List.drop_zero];exact List.take_of_length_le (by simp)
  rw[hall]
  rw[if_neg (by simp)]
  have hl₁:h₁.IsList l items:=(hl.push _).extBut hs₁.extBut hlt
  refine wpAny_bind (wpAny_holding (wpAny_pyNext_list_end hh hit₁ hl₁ (by simp) λh₂ he₂=> ?_))
  simp only[Option.isSome_none,Bool.false_eq_true,if_false]
  refine wpAny_pure (hQ h₂ λb o hb e=>he₂ b o hb (hs₁.extBut b o hb (Heap.get?_push_of_some _ e)))
end
def gSeq(K:W.Frag)(n:Nat)(t:TGs):TG:=λv σ H Q=>∃a xs,v= .ref a /\ (SqT K H a xs \/ SqL K H a xs) /\ xs.length=n /\ t xs σ H Q
theorem jj3{X:Cx}{pos:Pos}{es:List Expr}{k:Nat}{t:TGs}{n:Nat}(hc:X.calm=true)(h:PGs X es t)
  (hn:(assignEach es X.env).length=n:=by rfl) (hst:(assignEach es X.env).findIdx? (·.1)=none:=by rfl):PG X (.Tuple es k pos) (gSeq X.K n t):=by
 intro pins s σ H v u Q I r hw
 obtain⟨a,xs,e1,hq,hl,hw⟩:=hw
 subst e1
 rcases hq with hq | hq
 ·exact pg_tup (n:=n) hc h hn hst pins s σ H (.ref a) u Q I r ⟨a,xs,rfl,hq,hl,hw⟩
 ·cases r
  obtain⟨its,rv,p,hz⟩:=I.list hq
  rw[PyProof.Rows.assign_Tuple]
  refine wpAny_bind (wpAny_standAt ?_)
  unfold unpack
  have hsz:(assignEach es X.env).length=its.toArray.size:=by simp[hn,<-hl,rv.length]
  rw[hsz,hst]
  refine wpAny_bind (wpAny_holding (jgu (I.ok.hd hc) p.isList λh' hx=> ?_))
  have I1:Inv X pins σ H {s with heap:=h'}:=I.kept (t':=s.toks) λb o e=>hx b o (Nat.ne_of_lt (Heap.lt_size e)) e
  exact h pins _ σ H xs _ Q I1 (by simpa using rv) hw
theorem jgc{X:Cx}{K:W.Frag}{tg:Expr}{n:Nat}{t:TGs}(k:X.K=K)(h:PG X tg (gSeq X.K n t)):PG X tg (gSeq K n t):=by subst k;exact h
def GOks(nt:Nat)(g:TGs):Prop:=∀xs σ H Q (σ0:St),(σ.length=σ0.length /\ ∀i,nt<=i->σ[i]?=σ0[i]?)->g xs σ H Q->g xs σ H λσ' H'=>Q σ' H' /\ σ'.length=σ0.length /\ ∀i,nt<=i->σ'[i]?=σ0[i]?
theorem js6{nt:Nat}:GOks nt gNil:=λxs σ H Q σ0 k ⟨e,q⟩=>⟨e,q,k⟩
theorem jll{nt i:Nat}{u:TGs}(h:i<nt)(r:GOks nt u):GOks nt (jva (ja8 i) u):=λxs σ H Q σ0 k ⟨v,r',e,q⟩=>
 ⟨v,r',e,r r' _ H Q σ0 ⟨by simp[k.1],λj hj=>by rw[List.getElem?_set_ne (by omega)];exact k.2 j hj⟩ q⟩
theorem juq{nt n:Nat}{K:W.Frag}{u:TGs}(r:GOks nt u):GOk nt (gSeq K n u):=λx σ H Q ⟨a,xs,e,hq,hl,q⟩=>⟨a,xs,e,hq,hl,r xs σ H Q σ ⟨rfl,λ_ _=>rfl⟩ q⟩
theorem jau{X:Cx}{K:W.Frag}{e:Expr}{ta:TE}{f:Str}(k:X.K=K)(h:PE X e (tFld X.K ta f)):PE X e (tFld K ta f):=by subst k;exact h
theorem jck{X:Cx}{K:W.Frag}{e:Stmt}{ta tv:TE}{f:Str}(k:X.K=K)(h:PS X e (sFld X.K ta tv f)):PS X e (sFld K ta tv f):=by subst k;exact h
theorem pe_mdK{X:Cx}{P:Program}{w:World}{K:W.Frag}{mg:Str->Option Value}{base:Heap}{CX:CXT}{k:Nat}{m:Str}{E:XK}{e:Expr}{ta:TE}{t:TA}(h1:X.prog=P)(h2:X.w=w)(h3:X.K=K)(h4:X.mg=mg)(h5:X.base=base)
  (h:PE X e (jha X.prog X.w X.K X.mg X.base CX k m E ta t)):PE X e (jha P w K mg base CX k m E ta t):=by subst h1 h2 h3 h4 h5;exact h
theorem jpg:typeLookup (.type "list_reverseiterator") "__len__"=pure none:=by rw[typeLookup_type,builtinLookup_eq_fast];kernel_rfl
theorem jrm:typeLookup (.type "list_reverseiterator") "__length_hint__"=pure (some (.builtin "list_reverseiterator.__length_hint__")):=by rw[typeLookup_type,builtinLookup_eq_fast];kernel_rfl
section
variable {prog : Program} {w : World} {A : Around} {s : Shared} {R : Result -> Shared -> Prop}
variable {I : Addr} {fp wr : List Addr} {G : Array GenState -> Array GenState -> Prop} {n : Nat} {P : Nat -> Value -> Prop} {St : Nat -> Shared -> Prop}
theorem jnm(W:WalksS prog w A.in1 I fp wr G n P St)(hT:∀i s,St i s->s.TypeIs (.ref I) "list_reverseiterator")(S:Addr)(res:Value)(c₀:Nat)(hst:St 0 s)(hSf:S∉fp)(hI:I∈fp)
  (hS:s.heap.get? S=some {cls:= .type "list",data:= .seq #[] c₀})
  (hR:∀s' acc' c',Moved (S::wr) G s s'->s'.heap.get? S=some {cls:= .type "list",dict:=none,data:= .seq acc' c',slots:=#[]}->ItemsOf P acc' n->R (.ok (.ret res)) s') (hn:n<=sizeLine):
  wpAny (model prog w) A.in1 (Builtin.List.listExtendWith (.ref S) (.ref I) res)
   (λfin s'=>match fin with | .done f=>R (.ok f) s' | .again c'=>c'.quiet=true /\ codeAny (model prog w) A c' R s') (λe s'=>R (.error e) s') s:=by
 have hSI:S≠I:=λe=>hSf (e▸hI)
 unfold Builtin.List.listExtendWith
 refine wpAny_bind (wpAny_typeOf (hT 0 _ hst) ?_)
 have h1:Builtin.List.listSameRef (.ref S) (.ref I)=false:=by simp[Builtin.List.listSameRef,hSI]
 rw[if_neg (by rw[h1];decide)]
 refine wpAny_bind (W.self 0 _ _ _ hst ?_)
 refine wpAny_bind (wpAny_holding ?_)
 unfold Builtin.List.listLengthHint
 refine wpAny_bind (wpAny_specialOf (hT 0 _ hst) jpg ?_)
 show wpAny _ A.in1 (specialOf (Value.ref I) (Str.ofString "__length_hint__") >>= _) _ _ _
 refine wpAny_bind (wpAny_specialOf (hT 0 _ hst) jrm ?_)
 (generalize hid:("list_reverseiterator.__length_hint__":String)=id0;(fail_if_success (clear hid id0));wp_delta;rw[show splitId id0=some ("list_reverseiterator","__length_hint__") from by subst hid;decide+kernel];subst hid)
 refine wpAny_bind (wpAny_isInstance (b:=true) (hT 0 _ hst) (by rw[isSubtype_type];kernel_rfl) ?_)
 refine wpAny_pure ?_
 rw[if_neg (by decide)]
 exact wpAny_pure ⟨plainId_quiet F.plain_extend_loop _,codeAny_extend_loopS W hn _ hSf _ n 0 _ _ _ rfl (Nat.zero_le _) hst hS (ItemsOf.nil P) hR⟩
theorem jk3(W:WalksS prog w A.in1 I fp wr G n P St)(hT:∀i s,St i s->s.TypeIs (.ref I) "list_reverseiterator")(S:Addr)(hst:St 0 s)(hSf:S∉fp)(hI:I∈fp)
  (hS:s.heap.get? S=some {cls:= .type "list",data:= .seq #[]})
  (hR:∀s' acc' c',Moved (S::wr) G s s'->s'.heap.get? S=some {cls:= .type "list",dict:=none,data:= .seq acc' c',slots:=#[]}->ItemsOf P acc' n->R (.ok (.ret .none)) s') (hn:n<=sizeLine):
  wpAny (model prog w) A.in1 (Builtin.«list.__init__» ⟨[.ref S,.ref I],[]⟩)
   (λfin s'=>match fin with | .done f=>R (.ok f) s' | .again c'=>c'.quiet=true /\ codeAny (model prog w) A c' R s') (λe s'=>R (.error e) s') s:=by
 show wpAny _ A.in1 (do let old<-Builtin.List.listItems (.ref S);Builtin.List.listUpdate (.ref S) (λ_=>#[]);letGo old.toList.reverse;Builtin.List.listExtendWith (.ref S) (.ref I) .none) _ _ s
 refine wpAny_bind ?_
 unfold Builtin.List.listItems
 refine wpAny_bind (wpAny_seqItems hS rfl (wpAny_pure ?_))
 show wpAny _ A.in1 (updateSeq S (λ_=>#[]) >>= λ_=>letGo (#[]:Array Value).toList.reverse >>= λ_=>Builtin.List.listExtendWith (.ref S) (.ref I) .none) _ _ s
 refine wpAny_bind (wpAny_updateSeq hS rfl ?_)
 have hS₂:=Heap.get?_update_self (Obj.mapSeq (λ_=>(#[]:Array Value))) hS rfl
 have oth:∀b o,b≠S->s.heap.get? b=some o->(s.heap.update S (Obj.mapSeq (λ_=>(#[]:Array Value)))).get? b=some o:=
  λb o hb e=>(Heap.get?_update_other _ _ (Ne.symm hb)).trans e
 refine wpAny_bind (wpAny_letGo ?_)
 refine jnm (hn:=hn) W hT S .none _ (W.frame 0 s _ s.toks hst (Nat.le_refl _) λb hb o e=>oth b o (λh=>hSf (h▸hb)) e) hSf hI hS₂ λs' acc' c' hm hS' hacc=> ?_
 exact hR s' acc' c' (Moved.trans W.gtrans ((Moved.refl W.grefl).then_heap (Nat.le_refl _) λb o hb e=>oth b o (λh=>hb (h▸List.mem_cons_self)) e) hm) hS' hacc
end
section
variable {prog : Program} {w : World} {A : Around} {E : Value -> Shared -> Prop} {s : Shared}
theorem jjn{Q:Value->Shared->Prop}{it l:Addr}{items:Array Value}(hh:A.handled=none)(hne:l≠it)(hit:s.heap.IsRevIter it l ((items.size:Int) - 1))(hl:s.heap.IsList l items)(hn:items.size<=sizeLine)
  (hQ:∀h' tk acc' c',(∀b o,b≠it->s.heap.get? b=some o->h'.get? b=some o)->h'.get? s.heap.objs.size=some {cls:= .type "list",dict:=none,data:= .seq acc' c',slots:=#[]}->
   ItemsOf (λi v=>items[items.size - 1 - i]?=some v) acc' items.size->Q (.ref s.heap.objs.size) {s with heap:=h',toks:=tk}):
  wpAny (model prog w) A (call (.type "list") [.ref it]) Q E s:=by
 have W:=(Walks.listRev (prog:=prog) (w:=w) (A:=A.in1.in1) hh it l hne items).toS
 have hst:(0:Nat)<=items.size /\ s.heap.IsRevIter it l ((items.size:Int) - 1 - ((0:Nat):Int)) /\ s.heap.IsList l items:=⟨Nat.zero_le _,by simpa using hit,hl⟩
 have hfp:∀b∈[it,l],b<s.heap.objs.size:=λb hb=>by
  rcases List.mem_cons.mp hb with rfl | hb
  ·obtain⟨o,ho,_⟩:=hit;exact Heap.lt_size ho
  ·rw[List.mem_singleton.mp hb];obtain⟨o,ho,_⟩:=hl;exact Heap.lt_size ho
 have hSf:s.heap.objs.size∉[it,l]:=λhm=>Nat.lt_irrefl _ (hfp _ hm)
 refine callType_codes (Q₁:=λobj s₁=>obj= .ref s.heap.objs.size /\ s₁={s with heap:=s.heap.push {cls:= .type "list",data:= .seq #[]}}) F.called_list (F.typeCall_list_1 _) F.entry_list_init
  (code_list_new _ ⟨rfl,rfl⟩) λobj s₁ h₁=> ?_
 obtain⟨rfl,rfl⟩:=h₁
 have hS:(s.heap.push {cls:= .type "list",data:= .seq #[]}).get? s.heap.objs.size=some {cls:= .type "list",data:= .seq #[]}:=Heap.get?_push_size _ rfl
 refine⟨⟨_,hS,rfl⟩,F.args_list_init_2 _ _,jk3 (A:=A.in1) (hn:=hn) W (λi s x=>Heap.IsRevIter.typeIs x.2.1) _ (W.frame 0 s _ s.toks hst (Nat.le_refl _) λb _ o e=>Heap.get?_push_of_some _ e) hSf (by simp) hS λs' acc' c' hm hS' hacc=> ?_⟩
 refine⟨rfl,?_⟩
 rw[Moved.eq_with hm]
 refine hQ s'.heap s'.toks acc' c' (λb o hb e=> ?_) hS' hacc
 refine hm.heap b o (λz=> ?_) (Heap.get?_push_of_some _ e)
 rcases List.mem_cons.mp z with z | z
 ·exact absurd (Heap.lt_size e) (by rw[z];exact Nat.lt_irrefl _)
 ·exact hb (List.mem_singleton.mp z)
end
section
variable {X : Cx}
theorem jt5{xs:List V}{its:List Value}(r:Vals xs its){acc:Array Value}(h:ItemsOf (λi v=>its.toArray[its.toArray.size - 1 - i]?=some v) acc its.toArray.size):Vals xs.reverse acc.toList:=by
 have e:acc.toList=its.reverse:=by
  apply List.ext_getElem?
  intro i
  have hsz:=h.1
  simp only[List.size_toArray] at hsz
  by_cases hi:i<its.length
  ·have e1:acc.toList[i]?=some (acc[i]'(by omega)):=by rw[Array.getElem?_toList,Array.getElem?_eq_getElem (by omega)]
   have e2:=h.2 i _ (Array.getElem?_eq_getElem (show i<acc.size by omega))
   rw[e1,<-e2]
   simp only[List.size_toArray,List.getElem?_toArray]
   rw[List.getElem?_reverse hi]
  ·rw[List.getElem?_eq_none (by simp;omega),List.getElem?_eq_none (by simp;omega)]
 rw[e]
 clear h e
 induction r with
 | nil=>exact .nil
 | cons r rr ih=>
  rw[List.reverse_cons,List.reverse_cons]
  exact ih.append (.cons r .nil)
def jh7(K:W.Frag)(ta:TA):TE:=λσ H Q=>ta σ H λvs H1=>∃a xs,vs=[.ref a] /\ SqL K H1 a xs /\ ∀l,H1 l=none->Q (.ref l) (upd H1 l (.lst xs.reverse))
theorem jiv{e:Expr}{ta:TA}{p p2 pos pos2:Pos}(hc:X.calm=true)(hgl:Gl X "list")(hml:X.mg "list"=none)(hgr:Gl X "reversed")(hmr:X.mg "reversed"=none)(ha:PA X [e] ta)
  (hs:starEach [e] X.env=[(false,eval e X.env)]:=by rfl)
  (hs2:starEach [.Call (.Name "reversed" p2) [e] [] pos2] X.env=[(false,eval (.Call (.Name "reversed" p2) [e] [] pos2) X.env)]:=by rfl):
  PE X (.Call (.Name "list" p) [.Call (.Name "reversed" p2) [e] [] pos2] [] pos) (jh7 X.K ta):=by
 intro pins s σ H Q I h
 refine wpAny_Call_Name_kw (jgj I hgl hml jmg ?_)
 refine PyProof.Rows.callWith_type1 ?_ hs2 rfl
 rw[hs2]
 show wpAny _ _ (spliced ((false,eval (.Call (.Name "reversed" p2) [e] [] pos2) X.env)::[])) _ _ s
 refine Calls.spliced_cons (Call_ (jgj I hgr hmr ji9 (PyProof.Rows.callWith_type1 (thn (ha pos2 pins s σ H _ I h) λus s1 ⟨vs,H1,I1,r1,q1⟩=> ?_) hs rfl)))
 obtain⟨a,xs,rfl,hq,q⟩:=q1
 obtain⟨u,rfl,rx⟩:=jl3 r1
 cases rx
 obtain⟨its,rv,pl,hz⟩:=I1.list hq
 have hlen:=rv.length
 refine call_reversed_list pl.isList ?_
 refine Calls.spliced_nil ?_
 have hne:a≠s1.heap.objs.size:=by
  obtain⟨o,ho,_⟩:=pl.isList
  exact Nat.ne_of_lt (Heap.lt_size ho)
 have pl':=pl.isList
 refine jjn (l:=a) (items:=its.toArray) (I.ok.hd hc) hne ⟨_,Heap.get?_push_size _ rfl,rfl,rfl⟩ (pl'.at λo e=>Heap.get?_push_of_some _ e) (by rw[List.size_toArray,<-hlen];exact hz) λh' tk acc' c' hk hS hacc=> ?_
 rw[Heap.size_push] at hS
 have kp:∀b o,s1.heap.get? b=some o->h'.get? b=some o:=λb o e=>hk b o (Nat.ne_of_lt (Heap.lt_size e)) (Heap.get?_push_of_some _ e)
 refine⟨.ref _,_,I1.laid (t':=tk) kp (a:=s1.heap.objs.size+1) (o:= .lst xs.reverse) (Nat.le_succ _) ⟨by simpa using hz,acc'.toList,c',jt5 rv hacc,by simpa using hS⟩,?_,q _ (I1.hok.fresh (Nat.le_succ _))⟩
 show Value.ref _=Value.ref _
 rw[Heap.size_push]
end
theorem jk2{i:Int}{v:Value}(h:jkh (.inl i) v=true):∃t,v= .int i t:=by
 exact Value.isInt_shape (k:=i) (v:=v) h
theorem jhd:∀ns:List Int,preSum (λi=>ns.getD i 0) ns.length=ns.sum
 | []=>rfl
 | n::r=>by
  show preSum (λi=>(n::r).getD i 0) (r.length+1)=_
  rw[W.kdu_shift,List.sum_cons,<-jhd r]
  rfl
section
variable {X : Cx}
def DKi(H:Hp)(a:Addr)(ns:List Int):Prop:=∃kvs:List (Key×V),H a=some (.dK kvs) /\ kvs.map (·.1)=ns.map Sum.inl
theorem dki_at{vs:List (Key×Value)}{kvs:List (Key×V)}{ns:List Int}(rel:KV kvs vs)(ek:kvs.map (·.1)=ns.map Sum.inl):vs.length=ns.length /\ ∀(i:Nat) (k:Key) (x:Value),vs[i]?=some (k,x)->k=Sum.inl (ns.getD i 0):=by
 have e1:vs.map (·.1)=ns.map Sum.inl:=by rw[<-rel.keys];exact ek
 have hl:vs.length=ns.length:=by have:=congrArg List.length e1;simpa using this
 refine⟨hl,λi k x hx=> ?_⟩
 have hi:i<ns.length:=by rw[<-hl];exact(List.getElem?_eq_some_iff.mp hx).1
 have e2:(vs.map (·.1))[i]?=some k:=by rw[List.getElem?_map,hx];rfl
 rw[e1,List.getElem?_map,List.getElem?_eq_getElem hi] at e2
 simp at e2
 rw[<-e2]
 simp[List.getD,List.getElem?_eq_getElem hi]
def rSumD:List V->Hp->VK->Prop:=λxs H Q=>∃(a:Addr) (ns:List Int),xs=[.ref a] /\ DKi H a ns /\ Q (.int ns.sum) H
theorem joy(hc:X.calm=true):jdx X (.builtin "sum") rSumD:=by
 intro pins s σ H xs us Q I r h
 obtain⟨a,ns,rfl,⟨kvs,e,ek⟩,q⟩:=h
 obtain⟨u,rfl,rx⟩:=jl3 r
 cases rx
 obtain⟨z,hd,vs,rel,dd⟩:=jl6 I.hok e
 obtain⟨ep,hat⟩:=dd.dictAt
 obtain⟨hl,hk⟩:=dki_at rel ek
 refine call_sum_walkAnyS ?_
 obtain⟨oI,St,hit,W,st⟩:=(PySem.W.kdl_dict (knd:=jbf X.prog X.w) (kvs:=vs) (ep:=ep) hd).iter X.A.in1 s (I.ok.hd hc) hat
 refine hit _ _ ⟨s.heap.objs.size,_,_,_,vs.length,_,_,λi=>ns.getD i 0,rfl,W.toS,st,λb hb=> ?_,λi v hv=> ?_,λs' t' hm=> ?_⟩
 ·show b<(s.heap.push oI).objs.size
  rw[Heap.size_push]
  rcases List.mem_cons.mp hb with e | hb
  ·rw[e];exact Nat.lt_succ_self _
  ·rw[List.mem_singleton.mp hb];exact Nat.lt_succ_of_lt hat.lt_size
 ·obtain⟨k,x,hx,hkk⟩:=hv
  rw[hk i k x hx] at hkk
  exact jk2 hkk
 ·have kp:∀b o,s.heap.get? b=some o->s'.heap.get? b=some o:=λb o e=>
   hm.heap b o (λhI=>absurd (Heap.lt_size e) (by rw[List.mem_singleton.mp hI];exact Nat.lt_irrefl _)) (Heap.get?_push_of_some _ e)
  rw[Moved.eq_with hm]
  refine⟨.int ns.sum,H,I.kept (t':=s'.toks) kp,⟨t',?_⟩,q⟩
  rw[hl,jhd]
def rUpd:V->List V->Hp->VK->Prop:=λx xs H Q=>∃(a b:Addr) (kvs more:List (Key×V)),x= .ref a /\ xs=[.ref b] /\ a≠b /\ H a=some (.dK kvs) /\ H b=some (.dK more) /\ kvs.length+more.length<=sizeLine /\ Q .non (upd H a (.dK (jid kvs more)))
theorem jkq:MtM X "dict.update" rUpd:=by
 intro pins s σ H x xs v us Q I rx rv h
 obtain⟨a,b,kvs,more,rfl,rfl,hab,ea,eb,hz,q⟩:=h
 cases rx
 obtain⟨u,rfl,ru⟩:=jl3 rv
 cases ru
 obtain⟨za,hda,vs,rel,dd⟩:=jl6 I.hok ea
 obtain⟨zb,hdb,ws,relb,ddb⟩:=jl6 I.hok eb
 refine call_meetsIn PySem.F.slot_dict_update dd.typeIs PySem.F.entry_dict_update (PySem.F.args_dict_update_2 _ _) (meets_dict_update (jbf X.prog X.w) a b hab hdb) ⟨vs,ws,dd,ddb,by rw[<-rel.length,<-relb.length];exact hz,λh' dd' ddb' hs=> ?_⟩
 have he:∃q,h'.get? a=some q:=let ⟨q,_,_,hq,_⟩:=dd';⟨q,hq⟩
 have hl:(jid kvs more).length<=sizeLine:=Nat.le_trans (jg0 more kvs) hz
 exact⟨.non,_,jjt (t':=s.toks) I (by rw[ea];exact True.intro) hs he (jn8 hl hda (relb.merge rel) dd'),rfl,q⟩
def rBits:V->List V->Hp->VK->Prop:=λx xs H Q=>∃i:Int,x= .int i /\ xs=[] /\ Q (.int (Builtin.Int.intBits i:Nat)) H
theorem jua:MtR X "int.bit_length" rBits:=by
 intro pins s σ H x xs v us Q I rx rv h
 obtain⟨i,rfl,rfl,q⟩:=h
 obtain⟨t,rfl⟩:=rx
 cases rv
 refine call_gives PySem.F.slot_int_bit_length (typeIs_int _ _ _) PySem.F.entry_int_bit_length (PySem.F.args_int_bit_length_1 _) (AutoIntG2.int_bit_length_int_0 i t) ?_
 exact⟨.int _,H,I.tok _,⟨_,rfl⟩,q⟩
end
theorem KV.get{kvs:List (Key×V)}{vs:List (Key×Value)}(r:KV kvs vs){i:Nat}{k:Key}{u:Value}(h:vs[i]?=some (k,u)):∃x,kvs[i]?=some (k,x) /\ RelV x u:=by
 induction r generalizing i with
 | nil=>simp at h
 | @cons p q ps qs hq t ih=>
  cases i with
  | zero=>
   simp only[List.getElem?_cons_zero,Option.some.injEq] at h
   subst h
   obtain⟨h1,h2⟩:=hq
   exact⟨p.2,congrArg some (Prod.ext h1 rfl),h2⟩
  | succ i=>exact ih h
theorem jft{prog:Program}{w:World}{h:Heap}{a:Addr}{o:Obj}{vs:List (Key×Value)}{ep:Nat}(e:h.get? a=some o)(hep:∀es x,o.data= .dict es x->x=ep)(dd:h.DictOf (jbf prog w) a vs):h.DictAt (jbf prog w) a vs ep:=by
 obtain⟨ep',hat⟩:=dd.dictAt
 obtain⟨o',es,h1,h2,h3,h4⟩:=id hat
 rw[e] at h1;cases h1
 rw[hep es ep' h3] at hat
 exact hat
def NF(X:Cx)(a:Addr):Prop:=∀o u,X.H₀ a≠some (.frz o u)
theorem Inv.recast{X:Cx}{pins:List (Addr×Obj)}{σ:St}{H:Hp}{s:Shared}{a:Addr}{u v:HO}(I:Inv X pins σ H s)(e:H a=some u)(n:NF X a)(h1:∀xs,u≠ .tup xs)(h2:∀ps,u≠ .tbl ps)(h3:∀y,u≠ .own y)(new:jby X.prog X.w (upd H a v) s.heap a v):Inv X pins σ (upd H a v) s:=by
 have ne:∀b,H b=none->b≠a:=λb hb z=>by rw[z,e] at hb;cases hb
 refine⟨I.ok,I.os,I.bare,⟨I.base.keep,I.base.slot,λb ob q m x=> ?_,I.base.there,λb xs q=> ?_,λb ob w q=> ?_,λb ps q=> ?_⟩,I.loc,I.cell,?_,λx c q=> ?_,λp hp=> ?_,λb ob q=> ?_,I.len⟩
 ·have:=I.base.free b ob q m x
  rw[jad (ne b this)];exact this
 ·have:=I.base.tups b xs q
  rw[jad (λz=>by rw[z,e] at this;exact h1 xs (Option.some.inj this))];exact this
 ·have nb:b≠a:=λz=>by subst z;exact n ob w q
  rw[jad nb];exact I.base.frzs b ob w q
 ·obtain⟨more,this⟩:=I.base.tbls b ps q
  exact⟨more,by rw[jad (λz=>by rw[z,e] at this;exact h2 _ (Option.some.inj this))];exact this⟩
 ·rw[jad (ne _ I.free)];exact I.free
 ·rw[jad (ne _ (I.freeC x c q))];exact I.freeC x c q
 ·obtain⟨p1,p2,p3⟩:=I.pin p hp
  exact⟨p1,by rw[jad (ne _ p2)];exact p2,p3⟩
 ·by_cases hb:b=a
  ·subst hb;rw[jap] at q;cases q;exact new
  ·rw[jad hb] at q
   exact(I.hok b ob q).stay (λ_ _ _ r=>r) (λc r=>by rw[jad (λz=>by rw[z,e] at r;exact h3 b (Option.some.inj r))];exact r) λc xs r=>by
    rw[jad (λz=>by rw[z,e] at r;exact h1 xs (Option.some.inj r))];exact r
theorem Inv.nf{X:Cx}{pins:List (Addr×Obj)}{σ:St}{H:Hp}{s:Shared}{a:Addr}{u:HO}(I:Inv X pins σ H s)(e:H a=some u)(h:∀o w,u≠ .frz o w):NF X a:=λo w q=>by
 have:=I.base.frzs a o w q
 rw[e] at this
 exact h o w (Option.some.inj this)
theorem Inv.thaw{X:Cx}{pins:List (Addr×Obj)}{σ:St}{H:Hp}{s:Shared}{a:Addr}{o:Obj}{kvs:List (Key×V)}(I:Inv X pins σ H s)(n:NF X a)(e:H a=some (.frz o (.dK kvs))):Inv X pins σ (upd H a (.dK kvs)) s:=by
 obtain⟨_,z,hd,vs,rel,dd⟩:=(show jby X.prog X.w H s.heap a (.frz o (.dK kvs)) from I.hok a _ e)
 exact I.recast e n (λ_ z=>nomatch z) (λ_ z=>nomatch z) (λ_ z=>nomatch z) ⟨z,hd,vs,rel,dd⟩
def jrt(N:Addr->Prop)(D:Ends):Ends:=
 ⟨λσ H=>∃a o kvs,N a /\ H a=some (.frz o (.dK kvs)) /\ D.nx σ (upd H a (.dK kvs)),λv H=>∃a o kvs,N a /\ H a=some (.frz o (.dK kvs)) /\ D.rt v (upd H a (.dK kvs)),λ_ _=>False,λ_ _=>False⟩
theorem jtx{k:Key}{v:Value}(h:jkh k v=true):RelV (kV k) v:=by
 rcases jbl h with⟨i,t,rfl,rfl⟩ | ⟨x,t,rfl,rfl⟩
 ·exact⟨t,rfl⟩
 ·exact⟨t,rfl⟩
def Itit(a:Addr)(o:Obj)(kvs:List (Key×V)):It:=
 ⟨λi H=>H a=some (.frz o (.dK kvs)) /\ i<kvs.length,λi H x H'=>∃p k v,H p=none /\ kvs[i]?=some (k,v) /\ x= .ref p /\ H'=upd H p (.tup [kV k,v]),λi H=>H a=some (.frz o (.dK kvs)) /\ kvs.length<=i⟩
theorem joa{P:Program}{w:World}{K:W.Frag}{elts:List Expr}{x1}{tpos:Pos}(a it:Addr)(o:Obj)(kvs:List (Key×V))(ep:Nat)(hep:∀es x,o.data= .dict es x->x=ep):Turn P w K (.Tuple elts x1 tpos) (Itit a o kvs) [it] it (λi h=>∃ok ov,IsItemIter h it a i kvs.length ep ok ov) where
 mem:=by simp
 obj:=λi h st b hb=>by
  have e:b=it:=by simpa using hb
  subst e
  obtain⟨ok,ov,e⟩:=st
  exact⟨_,e,λv z=>by cases z⟩
 keep:=λi h h' st k=>by
  obtain⟨ok,ov,e⟩:=st
  exact⟨ok,ov,k it (by simp) _ e⟩
 item:=by
  intro X hP hw hK hc i pins s σ H E I hf st hg
  subst hP hw hK
  obtain⟨hq,hi⟩:=hg
  have f0:=hf it (by simp)
  obtain⟨eo,z,hd,vs,rel,dd⟩:=(show jby X.prog X.w H s.heap a (.frz o (.dK kvs)) from I.hok a _ hq)
  have hl:=rel.length
  have hat:=jft eo hep dd
  have hlt:i<vs.length:=by omega
  obtain⟨⟨k,u⟩,hx⟩:∃p,vs[i]?=some p:=⟨vs[i],by simp[hlt]⟩
  obtain⟨x,hkx,rx⟩:=rel.get hx
  obtain⟨ok,ov,hit⟩:=st
  rw[hl] at hit
  refine wpAny_pyNext_items_item hit hat hx λkey h₁ hkey heo ht₁ hz₁ hk₁=> ?_
  refine⟨.ref s.heap.objs.size,rfl,wpAny_letOwnedTupleGo_items heo λh₂ he₂ hs₂=> ?_⟩
  replace hs₂:Heap.SameBut it h₁ h₂:=hs₂
  have fr:H s.heap.objs.size=none:=I.hok.fresh (Nat.le_refl _)
  have kp:∀b o,b≠it->s.heap.get? b=some o->h₂.get? b=some o:=λb o n1 e=>hs₂.extBut b o n1 (hk₁ b o n1 e)
  have itlt:it<s.heap.objs.size:=Heap.lt_size hit
  have tup:h₂.get? s.heap.objs.size=some {cls:= .type "tuple",data:= .seq #[key,u]}:=hs₂.extBut _ _ (Nat.ne_of_gt itlt) ht₁
  have tr:∀{b u},H b=some u->b≠it:=fun{b u} e z=>by rw[z,f0.1] at e;cases e
  have rk:RelV (kV k) key:=jtx hkey
  have hok:HOk X.prog X.w (upd H s.heap.objs.size (.tup [kV k,x])) h₂:=by
   intro b o e
   by_cases hb:b=s.heap.objs.size
   ·subst hb
    rw[jap] at e;cases e
    exact⟨(show 2<=sizeLine by decide),[key,u],.cons rk (.cons rx .nil),⟨_,tup,rfl,_,rfl⟩⟩
   ·rw[jad hb] at e
    refine(I.hok b o e).stay (λc v hcc q=> ?_) (λc q=>by rw[jad (jb4 q fr)];exact q) λc ys q=>by rw[jad (jb4 q fr)];exact q
    have t:c≠it:=by
     rcases hcc with rfl | hcc
     ·exact tr e
     ·exact tr hcc
    exact kp c v t q
  have un:Un (frs X.stack) [it] H (upd H s.heap.objs.size (.tup [kV k,x])) s.heap h₂:=by
   have nx:∀{b:Addr},b∉[it]->b≠it:=fun{b} hb z=>hb (by simp[z])
   refine⟨λb o e _ _ hb=>kp b o (nx hb) e,λb o e _ _ hb=>⟨o.slots,kp b o (nx hb) e⟩,λb o e n _=> ?_,λb o e hb=>⟨o,kp b o (nx hb) e⟩,λb ys e=> ?_,λb o v e=> ?_,λb ps e=>⟨#[],?_⟩⟩
   ·rw[jad (Nat.ne_of_lt (Heap.lt_size e))];exact n
   ·rw[jad (jb4 e fr)];exact e
   ·rw[jad (jb4 e fr)];exact e
   ·rw[jad (jb4 e fr)];simpa using e
  have I2:Inv X pins σ (upd H s.heap.objs.size (.tup [kV k,x])) {s with heap:=h₂}:=
   I.call' (s':={s with heap:=h₂}) (ch:=[it]) rfl un hok I.bare λb hb=>⟨(hf b hb).2.2.2.1,(hf b hb).2.1,(hf b hb).2.2.2.2.1,(hf b hb).2.2.2.2.2⟩
  refine⟨.ref s.heap.objs.size,_,I2,rfl,⟨s.heap.objs.size,k,x,fr,hkx,rfl,rfl⟩,⟨key,u,by rw[hl];exact he₂⟩,λb hb=> ?_⟩
  have e:b=it:=by simpa using hb
  subst e
  rw[jad (Nat.ne_of_lt itlt)];exact f0.1
 done:=by
  intro X hP hw hK hc i pins s σ H E I hf st hg
  subst hP hw hK
  obtain⟨hq,hi⟩:=hg
  obtain⟨f0,f1,f2,f3,f4,f5⟩:=hf it (by simp)
  obtain⟨eo,z,hd,vs,rel,dd⟩:=(show jby X.prog X.w H s.heap a (.frz o (.dK kvs)) from I.hok a _ hq)
  have hl:=rel.length
  have hat:=jft eo hep dd
  obtain⟨ok,ov,hit⟩:=st
  rw[hl] at hit
  exact wpAny_pyNext_items_end (I.ok.hd hc) hit hat (List.getElem?_eq_none (by omega)) λh' eb=>⟨rfl,I.turned (t':=s.toks) (λb o hb e=>eb b o hb e) f0 f1 f3 f4 f5⟩
 self:=λ_ _ s _ _ st h=>by
  obtain⟨ok,ov,hit⟩:=st
  exact W.kcp_self hit h
def jtw(N:Addr->Prop)(te:TE):TI:=λσ H R=>te σ H λx H1=>∃a kvs,x= .ref a /\ H1 a=some (.dK kvs) /\ ∀o,o.cls= .type "dict"->N a->R (Itit a o kvs) (upd H1 a (.frz o (.dK kvs)))
theorem jt9{X:Cx}{elts:List Expr}{x1}{tpos:Pos}{e:Expr}{te:TE}{apos cpos:Pos}(he:PE X e te)(hbase:attributeBase e "items" X.env (eval e X.env)=eval e X.env:=by rfl)(hline:(apos.endLine==cpos.line)=true:=by rfl):
  PI X (.Tuple elts x1 tpos) (.Call (.Attribute e "items" apos) [] [] cpos) (jtw (NF X) te):=by
 intro pins s σ H R I h
 refine wpAny_Call_method0_late hbase hline (thn (he pins s σ H _ I h) λv s1 ⟨x,H1,I1,r1,q1⟩=> ?_)
 obtain⟨a,kvs,rfl,ea,q⟩:=q1
 cases r1
 obtain⟨z,hd,vs,rel,dd⟩:=jl6 I1.hok ea
 obtain⟨h1,h2⟩:=jp6 I1 (show RelV (.ref a) (.ref a) from rfl) (T:="dict") (.inr (.inr (.inl ⟨rfl,.inl ⟨_,ea⟩⟩)))
 refine⟨"dict","dict.items",PySem.F.plainAttrs_dict,PySem.F.slot_dict_items,PySem.F.type_dict_items,h1,h2,Calls.callWith_builtin rfl (PySem.evalArgs_none ?_)⟩
 refine call_meetsIn PySem.F.slot_dict_items dd.typeIs PySem.F.entry_dict_items (PySem.F.args_dict_items_1 _) (meets_dict_items (jbf X.prog X.w) a hd) ⟨⟨vs,dd⟩,?_⟩
 obtain⟨ep,hat⟩:=dd.dictAt
 obtain⟨o,es,eo,ec,edat,_⟩:=id hat
 have kp:∀b ob,s1.heap.get? b=some ob->((s1.heap.push {cls:= .type "dict_items",data:= .fields #[.ref a]}).push {cls:= .type "dict_itemiterator",data:= .fields #[.none,.bool false,.ref a,.int 0 0,.int vs.length 0,.int ep 0,.none,.none]}).get? b=some ob:=λb ob e=>Heap.get?_push_of_some _ (Heap.get?_push_of_some _ e)
 have I2:Inv X pins σ H1 {s1 with heap:=(s1.heap.push {cls:= .type "dict_items",data:= .fields #[.ref a]}).push {cls:= .type "dict_itemiterator",data:= .fields #[.none,.bool false,.ref a,.int 0 0,.int vs.length 0,.int ep 0,.none,.none]}}:=I1.kept (t':=s1.toks) kp
 have nf:NF X a:=I1.nf ea λ_ _ z=>nomatch z
 have hok2:=I2.hok a _ ea
 have I3:=I2.recast (v:= .frz o (.dK kvs)) ea nf (λ_ z=>nomatch z) (λ_ z=>nomatch z) (λ_ z=>nomatch z) ⟨kp a o eo,hok2.1,hok2.2.1,hok2.2.2⟩
 show wpAny (model X.prog X.w) X.A (pyIter (.ref s1.heap.objs.size)) (PIE X pins σ (.Tuple elts x1 tpos) R) X.xe {s1 with heap:=s1.heap.push {cls:= .type "dict_items",data:= .fields #[.ref a]}}
 refine wpAny_pyIter_items (knd:=jbf X.prog X.w) (kvs:=vs) (ep:=ep) ⟨_,Heap.get?_push_size _ rfl,rfl,rfl⟩ (hat.push _) ?_
 have hl:=rel.length
 have gz:s1.heap.objs.size<=(s1.heap.push {cls:= .type "dict_items",data:= .fields #[.ref a]}).objs.size:=by rw[Heap.size_push];omega
 have na:a≠(s1.heap.push {cls:= .type "dict_items",data:= .fields #[.ref a]}).objs.size:=Nat.ne_of_lt (Nat.lt_of_lt_of_le (Heap.lt_size eo) gz)
 refine⟨_,[(s1.heap.push {cls:= .type "dict_items",data:= .fields #[.ref a]}).objs.size],_,_,_,rfl,I3,joa a _ o kvs ep (λes' x e=> ?_),?_,λb hb=> ?_,q o ec.1 nf⟩
 ·rw[edat] at e;cases e;rfl
 ·rw[hl];exact⟨.none,.none,Heap.get?_push_size _ rfl⟩
 ·have e:b=(s1.heap.push {cls:= .type "dict_items",data:= .fields #[.ref a]}).objs.size:=by simpa using hb
  subst e
  refine I1.fpOk gz ?_
  rw[jad (Ne.symm na)]
  exact I1.hok.fresh gz
def tForI(te:TE)(g:TG)(tb:TS):TS:=λD σ H=>∀N:Addr->Prop,tFor (jtw N te) g tb (jrt N D) σ H
theorem jvp{X:Cx}{elts:List Expr}{x1}{tpos:Pos}{e:Expr}{te:TE}{apos cpos:Pos}{body:List Stmt}{g:TG}{tb:TS}{pos:Pos}(hp:PassesOwn (model X.prog X.w) X.A X.env X.xe)(hc:X.calm=true)(he:PE X e te)(hg:PG X (.Tuple elts x1 tpos) g)(hb:PSs X body tb)
  (hs:∀x,foldedSetIterable (.Call (.Attribute e "items" apos) [] [] cpos) X.env x=pure x:=by intro _;rfl) (hbase:attributeBase e "items" X.env (eval e X.env)=eval e X.env:=by rfl) (hline:(apos.endLine==cpos.line)=true:=by rfl):
  PS X (.For (.Tuple elts x1 tpos) (.Call (.Attribute e "items" apos) [] [] cpos) body [] pos) (tForI te g tb):=by
 intro pins s σ H D I h
 refine thn (jcr hp hc (jt9 he hbase hline) hg hb hs pins s σ H (jrt (NF X) D) I (h (NF X))) λf s1 q=> ?_
 cases f with
 | next=>obtain⟨σ1,H1,I1,a,o,kvs,n,e,q⟩:=q;exact⟨σ1,_,I1.thaw n e,q⟩
 | ret u=>obtain⟨v,σ1,H1,I1,r,a,o,kvs,n,e,q⟩:=q;exact⟨v,σ1,_,I1.thaw n e,r,q⟩
 | brk=>obtain⟨_,_,_,q⟩:=q;exact q.elim
 | cont=>obtain⟨_,_,_,q⟩:=q;exact q.elim
def Itkz(a:Addr)(o:Obj)(kvs:List (Key×V)):It:=
 ⟨λi H=>H a=some (.frz o (.dK kvs)) /\ i<kvs.length,λi H x H'=>H'=H /\ (kvs[i]?).map (λp=>kV p.1)=some x,λi H=>H a=some (.frz o (.dK kvs)) /\ kvs.length<=i⟩
theorem jpy{P:Program}{w:World}{K:W.Frag}{tg:Expr}(a it:Addr)(o:Obj)(kvs:List (Key×V))(ep:Nat)(hep:∀es x,o.data= .dict es x->x=ep):Turn P w K tg (Itkz a o kvs) [it] it (λi h=>h.IsKeyIter it a i kvs.length ep) where
 mem:=by simp
 obj:=λi h st b hb=>by
  have e:b=it:=by simpa using hb
  subst e
  obtain⟨o,e,c,d⟩:=st
  exact⟨o,e,λv z=>by rw[d] at z;cases z⟩
 keep:=λi h h' st k=>st.at λo e=>k it (by simp) o e
 item:=by
  intro X hP hw hK hc i pins s σ H E I hf st hg
  subst hP hw hK
  obtain⟨hq,hi⟩:=hg
  obtain⟨f0,f1,f2,f3,f4,f5⟩:=hf it (by simp)
  obtain⟨eo,z,hd,vs,rel,dd⟩:=(show jby X.prog X.w H s.heap a (.frz o (.dK kvs)) from I.hok a _ hq)
  have hl:=rel.length
  have hat:=jft eo hep dd
  have hlt:i<vs.length:=by omega
  obtain⟨⟨k,u⟩,hx⟩:∃p,vs[i]?=some p:=⟨vs[i],by simp[hlt]⟩
  obtain⟨x,hkx,rx⟩:=rel.get hx
  rw[hl] at st
  refine wpAny_pyNext_dict_item st hat hx λkey h' hkey st' sb=> ?_
  have I1:Inv X pins σ H {s with heap:=h'}:=I.turned (t':=s.toks) (λb o hb e=>(sb.2 b hb).trans e) f0 f1 f3 f4 f5
  obtain⟨o',e,c,d⟩:=id st'
  rw[<-hl] at st'
  exact⟨key,rfl,jmm (s:={s with heap:=h'}) e c d (by decide) ⟨kV k,H,I1,jtx hkey,⟨rfl,by rw[hkx];rfl⟩,st',λb hb=>(hf b hb).1⟩⟩
 done:=by
  intro X hP hw hK hc i pins s σ H E I hf st hg
  subst hP hw hK
  obtain⟨hq,hi⟩:=hg
  obtain⟨f0,f1,f2,f3,f4,f5⟩:=hf it (by simp)
  obtain⟨eo,z,hd,vs,rel,dd⟩:=(show jby X.prog X.w H s.heap a (.frz o (.dK kvs)) from I.hok a _ hq)
  have hl:=rel.length
  have hat:=jft eo hep dd
  rw[hl] at st
  exact wpAny_pyNext_dict_end (I.ok.hd hc) st hat (List.getElem?_eq_none (by omega)) λh' eb=>⟨rfl,I.turned (t':=s.toks) (λb o hb e=>eb b o hb e) f0 f1 f3 f4 f5⟩
 self:=λ_ _ _ _ _ st h=>wpAny_pyIter_keyiter st h
def iKeys(N:Addr->Prop)(te:TE):TI:=λσ H R=>te σ H λx H1=>∃a kvs,x= .ref a /\ H1 a=some (.dK kvs) /\ ∀o,o.cls= .type "dict"->N a->R (Itkz a o kvs) (upd H1 a (.frz o (.dK kvs)))
theorem jvk{X:Cx}{tg e:Expr}{te:TE}(he:PE X e te):PI X tg e (iKeys (NF X) te):=by
 intro pins s σ H R I h
 refine thn (he pins s σ H _ I h) λv s1 ⟨x,H1,I1,r1,q1⟩=> ?_
 obtain⟨a,kvs,rfl,ea,q⟩:=q1
 cases r1
 obtain⟨z,hd,vs,rel,dd⟩:=jl6 I1.hok ea
 obtain⟨ep,hat⟩:=dd.dictAt
 obtain⟨o,es,eo,ec,edat,_⟩:=id hat
 have kp:∀b ob,s1.heap.get? b=some ob->(s1.heap.push {cls:= .type "dict_keyiterator",data:= .fields #[.ref a,.int 0 0,.int vs.length 0,.int ep 0]}).get? b=some ob:=λb ob e=>Heap.get?_push_of_some _ e
 have I2:Inv X pins σ H1 {s1 with heap:=s1.heap.push {cls:= .type "dict_keyiterator",data:= .fields #[.ref a,.int 0 0,.int vs.length 0,.int ep 0]}}:=I1.kept (t':=s1.toks) kp
 have nf:NF X a:=I1.nf ea λ_ _ z=>nomatch z
 have hok2:=I2.hok a _ ea
 have I3:=I2.recast (v:= .frz o (.dK kvs)) ea nf (λ_ z=>nomatch z) (λ_ z=>nomatch z) (λ_ z=>nomatch z) ⟨kp a o eo,hok2.1,hok2.2.1,hok2.2.2⟩
 refine wpAny_pyIter_dict (knd:=jbf X.prog X.w) (kvs:=vs) (ep:=ep) hd hat ?_
 have hl:=rel.length
 have na:a≠s1.heap.objs.size:=Nat.ne_of_lt (Heap.lt_size eo)
 refine⟨_,[s1.heap.objs.size],_,_,_,rfl,I3,jpy a _ o kvs ep (λes' x e=> ?_),?_,λb hb=> ?_,q o ec.1 nf⟩
 ·rw[edat] at e;cases e;rfl
 ·rw[hl];exact⟨_,Heap.get?_push_size _ rfl,rfl,rfl⟩
 ·have e:b=s1.heap.objs.size:=by simpa using hb
  subst e
  refine I1.fpOk (Nat.le_refl _) ?_
  rw[jad (Ne.symm na)]
  exact I1.hok.fresh (Nat.le_refl _)
def tForK(te:TE)(g:TG)(tb:TS):TS:=λD σ H=>∀N:Addr->Prop,tFor (iKeys N te) g tb (jrt N D) σ H
theorem jvn{X:Cx}{tg e:Expr}{te:TE}{body:List Stmt}{g:TG}{tb:TS}{pos:Pos}(hp:PassesOwn (model X.prog X.w) X.A X.env X.xe)(hc:X.calm=true)(he:PE X e te)(hg:PG X tg g)(hb:PSs X body tb)
  (hs:∀x,foldedSetIterable e X.env x=pure x:=by intro _;rfl):
  PS X (.For tg e body [] pos) (tForK te g tb):=by
 intro pins s σ H D I h
 refine thn (jcr hp hc (jvk he) hg hb hs pins s σ H (jrt (NF X) D) I (h (NF X))) λf s1 q=> ?_
 cases f with
 | next=>obtain⟨σ1,H1,I1,a,o,kvs,n,e,q⟩:=q;exact⟨σ1,_,I1.thaw n e,q⟩
 | ret u=>obtain⟨v,σ1,H1,I1,r,a,o,kvs,n,e,q⟩:=q;exact⟨v,σ1,_,I1.thaw n e,r,q⟩
 | brk=>obtain⟨_,_,_,q⟩:=q;exact q.elim
 | cont=>obtain⟨_,_,_,q⟩:=q;exact q.elim
section
variable {X : Cx}
def rDict:List V->Hp->VK->Prop:=λxs H Q=>∃(a:Addr) (kvs:List (Key×V)),xs=[.ref a] /\ H a=some (.dK kvs) /\ ∀l,H l=none->Q (.ref l) (upd H l (.dK kvs))
theorem jo7:jdx X (.type "dict") rDict:=by
 intro pins s σ H xs us Q I r h
 obtain⟨a,kvs,rfl,e,q⟩:=h
 obtain⟨u,rfl,rx⟩:=jl3 r
 cases rx
 obtain⟨z,hd,vs,rel,dd⟩:=jl6 I.hok e
 refine kt_call_dict hd dd (by rw[<-rel.length];exact z) λh' d' hs=> ?_
 refine⟨.ref _,_,I.laid (t':=s.toks) (a:=s.heap.objs.size) (o:= .dK kvs) (λb o e=> ?_) (Nat.le_refl _) (jn8 z (beq_eq_false_iff_ne.mpr (Ne.symm (Nat.ne_of_lt I.big))) rel d'),rfl,q _ (I.hok.fresh (Nat.le_refl _))⟩
 exact(hs.2 b (Nat.ne_of_lt (Heap.lt_size e))).trans (Heap.get?_push_of_some _ e)
end
end L2
namespace Z
open PySem
inductive D where
 | non | bl (b:Bool) | int (i:Int) | str (x:Str) | tup (xs:List D) | lst (xs:List D) | arg (ns:List Int) | ref (k:Nat)
 | ty (n:String) | cls (n:String) | exc (n:String) | obj (c:String) (fs:List (Str×D)) | dic (kvs:List (Sum Int Str×D))
inductive Cell where
 | lst (xs:List D) | dct (kvs:List (Sum Int Str×D)) | ins (c:String) (fs:List (Str×D)) | fdc (kvs:List (Sum Int Str×D))
def Cell.live:Cell->Bool
 | .fdc _=>false | _=>true
abbrev MH:=List (Option Cell)
abbrev Ro:=List (Option D)
inductive Res (α:Type) where
 | ok (a:α) (h:MH) | exc (c:String) (h:MH) | stuck
inductive RS where
 | nx (ρ:Ro) (h:MH) | rt (d:D) (h:MH) | bk (ρ:Ro) (h:MH) | ct (ρ:Ro) (h:MH) | exc (c:String) (h:MH) | stuck
def Res.bind{α β:Type}(r:Res α)(f:α->MH->Res β):Res β:=match r with
 | .ok a h=>f a h | .exc c h=> .exc c h | .stuck=> .stuck
@[simp] theorem jcz{α β:Type}{a:α}{h:MH}{f:α->MH->Res β}:(Res.ok a h).bind f=f a h:=rfl
@[simp] theorem bind_exc{α β:Type}{c:String}{h:MH}{f:α->MH->Res β}:(Res.exc c h).bind f= .exc c h:=rfl
@[simp] theorem bind_stuck{α β:Type}{f:α->MH->Res β}:(Res.stuck).bind f= .stuck:=rfl
def Res.toS{α:Type}(r:Res α)(f:α->MH->RS):RS:=match r with
 | .ok a h=>f a h | .exc c h=> .exc c h | .stuck=> .stuck
@[simp] theorem jc4{α:Type}{a:α}{h:MH}{f:α->MH->RS}:(Res.ok a h).toS f=f a h:=rfl
@[simp] theorem toS_exc{α:Type}{c:String}{h:MH}{f:α->MH->RS}:(Res.exc c h).toS f= .exc c h:=rfl
@[simp] theorem toS_stuck{α:Type}{f:α->MH->RS}:(Res.stuck).toS f= .stuck:=rfl
abbrev ME:=Ro->MH->Res D
abbrev MT:=Ro->MH->Res Bool
abbrev ML:=Ro->MH->Res (List D)
abbrev MO:=Ro->MH->Res (Option Int)
abbrev MI:=Ro->MH->Res (Option Nat×List D)
abbrev MS:=Ro->MH->RS
abbrev MG:=D->Ro->MH->RS
abbrev MF:=List D->MH->Res D
abbrev B2:=D->D->MH->Res D
@[simp] def chk{α:Type}(c:Prop)[Decidable c](r:Res α):Res α:=if c then r else .stuck
@[simp] theorem chk_t{α:Type}{c:Prop}[Decidable c]{r:Res α}(h:c):chk c r=r:=if_pos h
@[simp] def mVar(i:Nat):ME:=λρ h=>match ρ[i]? with
 | some (some d)=> .ok d h | _=> .stuck
@[simp] def mC(d:D):ME:=λ_ h=> .ok d h
@[simp] def mBin(f:B2)(a b:ME):ME:=λρ h=>(a ρ h).bind λx h1=>(b ρ h1).bind λy h2=>f x y h2
@[simp] def mUn(f:D->MH->Res D)(a:ME):ME:=λρ h=>(a ρ h).bind f
@[simp] def mNil:ML:=λ_ h=> .ok [] h
@[simp] def ja2(a:ME)(l:ML):ML:=λρ h=>(a ρ h).bind λx h1=>(l ρ h1).bind λxs h2=> .ok (x::xs) h2
@[simp] def mTup(l:ML):ME:=λρ h=>(l ρ h).bind λxs h1=>chk (xs.length<=16777216) (.ok (.tup xs) h1)
@[simp] def jds(l:ML):ML:=λρ h=>(l ρ h).bind λxs h1=>chk (xs.length<=16777216) (.ok xs h1)
@[simp] def jcx(l:ML):ME:=λρ h=>(l ρ h).bind λxs h1=> .ok (.lst xs) h1
@[simp] def jgs(l:ML):ME:=λρ h=>(l ρ h).bind λxs h1=> .ok (.ref h1.length) (h1++[some (.lst xs)])
@[simp] def jbb(z:MF)(l:ML):ME:=λρ h=>(l ρ h).bind z
@[simp] def mFn(f:List D->MH->Res D)(l:ML):ME:=λρ h=>(l ρ h).bind f
@[simp] def tB(m:ME):MT:=λρ h=>(m ρ h).bind λd h1=>match d with
 | .bl b=> .ok b h1 | _=> .stuck
@[simp] def tAnd(a b:MT):MT:=λρ h=>(a ρ h).bind λc h1=>if c=true then b ρ h1 else .ok false h1
@[simp] def tOr(a b:MT):MT:=λρ h=>(a ρ h).bind λc h1=>if c=true then .ok true h1 else b ρ h1
@[simp] def tNot(a:MT):MT:=λρ h=>(a ρ h).bind λc h1=> .ok (!c) h1
@[simp] def mIf(t:MT)(a b:ME):ME:=λρ h=>(t ρ h).bind λc h1=>if c=true then a ρ h1 else b ρ h1
@[simp] def mAnd(a b:ME):ME:=λρ h=>(a ρ h).bind λd h1=>match d with
 | .bl c=>if c=true then b ρ h1 else .ok (.bl false) h1
 | _=> .stuck
@[simp] def mOr(a b:ME):ME:=λρ h=>(a ρ h).bind λd h1=>match d with
 | .bl c=>if c=true then .ok (.bl true) h1 else b ρ h1
 | _=> .stuck
@[simp] def mChain(f g:B2)(a b c:ME):ME:=λρ h=>(a ρ h).bind λx h1=>(b ρ h1).bind λy h2=>(f x y h2).bind λz h3=>match z with
 | .bl k=>if k=true then(c ρ h3).bind λw h4=>g y w h4 else .ok (.bl false) h3
 | _=> .stuck
@[simp] def asL(h:MH):D->Option (List D)
 | .lst xs=>some xs
 | .ref k=>match h[k]? with
  | some (some (.lst xs))=>some xs
  | _=>none
 | _=>none
@[simp] def asQ(h:MH):D->Option (List D)
 | .lst xs=>some xs
 | .tup xs=>some xs
 | .arg ns=>some (ns.map .int)
 | .ref k=>match h[k]? with
  | some (some (.lst xs))=>some xs
  | _=>none
 | _=>none
@[simp] def asD(h:MH):D->Option (List (Sum Int Str×D))
 | .dic kvs=>some kvs
 | .ref k=>match h[k]? with
  | some (some (.dct kvs))=>some kvs
  | _=>none
 | _=>none
@[simp] def asR(h:MH):D->Option (List (Sum Int Str×D))
 | .dic kvs=>some kvs
 | .ref k=>match h[k]? with
  | some (some (.dct kvs))=>some kvs
  | some (some (.fdc kvs))=>some kvs
  | _=>none
 | _=>none
@[simp] def jg7(h:MH):D->Option Bool
 | .non=>some false
 | .bl b=>some b
 | .int i=>some (i !=0)
 | .str y=>if y.length<=16777216 then some ((y.length:Int)!=0) else none
 | d=>match asQ h d with
  | some xs=>some (!xs.isEmpty)
  | none=>match d with
   | .ref _=>(asD h d).map λkvs=> !kvs.isEmpty
   | _=>none
def oR{α:Type}(o:Option α)(h:MH):Res α:=match o with
 | some a=> .ok a h | none=> .stuck
@[simp] theorem jwo{α:Type}{a:α}{h:MH}:oR (some a) h= .ok a h:=rfl
@[simp] theorem oR_none{α:Type}{h:MH}:oR (none:Option α) h= .stuck:=rfl
@[simp] def tTru(m:ME):MT:=λρ h=>(m ρ h).bind λd h1=>oR (jg7 h1 d) h1
@[simp] def mNotV(m:ME):ME:=λρ h=>(m ρ h).bind λd h1=>(oR (jg7 h1 d) h1).bind λb h2=> .ok (.bl (!b)) h2
def jwp(i j:Int):Prop:=i.natAbs<18446744073709551616 \/ j.natAbs<18446744073709551616
instance (i j:Int):Decidable (jwp i j):=by unfold jwp;infer_instance
def jm0(i j:Int):Prop:=0<=j /\ j<=1000000 /\ i.natAbs<18446744073709551616
instance (i j:Int):Decidable (jm0 i j):=by unfold jm0;infer_instance
@[simp] def dAdd:B2:=λx y h=>match x,y with
 | .int i,.int j=> .ok (.int (i+j)) h
 | .str a,.str b=>chk (a.length+b.length<=16777216) (.ok (.str (a++b)) h)
 | .tup a,.tup b=>chk (a≠[] /\ a.length+b.length<=16777216) (.ok (.tup (a++b)) h)
 | _,_=>(oR (asL h x) h).bind λa h=>(oR (asL h y) h).bind λb h=>chk (a.length+b.length<=16777216) (.ok (.lst (a++b)) h)
@[simp] def dInt(f:Int->Int->Int):B2:=λx y h=>match x,y with
 | .int i,.int j=> .ok (.int (f i j)) h | _,_=> .stuck
@[simp] def jm9(c:Int->Int->Prop)[∀i j,Decidable (c i j)](f:Int->Int->Int):B2:=λx y h=>match x,y with
 | .int i,.int j=>chk (c i j) (.ok (.int (f i j)) h) | _,_=> .stuck
@[simp] def dSub:B2:=dInt (· - ·)
@[simp] def dMul:B2:=λx y h=>match x,y with
 | .int i,.int j=>chk (jwp i j) (.ok (.int (i*j)) h)
 | .str z,.int n=>chk (n.natAbs<=16777216 /\ z.length*n.toNat<=16777216) (.ok (.str (Txt.mul z n)) h)
 | _,.int k=>(oR (asL h x) h).bind λa h=>chk (k.natAbs<9223372036854775808 /\ a.length*k.toNat<=16777216) (.ok (.lst (List.replicate k.toNat a).flatten) h)
 | _,_=> .stuck
@[simp] def dDiv:B2:=jm9 (λ_ j=>0<j /\ j<1073741824) (· / ·)
@[simp] def dMod:B2:=jm9 (λ_ j=>0<j) (· % ·)
@[simp] def dPow:B2:=jm9 jm0 (λi j=>i^j.toNat)
@[simp] def dShl:B2:=jm9 jm0 (λi j=>i*2^j.toNat)
@[simp] def dShr:B2:=jm9 (λ_ j=>0<=j) (λi j=>i / 2^j.toNat)
@[simp] def dAnd:B2:=dInt Builtin.bitAnd
@[simp] def dOr:B2:=dInt Builtin.bitOr
@[simp] def dXor:B2:=dInt Builtin.bitXor
@[simp] def dNeg:D->MH->Res D:=λx h=>match x with
 | .int i=> .ok (.int (-i)) h | _=> .stuck
@[simp] def dInv:D->MH->Res D:=λx h=>match x with
 | .int i=> .ok (.int (Builtin.bitNot i)) h | _=> .stuck
@[simp] def dCmp(f:Int->Int->Bool):B2:=λx y h=>match x,y with
 | .int i,.int j=> .ok (.bl (f i j)) h | _,_=> .stuck
@[simp] def dLt:B2:=dCmp λi j=>decide (i<j)
@[simp] def dLe:B2:=dCmp λi j=>decide (i<=j)
@[simp] def dGt:B2:=dCmp λi j=>decide (j<i)
@[simp] def dGe:B2:=dCmp λi j=>decide (j<=i)
@[simp] def isNon:D->Bool
 | .non=>true | _=>false
@[simp] def dIs:B2:=λx y h=>match x,y with
 | .bl a,.bl b=> .ok (.bl (a==b)) h
 | x,.non=> .ok (.bl (isNon x)) h
 | _,_=> .stuck
@[simp] def dIsNot:B2:=λx y h=>match x,y with
 | .bl a,.bl b=> .ok (.bl (!(a==b))) h
 | x,.non=> .ok (.bl (!isNon x)) h
 | _,_=> .stuck
def strOk(x:Str):Bool:=x.cps.all (·<0x110000)
mutual
def D.py:D->Option PyData
 | .non=>some .none
 | .bl b=>some (.bool b)
 | .int i=>some (.int i)
 | .str x=>if strOk x then some (.str x) else none
 | .tup xs=>(D.pys xs).map .tuple
 | .lst xs=>(D.pys xs).map .list
 | _=>none
def D.pys:List D->Option (List PyData)
 | []=>some []
 | d::ds=>match D.py d,D.pys ds with
  | some p,some ps=>some (p::ps)
  | _,_=>none
end
mutual
def D.deep:D->Nat
 | .tup xs | .lst xs=>D.deeps xs+1
 | _=>0
def D.deeps:List D->Nat
 | []=>0
 | d::ds=>max (D.deep d) (D.deeps ds)
end
mutual
def D.eq:D->D->Bool
 | .non,.non=>true
 | .bl a,.bl b=>a==b
 | .bl a,.int j=>(if a then 1 else 0)==j
 | .int i,.bl b=>i==(if b then 1 else 0)
 | .int i,.int j=>i==j
 | .str x,.str y=>x==y
 | .tup xs,.tup ys=>D.eqs xs ys
 | .lst xs,.lst ys=>D.eqs xs ys
 | _,_=>false
def D.eqs:List D->List D->Bool
 | [],[]=>true
 | x::xs,y::ys=>D.eq x y&&D.eqs xs ys
 | _,_=>false
end
def D.dat(d:D):Bool:=d.py.isSome&&decide (d.deep<=64)
def res:Nat->MH->D->D
 | 0,_,d=>d
 | n+1,h,.ref k=>match h[k]? with
  | some (some (.lst xs))=> .lst (xs.map (res n h))
  | _=> .ref k
 | n+1,h,.tup xs=> .tup (xs.map (res n h))
 | n+1,h,.lst xs=> .lst (xs.map (res n h))
 | _+1,_,d=>d
def see(h:MH)(d:D):D:=res 8 h d
@[simp] def flat:D->Bool
 | .non | .bl _ | .int _ | .str _=>true
 | _=>false
@[simp] def dEq:B2:=λx y h=>match x,y with
 | .int i,.int j=> .ok (.bl (decide (i=j))) h
 | .str i,.str j=> .ok (.bl (decide (i=j))) h
 | .bl i,.bl j=> .ok (.bl (i==j)) h
 | _,_=>if x.dat=true /\ y.dat=true then .ok (.bl (x.eq y)) h else chk ((see h x).dat=true /\ (see h y).dat=true) (.ok (.bl ((see h x).eq (see h y))) h)
@[simp] def dNe:B2:=λx y h=>(dEq x y h).bind λz h=>match z with
 | .bl b=> .ok (.bl (!b)) h | _=> .stuck
def numS(n:Int):Str:=Str.ofString (toString n)
def ixN(n:Nat)(i:Int):Option Nat:=if 0<=i then(if i<n then some i.toNat else none) else if -(n:Int)<=i then some (i+n).toNat else none
def atI{α:Type}(xs:List α)(i:Int):Option α:=(ixN xs.length i).bind λj=>xs[j]?
@[simp] def jjc:D->Option (Sum Int Str)
 | .int i=>some (.inl i)
 | .str x=>some (.inr x)
 | _=>none
def valK(kvs:List (Sum Int Str×D))(k:Sum Int Str):Option D:=(kvs.find? λkv=>decide (kv.1=k)).map (·.2)
def putK(kvs:List (Sum Int Str×D))(k:Sum Int Str)(v:D):List (Sum Int Str×D):=
 if kvs.any (λkv=>decide (kv.1=k)) then kvs.map λkv=>if kv.1=k then(kv.1,v) else kv else kvs++[(k,v)]
@[simp] def dIx:B2:=λx y h=>match x,y with
 | .str z,.int i=>chk (z.length<=16777216) ((oR (atI z.cps.toList i) h).bind λc h=> .ok (.str ⟨#[c]⟩) h)
 | x,y=>match asQ h x with
  | some xs=>match y with
   | .int i=>oR (atI xs i) h
   | _=> .stuck
  | none=>match asR h x,jjc y with
   | some kvs,some k=>oR (valK kvs k) h
   | _,_=> .stuck
def eqF:D->D->Bool
 | .non,.non=>true
 | .bl a,.bl b=>a==b
 | .bl a,.int b=>(if a then 1 else 0)==b
 | .int a,.bl b=>a==(if b then 1 else 0)
 | .int a,.int b=>a==b
 | .str a,.str b=>a==b
 | _,_=>false
@[simp] def dIn(neg:Bool):B2:=λx y h=>match x,y with
 | .str i,.str j=> .ok (.bl (if neg then !(!(Builtin.Str.occurrences j i 0 j.length 1).isEmpty) else !(Builtin.Str.occurrences j i 0 j.length 1).isEmpty)) h
 | x,y=>match asQ h y with
  | some ys=>chk (flat x=true /\ ys.all flat=true) (.ok (.bl (if neg then !(ys.any λy=>eqF y x) else ys.any λy=>eqF y x)) h)
  | none=>match asR h y,jjc x with
   | some kvs,some k=> .ok (.bl (if neg then !(valK kvs k).isSome else(valK kvs k).isSome)) h
   | _,_=> .stuck
def sIx(n d:Nat):Option Int->Nat
 | none=>d
 | some v=>if v<0 then(v+(n:Int)).toNat else min v.toNat n
def cut{α:Type}(xs:List α)(lo hi:Option Int):List α:=(xs.drop (sIx xs.length 0 lo)).take (sIx xs.length xs.length hi - sIx xs.length 0 lo)
@[simp] def oNo:MO:=λ_ h=> .ok none h
@[simp] def oSo(m:ME):MO:=λρ h=>(m ρ h).bind λd h1=>match d with
 | .int i=> .ok (some i) h1 | _=> .stuck
@[simp] def mSl(m:ME)(lo hi:MO):ME:=λρ h=>(m ρ h).bind λd h1=>(lo ρ h1).bind λl h2=>(hi ρ h2).bind λu h3=>match d with
 | .tup xs=>chk (¬(sIx xs.length 0 l=0 /\ sIx xs.length xs.length u=xs.length)) (.ok (.tup (cut xs l u)) h3)
 | .str z=>chk (z.length<=16777216) (.ok (.str (Txt.slice z l u)) h3)
 | d=>(oR (asQ h3 d) h3).bind λxs h4=> .ok (.lst (cut xs l u)) h4
@[simp] def jvm:List D->Option (List Int)
 | []=>some []
 | .int i::r=>(jvm r).map (i::·)
 | _::_=>none
@[simp] def strsD:List D->Option (List Str)
 | []=>some []
 | .str i::r=>(strsD r).map (i::·)
 | _::_=>none
@[simp] def jtq:List D->Option (List Bool)
 | []=>some []
 | .bl i::r=>(jtq r).map (i::·)
 | _::_=>none
@[simp] def asLi(h:MH)(d:D):Option (List Int):=match d with
 | .arg ns=>some ns
 | d=>(asL h d).bind jvm
def juy(ns:List Int)(lo hi:Option Int)(st:Int):List Int:=
 (sliceRange (sliceBounds lo hi (some st) ns.length).1 (sliceBounds lo hi (some st) ns.length).2.1 (sliceBounds lo hi (some st) ns.length).2.2).filterMap (ns[·]?)
@[simp] def mSlS(m:ME)(lo hi st:MO):ME:=λρ h=>(m ρ h).bind λd h1=>(lo ρ h1).bind λl h2=>(hi ρ h2).bind λu h3=>(st ρ h3).bind λk h4=>match k with
 | some k=>chk (0<k) ((oR (asLi h4 d) h4).bind λns h5=> .ok (.lst ((juy ns l u k).map .int)) h5)
 | none=> .stuck
@[simp] def fLen:List D->MH->Res D:=λl h=>match l with
 | [.str z]=>chk (z.length<=16777216) (.ok (.int z.length) h)
 | [d]=>match asQ h d with
  | some xs=> .ok (.int xs.length) h
  | none=>match d with
   | .ref _=>(oR (asD h d) h).bind λkvs h=> .ok (.int kvs.length) h
   | _=> .stuck
 | _=> .stuck
@[simp] def fSum:List D->MH->Res D:=λl h=>match l with
 | [d]=>(oR (asLi h d) h).bind λns h=> .ok (.int ns.sum) h
 | _=> .stuck
def maxI:List Int->Int
 | []=>0
 | [a]=>a
 | a::r=>if maxI r>a then maxI r else a
@[simp] def fMax:List D->MH->Res D:=λl h=>match l with
 | [.int i,.int j]=> .ok (.int (if j>i then j else i)) h
 | [.tup xs]=>(oR (jvm xs) h).bind λns h=>chk (0<ns.length) (.ok (.int (maxI ns)) h)
 | _=> .stuck
@[simp] def fMin:List D->MH->Res D:=λl h=>match l with
 | [.int i,.int j]=> .ok (.int (if j<i then j else i)) h
 | _=> .stuck
@[simp] def fAbs:List D->MH->Res D:=λl h=>match l with
 | [.int i]=> .ok (.int (if i<0 then -i else i)) h
 | _=> .stuck
@[simp] def fAll:List D->MH->Res D:=λl h=>match l with
 | [d]=>(oR ((asL h d).bind jtq) h).bind λbs h=> .ok (.bl (bs.all id)) h
 | _=> .stuck
@[simp] def fInt:List D->MH->Res D:=λl h=>match l with
 | [.int i]=> .ok (.int i) h
 | [.bl k]=> .ok (.int (if k then 1 else 0)) h
 | [.str z]=>chk (z.length<=640) ((oR (intText? z) h).bind λn h=> .ok (.int n) h)
 | _=> .stuck
@[simp] def fStr:List D->MH->Res D:=λl h=>match l with
 | [.int i]=>chk (i.natAbs.log2<1920) (.ok (.str (numS i)) h)
 | _=> .stuck
@[simp] def fBool:List D->MH->Res D:=λl h=>match l with
 | [.int i]=> .ok (.bl (i !=0)) h
 | [.bl k]=> .ok (.bl k) h
 | _=> .stuck
@[simp] def lList(m:ML):ML:=λρ h=>(m ρ h).bind λl h1=>match l with
 | [d]=>oR (asQ h1 d) h1
 | _=> .stuck
@[simp] def fTuple:List D->MH->Res D:=λl h=>match l with
 | [.tup xs]=> .ok (.tup xs) h
 | [d]=>(oR (asQ h d) h).bind λxs h=> .ok (.tup xs) h
 | _=> .stuck
@[simp] def tyOf(h:MH):D->Option String
 | .non=>some "NoneType" | .bl _=>some "bool" | .int _=>some "int" | .str _=>some "str" | .tup _=>some "tuple" | .lst _=>some "list"
 | .ref k=>match h[k]? with
  | some (some (.lst _))=>some "list"
  | some (some (.dct _))=>some "dict"
  | _=>none
 | _=>none
@[simp] def isB(a b:String):Bool:=a==b||(a=="bool"&&b=="int")
@[simp] def jmb(b:String):Bool:=b=="int"||b=="bool"||b=="str"||b=="tuple"||b=="list"
@[simp] def fIsi:List D->MH->Res D:=λl h=>match l with
 | [d,.ty n]=>chk (jmb n=true) ((oR (tyOf h d) h).bind λt h=> .ok (.bl (isB t n)) h)
 | _=> .stuck
@[simp] def mSm(f:Str->List D->MH->Res D)(m:ME)(l:ML):ME:=λρ h=>(m ρ h).bind λd h1=>match d with
 | .str z=>(l ρ h1).bind λxs h2=>f z xs h2
 | _=> .stuck
@[simp] def fJoin:Str->List D->MH->Res D:=λz l h=>match l with
 | [d]=>(oR ((asL h d).bind strsD) h).bind λys h=>chk ((ys.map (·.length)).sum+ys.length*z.length<=16777216) (.ok (.str (Txt.join z ys)) h)
 | _=> .stuck
@[simp] def fFind:Str->List D->MH->Res D:=λz l h=>match l with
 | [.str y]=> .ok (.int (Txt.find z y)) h
 | _=> .stuck
@[simp] def fUpper:Str->List D->MH->Res D:=λz l h=>match l with
 | []=>chk ((Txt.upper z).length<=16777216) (.ok (.str (Txt.upper z)) h)
 | _=> .stuck
@[simp] def lSplit(m:ME)(l:ML):ML:=λρ h=>(m ρ h).bind λd h1=>match d with
 | .str z=>(l ρ h1).bind λxs h2=>match xs with
  | [.str y]=>chk (y.length≠0 /\ z.length<=16777216 /\ (Txt.split z y).length<=16777216) (.ok ((Txt.split z y).map .str) h2)
  | _=> .stuck
 | _=> .stuck
/-- f"..{x}..":the parts,in order -/
abbrev MJ:=Str->Ro->MH->Res Str
@[simp] def jNil:MJ:=λout _ h=> .ok out h
@[simp] def jCons(m:ME)(j:MJ):MJ:=λout ρ h=>(m ρ h).bind λd h1=>match d with
 | .str y=>chk ((out++y).length<=16777216) (j (out++y) ρ h1)
 | _=> .stuck
@[simp] def mJs(j:MJ):ME:=λρ h=>(j Str.empty ρ h).bind λz h1=>chk (z.length<=16777216) (.ok (.str z) h1)
@[simp] def mFmt(m:ME):ME:=λρ h=>(m ρ h).bind λd h1=>match d with
 | .int i=>chk (i.natAbs.log2<1920) (.ok (.str (numS i)) h1)
 | .str z=>chk (z.length<=16777216) (.ok (.str z) h1)
 | _=> .stuck
@[simp] def jbq:MS:=λρ h=> .nx ρ h
@[simp] def sBreak:MS:=λρ h=> .bk ρ h
@[simp] def sCont:MS:=λρ h=> .ct ρ h
@[simp] def sSeq(a b:MS):MS:=λρ h=>match a ρ h with
 | .nx ρ1 h1=>b ρ1 h1
 | r=>r
@[simp] def sIf(t:MT)(a b:MS):MS:=λρ h=>(t ρ h).toS λc h1=>if c=true then a ρ h1 else b ρ h1
@[simp] def sRet(m:ME):MS:=λρ h=>(m ρ h).toS .rt
@[simp] def sRetN:MS:=λ_ h=> .rt .non h
@[simp] def jgv(m:ME):MS:=λρ h=>(m ρ h).toS λ_ h1=> .nx ρ h1
@[simp] def sAsg(m:ME)(g:MG):MS:=λρ h=>(m ρ h).toS λd h1=>g d ρ h1
@[simp] def sRaise(c:String)(m:ME):MS:=λρ h=>(m ρ h).toS λ_ h1=> .exc c h1
@[simp] def ja8(i:Nat):MG:=λd ρ h=> .nx (ρ.set i (some d)) h
@[simp] def jkv:List Nat->List D->Ro->MH->RS
 | [],[],ρ,h=> .nx ρ h
 | i::is,d::ds,ρ,h=>jkv is ds (ρ.set i (some d)) h
 | _,_,_,_=> .stuck
@[simp] def gTup(is:List Nat):MG:=λd ρ h=>match d with
 | .tup xs=>jkv is xs ρ h
 | .lst xs=>jkv is xs ρ h
 | _=> .stuck
@[simp] def gSub(mo mi:ME):MG:=λd ρ h=>(mo ρ h).toS λo h1=>(mi ρ h1).toS λi h2=>match o with
 | .ref k=>match h2[k]? with
  | some (some (.lst xs))=>match i with
   | .int j=>match ixN xs.length j with
    | some n=> .nx ρ (h2.set k (some (.lst (xs.set n d))))
    | none=> .stuck
   | _=> .stuck
  | _=> .stuck
 | _=> .stuck
@[simp] def jhx(mo mi me:ME):MS:=λρ h=>(me ρ h).toS λd h0=>(mo ρ h0).toS λo h1=>(mi ρ h1).toS λi h2=>match o with
 | .ref k=>match h2[k]? with
  | some (some (.dct kvs))=>match jjc i with
   | some j=>if kvs.length<16777216 then .nx ρ (h2.set k (some (.dct (putK kvs j d)))) else .stuck
   | none=> .stuck
  | _=> .stuck
 | _=> .stuck
@[simp] def jeq(mo me:ME):MS:=λρ h=>(mo ρ h).toS λo h1=>match o with
 | .ref k=>match h1[k]? with
  | some (some (.lst _))=>(me ρ h1).toS λd h2=>match h2[k]? with
   | some (some (.lst xs))=>if xs.length<16777216 then .nx ρ (h2.set k (some (.lst (xs++[d])))) else .stuck
   | _=> .stuck
  | _=> .stuck
 | _=> .stuck
@[simp] def jdg(i:Nat)(b:MS):MS:=λρ h=>match ρ[i]? with
 | some (some (.ref k))=>match h[k]? with
  | some (some (.lst xs))=>b (ρ.set i (some (.lst xs))) (h.set k none)
  | _=> .stuck
 | _=> .stuck
@[simp] def jif:ME:=λ_ h=> .ok (.ref h.length) (h++[some (.dct [])])
def jb1(g:MG)(b:MS):List D->Ro->MH->RS
 | [],ρ,h=> .nx ρ h
 | d::ds,ρ,h=>match g d ρ h with
  | .nx ρ1 h1=>match b ρ1 h1 with
   | .nx ρ2 h2=>jb1 g b ds ρ2 h2
   | .ct ρ2 h2=>jb1 g b ds ρ2 h2
   | .bk ρ2 h2=> .nx ρ2 h2
   | r=>r
  | _=> .stuck
def okG(q:Option Nat)(all:List D)(h:MH):Prop:=match q with
 | none=>True
 | some k=>h[k]?=some (some (.lst all))
open Classical in
def jei(q:Option Nat)(all:List D)(g:MG)(b:MS):List D->Ro->MH->RS
 | [],ρ,h=>if okG q all h then .nx ρ h else .stuck
 | d::ds,ρ,h=>if okG q all h then(match g d ρ h with
  | .nx ρ1 h1=>match b ρ1 h1 with
   | .nx ρ2 h2=>jei q all g b ds ρ2 h2
   | .ct ρ2 h2=>jei q all g b ds ρ2 h2
   | .bk ρ2 h2=> .nx ρ2 h2
   | r=>r
  | _=> .stuck) else .stuck
@[simp] theorem jb5(all:List D)(g:MG)(b:MS):∀(ds:List D) (ρ:Ro) (h:MH),jei none all g b ds ρ h=jb1 g b ds ρ h
 | [],ρ,h=>by unfold jei jb1;exact if_pos trivial
 | d::ds,ρ,h=>by
  unfold jei jb1
  rw[if_pos (show okG none all h from trivial)]
  split
  ·split
   ·exact jb5 all g b ds _ _
   ·exact jb5 all g b ds _ _
   ·rfl
   ·rfl
  ·rfl
def sFor(l:MI)(g:MG)(b:MS):MS:=λρ h=>(l ρ h).toS λs h1=>jei s.1 s.2 g b s.2 ρ h1
@[simp] theorem jd3(l:MI)(g:MG)(b:MS)(ρ:Ro)(h:MH):sFor l g b ρ h=(l ρ h).toS λs h1=>jei s.1 s.2 g b s.2 ρ h1:=rfl
@[simp] def lIt(m:ME):MI:=λρ h=>(m ρ h).bind λd h1=>match d with
 | .lst xs=> .ok (none,xs) h1
 | .tup xs=> .ok (none,xs) h1
 | .arg ns=> .ok (none,ns.map .int) h1
 | .str z=> .ok (none,z.cps.toList.map λc=> .str ⟨#[c]⟩) h1
 | .ref k=>match h1[k]? with
  | some (some (.lst xs))=> .ok (some k,xs) h1
  | _=> .stuck
 | _=> .stuck
def rng(lo:Int)(n:Nat):List D:=(List.range n).map λ(k:Nat)=> .int (lo+k)
@[simp] def jjf(m:ML):MI:=λρ h=>(m ρ h).bind λl h1=>match l with
 | [.int j]=>chk (j.natAbs<4611686018427387904) (.ok (none,rng 0 j.toNat) h1)
 | _=> .stuck
@[simp] def lRng2(m:ML):MI:=λρ h=>(m ρ h).bind λl h1=>match l with
 | [.int i,.int j]=>chk (i.natAbs<4611686018427387904 /\ j.natAbs<4611686018427387904) (.ok (none,rng i (j - i).toNat) h1)
 | _=> .stuck
@[simp] def lRev(m:ML):MI:=λρ h=>(m ρ h).bind λl h1=>match l with
 | [.lst xs]=> .ok (none,xs.reverse) h1
 | _=> .stuck
def jc6(c:MT)(b:MS):Nat->Ro->MH->RS
 | 0,_,_=> .stuck
 | n+1,ρ,h=>match c ρ h with
  | .ok true h1=>match b ρ h1 with
   | .nx ρ2 h2=>jc6 c b n ρ2 h2
   | .ct ρ2 h2=>jc6 c b n ρ2 h2
   | .bk ρ2 h2=> .nx ρ2 h2
   | r=>r
  | .ok false h1=> .nx ρ h1
  | .exc e h1=> .exc e h1
  | .stuck=> .stuck
open Classical in
def jb7(c:MT)(b:MS):MS:=λρ h=>if e:∃n,jc6 c b n ρ h≠ .stuck then jc6 c b e.choose ρ h else .stuck
theorem je8(c:MT)(b:MS):∀(n k:Nat) (ρ:Ro) (h:MH),jc6 c b n ρ h≠ .stuck->jc6 c b (n+k) ρ h=jc6 c b n ρ h
 | 0,k,ρ,h,q=>absurd rfl q
 | n+1,k,ρ,h,q=>by
  rw[show n+1+k=(n+k)+1 by omega]
  unfold jc6 at q ⊢
  cases e:c ρ h with
  | ok b0 h1=>
   cases b0 with
   | false=>rfl
   | true=>
    simp only[e] at q ⊢
    cases e2:b ρ h1 with
    | nx ρ2 h2=>simp only[e2] at q ⊢;exact je8 c b n k ρ2 h2 q
    | ct ρ2 h2=>simp only[e2] at q ⊢;exact je8 c b n k ρ2 h2 q
    | bk ρ2 h2=>rfl
    | rt d h2=>rfl
    | exc x h2=>rfl
    | stuck=>rfl
  | exc x h1=>rfl
  | stuck=>rfl
theorem ji8{c:MT}{b:MS}{n:Nat}{ρ:Ro}{h:MH}(q:jc6 c b n ρ h≠ .stuck):jb7 c b ρ h=jc6 c b n ρ h:=by
 have e:∃n,jc6 c b n ρ h≠ .stuck:=⟨n,q⟩
 unfold jb7
 rw[dif_pos e]
 have h1:=je8 c b e.choose n ρ h e.choose_spec
 have h2:=je8 c b n e.choose ρ h q
 rw[<-h1,<-h2,Nat.add_comm]
theorem ji7{c:MT}{b:MS}{ρ:Ro}{h:MH}(q:jb7 c b ρ h≠ .stuck):∃n,jc6 c b n ρ h=jb7 c b ρ h:=by
 unfold jb7 at q
 by_cases e:∃n,jc6 c b n ρ h≠ .stuck
 ·exact⟨e.choose,by unfold jb7;rw[dif_pos e]⟩
 ·rw[dif_neg e] at q;exact absurd rfl q
theorem jdp{c:MT}{b:MS}{ρ ρ2:Ro}{h h1 h2:MH}(ec:c ρ h= .ok true h1)(eb:b ρ h1= .nx ρ2 h2):jb7 c b ρ h=jb7 c b ρ2 h2:=by
 by_cases q:jb7 c b ρ2 h2= .stuck
 ·rw[q]
  by_cases q1:jb7 c b ρ h= .stuck
  ·exact q1
  ·obtain⟨n,e⟩:=ji7 q1
   cases n with
   | zero=>rw[<-e];rfl
   | succ n=>
    rw[<-e] at q1 ⊢
    unfold jc6 at q1 ⊢
    simp only[ec,eb] at q1 ⊢
    rw[<-ji8 q1];exact q
 ·obtain⟨n,e⟩:=ji7 q
  have e1:jc6 c b (n+1) ρ h=jc6 c b n ρ2 h2:=by
   conv=>lhs;unfold jc6
   simp only[ec,eb]
  rw[ji8 (n:=n+1) (by rw[e1,e];exact q),e1,e]
theorem jd6{c:MT}{b:MS}{ρ:Ro}{h h1:MH}(ec:c ρ h= .ok false h1):jb7 c b ρ h= .nx ρ h1:=by
 have e1:jc6 c b 1 ρ h= .nx ρ h1:=by unfold jc6;simp only[ec]
 rw[ji8 (n:=1) (by rw[e1];exact λz=>nomatch z),e1]
@[simp] def caps(idx:List Nat)(ρ:Ro):Ro:=idx.map λj=>(ρ[j]?).getD none
def compLoop(g:MG)(t:MT)(m:ME)(ρ0:Ro):List D->MH->Res (List D)
 | [],h=> .ok [] h
 | d::ds,h=>match g d ρ0 h with
  | .nx ρ1 h1=>match t ρ1 h1 with
   | .ok true h2=>match m ρ1 h2 with
    | .ok y h3=>match compLoop g t m ρ0 ds h3 with
     | .ok ys h4=> .ok (y::ys) h4
     | _=> .stuck
    | _=> .stuck
   | .ok false h2=>compLoop g t m ρ0 ds h2
   | _=> .stuck
  | _=> .stuck
@[simp] def tYes:MT:=λ_ h=> .ok true h
open Classical in
def jba(q:Option Nat)(all:List D)(g:MG)(t:MT)(m:ME)(ρ0:Ro):List D->MH->Res (List D)
 | [],h=>if okG q all h then .ok [] h else .stuck
 | d::ds,h=>if okG q all h then(match g d ρ0 h with
  | .nx ρ1 h1=>match t ρ1 h1 with
   | .ok true h2=>match m ρ1 h2 with
    | .ok y h3=>match jba q all g t m ρ0 ds h3 with
     | .ok ys h4=> .ok (y::ys) h4
     | _=> .stuck
    | _=> .stuck
   | .ok false h2=>jba q all g t m ρ0 ds h2
   | _=> .stuck
  | _=> .stuck) else .stuck
@[simp] theorem jf9(all:List D)(g:MG)(t:MT)(m:ME)(ρ0:Ro):∀(ds:List D) (h:MH),jba none all g t m ρ0 ds h=compLoop g t m ρ0 ds h
 | [],h=>by unfold jba compLoop;exact if_pos trivial
 | d::ds,h=>by
  unfold jba compLoop
  rw[if_pos (show okG none all h from trivial)]
  split
  ·split
   ·split
    ·rw[jf9 all g t m ρ0 ds]
    ·rfl
   ·exact jf9 all g t m ρ0 ds _
   ·rfl
  ·rfl
def jgw(nt:Nat)(idx:List Nat)(l:MI)(g:MG)(t:MT)(m:ME):ML:=λρ h=>(l ρ h).bind λs h1=>chk (s.2.length<16777216) (jba s.1 s.2 g t m (List.replicate nt none++caps idx ρ) s.2 h1)
@[simp] theorem lComp_def(nt:Nat)(idx:List Nat)(l:MI)(g:MG)(t:MT)(m:ME)(ρ:Ro)(h:MH):jgw nt idx l g t m ρ h=(l ρ h).bind λs h1=>chk (s.2.length<16777216) (jba s.1 s.2 g t m (List.replicate nt none++caps idx ρ) s.2 h1):=rfl
@[simp] def asO(h:MH):D->Option (String×List (Str×D))
 | .obj c fs=>some (c,fs)
 | .ref k=>match h[k]? with
  | some (some (.ins c fs))=>some (c,fs)
  | _=>none
 | _=>none
def putF(f:Str)(d:D):List (Str×D)->List (Str×D)
  | []=>[(f,d)]
  | (g,x)::r=>if g=f then(g,d)::r else(g,x)::putF f d r
@[simp] def mFld(tab:List String)(f:Str)(m:ME):ME:=λρ h=>(m ρ h).bind λd h1=>(oR (asO h1 d) h1).bind λo h2=>chk (o.1∈tab) (oR (o.2.lookup f) h2)
@[simp] def jfi(tab:List String)(f:Str)(mo me:ME):MS:=λρ h=>(me ρ h).toS λd h1=>(mo ρ h1).toS λo h2=>match o with
 | .ref k=>match h2[k]? with
  | some (some (.ins c fs))=>if c∈tab /\ fs.length<1000 then .nx ρ (h2.set k (some (.ins c (putF f d fs)))) else .stuck
  | _=> .stuck
 | _=> .stuck
@[simp] def jat(tab:List (String×MF))(f:Str)(m:ME)(l:ML):ME:=λρ h=>(m ρ h).bind λd h1=>(oR (asO h1 d) h1).bind λo h2=>(oR (tab.lookup o.1) h2).bind λz h2=>chk (o.2.lookup f=none) ((l ρ h1).bind λds h3=>z (d::ds) h3)
@[simp] def jek(c:String)(z:MF)(l:ML):ME:=λρ h=>(l ρ h).bind λds h1=>(z (.ref h1.length::ds) (h1++[some (.ins c [])])).bind λd h2=>match d with
 | .non=>match h2[h1.length]? with
  | some (some (.ins c' fs))=> .ok (.obj c' fs) (h2.set h1.length none)
  | _=> .stuck
 | _=> .stuck
@[simp] def jqi(c:String)(z:MF)(l:ML):ME:=λρ h=>(l ρ h).bind λds h1=>(z (.ref h1.length::ds) (h1++[some (.ins c [])])).bind λd h2=>match d with
 | .non=> .ok (.ref h1.length) h2
 | _=> .stuck
def jgp(ds:List D):List D:=ds.mapIdx λi d=> .tup [.int i,d]
@[simp] def jiq(m:ML):MI:=λρ h=>(m ρ h).bind λl h1=>match l with
 | [.lst xs]=> .ok (none,jgp xs) h1
 | [.arg ns]=> .ok (none,jgp (ns.map .int)) h1
 | _=> .stuck
def Res.noX{α:Type}(r:Res α):Res α:=match r with
 | .ok a h=> .ok a h | .exc _ _=> .stuck | .stuck=> .stuck
@[simp] theorem noX_ok{α:Type}{a:α}{h:MH}:(Res.ok a h).noX= .ok a h:=rfl
@[simp] theorem noX_exc{α:Type}{c:String}{h:MH}:(Res.exc c h:Res α).noX= .stuck:=rfl
@[simp] theorem noX_stuck{α:Type}:(Res.stuck:Res α).noX= .stuck:=rfl
@[simp] def lNox(l:ML):ML:=λρ h=>(l ρ h).noX
@[simp] def mNox(m:ME):ME:=λρ h=>(m ρ h).noX
@[simp] def tNox(m:MT):MT:=λρ h=>(m ρ h).noX
def RS.noX:RS->RS
 | .exc _ _=> .stuck | r=>r
@[simp] theorem noXS_nx{ρ:Ro}{h:MH}:(RS.nx ρ h).noX= .nx ρ h:=rfl
@[simp] theorem noXS_rt{d:D}{h:MH}:(RS.rt d h).noX= .rt d h:=rfl
@[simp] theorem noXS_bk{ρ:Ro}{h:MH}:(RS.bk ρ h).noX= .bk ρ h:=rfl
@[simp] theorem noXS_ct{ρ:Ro}{h:MH}:(RS.ct ρ h).noX= .ct ρ h:=rfl
@[simp] theorem noXS_exc{c:String}{h:MH}:(RS.exc c h).noX= .stuck:=rfl
@[simp] theorem noXS_stuck:RS.stuck.noX= .stuck:=rfl
def RS.gone(i:Nat):RS->RS
 | .nx ρ h=> .nx (ρ.set i none) h | .bk ρ h=> .bk (ρ.set i none) h | .ct ρ h=> .ct (ρ.set i none) h | r=>r
@[simp] theorem gone_nx{i:Nat}{ρ:Ro}{h:MH}:(RS.nx ρ h).gone i= .nx (ρ.set i none) h:=rfl
@[simp] theorem gone_rt{i:Nat}{d:D}{h:MH}:(RS.rt d h).gone i= .rt d h:=rfl
@[simp] theorem gone_bk{i:Nat}{ρ:Ro}{h:MH}:(RS.bk ρ h).gone i= .bk (ρ.set i none) h:=rfl
@[simp] theorem gone_ct{i:Nat}{ρ:Ro}{h:MH}:(RS.ct ρ h).gone i= .ct (ρ.set i none) h:=rfl
@[simp] theorem gone_stuck{i:Nat}:RS.stuck.gone i= .stuck:=rfl
@[simp] def sTry(b:MS)(f:String->MS):MS:=λρ h=>match b ρ h with
 | .exc c h1=>f c ρ h1 | r=>r
@[simp] def cNil:String->MS:=λ_ _ _=> .stuck
@[simp] def cAs(tab:List (String×Bool))(i:Nat)(m:MS)(r:String->MS):String->MS:=λc ρ h=>match tab.lookup c with
 | some true=>((m (ρ.set i (some (.exc c))) h).noX).gone i
 | some false=>r c ρ h
 | none=> .stuck
@[simp] def cBare(tab:List (String×Bool))(m:MS)(r:String->MS):String->MS:=λc ρ h=>match tab.lookup c with
 | some true=>(m ρ h).noX
 | some false=>r c ρ h
 | none=> .stuck
@[simp] def fIsx(tab:List ((String×Bool×String)×Bool)):List D->MH->Res D:=λl h=>match l with
 | [.exc c,.cls n]=>(oR (tab.lookup (c,true,n)) h).bind λb h=> .ok (.bl b) h
 | [.exc c,.ty n]=>(oR (tab.lookup (c,false,n)) h).bind λb h=> .ok (.bl b) h
 | _=> .stuck
mutual
def D.bnd(n:Nat):D->Bool
 | .ref k=>k<n
 | .tup xs | .lst xs=>D.bnds n xs
 | .obj _ fs=>D.bndf n fs
 | _=>true
def D.bnds(n:Nat):List D->Bool
 | []=>true
 | d::ds=>D.bnd n d&&D.bnds n ds
def D.bndf(n:Nat):List (Str×D)->Bool
  | []=>true
  | (_,d)::ds=>D.bnd n d&&D.bndf n ds
end
def Cell.bnd(n:Nat):Option Cell->Bool
 | none=>true
 | some (.lst xs)=>D.bnds n xs
 | some (.dct kvs)=>D.bnds n (kvs.map (·.2))
 | some (.fdc kvs)=>D.bnds n (kvs.map (·.2))
 | some (.ins _ fs)=>D.bnds n (fs.map (·.2))
@[simp] def fin(n:Nat)(d:D)(h:MH):Res D:=
 if h.length<=n then .ok d h else if(d.bnd n&&(h.take n).all (Cell.bnd n))=true then .ok d (h.take n) else .ok d h
@[simp] def mFun(np nn:Nat)(b:MS):MF:=λds h=>if ds.length=np then match b (ds.map some++List.replicate (nn - ds.length) none) h with
 | .nx _ h1=>fin h.length .non h1
 | .rt d h1=>fin h.length d h1
 | .exc c h1=>if h1.length<=h.length then .exc c h1 else if(h1.take h.length).all (Cell.bnd h.length)=true then .exc c (h1.take h.length) else .exc c h1
 | _=> .stuck
 else .stuck
@[simp] def lAdd(a b:ME):ML:=λρ h=>(a ρ h).bind λx h1=>(b ρ h1).bind λy h2=>(oR (asL h2 x) h2).bind λxs h3=>(oR (asL h3 y) h3).bind λys h4=>chk (xs.length+ys.length<=16777216) (.ok (xs++ys) h4)
@[simp] def jh3(m:ML):ML:=λρ h=>(m ρ h).bind λl h1=>match l with
 | [d]=>(oR (asL h1 d) h1).bind λxs h2=> .ok xs.reverse h2
 | _=> .stuck
@[simp] def lListRng(m:ML):ML:=λρ h=>(m ρ h).bind λl h1=>match l with
 | [.int n]=>chk (n.natAbs<=16777216) (.ok ((List.range n.toNat).map λ(k:Nat)=>D.int (k:Int)) h1)
 | _=> .stuck
@[simp] def jdv:List (Sum Int Str×D)->Option (List Int)
  | []=>some []
  | (.inl i,_)::r=>(jdv r).map (i::·)
  | (.inr _,_)::_=>none
@[simp] def jpw(h:MH):D->Option (List Int)
 | .ref k=>match h[k]? with
  | some (some (.dct kvs))=>jdv kvs
  | _=>none
 | _=>none
@[simp] def js1:List D->MH->Res D:=λl h=>match l with
 | [d]=>(oR (jpw h d) h).bind λns h=> .ok (.int ns.sum) h
 | _=> .stuck
def srt(ns:List Int):List Int:=ns.mergeSort (λa b=>decide (a<=b))
@[simp] def lSort(m:ML):ML:=λρ h=>(m ρ h).bind λl h1=>match l with
 | [d]=>match asLi h1 d with
  | some ns=>chk (ns.length<=100000) (.ok ((srt ns).map D.int) h1)
  | none=>(oR (jpw h1 d) h1).bind λns h2=>chk (ns.length<=100000) (.ok ((srt ns).map D.int) h2)
 | _=> .stuck
def jcm(kvs more:List (Sum Int Str×D)):List (Sum Int Str×D):=more.foldl (λacc kv=>putK acc kv.1 kv.2) kvs
@[simp] def mUpd(mo:ME)(ml:ML):ME:=λρ h=>(mo ρ h).bind λo h1=>match o with
 | .ref k=>match h1[k]? with
  | some (some (.dct _))=>(ml ρ h1).bind λl h2=>match l with
   | [.ref j]=>match h2[k]? with
    | some (some (.dct kvs))=>match h2[j]? with
     | some (some (.dct more))=>chk (k≠j /\ kvs.length+more.length<=16777216) (.ok .non (h2.set k (some (.dct (jcm kvs more)))))
     | _=> .stuck
    | _=> .stuck
   | _=> .stuck
  | _=> .stuck
 | _=> .stuck
@[simp] def mBits(m:ME):ME:=λρ h=>(m ρ h).bind λd h1=>match d with
 | .int i=> .ok (.int (Builtin.Int.intBits i:Nat)) h1
 | _=> .stuck
@[simp] def mDisp1(mk mv:ME):ME:=λρ h=>(mk ρ h).bind λx h1=>(mv ρ h1).bind λy h2=>match jjc x with
 | some k=> .ok (.ref h2.length) (h2++[some (.dct [(k,y)])])
 | none=> .stuck
@[simp] def mDget1(mo mk:ME):ME:=λρ h=>(mo ρ h).bind λo h1=>match o with
 | .ref k=>match h1[k]? with
  | some (some (.dct _))=>(mk ρ h1).bind λy h2=>match jjc y with
   | some j=>match h2[k]? with
    | some (some (.dct kvs))=> .ok ((valK kvs j).getD .non) h2
    | _=> .stuck
   | none=> .stuck
  | _=> .stuck
 | _=> .stuck
@[simp] def mDget2(mo mk md:ME):ME:=λρ h=>(mo ρ h).bind λo h1=>match o with
 | .ref k=>match h1[k]? with
  | some (some (.dct _))=>(mk ρ h1).bind λy h2=>match jjc y with
   | some j=>(md ρ h2).bind λz h3=>match h3[k]? with
    | some (some (.dct kvs))=> .ok ((valK kvs j).getD z) h3
    | _=> .stuck
   | none=> .stuck
  | _=> .stuck
 | _=> .stuck
@[simp] def jq7(k:Nat)(kvs:List (Sum Int Str×D)):RS->RS
 | .nx ρ h=>match h[k]? with
  | some none=> .nx ρ (h.set k (some (.dct kvs)))
  | _=> .stuck
 | .rt d h=>match h[k]? with
  | some none=> .rt d (h.set k (some (.dct kvs)))
  | _=> .stuck
 | .exc c h=> .exc c h
 | _=> .stuck
@[simp] def sForV(mo:ME)(g:MG)(b:MS):MS:=λρ h=>(mo ρ h).toS λo h1=>match o with
 | .ref k=>match h1[k]? with
  | some (some (.dct kvs))=>jq7 k kvs (jb1 g b (kvs.map (·.2)) ρ (h1.set k none))
  | _=> .stuck
 | _=> .stuck
def keyD:Sum Int Str->D
 | .inl i=> .int i
 | .inr x=> .str x
@[simp] theorem keyD_i(i:Int):keyD (.inl i)= .int i:=rfl
@[simp] theorem keyD_s(x:Str):keyD (.inr x)= .str x:=rfl
@[simp] def jhm(p:Sum Int Str×D):D:= .tup [keyD p.1,p.2]
@[simp] def jv0(mo:ME)(g:MG)(b:MS):MS:=λρ h=>(mo ρ h).toS λo h1=>match o with
 | .ref k=>match h1[k]? with
  | some (some (.dct kvs))=>jq7 k kvs (jb1 g b (kvs.map jhm) ρ (h1.set k none))
  | _=> .stuck
 | _=> .stuck
@[simp] def thawN(k:Nat)(kvs:List (Sum Int Str×D)):Res (List D)->Res (List D)
 | .ok ds h=>match h[k]? with
  | some none=> .ok ds (h.set k (some (.dct kvs)))
  | _=> .stuck
 | .exc c h=> .exc c h
 | .stuck=> .stuck
@[simp] def lCompI(nt:Nat)(idx:List Nat)(mo:ME)(g:MG)(t:MT)(m:ME):ML:=λρ h=>(mo ρ h).bind λo h1=>match o with
 | .ref k=>match h1[k]? with
  | some (some (.dct kvs))=>chk (kvs.length<16777216) (thawN k kvs (compLoop g t m (List.replicate nt none++caps idx ρ) (kvs.map jhm) (h1.set k none)))
  | _=> .stuck
 | _=> .stuck
@[simp] def lRep(ma mb:ME):ML:=λρ h=>(ma ρ h).bind λx h1=>(mb ρ h1).bind λy h2=>match y with
 | .int k=>(oR (asL h2 x) h2).bind λa h=>chk (k.natAbs<9223372036854775808 /\ a.length*k.toNat<=16777216) (.ok (List.replicate k.toNat a).flatten h)
 | _=> .stuck
@[simp] def jvx(k:Nat)(kvs:List (Sum Int Str×D)):RS->RS
 | .nx ρ h=>match h[k]? with
  | some (some (.fdc _))=> .nx ρ (h.set k (some (.dct kvs)))
  | _=> .stuck
 | .rt d h=>match h[k]? with
  | some (some (.fdc _))=> .rt d (h.set k (some (.dct kvs)))
  | _=> .stuck
 | .exc c h=> .exc c h
 | _=> .stuck
@[simp] def jvl(mo:ME)(g:MG)(b:MS):MS:=λρ h=>(mo ρ h).toS λo h1=>match o with
 | .ref k=>match h1[k]? with
  | some (some (.dct kvs))=>jvx k kvs (jb1 g b (kvs.map λp=>keyD p.1) ρ (h1.set k (some (.fdc kvs))))
  | _=> .stuck
 | _=> .stuck
def jmj(kvs:List (Sum Int Str×D))(k:Sum Int Str):List (Sum Int Str×D):=kvs.filter λkv=>decide (kv.1≠k)
@[simp] def jlr(mo mk:ME):ME:=λρ h=>(mo ρ h).bind λo h1=>match o with
 | .ref k=>match h1[k]? with
  | some (some (.dct _))=>(mk ρ h1).bind λy h2=>match jjc y with
   | some j=>match h2[k]? with
    | some (some (.dct kvs))=>match valK kvs j with
     | some v=> .ok v (h2.set k (some (.dct (jmj kvs j))))
     | none=> .stuck
    | _=> .stuck
   | none=> .stuck
  | _=> .stuck
 | _=> .stuck
def xT(ns:List (Bool×String))(l:List (String×List Bool)):List ((String×Bool×String)×Bool):=l.flatMap λp=>(ns.zip p.2).map λq=>((p.1,q.1.1,q.1.2),q.2)
@[simp] def jjm(mo me:ME):MS:=λρ h=>(mo ρ h).toS λo h1=>match o with
 | .ref k=>match h1[k]? with
  | some (some (.lst _))=>(me ρ h1).toS λd h2=>match h2[k]? with
   | some (some (.lst xs))=>match asL h2 d with
    | some ys=>if xs.length+ys.length<=16777216 then .nx ρ (h2.set k (some (.lst (xs++ys)))) else .stuck
    | none=> .stuck
   | _=> .stuck
  | _=> .stuck
 | _=> .stuck
@[simp] def sClear(mo:ME):MS:=λρ h=>(mo ρ h).toS λo h1=>match o with
 | .ref k=>match h1[k]? with
  | some (some (.lst _))=> .nx ρ (h1.set k (some (.lst [])))
  | _=> .stuck
 | _=> .stuck
@[simp] def lSort6(m:ML):ML:=λρ h=>(m ρ h).bind λl h1=>match l with
 | [d]=>(oR (jpw h1 d) h1).bind λns h2=>chk (ns.length<64) (.ok ((srt ns).map D.int) h2)
 | _=> .stuck
@[simp] def ju6(m:ML):ME:=λρ h=>(m ρ h).bind λl h1=>match l with
 | [.ref k]=>match h1[k]? with
  | some (some (.dct kvs))=> .ok (.ref h1.length) (h1++[some (.dct kvs)])
  | _=> .stuck
 | _=> .stuck
end Z
set_option maxHeartbeats 4000000
namespace L2
open PySem PySem.Spec
structure Ct where
 P:Program
 w:World
 K:W.Frag
 cm:String->Addr
def fv:Z.D->Option V
 | .non=>some .non
 | .bl b=>some (.bl b)
 | .int i=>some (.int i)
 | .str x=>some (.str x)
 | _=>none
section
variable (C : Ct)
mutual
def RV(bs:List Addr)(G:Hp):V->Z.D->Prop
 | v,.non=>v= .non
 | v,.bl b=>v= .bl b
 | v,.int i=>v= .int i
 | v,.str x=>v= .str x
 | v,.tup ds=>∃a vs,v= .ref a /\ G a=some (.tup vs) /\ RVs bs G vs ds
 | v,.lst ds=>∃a vs,v= .ref a /\ G a=some (.lst vs) /\ RVs bs G vs ds
 | v,.arg ns=>∃a,v= .ref a /\ SqL C.K G a (ns.map V.int)
 | v,.ref k=>∃a,v= .ref a /\ bs[k]?=some a
 | v,.ty n=>v= .ty n
 | v,.cls n=>v= .ref (C.cm n)
 | v,.exc c=>∃a oe u,v= .ref a /\ G a=some (.frz oe u) /\ oe.cls= .ref (C.cm c)
 | v,.obj c fs=>∃a dx fvs,v= .ref a /\ G a=some (.ins (C.cm c) dx fvs) /\ RVf bs G fvs fs
 | v,.dic kvs=>∃a kws,v= .ref a /\ KDict C.P C.w C.K a kws /\ kvs.map (λp=>(p.1,fv p.2))=kws.map (λp=>(p.1,some p.2))
def RVs(bs:List Addr)(G:Hp):List V->List Z.D->Prop
 | [],[]=>True
 | v::vs,d::ds=>RV bs G v d /\ RVs bs G vs ds
 | _,_=>False
def RVf(bs:List Addr)(G:Hp):List (Str×V)->List (Str×Z.D)->Prop
  | [],[]=>True
  | (x,v)::vs,(y,d)::ds=>x=y /\ RV bs G v d /\ RVf bs G vs ds
  | _,_=>False
def RVk(bs:List Addr)(G:Hp):List (Key×V)->List (Sum Int Str×Z.D)->Prop
  | [],[]=>True
  | (x,v)::vs,(y,d)::ds=>x=y /\ RV bs G v d /\ RVk bs G vs ds
  | _,_=>False
end
end
theorem Same.sql{K:W.Frag}{H H':Hp}{a:Addr}{xs:List V}(e:Same H H')(h:SqL K H a xs):SqL K H' a xs:=by
 rcases h with(h | ⟨o,h⟩) | h
 ·exact .inl (.inl (e _ _ h))
 ·exact .inl (.inr ⟨o,e _ _ h⟩)
 ·exact .inr h
section
variable {C : Ct}
mutual
theorem RV.mono{bs bs':List Addr}{G G':Hp}(hb:∀(k:Nat) (a:Addr),bs[k]?=some a->bs'[k]?=some a)(hs:Same G G'):∀{d:Z.D} {v:V},RV C bs G v d->RV C bs' G' v d
 | .non,v,h=>by simp only[RV] at h ⊢;exact h
 | .bl b,v,h=>by simp only[RV] at h ⊢;exact h
 | .int i,v,h=>by simp only[RV] at h ⊢;exact h
 | .str x,v,h=>by simp only[RV] at h ⊢;exact h
 | .tup ds,v,h=>by
  simp only[RV] at h ⊢
  obtain⟨a,vs,h1,h2,h3⟩:=h
  exact⟨a,vs,h1,hs _ _ h2,RVs.mono hb hs h3⟩
 | .lst ds,v,h=>by
  simp only[RV] at h ⊢
  obtain⟨a,vs,h1,h2,h3⟩:=h
  exact⟨a,vs,h1,hs _ _ h2,RVs.mono hb hs h3⟩
 | .arg ns,v,h=>by
  simp only[RV] at h ⊢
  obtain⟨a,h1,h2⟩:=h
  exact⟨a,h1,hs.sql h2⟩
 | .ref k,v,h=>by
  simp only[RV] at h ⊢
  obtain⟨a,h1,h2⟩:=h
  exact⟨a,h1,hb _ _ h2⟩
 | .ty n,v,h=>by simp only[RV] at h ⊢;exact h
 | .cls n,v,h=>by simp only[RV] at h ⊢;exact h
 | .exc n,v,h=>by
  simp only[RV] at h ⊢
  obtain⟨a,oe,u,h1,h2,h3⟩:=h
  exact⟨a,oe,u,h1,hs _ _ h2,h3⟩
 | .obj c fs,v,h=>by
  simp only[RV] at h ⊢
  obtain⟨a,dx,fvs,h1,h2,h3⟩:=h
  exact⟨a,dx,fvs,h1,hs _ _ h2,RVf.mono hb hs h3⟩
 | .dic kvs,v,h=>by simp only[RV] at h ⊢;exact h
theorem RVs.mono{bs bs':List Addr}{G G':Hp}(hb:∀(k:Nat) (a:Addr),bs[k]?=some a->bs'[k]?=some a)(hs:Same G G'):∀{ds:List Z.D} {vs:List V},RVs C bs G vs ds->RVs C bs' G' vs ds
 | [],[],_=>by simp only[RVs]
 | d::ds,v::vs,h=>by
  simp only[RVs] at h ⊢
  exact⟨RV.mono hb hs h.1,RVs.mono hb hs h.2⟩
 | [],_::_,h=>by simp only[RVs] at h
 | _::_,[],h=>by simp only[RVs] at h
theorem RVf.mono{bs bs':List Addr}{G G':Hp}(hb:∀(k:Nat) (a:Addr),bs[k]?=some a->bs'[k]?=some a)(hs:Same G G'):∀{ds:List (Str×Z.D)} {vs:List (Str×V)},RVf C bs G vs ds->RVf C bs' G' vs ds
  | [],[],_=>by simp only[RVf]
  | (y,d)::ds,(x,v)::vs,h=>by
    simp only[RVf] at h ⊢
    exact⟨h.1,RV.mono hb hs h.2.1,RVf.mono hb hs h.2.2⟩
  | [],_::_,h=>by simp only[RVf] at h
  | _::_,[],h=>by simp only[RVf] at h
theorem RVk.mono{bs bs':List Addr}{G G':Hp}(hb:∀(k:Nat) (a:Addr),bs[k]?=some a->bs'[k]?=some a)(hs:Same G G'):∀{ds:List (Sum Int Str×Z.D)} {vs:List (Key×V)},RVk C bs G vs ds->RVk C bs' G' vs ds
  | [],[],_=>by simp only[RVk]
  | (y,d)::ds,(x,v)::vs,h=>by
    simp only[RVk] at h ⊢
    exact⟨h.1,RV.mono hb hs h.2.1,RVk.mono hb hs h.2.2⟩
  | [],_::_,h=>by simp only[RVk] at h
  | _::_,[],h=>by simp only[RVk] at h
end
def lv(bs:List Addr)(h:Z.MH)(a:Addr):Prop:=∃(k:Nat) (c:Z.Cell),bs[k]?=some a /\ h[k]?=some (some c) /\ c.live=true
open Classical in
def gh(ex bs:List Addr)(h:Z.MH)(H:Hp):Hp:=λa=>if a∈ex \/ lv bs h a then none else H a
theorem jb3{ex bs:List Addr}{h:Z.MH}{H:Hp}{a:Addr}{o:HO}:gh ex bs h H a=some o↔a∉ex /\ ¬lv bs h a /\ H a=some o:=by
 unfold gh
 by_cases q:a∈ex \/ lv bs h a
 ·rw[if_pos q]
  constructor
  ·intro z;cases z
  ·rintro⟨h1,h2,_⟩
   rcases q with q | q
   ·exact absurd q h1
   ·exact absurd q h2
 ·rw[if_neg q]
  exact⟨λz=>⟨λm=>q (.inl m),λm=>q (.inr m),z⟩,λz=>z.2.2⟩
theorem jbj{ex bs:List Addr}{h:Z.MH}{H:Hp}:Same (gh ex bs h H) H:=λa o e=>(jb3.mp e).2.2
def jee(C:Ct)(bs:List Addr)(G H:Hp)(a:Addr):Z.Cell->Prop
 | .lst ds=>∃vs,H a=some (.lst vs) /\ RVs C bs G vs ds
 | .dct kvs=>∃kws,H a=some (.dK kws) /\ RVk C bs G kws kvs
 | .ins c fs=>∃dx fvs,H a=some (.ins (C.cm c) dx fvs) /\ RVf C bs G fvs fs
 | .fdc kvs=>∃o kws,G a=some (.frz o (.dK kws)) /\ o.cls= .type "dict" /\ RVk C bs G kws kvs
theorem jee.mono{bs bs':List Addr}{G G' H H':Hp}{a:Addr}{c:Z.Cell}(hb:∀(k:Nat) (a:Addr),bs[k]?=some a->bs'[k]?=some a)(hs:Same G G')(e:H' a=H a)(h:jee C bs G H a c):jee C bs' G' H' a c:=by
 cases c with
 | lst ds=>obtain⟨vs,h1,h2⟩:=h;exact⟨vs,by rw[e];exact h1,h2.mono hb hs⟩
 | dct kvs=>obtain⟨vs,h1,h2⟩:=h;exact⟨vs,by rw[e];exact h1,h2.mono hb hs⟩
 | ins c fs=>obtain⟨dx,vs,h1,h2⟩:=h;exact⟨dx,vs,by rw[e];exact h1,h2.mono hb hs⟩
 | fdc kvs=>obtain⟨o,vs,h1,hc,h2⟩:=h;exact⟨o,vs,hs _ _ h1,hc,h2.mono hb hs⟩
structure HR (C:Ct) (ex bs:List Addr) (h:Z.MH) (H:Hp):Prop where
 len:bs.length=h.length
 inj:∀(i j:Nat) (a:Addr),bs[i]?=some a->bs[j]?=some a->i=j
 sep:∀a∈ex,a∉bs
 dom:∀a∈bs,H a≠none
 domx:∀a∈ex,H a≠none
 cell:∀(k:Nat) (a:Addr) (c:Z.Cell),bs[k]?=some a->h[k]?=some (some c)->jee C bs (gh ex bs h H) H a c
structure Ev (C:Ct) (ex bs:List Addr) (h:Z.MH) (H:Hp) (bs':List Addr) (h':Z.MH) (H':Hp):Prop where
 pre:∀(k:Nat) (a:Addr),bs[k]?=some a->bs'[k]?=some a
 hr:HR C ex bs' h' H'
 same:Same (gh ex bs h H) (gh ex bs' h' H')
 exs:∀a∈ex,H' a=H a
variable {ex bs bs1 bs2 : List Addr} {h h1 h2 : Z.MH} {H H1 H2 : Hp}
theorem Ev.refl(r:HR C ex bs h H):Ev C ex bs h H bs h H:=⟨λ_ _ e=>e,r,Same.refl _,λ_ _=>rfl⟩
theorem Ev.trans(a:Ev C ex bs h H bs1 h1 H1)(b:Ev C ex bs1 h1 H1 bs2 h2 H2):Ev C ex bs h H bs2 h2 H2:=
 ⟨λk x e=>b.pre k x (a.pre k x e),b.hr,a.same.trans b.same,λx hx=>(b.exs x hx).trans (a.exs x hx)⟩
theorem RV.ev{v:V}{d:Z.D}(e:Ev C ex bs h H bs1 h1 H1)(r:RV C bs (gh ex bs h H) v d):RV C bs1 (gh ex bs1 h1 H1) v d:=r.mono e.pre e.same
theorem RVs.ev{v:List V}{d:List Z.D}(e:Ev C ex bs h H bs1 h1 H1)(r:RVs C bs (gh ex bs h H) v d):RVs C bs1 (gh ex bs1 h1 H1) v d:=r.mono e.pre e.same
def RE(C:Ct)(bs:List Addr)(G:Hp)(ρ:Z.Ro)(σ:St):Prop:=ρ.length=σ.length /\ ∀(i:Nat) (d:Z.D),ρ[i]?=some (some d)->∃v,σ[i]?=some (some v) /\ RV C bs G v d
theorem RE.ev{ρ:Z.Ro}{σ:St}(e:Ev C ex bs h H bs1 h1 H1)(r:RE C bs (gh ex bs h H) ρ σ):RE C bs1 (gh ex bs1 h1 H1) ρ σ:=
 ⟨r.1,λi d q=>by obtain⟨v,h1,h2⟩:=r.2 i d q;exact⟨v,h1,h2.ev e⟩⟩
theorem RE.set{G:Hp}{ρ:Z.Ro}{σ:St}{i:Nat}{d:Z.D}{v:V}(r:RE C bs G ρ σ)(q:RV C bs G v d):RE C bs G (ρ.set i (some d)) (σ.set i (some v)):=by
 refine⟨by simp[r.1],λj e hj=> ?_⟩
 by_cases hij:i=j
 ·subst hij
  rw[List.getElem?_set_self'] at hj
  have hl:i<ρ.length:=by
   by_cases hl:i<ρ.length
   ·exact hl
   ·rw[List.getElem?_eq_none (by omega)] at hj;simp at hj
  rw[List.getElem?_eq_getElem hl] at hj
  simp at hj
  subst hj
  refine⟨v,?_,q⟩
  rw[List.getElem?_set_self (by rw[<-r.1];exact hl)]
 ·rw[List.getElem?_set_ne hij] at hj
  obtain⟨u,h1,h2⟩:=r.2 j e hj
  exact⟨u,by rw[List.getElem?_set_ne hij];exact h1,h2⟩
def Post(C:Ct)(ex:List Addr)(E:XK)(bs:List Addr)(h:Z.MH)(H:Hp){α β:Type}(R:List Addr->Hp->β->α->Prop)(r:Z.Res α)(Q:β->Hp->Prop):Prop:=match r with
 | .ok a h'=>∀b bs' H',Ev C ex bs h H bs' h' H'->R bs' (gh ex bs' h' H') b a->Q b H'
 | .exc c h'=>∀bs' H',Ev C ex bs h H bs' h' H'->E (.ref (C.cm c)) none H'
 | .stuck=>False
variable {E : XK} {α β γ δ : Type} {R : List Addr -> Hp -> β -> α -> Prop} {R1 : List Addr -> Hp -> β -> α -> Prop} {R3 : List Addr -> Hp -> δ -> γ -> Prop}
theorem Post.from{r:Z.Res α}{Q:β->Hp->Prop}(e:Ev C ex bs h H bs1 h1 H1)(p:Post C ex E bs h H R r Q):Post C ex E bs1 h1 H1 R r Q:=by
 cases r with
 | ok a h'=>exact λb bs' H' e' q=>p b bs' H' (e.trans e') q
 | exc c h'=>exact λbs' H' e'=>p bs' H' (e.trans e')
 | stuck=>exact p
theorem Post.bind{r:Z.Res α}{f:α->Z.MH->Z.Res γ}{Q:δ->Hp->Prop}{Q1:β->Hp->Prop}(p:Post C ex E bs h H R3 (r.bind f) Q)
  (k:∀a b h1 bs1 H1,Ev C ex bs h H bs1 h1 H1->R1 bs1 (gh ex bs1 h1 H1) b a->Post C ex E bs1 h1 H1 R3 (f a h1) Q->Q1 b H1):Post C ex E bs h H R1 r Q1:=by
 cases r with
 | ok a h'=>exact λb bs' H' e' q=>k a b h' bs' H' e' q (Post.from e' p)
 | exc c h'=>exact p
 | stuck=>exact p
theorem Post.now{a:α}{b:β}{Q:β->Hp->Prop}(hr:HR C ex bs h H)(p:Post C ex E bs h H R (.ok a h) Q)(q:R bs (gh ex bs h H) b a):Q b H:=p b bs H (Ev.refl hr) q
theorem Post.chk{c:Prop}[Decidable c]{r:Z.Res α}{Q:β->Hp->Prop}(p:Post C ex E bs h H R (Z.chk c r) Q):c /\ Post C ex E bs h H R r Q:=by
 unfold Z.chk at p
 by_cases q:c
 ·rw[if_pos q] at p;exact⟨q,p⟩
 ·rw[if_neg q] at p;exact p.elim
theorem Post.oR{o:Option α}{f:α->Z.MH->Z.Res γ}{Q:δ->Hp->Prop}(p:Post C ex E bs h H R3 ((Z.oR o h1).bind f) Q):∃a,o=some a /\ Post C ex E bs h H R3 (f a h1) Q:=by
 cases o with
 | none=>exact p.elim
 | some a=>exact⟨a,rfl,p⟩
theorem Post.oR1{o:Option α}{Q:β->Hp->Prop}(p:Post C ex E bs h H R (Z.oR o h1) Q):∃a,o=some a /\ Post C ex E bs h H R (.ok a h1) Q:=by
 cases o with
 | none=>exact p.elim
 | some a=>exact⟨a,rfl,p⟩
def Snd(C:Ct)(E:XK){α β:Type}(R:List Addr->Hp->β->α->Prop)(t:St->Hp->(β->Hp->Prop)->Prop)(m:Z.Ro->Z.MH->Z.Res α):Prop:=
 ∀(ex bs:List Addr) (h:Z.MH) (ρ:Z.Ro) (σ:St) (H:Hp) (Q:β->Hp->Prop),HR C ex bs h H->RE C bs (gh ex bs h H) ρ σ->Post C ex E bs h H R (m ρ h) Q->t σ H Q
abbrev SE(C:Ct)(E:XK)(t:TE)(m:Z.ME):Prop:=Snd C E (RV C) t m
abbrev SA(C:Ct)(E:XK)(t:TA)(m:Z.ML):Prop:=Snd C E (RVs C) t m
def REq{α:Type}:List Addr->Hp->α->α->Prop:=λ_ _ b a=>b=a
abbrev ST(C:Ct)(E:XK)(t:TT)(m:Z.MT):Prop:=Snd C E REq t m
abbrev SO(C:Ct)(E:XK)(t:TO)(m:Z.MO):Prop:=Snd C E REq t m
def S2(C:Ct)(r:R2)(f:Z.B2):Prop:=∀(ex bs:List Addr) (h:Z.MH) (H:Hp) (E:XK) (x y:V) (dx dy:Z.D) (Q:VK),HR C ex bs h H->RV C bs (gh ex bs h H) x dx->RV C bs (gh ex bs h H) y dy->Post C ex E bs h H (RV C) (f dx dy h) Q->r x y H Q
def S1(C:Ct)(r:V->Hp->VK->Prop)(f:Z.D->Z.MH->Z.Res Z.D):Prop:=∀(ex bs:List Addr) (h:Z.MH) (H:Hp) (E:XK) (x:V) (dx:Z.D) (Q:VK),HR C ex bs h H->RV C bs (gh ex bs h H) x dx->Post C ex E bs h H (RV C) (f dx h) Q->r x H Q
def SL(C:Ct)(r:List V->Hp->VK->Prop)(f:List Z.D->Z.MH->Z.Res Z.D):Prop:=∀(ex bs:List Addr) (h:Z.MH) (H:Hp) (E:XK) (xs:List V) (ds:List Z.D) (Q:VK),HR C ex bs h H->RVs C bs (gh ex bs h H) xs ds->Post C ex E bs h H (RV C) (f ds h) Q->r xs H Q
theorem ja1{i:Nat}:SE C E (tVar i) (Z.mVar i):=by
 intro ex bs h ρ σ H Q hr re p
 unfold Z.mVar at p
 cases q:ρ[i]? with
 | none=>rw[q] at p;exact p.elim
 | some o=>
  cases o with
  | none=>rw[q] at p;exact p.elim
  | some d=>
   rw[q] at p
   obtain⟨v,h1,h2⟩:=re.2 i d q
   exact⟨v,h1,p.now hr h2⟩
theorem s_c{v:V}{d:Z.D}(q:∀bs G,RV C bs G v d):SE C E (tC v) (Z.mC d):=λex bs h ρ σ H Q hr re p=>Post.now hr p (q _ _)
theorem jab{i:Int}:SE C E (tC (.int i)) (Z.mC (.int i)):=s_c λ_ _=>by simp only[RV]
theorem jf6{i:Str}:SE C E (tC (.str i)) (Z.mC (.str i)):=s_c λ_ _=>by simp only[RV]
theorem s_bl{i:Bool}:SE C E (tC (.bl i)) (Z.mC (.bl i)):=s_c λ_ _=>by simp only[RV]
theorem js8:SE C E (tC .non) (Z.mC .non):=s_c λ_ _=>by simp only[RV]
theorem s_ty{n:String}:SE C E (tC (.ty n)) (Z.mC (.ty n)):=s_c λ_ _=>by simp only[RV]
theorem s_op{r:R2}{f:Z.B2}{ta tb:TE}{ma mb:Z.ME}(o:S2 C r f)(ha:SE C E ta ma)(hb:SE C E tb mb):SE C E (tOp r ta tb) (Z.mBin f ma mb):=by
 intro ex bs h ρ σ H Q hr re p
 refine ha ex bs h ρ σ H _ hr re (p.bind λdx x h1 bs1 H1 e1 rx p1=> ?_)
 refine hb ex bs1 h1 ρ σ H1 _ e1.hr (re.ev e1) (p1.bind λdy y h2 bs2 H2 e2 ry p2=> ?_)
 exact o ex bs2 h2 H2 E x y dx dy Q e2.hr (rx.ev e2) ry p2
theorem s_un{r:V->Hp->VK->Prop}{f:Z.D->Z.MH->Z.Res Z.D}{ta:TE}{ma:Z.ME}(o:S1 C r f)(ha:SE C E ta ma):SE C E (tUn r ta) (Z.mUn f ma):=by
 intro ex bs h ρ σ H Q hr re p
 refine ha ex bs h ρ σ H _ hr re (p.bind λdx x h1 bs1 H1 e1 rx p1=> ?_)
 exact o ex bs1 h1 H1 E x dx Q e1.hr rx p1
theorem jae:SA C E tNil Z.mNil:=λex bs h ρ σ H Q hr re p=>Post.now hr p (by simp only[RVs])
theorem ja4{ta:TE}{tl:TA}{ma:Z.ME}{ml:Z.ML}(ha:SE C E ta ma)(hl:SA C E tl ml):SA C E (jse ta tl) (Z.ja2 ma ml):=by
 intro ex bs h ρ σ H Q hr re p
 refine ha ex bs h ρ σ H _ hr re (p.bind λdx x h1 bs1 H1 e1 rx p1=> ?_)
 refine hl ex bs1 h1 ρ σ H1 _ e1.hr (re.ev e1) (p1.bind λdy y h2 bs2 H2 e2 ry p2=> ?_)
 exact Post.now e2.hr p2 (by simp only[RVs];exact⟨rx.ev e2,ry⟩)
theorem s_cb{r:List V->Hp->VK->Prop}{f:List Z.D->Z.MH->Z.Res Z.D}{tl:TA}{ml:Z.ML}(o:SL C r f)(hl:SA C E tl ml):SE C E (tCB r tl) (Z.mFn f ml):=by
 intro ex bs h ρ σ H Q hr re p
 refine hl ex bs h ρ σ H _ hr re (p.bind λdx x h1 bs1 H1 e1 rx p1=> ?_)
 exact o ex bs1 h1 H1 E x dx Q e1.hr rx p1
theorem RVs.len{bs:List Addr}{G:Hp}:∀{ds:List Z.D} {vs:List V},RVs C bs G vs ds->vs.length=ds.length
 | [],[],_=>rfl
 | d::ds,v::vs,h=>by simp only[RVs] at h;simp[RVs.len h.2]
 | [],_::_,h=>by simp only[RVs] at h
 | _::_,[],h=>by simp only[RVs] at h
theorem Ev.alloc{p:Addr}{o:HO}(hr:HR C ex bs h H)(hp:H p=none):Ev C ex bs h H bs h (upd H p o) /\ gh ex bs h (upd H p o) p=some o:=by
 have nx:p∉ex:=λm=>hr.domx p m hp
 have nb:p∉bs:=λm=>hr.dom p m hp
 have nl:¬lv bs h p:=λ⟨k,c,e,_⟩=>nb (List.mem_of_getElem? e)
 have ne:∀{a},H a≠none->a≠p:=fun{a} q e=>q (by rw[e];exact hp)
 have sm:Same (gh ex bs h H) (gh ex bs h (upd H p o)):=λa u e=>by
  obtain⟨h1,h2,h3⟩:=jb3.mp e
  exact jb3.mpr ⟨h1,h2,by rw[jad (ne (by rw[h3];exact λz=>nomatch z))];exact h3⟩
 refine⟨⟨λ_ _ e=>e,⟨hr.len,hr.inj,hr.sep,λa m=> ?_,λa m=> ?_,λk a c e1 e2=> ?_⟩,sm,λa m=> ?_⟩,jb3.mpr ⟨nx,nl,jap⟩⟩
 ·rw[jad (ne (hr.dom a m))];exact hr.dom a m
 ·rw[jad (ne (hr.domx a m))];exact hr.domx a m
 ·exact(hr.cell k a c e1 e2).mono (λ_ _ e=>e) sm (by rw[jad (ne (hr.dom a (List.mem_of_getElem? e1)))])
 ·rw[jad (ne (hr.domx a m))]
theorem jdh{tl:TA}{ml:Z.ML}(hl:SA C E tl ml):SE C E (tTup tl) (Z.mTup ml):=by
 intro ex bs h ρ σ H Q hr re p
 refine hl ex bs h ρ σ H _ hr re (p.bind λds xs h1 bs1 H1 e1 rx p1=> ?_)
 obtain⟨hz,p1⟩:=p1.chk
 refine⟨by rw[rx.len];exact hz,λa ha=> ?_⟩
 obtain⟨e2,g⟩:=Ev.alloc (o:= .tup xs) e1.hr ha
 exact p1 (.ref a) bs1 _ e2 (by simp only[RV];exact⟨a,xs,rfl,g,rx.ev e2⟩)
def jdz(C:Ct)(ex:List Addr)(E:XK)(bs:List Addr)(h:Z.MH)(H:Hp)(r:Z.Res (List Z.D))(Q:VK):Prop:=match r with
 | .ok ds h'=>∀p vs bs' H1,Ev C ex bs h H bs' h' H1->H1 p=none->RVs C bs' (gh ex bs' h' H1) vs ds->Q (.ref p) (upd H1 p (.lst vs))
 | .exc c h'=>∀bs' H',Ev C ex bs h H bs' h' H'->E (.ref (C.cm c)) none H'
 | .stuck=>False
def SN(C:Ct)(E:XK)(t:TE)(m:Z.ML):Prop:=
 ∀(ex bs:List Addr) (h:Z.MH) (ρ:Z.Ro) (σ:St) (H:Hp) (Q:VK),HR C ex bs h H->RE C bs (gh ex bs h H) ρ σ->jdz C ex E bs h H (m ρ h) Q->t σ H Q
theorem jdz.from{r:Z.Res (List Z.D)}{Q:VK}(e:Ev C ex bs h H bs1 h1 H1)(p:jdz C ex E bs h H r Q):jdz C ex E bs1 h1 H1 r Q:=by
 cases r with
 | ok a h'=>exact λb vs bs' H' e' hn q=>p b vs bs' H' (e.trans e') hn q
 | exc c h'=>exact λbs' H' e'=>p bs' H' (e.trans e')
 | stuck=>exact p
theorem jdz.bind{r:Z.Res α}{f:α->Z.MH->Z.Res (List Z.D)}{Q:VK}{Q1:β->Hp->Prop}(p:jdz C ex E bs h H (r.bind f) Q)
  (k:∀a b h1 bs1 H1,Ev C ex bs h H bs1 h1 H1->R1 bs1 (gh ex bs1 h1 H1) b a->jdz C ex E bs1 h1 H1 (f a h1) Q->Q1 b H1):Post C ex E bs h H R1 r Q1:=by
 cases r with
 | ok a h'=>exact λb bs' H' e' q=>k a b h' bs' H' e' q (jdz.from e' p)
 | exc c h'=>exact p
 | stuck=>exact p
theorem jdz.chk{c:Prop}[Decidable c]{r:Z.Res (List Z.D)}{Q:VK}(p:jdz C ex E bs h H (Z.chk c r) Q):c /\ jdz C ex E bs h H r Q:=by
 unfold Z.chk at p
 by_cases q:c
 ·rw[if_pos q] at p;exact⟨q,p⟩
 ·rw[if_neg q] at p;exact p.elim
theorem jdz.now{ds:List Z.D}{Q:VK}{p:Addr}{vs:List V}(hr:HR C ex bs h H)(q:jdz C ex E bs h H (.ok ds h) Q)(hp:H p=none)(r:RVs C bs (gh ex bs h H) vs ds):Q (.ref p) (upd H p (.lst vs)):=q p vs bs H (Ev.refl hr) hp r
theorem jcu{t:TE}{m:Z.ML}(hn:SN C E t m):SE C E t (Z.jcx m):=by
 intro ex bs h ρ σ H Q hr re p
 refine hn ex bs h ρ σ H Q hr re ?_
 unfold Z.jcx at p
 cases e:m ρ h with
 | ok ds h1=>
  rw[e] at p
  intro a vs bs1 H1 e1 ha rv
  obtain⟨e2,g⟩:=Ev.alloc (o:= .lst vs) e1.hr ha
  exact p (.ref a) bs1 _ (e1.trans e2) (by simp only[RV];exact⟨a,vs,rfl,g,rv.ev e2⟩)
 | exc c h1=>rw[e] at p;exact p
 | stuck=>rw[e] at p;exact p
theorem jgx{α:Type}{l:List α}{a x:α}{k:Nat}(e:l[k]?=some a):(l++[x])[k]?=some a:=by
 rw[List.getElem?_append_left (List.getElem?_eq_some_iff.mp e).1];exact e
theorem jbk{α:Type}{l:List α}{a x:α}{k:Nat}(e:(l++[x])[k]?=some a):l[k]?=some a \/ (k=l.length /\ a=x):=by
 by_cases hk:k<l.length
 ·rw[List.getElem?_append_left hk] at e;exact .inl e
 ·rw[List.getElem?_append_right (by omega)] at e
  by_cases hk2:k=l.length
  ·subst hk2;simp at e;exact .inr ⟨rfl,e.symm⟩
  ·rw[List.getElem?_eq_none (by simp;omega)] at e;cases e
theorem Ev.cell{p:Addr}{o:HO}{c:Z.Cell}(hr:HR C ex bs h H)(hp:H p=none)(hc:jee C bs (gh ex bs h H) (upd H p o) p c):Ev C ex bs h H (bs++[p]) (h++[some c]) (upd H p o):=by
 have nx:p∉ex:=λm=>hr.domx p m hp
 have nb:p∉bs:=λm=>hr.dom p m hp
 have ne:∀{a},H a≠none->a≠p:=fun{a} q e=>q (by rw[e];exact hp)
 have hb:∀(k:Nat) (a:Addr),bs[k]?=some a->(bs++[p])[k]?=some a:=λk a e=>jgx e
 have lvs:∀a,lv (bs++[p]) (h++[some c]) a->lv bs h a \/ a=p:=λa ⟨k,c',e1,e2,l2⟩=>by
  rcases jbk e1 with e1 | ⟨_,e1⟩
  ·rcases jbk e2 with e2 | ⟨e2,_⟩
   ·exact .inl ⟨k,c',e1,e2,l2⟩
   ·have:=(List.getElem?_eq_some_iff.mp e1).1
    have:=hr.len
    omega
  ·exact .inr e1
 have sm:Same (gh ex bs h H) (gh ex (bs++[p]) (h++[some c]) (upd H p o)):=λa u e=>by
  obtain⟨h1,h2,h3⟩:=jb3.mp e
  have na:a≠p:=ne (by rw[h3];exact λz=>nomatch z)
  refine jb3.mpr ⟨h1,λl=> ?_,by rw[jad na];exact h3⟩
  rcases lvs a l with l | l
  ·exact h2 l
  ·exact na l
 refine⟨hb,⟨by simp[hr.len],λi j a e1 e2=> ?_,λa m=> ?_,λa m=> ?_,λa m=> ?_,λk a c' e1 e2=> ?_⟩,sm,λa m=> ?_⟩
 ·rcases jbk e1 with e1 | ⟨k1,e1⟩
  ·rcases jbk e2 with e2 | ⟨k2,e2⟩
   ·exact hr.inj i j a e1 e2
   ·rw[e2] at e1;exact absurd (List.mem_of_getElem? e1) nb
  ·rcases jbk e2 with e2 | ⟨k2,e2⟩
   ·rw[e1] at e2;exact absurd (List.mem_of_getElem? e2) nb
   ·omega
 ·intro z
  rcases List.mem_append.mp z with z | z
  ·exact hr.sep a m z
  ·exact nx (by rw[<-(show a=p by simpa using z)];exact m)
 ·rcases List.mem_append.mp m with m | m
  ·rw[jad (ne (hr.dom a m))];exact hr.dom a m
  ·rw[show a=p by simpa using m,jap];exact λz=>nomatch z
 ·rw[jad (ne (hr.domx a m))];exact hr.domx a m
 ·rcases jbk e1 with e1 | ⟨k1,e1⟩
  ·rcases jbk e2 with e2 | ⟨k2,e2⟩
   ·exact(hr.cell k a c' e1 e2).mono hb sm (by rw[jad (ne (hr.dom a (List.mem_of_getElem? e1)))])
   ·have:=(List.getElem?_eq_some_iff.mp e1).1
    have:=hr.len
    omega
  ·rcases jbk e2 with e2 | ⟨k2,e2⟩
   ·have:=(List.getElem?_eq_some_iff.mp e2).1
    have:=hr.len
    omega
   ·rw[e1]
    injection e2 with e2
    subst e2
    exact hc.mono hb sm rfl
 ·rw[jad (ne (hr.domx a m))]
theorem jia{t:TE}{m:Z.ML}(hn:SN C E t m):SE C E t (Z.jgs m):=by
 intro ex bs h ρ σ H Q hr re p
 refine hn ex bs h ρ σ H Q hr re ?_
 unfold Z.jgs at p
 cases e:m ρ h with
 | ok ds h1=>
  rw[e] at p
  intro a vs bs1 H1 e1 ha rv
  have e2:=Ev.cell (o:= .lst vs) (c:= .lst ds) e1.hr ha ⟨vs,jap,rv⟩
  refine p (.ref a) (bs1++[a]) _ (e1.trans e2) ?_
  simp only[RV]
  exact⟨a,rfl,by rw[<-e1.hr.len];simp⟩
 | exc c h1=>rw[e] at p;exact p
 | stuck=>rw[e] at p;exact p
theorem jdt{tl:TA}{ml:Z.ML}(hl:SA C E tl ml):SN C E (tLst tl) (Z.jds ml):=by
 intro ex bs h ρ σ H Q hr re p
 refine hl ex bs h ρ σ H _ hr re (jdz.bind p λds xs h1 bs1 H1 e1 rx p1=> ?_)
 obtain⟨hz,p1⟩:=p1.chk
 exact⟨by rw[rx.len];exact hz,λa ha=>p1.now e1.hr ha rx⟩
theorem ju3{k:Nat}{a x:Addr}{c c0:Z.Cell}(hk:bs[k]?=some a)(h0:h[k]?=some (some c0))(l1:c.live=true)(l0:c0.live=true):lv bs (h.set k (some c)) x↔lv bs h x:=by
 constructor
 ·rintro⟨j,c',e1,e2,l2⟩
  by_cases hj:k=j
  ·subst hj;exact⟨k,c0,e1,h0,l0⟩
  ·rw[List.getElem?_set_ne hj] at e2;exact⟨j,c',e1,e2,l2⟩
 ·rintro⟨j,c',e1,e2,l2⟩
  by_cases hj:k=j
  ·subst hj;exact⟨k,c,e1,by rw[List.getElem?_set_self (List.getElem?_eq_some_iff.mp h0).1],l1⟩
  ·exact⟨j,c',e1,by rw[List.getElem?_set_ne hj];exact e2,l2⟩
theorem Ev.put{k:Nat}{a:Addr}{o:HO}{c c0:Z.Cell}(hr:HR C ex bs h H)(hk:bs[k]?=some a)(h0:h[k]?=some (some c0))(hc:jee C bs (gh ex bs h H) (upd H a o) a c)(l1:c.live=true:=by rfl)(l0:c0.live=true:=by rfl):
  Ev C ex bs h H bs (h.set k (some c)) (upd H a o):=by
 have la:lv bs h a:=⟨k,c0,hk,h0,l0⟩
 have ab:a∈bs:=List.mem_of_getElem? hk
 have ge:gh ex bs (h.set k (some c)) (upd H a o)=gh ex bs h H:=by
  funext x
  unfold gh
  by_cases q:x∈ex \/ lv bs h x
  ·rw[if_pos q,if_pos (q.imp id (ju3 hk h0 l1 l0).mpr)]
  ·rw[if_neg q,if_neg (λz=>q (z.imp id (ju3 hk h0 l1 l0).mp)),jad (λz=>q (.inr (by rw[z];exact la)))]
 have na:∀{x},x∈ex->x≠a:=fun{x} m z=>hr.sep x m (by rw[z];exact ab)
 refine⟨λ_ _ e=>e,⟨by simp[hr.len],hr.inj,hr.sep,λx m=> ?_,λx m=> ?_,λj x c' e1 e2=> ?_⟩,by rw[ge];exact Same.refl _,λx m=>by rw[jad (na m)]⟩
 ·by_cases q:x=a
  ·rw[q,jap];exact λz=>nomatch z
  ·rw[jad q];exact hr.dom x m
 ·rw[jad (na m)];exact hr.domx x m
 ·rw[ge]
  by_cases hj:k=j
  ·subst hj
   rw[hk] at e1;cases e1
   rw[List.getElem?_set_self (List.getElem?_eq_some_iff.mp h0).1] at e2
   cases e2;exact hc
  ·rw[List.getElem?_set_ne hj] at e2
   refine(hr.cell j x c' e1 e2).mono (λ_ _ e=>e) (Same.refl _) ?_
   rw[jad (λz=>hj (hr.inj k j a hk (by rw[<-z];exact e1)))]
theorem Ev.freeze{k:Nat}{a:Addr}{ds:List Z.D}(hr:HR C ex bs h H)(hk:bs[k]?=some a)(h0:h[k]?=some (some (.lst ds))):
  Ev C ex bs h H bs (h.set k none) H /\ RV C bs (gh ex bs (h.set k none) H) (.ref a) (.lst ds):=by
 have ab:a∈bs:=List.mem_of_getElem? hk
 have lvs:∀x,lv bs (h.set k none) x->lv bs h x /\ x≠a:=λx ⟨j,c',e1,e2,l2⟩=>by
  by_cases hj:k=j
  ·subst hj;rw[List.getElem?_set_self (List.getElem?_eq_some_iff.mp h0).1] at e2;cases e2
  ·rw[List.getElem?_set_ne hj] at e2
   exact⟨⟨j,c',e1,e2,l2⟩,λz=>hj (hr.inj k j a hk (by rw[<-z];exact e1))⟩
 have sm:Same (gh ex bs h H) (gh ex bs (h.set k none) H):=λx u e=>by
  obtain⟨h1,h2,h3⟩:=jb3.mp e
  exact jb3.mpr ⟨h1,λl=>h2 (lvs x l).1,h3⟩
 obtain⟨vs,h1,h2⟩:=hr.cell k a _ hk h0
 refine⟨⟨λ_ _ e=>e,⟨by simp[hr.len],hr.inj,hr.sep,hr.dom,hr.domx,λj x c' e1 e2=> ?_⟩,sm,λ_ _=>rfl⟩,?_⟩
 ·by_cases hj:k=j
  ·subst hj;rw[List.getElem?_set_self (List.getElem?_eq_some_iff.mp h0).1] at e2;cases e2
  ·rw[List.getElem?_set_ne hj] at e2
   exact(hr.cell j x c' e1 e2).mono (λ_ _ e=>e) sm rfl
 ·simp only[RV]
  exact⟨a,vs,rfl,jb3.mpr ⟨λm=>hr.sep a m ab,λl=>(lvs a l).2 rfl,h1⟩,h2.mono (λ_ _ e=>e) sm⟩
def spZ(C:Ct)(z:Z.MF):Sp:=λvs H Q E=>∃ex bs h ds,HR C ex bs h H /\ RVs C bs (gh ex bs h H) vs ds /\ Post C ex E bs h H (RV C) (z ds h) Q
theorem jbm{z:Z.MF}{tl:TA}{ml:Z.ML}(hl:SA C E tl ml):SE C E (juc (spZ C z) [] E tl) (Z.jbb z ml):=by
 intro ex bs h ρ σ H Q hr re p
 refine hl ex bs h ρ σ H _ hr re (p.bind λds xs h1 bs1 H1 e1 rx p1=> ?_)
 exact⟨ex,bs1,h1,ds,e1.hr,by rw[List.append_nil];exact rx,p1⟩
theorem s_tB{t:TE}{m:Z.ME}(h0:SE C E t m):ST C E (tB t) (Z.tB m):=by
 intro ex bs h ρ σ H Q hr re p
 refine h0 ex bs h ρ σ H _ hr re (p.bind λd x h1 bs1 H1 e1 rx p1=> ?_)
 cases d with
 | bl b=>simp only[RV] at rx;exact⟨b,rx,Post.now e1.hr p1 rfl⟩
 | _=>exact p1.elim
theorem jas{t:TE}{m:Z.ME}(h0:SE C E t m):ST C E (tTest t) (Z.tB m):=s_tB h0
theorem jeo{t u:TT}{m n:Z.MT}(ht:ST C E t m)(hu:ST C E u n):ST C E (tAnd t u) (Z.tAnd m n):=by
 intro ex bs h ρ σ H Q hr re p
 refine ht ex bs h ρ σ H _ hr re (p.bind λc b h1 bs1 H1 e1 rx p1=> ?_)
 cases rx
 cases c with
 | true=>exact hu ex bs1 h1 ρ σ H1 Q e1.hr (re.ev e1) p1
 | false=>exact Post.now e1.hr p1 rfl
theorem jir{t u:TT}{m n:Z.MT}(ht:ST C E t m)(hu:ST C E u n):ST C E (tOr t u) (Z.tOr m n):=by
 intro ex bs h ρ σ H Q hr re p
 refine ht ex bs h ρ σ H _ hr re (p.bind λc b h1 bs1 H1 e1 rx p1=> ?_)
 cases rx
 cases c with
 | false=>exact hu ex bs1 h1 ρ σ H1 Q e1.hr (re.ev e1) p1
 | true=>exact Post.now e1.hr p1 rfl
theorem jeh{t:TT}{m:Z.MT}(ht:ST C E t m):ST C E (tNot t) (Z.tNot m):=by
 intro ex bs h ρ σ H Q hr re p
 refine ht ex bs h ρ σ H _ hr re (p.bind λc b h1 bs1 H1 e1 rx p1=> ?_)
 cases rx
 exact Post.now e1.hr p1 rfl
theorem s_andV{t u:TE}{m n:Z.ME}(ht:SE C E t m)(hu:SE C E u n):SE C E (tAndV t u) (Z.mAnd m n):=by
 intro ex bs h ρ σ H Q hr re p
 refine ht ex bs h ρ σ H _ hr re (p.bind λd x h1 bs1 H1 e1 rx p1=> ?_)
 cases d with
 | bl b=>
  simp only[RV] at rx
  refine⟨b,rx,?_⟩
  cases b with
  | true=>exact hu ex bs1 h1 ρ σ H1 Q e1.hr (re.ev e1) p1
  | false=>exact Post.now e1.hr p1 (by simp only[RV])
 | _=>exact p1.elim
end
end L2
namespace L2
open PySem PySem.Spec
section
variable {C : Ct} {ex bs bs1 bs2 : List Addr} {h h1 h2 : Z.MH} {H H1 H2 : Hp} {E : XK} {α β : Type} {R1 : List Addr -> Hp -> β -> α -> Prop}
def jfj(C:Ct)(ex:List Addr)(E:XK)(bs:List Addr)(h:Z.MH)(H:Hp)(r:Z.RS)(D:Ends):Prop:=match r with
 | .nx ρ' h'=>∀σ' bs' H',Ev C ex bs h H bs' h' H'->RE C bs' (gh ex bs' h' H') ρ' σ'->D.nx σ' H'
 | .rt d h'=>∀v bs' H',Ev C ex bs h H bs' h' H'->RV C bs' (gh ex bs' h' H') v d->D.rt v H'
 | .bk ρ' h'=>∀σ' bs' H',Ev C ex bs h H bs' h' H'->RE C bs' (gh ex bs' h' H') ρ' σ'->D.bk σ' H'
 | .ct ρ' h'=>∀σ' bs' H',Ev C ex bs h H bs' h' H'->RE C bs' (gh ex bs' h' H') ρ' σ'->D.ct σ' H'
 | .exc c h'=>∀bs' H',Ev C ex bs h H bs' h' H'->E (.ref (C.cm c)) none H'
 | .stuck=>False
def SS(C:Ct)(E:XK)(t:TS)(m:Z.MS):Prop:=
 ∀(ex bs:List Addr) (h:Z.MH) (ρ:Z.Ro) (σ:St) (H:Hp) (D:Ends),HR C ex bs h H->RE C bs (gh ex bs h H) ρ σ->jfj C ex E bs h H (m ρ h) D->t D σ H
theorem jfj.from{r:Z.RS}{D:Ends}(e:Ev C ex bs h H bs1 h1 H1)(p:jfj C ex E bs h H r D):jfj C ex E bs1 h1 H1 r D:=by
 cases r with
 | nx ρ h'=>exact λb bs' H' e' q=>p b bs' H' (e.trans e') q
 | rt d h'=>exact λb bs' H' e' q=>p b bs' H' (e.trans e') q
 | bk ρ h'=>exact λb bs' H' e' q=>p b bs' H' (e.trans e') q
 | ct ρ h'=>exact λb bs' H' e' q=>p b bs' H' (e.trans e') q
 | exc c h'=>exact λbs' H' e'=>p bs' H' (e.trans e')
 | stuck=>exact p
theorem jfj.bind{r:Z.Res α}{f:α->Z.MH->Z.RS}{D:Ends}{Q1:β->Hp->Prop}(p:jfj C ex E bs h H (r.toS f) D)
  (k:∀a b h1 bs1 H1,Ev C ex bs h H bs1 h1 H1->R1 bs1 (gh ex bs1 h1 H1) b a->jfj C ex E bs1 h1 H1 (f a h1) D->Q1 b H1):Post C ex E bs h H R1 r Q1:=by
 cases r with
 | ok a h'=>exact λb bs' H' e' q=>k a b h' bs' H' e' q (jfj.from e' p)
 | exc c h'=>exact p
 | stuck=>exact p
theorem jax:SS C E tNext Z.jbq:=λex bs h ρ σ H D hr re p=>p σ bs H (Ev.refl hr) re
theorem ja9{t u:TS}{m n:Z.MS}(ht:SS C E t m)(hu:SS C E u n):SS C E (tSeq t u) (Z.sSeq m n):=by
 intro ex bs h ρ σ H D hr re p
 refine ht ex bs h ρ σ H _ hr re ?_
 unfold Z.sSeq at p
 cases e:m ρ h with
 | nx ρ1 h1=>rw[e] at p;exact λσ1 bs1 H1 e1 re1=>hu ex bs1 h1 ρ1 σ1 H1 D e1.hr re1 (p.from e1)
 | rt d h1=>rw[e] at p;exact p
 | bk ρ1 h1=>rw[e] at p;exact p
 | ct ρ1 h1=>rw[e] at p;exact p
 | exc c h1=>rw[e] at p;exact p
 | stuck=>rw[e] at p;exact p
theorem jc9{c:TT}{t u:TS}{mc:Z.MT}{m n:Z.MS}(hc:ST C E c mc)(ht:SS C E t m)(hu:SS C E u n):SS C E (tIfS c t u) (Z.sIf mc m n):=by
 intro ex bs h ρ σ H D hr re p
 refine hc ex bs h ρ σ H _ hr re (p.bind λc b h1 bs1 H1 e1 rx p1=> ?_)
 cases rx
 cases c with
 | true=>exact ht ex bs1 h1 ρ σ H1 D e1.hr (re.ev e1) p1
 | false=>exact hu ex bs1 h1 ρ σ H1 D e1.hr (re.ev e1) p1
theorem jam{t:TE}{m:Z.ME}(ht:SE C E t m):SS C E (tRet t) (Z.sRet m):=by
 intro ex bs h ρ σ H D hr re p
 exact ht ex bs h ρ σ H _ hr re (p.bind λd x h1 bs1 H1 e1 rx p1=>p1 x bs1 H1 (Ev.refl e1.hr) rx)
theorem jga{t:TE}{m:Z.ME}(ht:SE C E t m):SS C E (jsa t) (Z.jgv m):=by
 intro ex bs h ρ σ H D hr re p
 exact ht ex bs h ρ σ H _ hr re (p.bind λd x h1 bs1 H1 e1 rx p1=>p1 σ bs1 H1 (Ev.refl e1.hr) (re.ev e1))
def SG(C:Ct)(E:XK)(g:TG)(m:Z.MG):Prop:=
 ∀(ex bs:List Addr) (h:Z.MH) (ρ:Z.Ro) (σ:St) (H:Hp) (v:V) (d:Z.D) (D:Ends),HR C ex bs h H->RE C bs (gh ex bs h H) ρ σ->RV C bs (gh ex bs h H) v d->jfj C ex E bs h H (m d ρ h) D->g v σ H D.nx
theorem jai{t:TE}{m:Z.ME}{g:TG}{mg:Z.MG}(ht:SE C E t m)(hg:SG C E g mg):SS C E (tAsg t g) (Z.sAsg m mg):=by
 intro ex bs h ρ σ H D hr re p
 exact ht ex bs h ρ σ H _ hr re (p.bind λd x h1 bs1 H1 e1 rx p1=>hg ex bs1 h1 ρ σ H1 x d D e1.hr (re.ev e1) rx p1)
theorem jaa{i:Nat}:SG C E (ja8 i) (Z.ja8 i):=λex bs h ρ σ H v d D hr re rv p=>p _ bs H (Ev.refl hr) (re.set rv)
theorem jr8{t:TE}{m:Z.ME}{i:Nat}(ht:SE C E t m):SS C E (λD σ H=>t σ H λx H1=>D.nx (σ.set i (some x)) H1) (Z.sAsg m (Z.ja8 i)):=jai (g:=ja8 i) ht jaa
def SGs(C:Ct)(E:XK)(g:TGs)(is:List Nat):Prop:=
 ∀(ex bs:List Addr) (h:Z.MH) (ρ:Z.Ro) (σ:St) (H:Hp) (vs:List V) (ds:List Z.D) (D:Ends),HR C ex bs h H->RE C bs (gh ex bs h H) ρ σ->RVs C bs (gh ex bs h H) vs ds->jfj C ex E bs h H (Z.jkv is ds ρ h) D->g vs σ H D.nx /\ vs.length=is.length
theorem jg2:SGs C E gNil []:=by
 intro ex bs h ρ σ H vs ds D hr re rv p
 cases ds with
 | nil=>
  cases vs with
  | nil=>exact⟨⟨rfl,p σ bs H (Ev.refl hr) re⟩,rfl⟩
  | cons _ _=>simp only[RVs] at rv
 | cons d ds=>exact p.elim
theorem jce{g:TGs}{is:List Nat}{i:Nat}(hg:SGs C E g is):SGs C E (jva (ja8 i) g) (i::is):=by
 intro ex bs h ρ σ H vs ds D hr re rv p
 cases ds with
 | nil=>exact p.elim
 | cons d ds=>
  cases vs with
  | nil=>simp only[RVs] at rv
  | cons v vs=>
   simp only[RVs] at rv
   have:=hg ex bs h (ρ.set i (some d)) (σ.set i (some v)) H vs ds D hr (re.set rv.1) rv.2 p
   exact⟨⟨v,vs,rfl,this.1⟩,by simp[this.2]⟩
theorem jix{g:TGs}{is:List Nat}{n:Nat}(hn:n=is.length)(hg:SGs C E g is):SG C E (gSeq C.K n g) (Z.gTup is):=by
 intro ex bs h ρ σ H v d D hr re rv p
 cases d with
 | tup ds=>
  simp only[RV] at rv
  obtain⟨a,vs,rfl,ga,rs⟩:=rv
  have:=hg ex bs h ρ σ H vs ds D hr re rs p
  exact⟨a,vs,rfl,.inl (SqT.of (jbj _ _ ga)),by rw[hn];exact this.2,this.1⟩
 | lst ds=>
  simp only[RV] at rv
  obtain⟨a,vs,rfl,ga,rs⟩:=rv
  have:=hg ex bs h ρ σ H vs ds D hr re rs p
  exact⟨a,vs,rfl,.inr (SqL.of (jbj _ _ ga)),by rw[hn];exact this.2,this.1⟩
 | _=>exact p.elim
theorem RVs.append{G:Hp}:∀{ds es:List Z.D} {vs ws:List V},RVs C bs G vs ds->RVs C bs G ws es->RVs C bs G (vs++ws) (ds++es)
 | [],es,[],ws,_,k=>k
 | d::ds,es,v::vs,ws,h,k=>by
  simp only[RVs,List.cons_append] at h ⊢
  exact⟨h.1,RVs.append h.2 k⟩
 | [],_,_::_,_,h,_=>by simp only[RVs] at h
 | _::_,_,[],_,h,_=>by simp only[RVs] at h
theorem RVs.one{G:Hp}{v:V}{d:Z.D}(q:RV C bs G v d):RVs C bs G [v] [d]:=by simp only[RVs];exact⟨q,trivial⟩
theorem RVs.get{G:Hp}:∀{ds:List Z.D} {vs:List V} {i:Nat} {d:Z.D},RVs C bs G vs ds->ds[i]?=some d->∃v,vs[i]?=some v /\ RV C bs G v d
 | [],_,i,d,_,e=>by simp at e
 | d::ds,v::vs,0,d',h,e=>by
  simp only[RVs] at h
  simp at e;subst e
  exact⟨v,rfl,h.1⟩
 | d::ds,v::vs,i+1,d',h,e=>by
  simp only[RVs] at h
  obtain⟨u,h1,h2⟩:=RVs.get (i:=i) (d:=d') h.2 (by simpa using e)
  exact⟨u,by simpa using h1,h2⟩
 | _::_,[],_,_,h,_=>by simp only[RVs] at h
theorem RVs.drop{G:Hp}:∀{ds:List Z.D} {vs:List V} (n:Nat),RVs C bs G vs ds->RVs C bs G (vs.drop n) (ds.drop n)
 | _,_,0,h=>h
 | [],[],n+1,h=>h
 | d::ds,v::vs,n+1,h=>by
  simp only[RVs] at h
  simpa using RVs.drop n h.2
 | [],_::_,_+1,h=>by simp only[RVs] at h
 | _::_,[],_+1,h=>by simp only[RVs] at h
theorem RVs.take{G:Hp}:∀{ds:List Z.D} {vs:List V} (n:Nat),RVs C bs G vs ds->RVs C bs G (vs.take n) (ds.take n)
 | _,_,0,_=>by simp[RVs]
 | [],[],n+1,h=>by simp[RVs]
 | d::ds,v::vs,n+1,h=>by
  simp only[RVs] at h
  simp only[List.take_succ_cons,RVs]
  exact⟨h.1,RVs.take n h.2⟩
 | [],_::_,_+1,h=>by simp only[RVs] at h
 | _::_,[],_+1,h=>by simp only[RVs] at h
theorem je0{to te:TE}{mo me:Z.ME}(ho:SE C E to mo)(he:SE C E te me):SS C E (jsa (tBM C.K "list" jq6 to (jse te tNil))) (Z.jeq mo me):=by
 intro ex bs h ρ σ H D hr re p
 refine ho ex bs h ρ σ H _ hr re (p.bind λo x h1 bs1 H1 e1 rx p1=> ?_)
 cases o with
 | ref k=>
  simp only[RV] at rx
  obtain⟨a,rfl,hk⟩:=rx
  dsimp only at p1
  split at p1
  ·rename_i xs0 hc0
   obtain⟨vs0,ha0,_⟩:=e1.hr.cell k a _ hk hc0
   refine⟨.inl ⟨rfl,vs0,SqL.of ha0⟩,?_⟩
   refine he ex bs1 h1 ρ σ H1 _ e1.hr (re.ev e1) (p1.bind λd y h2 bs2 H2 e2 ry p2=> ?_)
   split at p2
   ·rename_i xs hc
    split at p2
    ·rename_i hz
     obtain⟨vs,ha,rs⟩:=e2.hr.cell k a _ (e2.pre k a hk) hc
     refine⟨a,vs,y,rfl,rfl,ha,by rw[rs.len];exact hz,?_⟩
     have e3:=Ev.put (o:= .lst (vs++[y])) (c:= .lst (xs++[d])) e2.hr (e2.pre k a hk) hc ⟨_,jap,rs.append (.one ry)⟩
     exact p2 σ bs2 _ e3 (((re.ev e1).ev e2).ev e3)
    ·exact p2.elim
   ·exact p2.elim
  ·exact p1.elim
 | _=>exact p1.elim
theorem jet{i:Nat}{t:TS}{m:Z.MS}(ht:SS C E t m):SS C E t (Z.jdg i m):=by
 intro ex bs h ρ σ H D hr re p
 unfold Z.jdg at p
 split at p
 ·rename_i k hk
  split at p
  ·rename_i xs hc
   obtain⟨v,hv,rv⟩:=re.2 i _ hk
   simp only[RV] at rv
   obtain⟨a,rfl,ha⟩:=rv
   obtain⟨e1,r1⟩:=Ev.freeze hr ha hc
   refine ht ex bs (h.set k none) (ρ.set i (some (.lst xs))) σ H D e1.hr ?_ (p.from e1)
   have r2:=(re.ev e1).set (i:=i) r1
   have:σ.set i (some (.ref a))=σ:=List.ext_getElem? λj=>by
    by_cases hj:i=j
    ·subst hj;rw[List.getElem?_set_self (List.getElem?_eq_some_iff.mp hv).1,hv]
    ·rw[List.getElem?_set_ne hj]
   rw[this] at r2;exact r2
  ·exact p.elim
 ·exact p.elim
end
section
variable {C : Ct} {ex bs bs1 bs2 : List Addr} {h h1 h2 : Z.MH} {H H1 H2 : Hp} {E : XK}
def ItOk(C:Ct)(bs:List Addr)(G:Hp)(J:It)(s:Option Nat×List Z.D):Prop:=
 ∀(ex2 bs2:List Addr) (h2:Z.MH) (H2:Hp),HR C ex2 bs2 h2 H2->(∀(k:Nat) (a:Addr),bs[k]?=some a->bs2[k]?=some a)->Same G (gh ex2 bs2 h2 H2)->Z.okG s.1 s.2 h2->∀i:Nat,
  (∀d,s.2[i]?=some d->J.go i H2 /\ ∀x H3,J.yld i H2 x H3->Ev C ex2 bs2 h2 H2 bs2 h2 H3 /\ RV C bs2 (gh ex2 bs2 h2 H3) x d) /\ (s.2.length<=i->J.stop i H2)
abbrev SI(C:Ct)(E:XK)(t:TI)(m:Z.MI):Prop:=Snd C E (ItOk C) t m
theorem jml{J:It}{g:TG}{tb:TS}{gd:Option Nat}{items:List Z.D}{mg:Z.MG}{mb:Z.MS}{ρ:Z.Ro}{σ:St}{D:Ends}(hg:SG C E g mg)(hb:SS C E tb mb)(hr:HR C ex bs1 h1 H1)(re:RE C bs1 (gh ex bs1 h1 H1) ρ σ)(it:ItOk C bs1 (gh ex bs1 h1 H1) J (gd,items))(p1:jfj C ex E bs1 h1 H1 (Z.jei gd items mg mb items ρ h1) D):
  ∃W:Nat->Nat->St->Hp->Prop,(∃m,W 0 m σ H1) /\ ∀i m σ H,W i m σ H->(J.stop i H /\ D.nx σ H) \/ (J.go i H /\ ∃N:St->Hp->Prop,(∀σ' H',N σ' H'->∃m',m'<m /\ W (i+1) m' σ' H') /\ ∀x H',J.yld i H x H'->g x σ H' λσ2 H2=>tb {D with nx:=N,ct:=N,bk:=D.nx} σ2 H2):=by
 have lo:∀(i:Nat) (hl:i<items.length),items.drop i=items[i]::items.drop (i+1):=λi hl=>List.drop_eq_getElem_cons hl
 refine⟨λi m σ' H'=>m=items.length - i /\ i<=items.length /\ ∃ρ' bs' h',Ev C ex bs1 h1 H1 bs' h' H' /\ RE C bs' (gh ex bs' h' H') ρ' σ' /\ jfj C ex E bs' h' H' (Z.jei gd items mg mb (items.drop i) ρ' h') D,
  ⟨items.length,by simp,Nat.zero_le _,ρ,bs1,h1,Ev.refl hr,re,p1⟩,?_⟩
 rintro i m σ' H' ⟨rfl,hle,ρ',bs',h',ev,re',p'⟩
 by_cases hlt:i<items.length
 ·rw[lo i hlt] at p'
  unfold Z.jei at p'
  split at p'
  case isFalse=>exact p'.elim
  rename_i okg
  obtain⟨go,yl⟩:=(it ex bs' h' H' ev.hr ev.pre ev.same okg i).1 items[i] (List.getElem?_eq_getElem hlt)
  refine .inr ⟨go,λσ2 H2=>∃m',m'<items.length - i /\ (m'=items.length - (i+1) /\ i+1<=items.length /\ ∃ρ' bs' h',Ev C ex bs1 h1 H1 bs' h' H2 /\ RE C bs' (gh ex bs' h' H2) ρ' σ2 /\ jfj C ex E bs' h' H2 (Z.jei gd items mg mb (items.drop (i+1)) ρ' h') D),λ_ _ q=>q,λx H3 y=> ?_⟩
  obtain⟨ev3,rx⟩:=yl x H3 y
  have p3:=p'.from ev3
  refine hg ex bs' h' ρ' σ' H3 x items[i] ⟨_,λ_ _=>False,λ_ _=>False,λ_ _=>False⟩ ev3.hr (re'.ev ev3) rx ?_
  cases e:mg items[i] ρ' h' with
  | nx ρ1 h1'=>
   rw[e] at p3
   intro σ2 bs2 H2 ev2 re2
   refine hb ex bs2 h1' ρ1 σ2 H2 _ ev2.hr re2 ?_
   have p4:=p3.from ev2
   have ev4:=(ev.trans ev3).trans ev2
   cases e5:mb ρ1 h1' with
   | nx ρ2 h2'=>
    dsimp only at p4
    rw[e5] at p4
    exact λσ5 bs5 H5 ev5 re5=>⟨_,by omega,rfl,hlt,ρ2,bs5,h2',ev4.trans ev5,re5,p4.from ev5⟩
   | ct ρ2 h2'=>
    dsimp only at p4
    rw[e5] at p4
    exact λσ5 bs5 H5 ev5 re5=>⟨_,by omega,rfl,hlt,ρ2,bs5,h2',ev4.trans ev5,re5,p4.from ev5⟩
   | bk ρ2 h2'=>dsimp only at p4;rw[e5] at p4;exact p4
   | rt d h2'=>dsimp only at p4;rw[e5] at p4;exact p4
   | exc c h2'=>dsimp only at p4;rw[e5] at p4;exact p4
   | stuck=>dsimp only at p4;rw[e5] at p4;exact p4
  | rt _ _=>rw[e] at p3;exact p3.elim
  | bk _ _=>rw[e] at p3;exact p3.elim
  | ct _ _=>rw[e] at p3;exact p3.elim
  | exc _ _=>rw[e] at p3;exact p3.elim
  | stuck=>rw[e] at p3;exact p3.elim
 ·have ei:i=items.length:=by omega
  subst ei
  rw[List.drop_length] at p'
  unfold Z.jei at p'
  split at p'
  case isFalse=>exact p'.elim
  rename_i okg
  exact .inl ⟨(it ex bs' h' H' ev.hr ev.pre ev.same okg items.length).2 (Nat.le_refl _),p' σ' bs' H' (Ev.refl ev.hr) re'⟩
theorem jdf{wi:TI}{g:TG}{tb:TS}{l:Z.MI}{mg:Z.MG}{mb:Z.MS}(hi:SI C E wi l)(hg:SG C E g mg)(hb:SS C E tb mb):SS C E (tFor wi g tb) (Z.sFor l mg mb):=by
 intro ex bs h ρ σ H D hr re p
 refine hi ex bs h ρ σ H _ hr re (p.bind λsrc J h1 bs1 H1 e1 it p1=> ?_)
 obtain⟨gd,items⟩:=src
 dsimp only at p1
 exact jml hg hb e1.hr (re.ev e1) it p1
theorem jf0{c:TT}{tb:TS}{mc:Z.MT}{mb:Z.MS}(hc:ST C E c mc)(hb:SS C E tb mb):SS C E (ju9 c tb) (Z.jb7 mc mb):=by
 intro ex bs h ρ σ H D hr re p
 have ns:Z.jb7 mc mb ρ h≠ .stuck:=λz=>by rw[z] at p;exact p
 obtain⟨n,en⟩:=Z.ji7 ns
 rw[<-en] at p
 refine⟨λm σ' H'=>∃ρ' bs' h',HR C ex bs' h' H' /\ RE C bs' (gh ex bs' h' H') ρ' σ' /\ jfj C ex E bs' h' H' (Z.jc6 mc mb m ρ' h') D,⟨n,ρ,bs,h,hr,re,p⟩,?_⟩
 rintro m σ' H' ⟨ρ',bs',h',hr',re',p'⟩
 cases m with
 | zero=>exact p'.elim
 | succ m=>
  unfold Z.jc6 at p'
  refine hc ex bs' h' ρ' σ' H' _ hr' re' ?_
  cases e:mc ρ' h' with
  | exc x h1=>rw[e] at p';exact p'
  | stuck=>rw[e] at p';exact p'
  | ok b h1=>
   rw[e] at p'
   rintro b' bs1 H1 e1 rfl
   have p1:=p'.from e1
   cases b' with
   | false=>exact p1 σ' bs1 H1 (Ev.refl e1.hr) (re'.ev e1)
   | true=>
    dsimp only at p1
    refine⟨λσ2 H2=>∃m',m'<m+1 /\ ∃ρ' bs' h',HR C ex bs' h' H2 /\ RE C bs' (gh ex bs' h' H2) ρ' σ2 /\ jfj C ex E bs' h' H2 (Z.jc6 mc mb m' ρ' h') D,λ_ _ q=>q,?_⟩
    refine hb ex bs1 h1 ρ' σ' H1 _ e1.hr (re'.ev e1) ?_
    cases e5:mb ρ' h1 with
    | nx ρ2 h2=>rw[e5] at p1;exact λσ5 bs5 H5 ev5 re5=>⟨m,by omega,ρ2,bs5,h2,ev5.hr,re5,p1.from ev5⟩
    | ct ρ2 h2=>rw[e5] at p1;exact λσ5 bs5 H5 ev5 re5=>⟨m,by omega,ρ2,bs5,h2,ev5.hr,re5,p1.from ev5⟩
    | bk ρ2 h2=>rw[e5] at p1;exact p1
    | rt d h2=>rw[e5] at p1;exact p1
    | exc c h2=>rw[e5] at p1;exact p1
    | stuck=>rw[e5] at p1;exact p1
def hid(l:Addr)(H:Hp):Hp:=λb=>if b=l then none else H b
theorem jj9{l b:Addr}(n:b≠l):hid l H b=H b:=if_neg n
theorem jn5{l:Addr}:gh ex bs h (hid l H)=gh (l::ex) bs h H:=by
 funext x
 unfold gh
 by_cases q:x∈ex \/ lv bs h x
 ·rw[if_pos q,if_pos (q.imp (List.mem_cons_of_mem _) id)]
 ·by_cases e:x=l
  ·subst e
   rw[if_neg q,if_pos (.inl (List.mem_cons_self ..))]
   exact if_pos rfl
  ·rw[if_neg q,jj9 e,if_neg]
   rintro(z | z)
   ·rcases List.mem_cons.mp z with z | z
    ·exact e z
    ·exact q (.inl z)
   ·exact q (.inr z)
theorem HR.hid{l:Addr}(hl:l∉ex)(r:HR C (l::ex) bs h H):HR C ex bs h (hid l H):=by
 have lb:l∉bs:=r.sep l (List.mem_cons_self ..)
 have nb:∀{a},a∈bs->a≠l:=fun{a} m z=>lb (by rw[<-z];exact m)
 refine⟨r.len,r.inj,λa m=>r.sep a (List.mem_cons_of_mem _ m),λa m=> ?_,λa m=> ?_,λk a c e1 e2=> ?_⟩
 ·rw[jj9 (nb m)];exact r.dom a m
 ·rw[jj9 (λz=>hl (by rw[<-z];exact m))];exact r.domx a (List.mem_cons_of_mem _ m)
 ·rw[jn5]
  exact(r.cell k a c e1 e2).mono (λ_ _ e=>e) (Same.refl _) (by rw[jj9 (nb (List.mem_of_getElem? e1))])
theorem jof{l:Addr}{o:HO}(hl:H l=none):gh (l::ex) bs h (upd H l o)=gh ex bs h H:=by
 rw[<-jn5]
 have:hid l (upd H l o)=H:=by
  funext x
  unfold hid
  by_cases e:x=l
  ·rw[if_pos e,e,hl]
  ·rw[if_neg e,jad e]
 rw[this]
theorem HR.show{l:Addr}{o:HO}(hl:H l=none)(r:HR C ex bs h H):HR C (l::ex) bs h (upd H l o):=by
 have lb:l∉bs:=λm=>r.dom l m hl
 have lx:l∉ex:=λm=>r.domx l m hl
 have nb:∀{a},a∈bs->a≠l:=fun{a} m z=>lb (by rw[<-z];exact m)
 refine⟨r.len,r.inj,λa m=> ?_,λa m=> ?_,λa m=> ?_,λk a c e1 e2=> ?_⟩
 ·rcases List.mem_cons.mp m with m | m
  ·rw[m];exact lb
  ·exact r.sep a m
 ·rw[jad (nb m)];exact r.dom a m
 ·rcases List.mem_cons.mp m with m | m
  ·rw[m,jap];exact λz=>nomatch z
  ·rw[jad (λz=>lx (by rw[<-z];exact m))];exact r.domx a m
 ·rw[jof hl]
  exact(r.cell k a c e1 e2).mono (λ_ _ e=>e) (Same.refl _) (by rw[jad (nb (List.mem_of_getElem? e1))])
theorem jjo{l:Addr}{o:HO}:gh (l::ex) bs h (upd H l o)=gh (l::ex) bs h H:=by
 funext x
 unfold gh
 by_cases q:x∈l::ex \/ lv bs h x
 ·rw[if_pos q,if_pos q]
 ·rw[if_neg q,if_neg q,jad (λz=>q (.inl (by rw[z];exact List.mem_cons_self ..)))]
theorem HR.exput{l:Addr}{o:HO}(r:HR C (l::ex) bs h H):HR C (l::ex) bs h (upd H l o):=by
 have lb:l∉bs:=r.sep l (List.mem_cons_self ..)
 have nb:∀{a},a∈bs->a≠l:=fun{a} m z=>lb (by rw[<-z];exact m)
 refine⟨r.len,r.inj,r.sep,λa m=> ?_,λa m=> ?_,λk a c e1 e2=> ?_⟩
 ·rw[jad (nb m)];exact r.dom a m
 ·by_cases e:a=l
  ·rw[e,jap];exact λz=>nomatch z
  ·rw[jad e];exact r.domx a m
 ·rw[jjo]
  exact(r.cell k a c e1 e2).mono (λ_ _ e=>e) (Same.refl _) (by rw[jad (nb (List.mem_of_getElem? e1))])
theorem RE.mono{bs bs':List Addr}{G G':Hp}{ρ:Z.Ro}{σ:St}(hb:∀(k:Nat) (a:Addr),bs[k]?=some a->bs'[k]?=some a)(hs:Same G G')(r:RE C bs G ρ σ):RE C bs' G' ρ σ:=
 ⟨r.1,λi d q=>by obtain⟨v,h1,h2⟩:=r.2 i d q;exact⟨v,h1,h2.mono hb hs⟩⟩
theorem RE.caps{G:Hp}{ρ:Z.Ro}{σ:St}(nt:Nat)(idx:List Nat)(r:RE C bs G ρ σ):RE C bs G (List.replicate nt none++Z.caps idx ρ) (List.replicate nt none++jen idx σ):=by
 refine⟨by simp[Z.caps,jen],λi d hi=> ?_⟩
 by_cases hn:i<nt
 ·rw[List.getElem?_append_left (by simpa using hn),List.getElem?_replicate] at hi
  simp[hn] at hi
 ·rw[List.getElem?_append_right (by simp;omega)] at hi ⊢
  simp only[List.length_replicate] at hi ⊢
  unfold Z.caps at hi
  unfold jen
  rw[List.getElem?_map] at hi ⊢
  cases e:idx[i - nt]? with
  | none=>rw[e] at hi;cases hi
  | some j=>
   rw[e] at hi
   simp only[Option.map_some,Option.some.injEq] at hi ⊢
   cases e2:ρ[j]? with
   | none=>rw[e2] at hi;cases hi
   | some z=>
    rw[e2] at hi
    simp only[Option.getD_some] at hi
    subst hi
    obtain⟨v,h1,h2⟩:=r.2 j d e2
    exact⟨v,by rw[h1];rfl,h2⟩
theorem jhw(q:Option Nat)(all:List Z.D)(g:Z.MG)(t:Z.MT)(m:Z.ME)(ρ0:Z.Ro):∀(ds:List Z.D) (h:Z.MH) (c:String) (h':Z.MH),Z.jba q all g t m ρ0 ds h≠ .exc c h'
 | [],h,c,h'=>by unfold Z.jba;split<;>exact λz=>nomatch z
 | d::ds,h,c,h'=>by
  unfold Z.jba
  split
  case isFalse=>exact λz=>nomatch z
  split
  ·split
   ·split
    ·split
     ·exact λz=>nomatch z
     ·exact λz=>nomatch z
    ·exact λz=>nomatch z
   ·exact jhw q all g t m ρ0 ds _ c h'
   ·exact λz=>nomatch z
  ·exact λz=>nomatch z
theorem jrk{J:It}{nt:Nat}{idx:List Nat}{g:TG}{tc:TT}{te:TE}{gd:Option Nat}{items:List Z.D}{mg:Z.MG}{mt:Z.MT}{me:Z.ME}{ρ:Z.Ro}{σ:St}{Q:VK}(hg:SG C E0 g mg)(ht:ST C E0 tc mt)(he:SE C E0 te me)(hr:HR C ex bs1 h1 H1)(re:RE C bs1 (gh ex bs1 h1 H1) ρ σ)(it:ItOk C bs1 (gh ex bs1 h1 H1) J (gd,items))(hz:items.length<16777216)
  (p1:jdz C ex E bs1 h1 H1 (Z.jba gd items mg mt me (List.replicate nt none++Z.caps idx ρ) items h1) Q):∀l,H1 l=none->
 ∃W:Nat->Nat->List V->Hp->Prop,(∃m,W 0 m [] (upd H1 l (.lst []))) /\ ∀i m ys H2,W i m ys H2->H2 l=some (.lst ys) /\ ys.length<sizeLine /\
  ((J.stop i H2 /\ Q (.ref l) H2) \/ (J.go i H2 /\ ∀x H3,J.yld i H2 x H3->g x (List.replicate nt none++jen idx σ) H3 λσ4 H4=>tc σ4 H4 λc H5=>
   if c=true then te σ4 H5 λy H6=>H6 l=some (.lst ys) /\ ∃m',m'<m /\ W (i+1) m' (ys++[y]) (upd H6 l (.lst (ys++[y]))) else ∃m',m'<m /\ W (i+1) m' ys H5)):=by
 intro a ha
 have hax:a∉ex:=λm=>hr.domx a m ha
 cases ec:Z.jba gd items mg mt me (List.replicate nt none++Z.caps idx ρ) items h1 with
 | exc _ _=>
  exact absurd ec (jhw _ _ _ _ _ _ items h1 _ _)
 | stuck=>rw[ec] at p1;exact p1.elim
 | ok all hf=>
  rw[ec] at p1
  have lo:∀(i:Nat) (hl:i<items.length),items.drop i=items[i]::items.drop (i+1):=λi hl=>List.drop_eq_getElem_cons hl
  refine⟨λi m ys H2=>m=items.length - i /\ i<=items.length /\ ∃bs' h' dys rest,HR C (a::ex) bs' h' H2 /\ (∀(k:Nat) (b:Addr),bs1[k]?=some b->bs'[k]?=some b) /\ Same (gh ex bs1 h1 H1) (gh (a::ex) bs' h' H2) /\ (∀b∈ex,H2 b=H1 b) /\
    H2 a=some (.lst ys) /\ RVs C bs' (gh (a::ex) bs' h' H2) ys dys /\ ys.length<=i /\ Z.jba gd items mg mt me (List.replicate nt none++Z.caps idx ρ) (items.drop i) h'= .ok rest hf /\ dys++rest=all,
   ⟨items.length,by simp,Nat.zero_le _,bs1,h1,[],all,hr.show ha,λ_ _ e=>e,by rw[jof ha];exact Same.refl _,λb m=>by rw[jad (λz=>hax (by rw[<-z];exact m))],jap,by simp only[RVs],Nat.zero_le _,ec,rfl⟩,?_⟩
  rintro i m ys H2 ⟨rfl,hle,bs',h',dys,rest,hr',pre,sm,exs,hl,rv,hy,er,eall⟩
  refine⟨hl,by have:sizeLine=16777216:=rfl;omega,?_⟩
  by_cases hlt:i<items.length
  ·rw[lo i hlt] at er
   unfold Z.jba at er
   split at er
   case isFalse=>cases er
   rename_i okg
   obtain⟨go,yl⟩:=(it (a::ex) bs' h' H2 hr' pre sm okg i).1 items[i] (List.getElem?_eq_getElem hlt)
   refine .inr ⟨go,λx H3 y=> ?_⟩
   obtain⟨ev3,rx⟩:=yl x H3 y
   have re0:=(((re.mono pre sm).ev ev3).caps nt idx)
   refine hg (a::ex) bs' h' _ _ H3 x items[i] ⟨_,λ_ _=>False,λ_ _=>False,λ_ _=>False⟩ ev3.hr re0 rx ?_
   cases e:mg items[i] (List.replicate nt none++Z.caps idx ρ) h' with
   | nx ρ1 h1'=>
    rw[e] at er
    dsimp only at er
    intro σ4 bs4 H4 ev4 re4
    refine ht (a::ex) bs4 h1' ρ1 σ4 H4 _ ev4.hr re4 ?_
    cases e5:mt ρ1 h1' with
    | exc _ _=>rw[e5] at er;cases er
    | stuck=>rw[e5] at er;cases er
    | ok c h5=>
     rw[e5] at er
     rintro c' bs5 H5 ev5 rfl
     cases c' with
     | false=>
      dsimp only at er
      have ev:=(ev3.trans ev4).trans ev5
      exact⟨_,by omega,rfl,hlt,bs5,h5,dys,rest,ev5.hr,λk b q=>ev.pre k b (pre k b q),sm.trans ev.same,λb m=>(ev.exs b (List.mem_cons_of_mem _ m)).trans (exs b m),
       (ev.exs a (List.mem_cons_self ..)).trans hl,rv.ev ev,by omega,er,eall⟩
     | true=>
      dsimp only at er
      refine he (a::ex) bs5 h5 ρ1 σ4 H5 _ ev5.hr (re4.ev ev5) ?_
      cases e6:me ρ1 h5 with
      | exc _ _=>rw[e6] at er;cases er
      | stuck=>rw[e6] at er;cases er
      | ok d h6=>
       rw[e6] at er
       dsimp only at er
       intro v bs6 H6 ev6 rv6
       have ev:=((ev3.trans ev4).trans ev5).trans ev6
       have hl6:=(ev.exs a (List.mem_cons_self ..)).trans hl
       refine⟨hl6,?_⟩
       cases e7:Z.jba gd items mg mt me (List.replicate nt none++Z.caps idx ρ) (items.drop (i+1)) h6 with
       | exc _ _=>rw[e7] at er;cases er
       | stuck=>rw[e7] at er;cases er
       | ok rest' hf'=>
        rw[e7] at er
        dsimp only at er
        cases er
        refine⟨_,by omega,rfl,hlt,bs6,h6,dys++[d],rest',ev6.hr.exput,λk b q=>ev.pre k b (pre k b q),by rw[jjo];exact sm.trans ev.same,λb m=> ?_,jap,?_,by simp;omega,e7,by simpa using eall⟩
        ·rw[jad (λz=>hax (by rw[<-z];exact m))]
         exact(ev.exs b (List.mem_cons_of_mem _ m)).trans (exs b m)
        ·rw[jjo];exact(rv.ev ev).append (.one rv6)
   | rt _ _=>rw[e] at er;cases er
   | bk _ _=>rw[e] at er;cases er
   | ct _ _=>rw[e] at er;cases er
   | exc _ _=>rw[e] at er;cases er
   | stuck=>rw[e] at er;cases er
  ·have ei:i=items.length:=by omega
   subst ei
   rw[List.drop_length] at er
   unfold Z.jba at er
   split at er
   case isFalse=>cases er
   rename_i okg
   cases er
   rw[List.append_nil] at eall
   subst eall
   refine .inl ⟨(it (a::ex) bs' _ H2 hr' pre sm okg items.length).2 (Nat.le_refl _),?_⟩
   have q:=p1 a ys bs' (hid a H2) ⟨pre,hr'.hid hax,by rw[jn5];exact sm,λb m=>by rw[jj9 (λz=>hax (by rw[<-z];exact m))];exact exs b m⟩ (if_pos rfl) (by rw[jn5];exact rv)
   have eq:upd (hid a H2) a (.lst ys)=H2:=by
    funext x
    by_cases e:x=a
    ·rw[e,jap,hl]
    ·rw[jad e,jj9 e]
   rw[eq] at q;exact q
theorem jgg{nt:Nat}{idx:List Nat}{wi:TI}{g:TG}{tc:TT}{te:TE}{l:Z.MI}{mg:Z.MG}{mt:Z.MT}{me:Z.ME}(hi:SI C E wi l)(hg:SG C E0 g mg)(ht:ST C E0 tc mt)(he:SE C E0 te me):
  SN C E (jv7 nt idx wi g tc te) (Z.jgw nt idx l mg mt me):=by
 intro ex bs h ρ σ H Q hr re p
 refine hi ex bs h ρ σ H _ hr re (jdz.bind p λsrc J h1 bs1 H1 e1 it p1=> ?_)
 obtain⟨gd,items⟩:=src
 obtain⟨hz,p1⟩:=p1.chk
 dsimp only at hz p1
 exact jrk hg ht he e1.hr (re.ev e1) it hz p1
end
end L2
namespace L2
open PySem PySem.Spec PyProof.Rows
section
variable {C : Ct} {ex bs bs1 bs2 : List Addr} {h h1 h2 : Z.MH} {H H1 H2 : Hp} {E : XK}
theorem jdw{α:Type}{l:List α}{n k:Nat}{a:α}(e:(l.take n)[k]?=some a):l[k]?=some a /\ k<n:=by
 rw[List.getElem?_take] at e
 by_cases hk:k<n
 ·rw[if_pos hk] at e;exact⟨e,hk⟩
 ·rw[if_neg hk] at e;cases e
theorem jl4{α:Type}{l:List α}{n k:Nat}{a:α}(e:l[k]?=some a)(hk:k<n):(l.take n)[k]?=some a:=by
 rw[List.getElem?_take,if_pos hk];exact e
mutual
theorem RV.bnd{G:Hp}{n:Nat}:∀{d:Z.D} {v:V},RV C bs G v d->Z.D.bnd n d=true->RV C (bs.take n) G v d
 | .non,v,h,_=>by simp only[RV] at h ⊢;exact h
 | .bl b,v,h,_=>by simp only[RV] at h ⊢;exact h
 | .int i,v,h,_=>by simp only[RV] at h ⊢;exact h
 | .str x,v,h,_=>by simp only[RV] at h ⊢;exact h
 | .tup ds,v,h,q=>by
  simp only[RV] at h ⊢
  simp only[Z.D.bnd] at q
  obtain⟨a,vs,h1,h2,h3⟩:=h
  exact⟨a,vs,h1,h2,RVs.bnd h3 q⟩
 | .lst ds,v,h,q=>by
  simp only[RV] at h ⊢
  simp only[Z.D.bnd] at q
  obtain⟨a,vs,h1,h2,h3⟩:=h
  exact⟨a,vs,h1,h2,RVs.bnd h3 q⟩
 | .arg ns,v,h,_=>by simp only[RV] at h ⊢;exact h
 | .ref k,v,h,q=>by
  simp only[RV] at h ⊢
  simp only[Z.D.bnd,decide_eq_true_eq] at q
  obtain⟨a,h1,h2⟩:=h
  exact⟨a,h1,jl4 h2 q⟩
 | .ty n,v,h,_=>by simp only[RV] at h ⊢;exact h
 | .cls n,v,h,_=>by simp only[RV] at h ⊢;exact h
 | .exc n,v,h,_=>by simp only[RV] at h ⊢;exact h
 | .obj c fs,v,h,q=>by
  simp only[RV] at h ⊢
  simp only[Z.D.bnd] at q
  obtain⟨a,dx,fvs,h1,h2,h3⟩:=h
  exact⟨a,dx,fvs,h1,h2,RVf.bnd h3 q⟩
 | .dic kvs,v,h,_=>by simp only[RV] at h ⊢;exact h
theorem RVs.bnd{G:Hp}{n:Nat}:∀{ds:List Z.D} {vs:List V},RVs C bs G vs ds->Z.D.bnds n ds=true->RVs C (bs.take n) G vs ds
 | [],[],_,_=>by simp only[RVs]
 | d::ds,v::vs,h,q=>by
  simp only[RVs] at h ⊢
  simp only[Z.D.bnds,Bool.and_eq_true] at q
  exact⟨RV.bnd h.1 q.1,RVs.bnd h.2 q.2⟩
 | [],_::_,h,_=>by simp only[RVs] at h
 | _::_,[],h,_=>by simp only[RVs] at h
theorem RVf.bnd{G:Hp}{n:Nat}:∀{ds:List (Str×Z.D)} {vs:List (Str×V)},RVf C bs G vs ds->Z.D.bndf n ds=true->RVf C (bs.take n) G vs ds
  | [],[],_,_=>by simp only[RVf]
  | (y,d)::ds,(x,v)::vs,h,q=>by
    simp only[RVf] at h ⊢
    simp only[Z.D.bndf,Bool.and_eq_true] at q
    exact⟨h.1,RV.bnd h.2.1 q.1,RVf.bnd h.2.2 q.2⟩
  | [],_::_,h,_=>by simp only[RVf] at h
  | _::_,[],h,_=>by simp only[RVf] at h
end
theorem jpt{n:Nat}:∀(fs:List (Str×Z.D)),Z.D.bndf n fs=Z.D.bnds n (fs.map (·.2))
  | []=>by simp only[Z.D.bndf,List.map_nil,Z.D.bnds]
  | (y,d)::fs=>by simp only[Z.D.bndf,List.map_cons,Z.D.bnds,jpt fs]
theorem RVk.bnd{G:Hp}{n:Nat}:∀{ds:List (Sum Int Str×Z.D)} {vs:List (Key×V)},RVk C bs G vs ds->Z.D.bnds n (ds.map (·.2))=true->RVk C (bs.take n) G vs ds
  | [],[],_,_=>by simp only[RVk]
  | (y,d)::ds,(x,v)::vs,h,q=>by
    simp only[RVk] at h ⊢
    simp only[List.map_cons,Z.D.bnds,Bool.and_eq_true] at q
    exact⟨h.1,RV.bnd h.2.1 q.1,RVk.bnd h.2.2 q.2⟩
  | [],_::_,h,_=>by simp only[RVk] at h
  | _::_,[],h,_=>by simp only[RVk] at h
theorem jee.bnd{G H:Hp}{n:Nat}{a:Addr}{c:Z.Cell}(hc:jee C bs G H a c)(q:Z.Cell.bnd n (some c)=true):jee C (bs.take n) G H a c:=by
 cases c with
 | lst ds=>obtain⟨vs,h1,h2⟩:=hc;exact⟨vs,h1,h2.bnd q⟩
 | dct kvs=>obtain⟨vs,h1,h2⟩:=hc;exact⟨vs,h1,h2.bnd q⟩
 | ins c fs=>obtain⟨dx,vs,h1,h2⟩:=hc;exact⟨dx,vs,h1,h2.bnd (by rw[jpt];exact q)⟩
 | fdc kvs=>obtain⟨o,vs,h1,h2,h3⟩:=hc;exact⟨o,vs,h1,h2,h3.bnd q⟩
theorem jmf(n:Nat):Same (gh ex bs h H) (gh ex (bs.take n) (h.take n) H):=λa o e=>by
 obtain⟨h1,h2,h3⟩:=jb3.mp e
 exact jb3.mpr ⟨h1,λ⟨k,c,e1,e2,l2⟩=>h2 ⟨k,c,(jdw e1).1,(jdw e2).1,l2⟩,h3⟩
theorem HR.take{n:Nat}(r:HR C ex bs h H)(q:(h.take n).all (Z.Cell.bnd n)=true):HR C ex (bs.take n) (h.take n) H:=by
 refine⟨by simp[r.len],λi j a e1 e2=>r.inj i j a (jdw e1).1 (jdw e2).1,λa m z=>r.sep a m (List.mem_of_mem_take z),λa m=>r.dom a (List.mem_of_mem_take m),r.domx,λk a c e1 e2=> ?_⟩
 have hc:=r.cell k a c (jdw e1).1 (jdw e2).1
 have qc:Z.Cell.bnd n (some c)=true:=List.all_eq_true.mp q _ (List.mem_of_getElem? e2)
 exact(hc.bnd qc).mono (λ_ _ e=>e) (jmf n) rfl
theorem Ev.take{bs':List Addr}{h':Z.MH}{H':Hp}(hr:HR C ex bs h H)(e:Ev C ex bs h H bs' h' H')(q:(h'.take h.length).all (Z.Cell.bnd h.length)=true):Ev C ex bs h H (bs'.take h.length) (h'.take h.length) H':=
 ⟨λk a z=>jl4 (e.pre k a z) (by rw[<-hr.len];exact(List.getElem?_eq_some_iff.mp z).1),e.hr.take q,e.same.trans (jmf _),e.exs⟩
theorem jn3{d:Z.D}{h':Z.MH}{Q:VK}{v:V}{bs':List Addr}{H':Hp}(hr:HR C ex bs h H)(p:Post C ex E bs h H (RV C) (Z.fin h.length d h') Q)(e:Ev C ex bs h H bs' h' H')(rv:RV C bs' (gh ex bs' h' H') v d):Q v H':=by
 unfold Z.fin at p
 split at p
 ·exact p v bs' H' e rv
 ·split at p
  ·rename_i q
   rw[Bool.and_eq_true] at q
   exact p v _ H' (e.take hr q.2) ((rv.bnd q.1).mono (λ_ _ e=>e) (jmf _))
  ·exact p v bs' H' e rv
theorem RE.start{G:Hp}{vs:List V}{ds:List Z.D}{N:List Str}(r:RVs C bs G vs ds)(hn:ds.length<=N.length):RE C bs G (ds.map some++List.replicate (N.length - ds.length) none) (L2.start N vs):=by
 have hl:=r.len
 unfold L2.start
 refine⟨by simp[hl],λi d hi=> ?_⟩
 by_cases hlt:i<ds.length
 ·rw[List.getElem?_append_left (by simpa using hlt),List.getElem?_map] at hi
  rw[List.getElem?_append_left (by simp;omega),List.getElem?_map]
  cases e:ds[i]? with
  | none=>rw[e] at hi;cases hi
  | some z=>
   rw[e] at hi
   simp at hi;subst hi
   obtain⟨v,h1,h2⟩:=r.get e
   exact⟨v,by rw[h1];rfl,h2⟩
 ·rw[List.getElem?_append_right (by simp;omega),List.getElem?_replicate] at hi
  split at hi<;>cases hi
theorem okZ{P:Program}{w:World}{K:W.Frag}{mg:Str->Option Value}{base:Heap}{x qual:Str}{st:Stmt}{f:Addr}{fd:FuncData}{N ps:List Str}{k np nn:Nat}{b:Z.MS}{z:Z.MF}(F:Fun K x qual st f fd)(S:FnScope N ps (jac st))
  (hz:z=Z.mFun np nn b) (hp:ps.length=np) (hn:N.length=nn) (hle:np<=nn)
  (hb:∀(cdv:Value) (A:Around) (outer:List Env) (s:Shared) (H:Hp) (E:XK),Room k (A.deeper (envOfC qual (jac st) s.heap.objs.size f cdv))->
   ∃t,PSs (cxOf (CXE P w) P w K mg base N qual (jac st) f cdv A outer s H E) (jcy st) t /\ SS C E t b):FnOk P w K mg base (CXE P w) (k+1) f fd ps (spZ C z):=by
 subst hz
 refine F.okE S (λvs H Q E q=> ?_) λcdv A outer s H vs Q E hr q=> ?_
 ·obtain⟨ex,bs,h,ds,hr,rv,p⟩:=q
  unfold Z.mFun at p
  split at p
  ·rename_i hd;rw[rv.len,hd,hp]
  ·exact p.elim
 ·obtain⟨ex,bs,h,ds,hr',rv,p⟩:=q
  obtain⟨t,hps,hss⟩:=hb cdv A outer s H E hr
  refine⟨t,hps,?_⟩
  unfold Z.mFun at p
  split at p
  ·rename_i hd
   refine hss ex bs h (ds.map some++List.replicate (nn - ds.length) none) (L2.start N vs) H _ hr' (by rw[<-hn];exact RE.start rv (by omega)) ?_
   cases e:b (ds.map some++List.replicate (nn - ds.length) none) h with
   | nx ρ' h'=>rw[e] at p;exact λσ' bs' H' ev re=>jn3 hr' p ev (by simp only[RV])
   | rt d h'=>rw[e] at p;exact λv bs' H' ev rv=>jn3 hr' p ev rv
   | exc c h'=>
    rw[e] at p
    intro bs' H' ev
    dsimp only at p
    split at p
    ·exact p bs' H' ev
    ·split at p
     ·rename_i q;exact p _ H' (ev.take hr' q)
     ·exact p bs' H' ev
   | bk _ _=>rw[e] at p;exact p.elim
   | ct _ _=>rw[e] at p;exact p.elim
   | stuck=>rw[e] at p;exact p.elim
  ·exact p.elim
theorem jit{d:Z.D}{v:V}{xs:List Z.D}(hr:HR C ex bs h H)(r:RV C bs (gh ex bs h H) v d)(e:Z.asQ h d=some xs):∃a vs,v= .ref a /\ (SqL C.K H a vs \/ SqT C.K H a vs) /\ RVs C bs (gh ex bs h H) vs xs:=by
 cases d with
 | lst ds=>
  simp only[RV] at r
  obtain⟨a,vs,rfl,ga,rs⟩:=r
  cases e
  exact⟨a,vs,rfl,.inl (SqL.of (jbj _ _ ga)),rs⟩
 | tup ds=>
  simp only[RV] at r
  obtain⟨a,vs,rfl,ga,rs⟩:=r
  cases e
  exact⟨a,vs,rfl,.inr (SqT.of (jbj _ _ ga)),rs⟩
 | arg ns=>
  simp only[RV] at r
  obtain⟨a,rfl,ga⟩:=r
  cases e
  refine⟨a,_,rfl,.inl (jbj.sql ga),?_⟩
  clear ga hr
  induction ns with
  | nil=>simp only[List.map_nil,RVs]
  | cons n ns ih=>simp only[List.map_cons,RVs,RV];exact⟨trivial,ih⟩
 | ref k=>
  simp only[RV] at r
  obtain⟨a,rfl,hk⟩:=r
  simp only[Z.asQ] at e
  split at e
  ·rename_i ys hc
   cases e
   obtain⟨vs,ha,rs⟩:=hr.cell k a _ hk hc
   exact⟨a,vs,rfl,.inl (SqL.of ha),rs⟩
  ·cases e
 | _=>cases e
theorem ItOk.list{a:Addr}{vs:List V}{ds:List Z.D}{G:Hp}(hq:SqL C.K G a vs)(r:RVs C bs G vs ds):ItOk C bs G (Itl C.K a) (none,ds):=by
 intro ex2 bs2 h2 H2 hr pre sm _ i
 have hq2:SqL C.K H2 a vs:=(sm.trans jbj).sql hq
 refine⟨λd e=> ?_,λhle=>⟨vs,hq2,by rw[r.len];exact hle⟩⟩
 obtain⟨v,hv,rv⟩:=r.get e
 refine⟨⟨vs,v,hq2,hv⟩,λx H3 y=> ?_⟩
 obtain⟨rfl,y⟩:=y
 have:=y vs hq2
 rw[hv] at this;cases this
 exact⟨Ev.refl hr,rv.mono pre sm⟩
theorem Same.sqt{K:W.Frag}{H H':Hp}{a:Addr}{xs:List V}(e:Same H H')(h:SqT K H a xs):SqT K H' a xs:=by
 rcases h with(h | ⟨o,h⟩) | h
 ·exact .inl (.inl (e _ _ h))
 ·exact .inl (.inr ⟨o,e _ _ h⟩)
 ·exact .inr h
theorem ItOk.tup{a:Addr}{vs:List V}{ds:List Z.D}{G:Hp}(hq:SqT C.K G a vs)(r:RVs C bs G vs ds):ItOk C bs G (Itt C.K a) (none,ds):=by
 intro ex2 bs2 h2 H2 hr pre sm _ i
 have hq2:SqT C.K H2 a vs:=(sm.trans jbj).sqt hq
 refine⟨λd e=> ?_,λhle=>⟨vs,hq2,by rw[r.len];exact hle⟩⟩
 obtain⟨v,hv,rv⟩:=r.get e
 refine⟨⟨vs,v,hq2,hv⟩,λx H3 y=> ?_⟩
 obtain⟨rfl,y⟩:=y
 have:=y vs hq2
 rw[hv] at this;cases this
 exact⟨Ev.refl hr,rv.mono pre sm⟩
theorem ItOk.rng{lo:Int}{n:Nat}{G:Hp}:ItOk C bs G (Itr lo n) (none,Z.rng lo n):=by
 intro ex2 bs2 h2 H2 hr pre sm _ i
 unfold Z.rng
 refine⟨λd e=> ?_,λhle=>by show n<=i;simpa using hle⟩
 rw[List.getElem?_map] at e
 cases e2:(List.range n)[i]? with
 | none=>rw[e2] at e;cases e
 | some j=>
  rw[e2] at e
  simp at e;subst e
  obtain⟨hi,hj⟩:=List.getElem?_eq_some_iff.mp e2
  simp at hi hj
  subst hj
  refine⟨hi,λx H3 y=> ?_⟩
  obtain⟨rfl,rfl⟩:=y
  exact⟨Ev.refl hr,by simp only[RV]⟩
theorem si_V{t:TE}{m:Z.ME}(ht:SE C E t m):SI C E (iV C.K t) (Z.lIt m):=by
 intro ex bs h ρ σ H Q hr re p
 refine ht ex bs h ρ σ H _ hr re (p.bind λd x h1 bs1 H1 e1 rx p1=> ?_)
 cases d with
 | lst ds=>
  simp only[RV] at rx
  obtain⟨a,vs,rfl,ga,rs⟩:=rx
  exact .inl ⟨a,rfl,.inl ⟨⟨vs,SqL.of (jbj _ _ ga)⟩,Post.now e1.hr p1 (.list (SqL.of ga) rs)⟩⟩
 | tup ds=>
  simp only[RV] at rx
  obtain⟨a,vs,rfl,ga,rs⟩:=rx
  exact .inl ⟨a,rfl,.inr ⟨⟨vs,SqT.of (jbj _ _ ga)⟩,Post.now e1.hr p1 (.tup (SqT.of ga) rs)⟩⟩
 | arg ns=>
  have:=jit e1.hr rx (xs:=ns.map .int) rfl
  simp only[RV] at rx
  obtain⟨a,rfl,ga⟩:=rx
  refine .inl ⟨a,rfl,.inl ⟨⟨_,jbj.sql ga⟩,Post.now e1.hr p1 (.list ga ?_)⟩⟩
  clear this ga p1 p
  induction ns with
  | nil=>simp only[List.map_nil,RVs]
  | cons n ns ih=>simp only[List.map_cons,RVs,RV];exact⟨trivial,ih⟩
 | str z=>
  simp only[RV] at rx
  subst rx
  refine .inr ⟨z,rfl,Post.now e1.hr p1 ?_⟩
  intro ex2 bs2 h2 H2 hr pre sm _ i
  refine⟨λd e=> ?_,λhle=>by show z.length<=i;simpa [Str.length] using hle⟩
  rw[List.getElem?_map] at e
  cases e2:z.cps.toList[i]? with
  | none=>rw[e2] at e;cases e
  | some c=>
   rw[e2] at e
   simp at e;subst e
   have hi:=(List.getElem?_eq_some_iff.mp e2).1
   refine⟨by show i<z.length;simpa [Str.length] using hi,λx H3 y=> ?_⟩
   obtain⟨rfl,c',hc,rfl⟩:=y
   have:z.cps[i]?=some c:=by simpa using e2
   rw[this] at hc;cases hc
   exact⟨Ev.refl hr,by simp only[RV]⟩
 | ref k=>
  simp only[RV] at rx
  obtain⟨a,rfl,hk⟩:=rx
  dsimp only at p1
  split at p1
  ·rename_i xs hc
   obtain⟨vs,ha,rs⟩:=e1.hr.cell k a _ hk hc
   refine .inl ⟨a,rfl,.inl ⟨⟨vs,SqL.of ha⟩,Post.now e1.hr p1 ?_⟩⟩
   intro ex2 bs2 h2 H2 hr pre sm okg i
   obtain⟨ws,ha2,rs2⟩:=hr.cell k a _ (pre k a hk) okg
   refine⟨λd e=> ?_,λhle=>⟨ws,SqL.of ha2,by rw[rs2.len];exact hle⟩⟩
   obtain⟨v,hv,rv⟩:=rs2.get e
   refine⟨⟨ws,v,SqL.of ha2,hv⟩,λx H3 y=> ?_⟩
   obtain⟨rfl,y⟩:=y
   have:=y ws (SqL.of ha2)
   rw[hv] at this;cases this
   exact⟨Ev.refl hr,rv⟩
  ·exact p1.elim
 | _=>exact p1.elim
theorem jk8{t:TA}{m:Z.ML}(ht:SA C E t m):SI C E (iRng1 t) (Z.jjf m):=by
 intro ex bs h ρ σ H Q hr re p
 refine ht ex bs h ρ σ H _ hr re (p.bind λds xs h1 bs1 H1 e1 rx p1=> ?_)
 split at p1
 ·rename_i j
  obtain⟨hj,p1⟩:=p1.chk
  cases xs with
  | nil=>simp only[RVs] at rx
  | cons v vs=>
   cases vs with
   | cons _ _=>simp only[RVs] at rx;exact rx.2.elim
   | nil=>
    simp only[RVs,RV] at rx
    rw[rx.1]
    exact⟨j,rfl,by omega,by omega,Post.now e1.hr p1 .rng⟩
 ·exact p1.elim
end
section
variable {C : Ct} {ex bs bs1 bs2 : List Addr} {h h1 h2 : Z.MH} {H H1 H2 : Hp} {E : XK}
theorem jr9{f:Int->Int->Int}:S2 C (rI0 λi j=> .int (f i j)) (Z.dInt f):=by
 intro ex bs h H E x y dx dy Q hr rx ry p
 unfold Z.dInt at p
 split at p
 ·simp only[RV] at rx ry
  exact⟨_,_,rx,ry,p.now hr (by simp only[RV])⟩
 ·exact p.elim
theorem jjh{c c':Int->Int->Prop}[∀i j,Decidable (c i j)]{f:Int->Int->Int}(hc:∀i j,c i j->c' i j):S2 C (rI c' λi j=> .int (f i j)) (Z.jm9 c f):=by
 intro ex bs h H E x y dx dy Q hr rx ry p
 unfold Z.jm9 at p
 split at p
 ·obtain⟨q,p⟩:=p.chk
  simp only[RV] at rx ry
  exact⟨_,_,rx,ry,hc _ _ q,p.now hr (by simp only[RV])⟩
 ·exact p.elim
theorem jtt{f:Int->Int->Bool}:S2 C (rI0 λi j=> .bl (f i j)) (Z.dCmp f):=by
 intro ex bs h H E x y dx dy Q hr rx ry p
 unfold Z.dCmp at p
 split at p
 ·simp only[RV] at rx ry
  exact⟨_,_,rx,ry,p.now hr (by simp only[RV])⟩
 ·exact p.elim
theorem jor:S2 C (rI0 λi j=> .int (i - j)) Z.dSub:=jr9
theorem jbg:S2 C (rI0 λi j=> .int (Builtin.bitAnd i j)) Z.dAnd:=jr9
theorem jim:S2 C (rI0 λi j=> .int (Builtin.bitOr i j)) Z.dOr:=jr9
theorem je2:S2 C (rI CDiv λi j=> .int (i / j)) Z.dDiv:=jjh λ_ _ q=>q
theorem jcg:S2 C (rI (λ_ j=>0<j) λi j=> .int (i % j)) Z.dMod:=jjh λ_ _ q=>q
theorem jsc{i j:Int}(q:Z.jm0 i j):CPow i j:=by unfold Z.jm0 at q;unfold CPow;exact⟨q.1,q.2.1,by have:=q.2.2;omega⟩
theorem jd0:S2 C (rI CPow λi j=> .int (i*2^j.toNat)) Z.dShl:=jjh λ_ _ q=>jsc q
theorem jie:S2 C (rI (λ_ j=>0<=j) λi j=> .int (i / 2^j.toNat)) Z.dShr:=jjh λ_ _ q=>q
theorem jru:S2 C (rI0 λi j=> .bl (decide (i<j))) Z.dLt:=jtt
theorem s2_gt:S2 C (rI0 λi j=> .bl (decide (j<i))) Z.dGt:=jtt
theorem s1_neg:S1 C (rU λi=> .int (-i)) Z.dNeg:=by
 intro ex bs h H E x dx Q hr rx p
 unfold Z.dNeg at p
 split at p
 ·simp only[RV] at rx;exact⟨_,rx,p.now hr (by simp only[RV])⟩
 ·exact p.elim
theorem jf8:S1 C (rU λi=> .int (Builtin.bitNot i)) Z.dInv:=by
 intro ex bs h H E x dx Q hr rx p
 unfold Z.dInv at p
 split at p
 ·simp only[RV] at rx;exact⟨_,rx,p.now hr (by simp only[RV])⟩
 ·exact p.elim
theorem jmw{d:Z.D}{v:V}{xs:List Z.D}(hr:HR C ex bs h H)(r:RV C bs (gh ex bs h H) v d)(e:Z.asL h d=some xs):∃a vs,v= .ref a /\ H a=some (.lst vs) /\ RVs C bs (gh ex bs h H) vs xs:=by
 cases d with
 | lst ds=>
  simp only[RV] at r
  obtain⟨a,vs,rfl,ga,rs⟩:=r
  cases e
  exact⟨a,vs,rfl,jbj _ _ ga,rs⟩
 | ref k=>
  simp only[RV] at r
  obtain⟨a,rfl,hk⟩:=r
  simp only[Z.asL] at e
  split at e
  ·rename_i ys hc
   cases e
   obtain⟨vs,ha,rs⟩:=hr.cell k a _ hk hc
   exact⟨a,vs,rfl,ha,rs⟩
  ·cases e
 | _=>cases e
theorem Post.tree{ds:List Z.D}{vs:List V}{p:Addr}{Q:VK}(hr:HR C ex bs h H)(q:Post C ex E bs h H (RV C) (.ok (.lst ds) h) Q)(hp:H p=none)(r:RVs C bs (gh ex bs h H) vs ds):Q (.ref p) (upd H p (.lst vs)):=by
 obtain⟨e2,g⟩:=Ev.alloc (o:= .lst vs) hr hp
 exact q (.ref p) bs _ e2 (by simp only[RV];exact⟨p,vs,rfl,g,r.ev e2⟩)
theorem Post.ttup{ds:List Z.D}{vs:List V}{p:Addr}{Q:VK}(hr:HR C ex bs h H)(q:Post C ex E bs h H (RV C) (.ok (.tup ds) h) Q)(hp:H p=none)(r:RVs C bs (gh ex bs h H) vs ds):Q (.ref p) (upd H p (.tup vs)):=by
 obtain⟨e2,g⟩:=Ev.alloc (o:= .tup vs) hr hp
 exact q (.ref p) bs _ e2 (by simp only[RV];exact⟨p,vs,rfl,g,r.ev e2⟩)
theorem jff:S2 C (uAdd C.K) Z.dAdd:=by
 intro ex bs h H E x y dx dy Q hr rx ry p
 unfold Z.dAdd at p
 split at p
 ·simp only[RV] at rx ry
  subst rx ry
  exact p.now hr (by simp only[RV])
 ·obtain⟨q,p⟩:=p.chk
  simp only[RV] at rx ry
  subst rx ry
  exact⟨q,p.now hr (by simp only[RV])⟩
 ·obtain⟨q,p⟩:=p.chk
  simp only[RV] at rx ry
  obtain⟨a,vs,rfl,ga,rs⟩:=rx
  obtain⟨b,ws,rfl,gb,qs⟩:=ry
  have hl:=rs.len
  have hl':=qs.len
  refine .inr ⟨a,b,vs,ws,rfl,rfl,SqT.of (jbj _ _ ga),SqT.of (jbj _ _ gb),λz=>q.1 (List.eq_nil_of_length_eq_zero (by rw[<-hl,z];rfl)),by rw[hl,hl'];exact q.2,λz=> ?_,λ_ l hl=>Post.ttup hr p hl (rs.append qs)⟩
  subst z
  refine p.now hr ?_
  simp only[RV]
  have:=rs.append qs
  rw[List.append_nil] at this
  exact⟨a,vs,rfl,ga,this⟩
 ·obtain⟨xs,e1,p⟩:=p.oR
  obtain⟨ys,e2,p⟩:=p.oR
  obtain⟨q,p⟩:=p.chk
  obtain⟨a,vs,rfl,ha,rs⟩:=jmw hr rx e1
  obtain⟨b,ws,rfl,hb,qs⟩:=jmw hr ry e2
  exact .inl ⟨a,b,vs,ws,rfl,rfl,ha,hb,by rw[rs.len,qs.len];exact q,λl hl=>Post.tree hr p hl (rs.append qs)⟩
theorem RVk.len{G:Hp}:∀{ds:List (Sum Int Str×Z.D)} {vs:List (Key×V)},RVk C bs G vs ds->vs.length=ds.length
  | [],[],_=>rfl
  | (_,_)::ds,(_,_)::vs,h=>by simp only[RVk] at h;simp[RVk.len h.2.2]
  | [],_::_,h=>by simp only[RVk] at h
  | _::_,[],h=>by simp only[RVk] at h
theorem jmu{d:Z.D}{v:V}{k:Bool}(hr:HR C ex bs h H)(r:RV C bs (gh ex bs h H) v d)(e:Z.jg7 h d=some k):TruV C.K v H k:=by
 have sq:∀{xs:List Z.D},Z.asQ h d=some xs->k= !xs.isEmpty->TruV C.K v H k:=fun{xs} e1 e2=>by
  obtain⟨a,vs,rfl,hq,rs⟩:=jit hr r e1
  have:k= !vs.isEmpty:=by
   rw[e2]
   have:=rs.len
   cases vs<;>cases xs<;>first | rfl | (simp at this)
  rcases hq with hq | hq
  ·exact .inl ⟨vs,hq,this⟩
  ·exact .inr (.inl ⟨vs,hq,this⟩)
 cases d with
 | non=>simp only[RV] at r;subst r;cases e;rfl
 | bl b=>simp only[RV] at r;subst r;cases e;rfl
 | int i=>simp only[RV] at r;subst r;cases e;rfl
 | str y=>
  simp only[RV] at r;subst r
  simp only[Z.jg7] at e
  split at e
  ·rename_i hz;cases e;exact⟨hz,rfl⟩
  ·cases e
 | lst xs=>simp only[Z.jg7,Z.asQ,Option.some.injEq] at e;exact sq rfl e.symm
 | tup xs=>simp only[Z.jg7,Z.asQ,Option.some.injEq] at e;exact sq rfl e.symm
 | arg ns=>simp only[Z.jg7,Z.asQ,Option.some.injEq] at e;exact sq rfl e.symm
 | ref j=>
  simp only[Z.jg7] at e
  split at e
  ·rename_i xs hx
   simp only[Option.some.injEq] at e
   exact sq hx e.symm
  ·simp only[Z.asD] at e
   split at e
   ·rename_i kvs hc
    simp only[Option.map_some,Option.some.injEq] at e
    simp only[RV] at r
    obtain⟨a,rfl,hk⟩:=r
    obtain⟨kws,ha,rk⟩:=hr.cell j a _ hk hc
    refine .inr (.inr ⟨kws,ha,?_⟩)
    rw[<-e]
    have:=rk.len
    cases kws<;>cases kvs<;>first | rfl | (simp at this)
   ·cases e
 | ty n=>simp[Z.jg7,Z.asQ] at e
 | cls n=>simp[Z.jg7,Z.asQ] at e
 | exc n=>simp[Z.jg7,Z.asQ] at e
 | obj c fs=>simp[Z.jg7,Z.asQ] at e
 | dic kvs=>simp[Z.jg7,Z.asQ] at e
theorem jb8{t:TE}{m:Z.ME}(ht:SE C E t m):ST C E (λσ H Q=>t σ H λx H'=>∃k,TruV C.K x H' k /\ Q k H') (Z.tTru m):=by
 intro ex bs h ρ σ H Q hr re p
 refine ht ex bs h ρ σ H _ hr re (p.bind λd x h1 bs1 H1 e1 rx p1=> ?_)
 obtain⟨k,ek,p1⟩:=p1.oR1
 exact⟨k,jmu e1.hr rx ek,Post.now e1.hr p1 rfl⟩
theorem s_notT{t:TE}{m:Z.ME}(ht:SE C E t m):SE C E (λσ H Q=>t σ H λx H1=>∃k,TruV C.K x H1 k /\ Q (.bl (!k)) H1) (Z.mNotV m):=by
 intro ex bs h ρ σ H Q hr re p
 refine ht ex bs h ρ σ H _ hr re (p.bind λd x h1 bs1 H1 e1 rx p1=> ?_)
 obtain⟨k,ek,p1⟩:=p1.oR
 exact⟨k,jmu e1.hr rx ek,p1.now e1.hr (by simp only[RV])⟩
mutual
theorem RV.rep{G:Hp}:∀{d:Z.D} {v:V} {q:PyData},RV C bs G v d->d.py=some q->Rep G v q
 | .non,v,q,h,e=>by simp only[RV] at h;simp only[Z.D.py,Option.some.injEq] at e;subst e;simp only[Rep];exact h
 | .bl b,v,q,h,e=>by simp only[RV] at h;simp only[Z.D.py,Option.some.injEq] at e;subst e;simp only[Rep];exact h
 | .int i,v,q,h,e=>by simp only[RV] at h;simp only[Z.D.py,Option.some.injEq] at e;subst e;simp only[Rep];exact h
 | .str x,v,q,h,e=>by
  simp only[RV] at h
  simp only[Z.D.py] at e
  split at e
  ·simp only[Option.some.injEq] at e;subst e;simp only[Rep];exact h
  ·cases e
 | .tup ds,v,q,h,e=>by
  simp only[RV] at h
  simp only[Z.D.py] at e
  obtain⟨a,vs,h1,h2,h3⟩:=h
  cases e2:Z.D.pys ds with
  | none=>rw[e2] at e;cases e
  | some ps=>
   rw[e2] at e
   simp only[Option.map_some,Option.some.injEq] at e
   subst e
   simp only[Rep]
   exact⟨a,vs,h1,h2,RVs.reps h3 e2⟩
 | .lst ds,v,q,h,e=>by
  simp only[RV] at h
  simp only[Z.D.py] at e
  obtain⟨a,vs,h1,h2,h3⟩:=h
  cases e2:Z.D.pys ds with
  | none=>rw[e2] at e;cases e
  | some ps=>
   rw[e2] at e
   simp only[Option.map_some,Option.some.injEq] at e
   subst e
   simp only[Rep]
   exact⟨a,vs,h1,h2,RVs.reps h3 e2⟩
 | .arg _,_,_,_,e=>by simp only[Z.D.py] at e;cases e
 | .ref _,_,_,_,e=>by simp only[Z.D.py] at e;cases e
 | .ty _,_,_,_,e=>by simp only[Z.D.py] at e;cases e
 | .cls _,_,_,_,e=>by simp only[Z.D.py] at e;cases e
 | .exc _,_,_,_,e=>by simp only[Z.D.py] at e;cases e
 | .obj _ _,_,_,_,e=>by simp only[Z.D.py] at e;cases e
 | .dic _,_,_,_,e=>by simp only[Z.D.py] at e;cases e
theorem RVs.reps{G:Hp}:∀{ds:List Z.D} {vs:List V} {qs:List PyData},RVs C bs G vs ds->Z.D.pys ds=some qs->Reps G vs qs
 | [],[],qs,_,e=>by simp only[Z.D.pys,Option.some.injEq] at e;subst e;simp only[Reps]
 | d::ds,v::vs,qs,h,e=>by
  simp only[RVs] at h
  simp only[Z.D.pys] at e
  split at e
  ·rename_i p ps e1 e2
   simp only[Option.some.injEq] at e
   subst e
   simp only[Reps]
   exact⟨RV.rep h.1 e1,RVs.reps h.2 e2⟩
  ·cases e
 | [],_::_,_,h,_=>by simp only[RVs] at h
 | _::_,[],_,h,_=>by simp only[RVs] at h
end
mutual
theorem jwd:∀{d e:Z.D} {p q:PyData},d.py=some p->e.py=some q->PyData.eqv p q=d.eq e
  | .non,e,p,q,hd,he=>by
    simp only[Z.D.py,Option.some.injEq] at hd;subst hd
    cases e<;>simp only[Z.D.py,Option.some.injEq] at he<;>(try cases he)<;>first
      | (subst he;simp[PyData.eqv,Z.D.eq];done)
      | (split at he<;>first | (cases he;simp[PyData.eqv,Z.D.eq];done) | cases he)
      | (simp only[Option.map_eq_some_iff] at he;obtain⟨_,_,rfl⟩:=he;simp[PyData.eqv,Z.D.eq];done)
      | (simp[PyData.eqv,Z.D.eq];done)
  | .bl b,e,p,q,hd,he=>by
    simp only[Z.D.py,Option.some.injEq] at hd;subst hd
    cases e<;>simp only[Z.D.py,Option.some.injEq] at he<;>(try cases he)<;>first
      | (subst he;simp[PyData.eqv,Z.D.eq];done)
      | (split at he<;>first | (cases he;simp[PyData.eqv,Z.D.eq];done) | cases he)
      | (simp only[Option.map_eq_some_iff] at he;obtain⟨_,_,rfl⟩:=he;simp[PyData.eqv,Z.D.eq];done)
      | (simp[PyData.eqv,Z.D.eq];done)
  | .int b,e,p,q,hd,he=>by
    simp only[Z.D.py,Option.some.injEq] at hd;subst hd
    cases e<;>simp only[Z.D.py,Option.some.injEq] at he<;>(try cases he)<;>first
      | (subst he;simp[PyData.eqv,Z.D.eq];done)
      | (split at he<;>first | (cases he;simp[PyData.eqv,Z.D.eq];done) | cases he)
      | (simp only[Option.map_eq_some_iff] at he;obtain⟨_,_,rfl⟩:=he;simp[PyData.eqv,Z.D.eq];done)
      | (simp[PyData.eqv,Z.D.eq];done)
  | .str b,e,p,q,hd,he=>by
    simp only[Z.D.py] at hd
    split at hd
    · cases hd
      cases e<;>simp only[Z.D.py,Option.some.injEq] at he<;>(try cases he)<;>first
        | (subst he;simp[PyData.eqv,Z.D.eq];done)
        | (split at he<;>first | (cases he;simp[PyData.eqv,Z.D.eq];done) | cases he)
        | (simp only[Option.map_eq_some_iff] at he;obtain⟨_,_,rfl⟩:=he;simp[PyData.eqv,Z.D.eq];done)
        | (simp[PyData.eqv,Z.D.eq];done)
    · cases hd
  | .tup xs,e,p,q,hd,he=>by
    simp only[Z.D.py,Option.map_eq_some_iff] at hd
    obtain⟨ps,h1,rfl⟩:=hd
    cases e with
    | tup ys=>
      simp only[Z.D.py,Option.map_eq_some_iff] at he
      obtain⟨qs,h2,rfl⟩:=he
      simp only[PyData.eqv,Z.D.eq]
      exact jp1 h1 h2
    | _=>
      simp only[Z.D.py,Option.some.injEq] at he<;>(try cases he)<;>first
        | (subst he;simp[PyData.eqv,Z.D.eq];done)
        | (split at he<;>first | (cases he;simp[PyData.eqv,Z.D.eq];done) | cases he)
        | (simp only[Option.map_eq_some_iff] at he;obtain⟨_,_,rfl⟩:=he;simp[PyData.eqv,Z.D.eq];done)
        | (simp[PyData.eqv,Z.D.eq];done)
  | .lst xs,e,p,q,hd,he=>by
    simp only[Z.D.py,Option.map_eq_some_iff] at hd
    obtain⟨ps,h1,rfl⟩:=hd
    cases e with
    | lst ys=>
      simp only[Z.D.py,Option.map_eq_some_iff] at he
      obtain⟨qs,h2,rfl⟩:=he
      simp only[PyData.eqv,Z.D.eq]
      exact jp1 h1 h2
    | _=>
      simp only[Z.D.py,Option.some.injEq] at he<;>(try cases he)<;>first
        | (subst he;simp[PyData.eqv,Z.D.eq];done)
        | (split at he<;>first | (cases he;simp[PyData.eqv,Z.D.eq];done) | cases he)
        | (simp only[Option.map_eq_some_iff] at he;obtain⟨_,_,rfl⟩:=he;simp[PyData.eqv,Z.D.eq];done)
        | (simp[PyData.eqv,Z.D.eq];done)
  | .arg _,_,_,_,e,_=>by simp only[Z.D.py] at e;cases e
  | .ref _,_,_,_,e,_=>by simp only[Z.D.py] at e;cases e
  | .ty _,_,_,_,e,_=>by simp only[Z.D.py] at e;cases e
  | .cls _,_,_,_,e,_=>by simp only[Z.D.py] at e;cases e
  | .exc _,_,_,_,e,_=>by simp only[Z.D.py] at e;cases e
  | .obj _ _,_,_,_,e,_=>by simp only[Z.D.py] at e;cases e
  | .dic _,_,_,_,e,_=>by simp only[Z.D.py] at e;cases e
theorem jp1:∀{ds es:List Z.D} {ps qs:List PyData},Z.D.pys ds=some ps->Z.D.pys es=some qs->PyData.eqvAll ps qs=Z.D.eqs ds es
 | [],[],ps,qs,h1,h2=>by
  simp only[Z.D.pys,Option.some.injEq] at h1 h2;subst h1 h2;simp only[PyData.eqvAll,Z.D.eqs]
 | d::ds,e::es,ps,qs,h1,h2=>by
  simp only[Z.D.pys] at h1 h2
  split at h1
  ·split at h2
   ·rename_i p1 ps1 a1 a2 _ _ q1 qs1 b1 b2
    simp only[Option.some.injEq] at h1 h2
    subst h1 h2
    simp only[PyData.eqvAll,Z.D.eqs]
    rw[jwd a1 b1,jp1 a2 b2]
   ·cases h2
  ·cases h1
 | [],e::es,ps,qs,h1,h2=>by
  simp only[Z.D.pys] at h1 h2
  split at h2
  ·simp only[Option.some.injEq] at h1 h2;subst h1 h2;simp only[PyData.eqvAll,Z.D.eqs]
  ·cases h2
 | d::ds,[],ps,qs,h1,h2=>by
  simp only[Z.D.pys] at h1 h2
  split at h1
  ·simp only[Option.some.injEq] at h1 h2;subst h1 h2;simp only[PyData.eqvAll,Z.D.eqs]
  ·cases h1
end
end
section
variable {C : Ct} {ex bs bs1 bs2 : List Addr} {h h1 h2 : Z.MH} {H H1 H2 : Hp} {E : XK}
mutual
theorem ju8:∀{d:Z.D} {q:PyData},d.py=some q->q.canLay0=true /\ q.depth=d.deep
 | .non,q,e=>by simp only[Z.D.py,Option.some.injEq] at e;subst e;exact⟨by simp only[PyData.canLay0],by simp only[PyData.depth,Z.D.deep]⟩
 | .bl b,q,e=>by simp only[Z.D.py,Option.some.injEq] at e;subst e;exact⟨by simp only[PyData.canLay0],by simp only[PyData.depth,Z.D.deep]⟩
 | .int b,q,e=>by simp only[Z.D.py,Option.some.injEq] at e;subst e;exact⟨by simp only[PyData.canLay0],by simp only[PyData.depth,Z.D.deep]⟩
 | .str b,q,e=>by
  simp only[Z.D.py] at e
  split at e
  ·rename_i hs;cases e;exact⟨by simp only[PyData.canLay0];exact hs,by simp only[PyData.depth,Z.D.deep]⟩
  ·cases e
 | .tup ds,q,e=>by
  simp only[Z.D.py,Option.map_eq_some_iff] at e
  obtain⟨ps,h1,rfl⟩:=e
  have:=jm7 h1
  exact⟨by simp only[PyData.canLay0];exact this.1,by simp only[PyData.depth,Z.D.deep];rw[this.2]⟩
 | .lst ds,q,e=>by
  simp only[Z.D.py,Option.map_eq_some_iff] at e
  obtain⟨ps,h1,rfl⟩:=e
  have:=jm7 h1
  exact⟨by simp only[PyData.canLay0];exact this.1,by simp only[PyData.depth,Z.D.deep];rw[this.2]⟩
 | .arg _,_,e=>by simp only[Z.D.py] at e;cases e
 | .ref _,_,e=>by simp only[Z.D.py] at e;cases e
 | .ty _,_,e=>by simp only[Z.D.py] at e;cases e
 | .cls _,_,e=>by simp only[Z.D.py] at e;cases e
 | .exc _,_,e=>by simp only[Z.D.py] at e;cases e
 | .obj _ _,_,e=>by simp only[Z.D.py] at e;cases e
 | .dic _,_,e=>by simp only[Z.D.py] at e;cases e
theorem jm7:∀{ds:List Z.D} {qs:List PyData},Z.D.pys ds=some qs->PyData.canLayAll0 qs=true /\ PyData.depthAll qs=Z.D.deeps ds
 | [],qs,e=>by simp only[Z.D.pys,Option.some.injEq] at e;subst e;exact⟨by simp only[PyData.canLayAll0],by simp only[PyData.depthAll,Z.D.deeps]⟩
 | d::ds,qs,e=>by
  simp only[Z.D.pys] at e
  split at e
  ·rename_i p ps e1 e2
   simp only[Option.some.injEq] at e
   subst e
   have a:=ju8 e1
   have b:=jm7 e2
   exact⟨by simp only[PyData.canLayAll0,a.1,b.1,Bool.and_self],by simp only[PyData.depthAll,Z.D.deeps,a.2,b.2]⟩
  ·cases e
end
theorem jhi{d:Z.D}(e:d.dat=true):∃q,d.py=some q /\ jgo q:=by
 unfold Z.D.dat at e
 rw[Bool.and_eq_true,decide_eq_true_eq,Option.isSome_iff_exists] at e
 obtain⟨⟨q,hq⟩,hd⟩:=e
 refine⟨q,hq,?_⟩
 have:=ju8 hq
 show SeqAt.shaped q=true
 unfold SeqAt.shaped
 rw[Bool.and_eq_true,decide_eq_true_eq]
 exact⟨this.1,by rw[this.2];exact hd⟩
mutual
theorem jpl(hr:HR C ex bs h H):∀(n:Nat) {d:Z.D} {v:V} {q:PyData},RV C bs (gh ex bs h H) v d->(Z.res n h d).py=some q->Rep H v q
 | 0,d,v,q,r,e=>by unfold Z.res at e;exact(r.rep e).same jbj
 | n+1,.ref k,v,q,r,e=>by
  unfold Z.res at e
  split at e
  ·rename_i xs hc
   simp only[RV] at r
   obtain⟨a,rfl,hk⟩:=r
   obtain⟨vs,ha,rs⟩:=hr.cell k a _ hk hc
   simp only[Z.D.py,Option.map_eq_some_iff] at e
   obtain⟨ps,h1,rfl⟩:=e
   simp only[Rep]
   exact⟨a,vs,rfl,ha,jh0 hr n rs h1⟩
  ·simp only[Z.D.py] at e;cases e
 | n+1,.tup xs,v,q,r,e=>by
  unfold Z.res at e
  simp only[RV] at r
  obtain⟨a,vs,rfl,ga,rs⟩:=r
  simp only[Z.D.py,Option.map_eq_some_iff] at e
  obtain⟨ps,h1,rfl⟩:=e
  simp only[Rep]
  exact⟨a,vs,rfl,jbj _ _ ga,jh0 hr n rs h1⟩
 | n+1,.lst xs,v,q,r,e=>by
  unfold Z.res at e
  simp only[RV] at r
  obtain⟨a,vs,rfl,ga,rs⟩:=r
  simp only[Z.D.py,Option.map_eq_some_iff] at e
  obtain⟨ps,h1,rfl⟩:=e
  simp only[Rep]
  exact⟨a,vs,rfl,jbj _ _ ga,jh0 hr n rs h1⟩
 | n+1,.non,v,q,r,e=>by unfold Z.res at e;exact(r.rep e).same jbj
 | n+1,.bl _,v,q,r,e=>by unfold Z.res at e;exact(r.rep e).same jbj
 | n+1,.int _,v,q,r,e=>by unfold Z.res at e;exact(r.rep e).same jbj
 | n+1,.str _,v,q,r,e=>by unfold Z.res at e;exact(r.rep e).same jbj
 | n+1,.arg _,v,q,r,e=>by unfold Z.res at e;exact(r.rep e).same jbj
 | n+1,.ty _,v,q,r,e=>by unfold Z.res at e;exact(r.rep e).same jbj
 | n+1,.cls _,v,q,r,e=>by unfold Z.res at e;exact(r.rep e).same jbj
 | n+1,.exc _,v,q,r,e=>by unfold Z.res at e;exact(r.rep e).same jbj
 | n+1,.obj _ _,v,q,r,e=>by unfold Z.res at e;exact(r.rep e).same jbj
 | n+1,.dic _,v,q,r,e=>by unfold Z.res at e;exact(r.rep e).same jbj
theorem jh0(hr:HR C ex bs h H):∀(n:Nat) {ds:List Z.D} {vs:List V} {qs:List PyData},RVs C bs (gh ex bs h H) vs ds->Z.D.pys (ds.map (Z.res n h))=some qs->Reps H vs qs
 | n,[],[],qs,_,e=>by simp only[List.map_nil,Z.D.pys,Option.some.injEq] at e;subst e;simp only[Reps]
 | n,d::ds,v::vs,qs,r,e=>by
  simp only[RVs] at r
  simp only[List.map_cons,Z.D.pys] at e
  split at e
  ·rename_i p ps e1 e2
   simp only[Option.some.injEq] at e
   subst e
   simp only[Reps]
   exact⟨jpl hr n r.1 e1,jh0 hr n r.2 e2⟩
  ·cases e
 | n,[],_::_,_,r,_=>by simp only[RVs] at r
 | n,_::_,[],_,r,_=>by simp only[RVs] at r
end
theorem jrl{d:Z.D}{v:V}(hr:HR C ex bs h H)(r:RV C bs (gh ex bs h H) v d)(e:(Z.see h d).dat=true):∃q,(Z.see h d).py=some q /\ Rep H v q /\ jgo q:=by
 obtain⟨q,h1,h2⟩:=jhi e
 exact⟨q,h1,jpl hr 8 r h1,h2⟩
theorem jl0{x y:V}{dx dy:Z.D}(hr:HR C ex bs h H)(rx:RV C bs (gh ex bs h H) x dx)(ry:RV C bs (gh ex bs h H) y dy):Z.dEq dx dy h= .stuck \/ ∃b,Z.dEq dx dy h= .ok (.bl b) h /\
  ((scal x y=true /\ decide (x=y)=b) \/ ∃d e,Rep H x d /\ Rep H y e /\ jgo d /\ jgo e /\ PyData.eqv d e=b):=by
 unfold Z.dEq
 split
 ·simp only[RV] at rx ry;subst rx ry
  exact .inr ⟨_,rfl,.inl ⟨rfl,by simp⟩⟩
 ·simp only[RV] at rx ry;subst rx ry
  exact .inr ⟨_,rfl,.inl ⟨rfl,by simp⟩⟩
 ·simp only[RV] at rx ry;subst rx ry
  exact .inr ⟨_,rfl,.inl ⟨rfl,jqf⟩⟩
 ·split
  ·rename_i q
   obtain⟨d,h1,h3⟩:=jhi q.1
   obtain⟨e,k1,k3⟩:=jhi q.2
   exact .inr ⟨_,rfl,.inr ⟨d,e,(rx.rep h1).same jbj,(ry.rep k1).same jbj,h3,k3,jwd h1 k1⟩⟩
  ·unfold Z.chk
   split
   ·rename_i q
    obtain⟨d,h1,h2,h3⟩:=jrl hr rx q.1
    obtain⟨e,k1,k2,k3⟩:=jrl hr ry q.2
    exact .inr ⟨_,rfl,.inr ⟨d,e,h2,k2,h3,k3,jwd h1 k1⟩⟩
   ·exact .inl rfl
theorem jd7:S2 C uEq Z.dEq:=by
 intro ex bs h H E x y dx dy Q hr rx ry p
 rcases jl0 hr rx ry with e | ⟨b,e,q⟩
 ·rw[e] at p;exact p.elim
 ·rw[e] at p
  have:=p.now (b:= .bl b) hr (by simp only[RV])
  rcases q with⟨q1,q2⟩ | ⟨d,e,h1,h2,h3,h4,h5⟩
  ·exact .inl ⟨q1,by rw[q2];exact this⟩
  ·exact .inr ⟨d,e,h1,h2,h3,h4,by rw[h5];exact this⟩
theorem jky:S2 C uNe Z.dNe:=by
 intro ex bs h H E x y dx dy Q hr rx ry p
 unfold Z.dNe at p
 rcases jl0 hr rx ry with e | ⟨b,e,q⟩
 ·rw[e] at p;exact p.elim
 ·rw[e] at p
  have:=Post.now (b:= .bl (!b)) hr p (by simp only[RV])
  rcases q with⟨q1,q2⟩ | ⟨d,e,h1,h2,h3,h4,h5⟩
  ·exact .inl ⟨q1,by rw[q2];exact this⟩
  ·exact .inr ⟨d,e,h1,h2,h3,h4,by rw[h5];exact this⟩
theorem ju0{G:Hp}{d:Z.D}{v:V}(r:RV C bs G v d)(f:Z.flat d=true):fv d=some v /\ jik v=true:=by
 cases d<;>simp only[RV] at r<;>first | (subst r;exact⟨rfl,rfl⟩) | (cases f)
theorem fv_v{G:Hp}{d:Z.D}{v:V}(f:fv d=some v):RV C bs G v d:=by
 cases d<;>simp only[fv,Option.some.injEq] at f<;>first | (subst f;simp only[RV];done) | (cases f)
theorem eqF_v{d e:Z.D}{v u:V}(a:fv d=some v)(b:fv e=some u):eqV v u=Z.eqF d e:=by
 cases d<;>simp only[fv,Option.some.injEq] at a<;>(try cases a)<;>cases e<;>simp only[fv,Option.some.injEq] at b<;>(try cases b)<;>(try subst a)<;>(try subst b)<;>rfl
theorem jrb{G:Hp}{e:Z.D}{u:V}(b:fv e=some u):∀{ds:List Z.D} {vs:List V},RVs C bs G vs ds->ds.all Z.flat=true->vs.all jik=true /\ (vs.any λy=>eqV y u)=ds.any λy=>Z.eqF y e
 | [],[],_,_=>⟨rfl,rfl⟩
 | d::ds,v::vs,h,f=>by
  simp only[RVs] at h
  rw[List.all_cons,Bool.and_eq_true] at f
  obtain⟨h1,h2⟩:=ju0 h.1 f.1
  obtain⟨h3,h4⟩:=jrb b h.2 f.2
  rw[List.all_cons,List.any_cons,List.any_cons,h2,h3,h4,eqF_v h1 b]
  exact⟨rfl,rfl⟩
 | [],_::_,h,_=>by simp only[RVs] at h
 | _::_,[],h,_=>by simp only[RVs] at h
theorem js9{G:Hp}{d:Z.D}{v:V}{k:Sum Int Str}(r:RV C bs G v d)(e:Z.jjc d=some k):v=kV k:=by
 cases d<;>simp only[Z.jjc,Option.some.injEq] at e<;>(try cases e)<;>simp only[RV] at r<;>exact r
theorem RVk.val{G:Hp}{k:Sum Int Str}:∀{ds:List (Sum Int Str×Z.D)} {vs:List (Key×V)},RVk C bs G vs ds->
    (Z.valK ds k=none /\ valV vs k=none) \/ ∃d v,Z.valK ds k=some d /\ valV vs k=some v /\ RV C bs G v d
  | [],[],_=> .inl ⟨rfl,rfl⟩
  | (y,d)::ds,(x,v)::vs,h=>by
    simp only[RVk] at h
    obtain⟨rfl,h1,h2⟩:=h
    unfold Z.valK valV
    rw[List.find?_cons,List.find?_cons]
    by_cases e:x=k
    · simp only[e,decide_true]
      exact .inr ⟨d,v,rfl,rfl,h1⟩
    · simp only[e,decide_false]
      exact RVk.val h2
  | [],_::_,h=>by simp only[RVk] at h
  | _::_,[],h=>by simp only[RVk] at h
theorem RVk.of{G:Hp}:∀{ds:List (Sum Int Str×Z.D)} {vs:List (Key×V)},ds.map (λp=>(p.1,fv p.2))=vs.map (λp=>(p.1,some p.2))->RVk C bs G vs ds
  | [],[],_=>by simp only[RVk]
  | (y,d)::ds,(x,v)::vs,e=>by
    simp only[List.map_cons,List.cons.injEq,Prod.mk.injEq] at e
    simp only[RVk]
    exact⟨e.1.1.symm,fv_v e.1.2,RVk.of e.2⟩
  | [],_::_,e=>by simp at e
  | _::_,[],e=>by simp at e
theorem jti{d:Z.D}{v:V}{kvs:List (Sum Int Str×Z.D)}(hr:HR C ex bs h H)(r:RV C bs (gh ex bs h H) v d)(e:Z.asR h d=some kvs)(k:Sum Int Str):∃a,v= .ref a /\
  ((Z.valK kvs k=none /\ jrx C.P C.w C.K H a (kV k) none) \/ ∃d' v',Z.valK kvs k=some d' /\ jrx C.P C.w C.K H a (kV k) (some v') /\ RV C bs (gh ex bs h H) v' d'):=by
 cases d with
 | dic kvs'=>
  simp only[RV] at r
  obtain⟨a,kws,rfl,hk,em⟩:=r
  cases e
  refine⟨a,rfl,?_⟩
  rcases RVk.val (k:=k) (RVk.of (C:=C) (bs:=bs) (G:=gh ex bs h H) em) with⟨h1,h2⟩ | ⟨d',v',h1,h2,h3⟩
  ·exact .inl ⟨h1,.inr (.inl ⟨kws,k,hk,rfl,h2.symm⟩)⟩
  ·exact .inr ⟨d',v',h1,.inr (.inl ⟨kws,k,hk,rfl,h2.symm⟩),h3⟩
 | ref j=>
  simp only[RV] at r
  obtain⟨a,rfl,hj⟩:=r
  simp only[Z.asR] at e
  split at e
  ·rename_i kvs' hc
   cases e
   obtain⟨kws,ha,rk⟩:=hr.cell j a _ hj hc
   refine⟨a,rfl,?_⟩
   rcases rk.val (k:=k) with⟨h1,h2⟩ | ⟨d',v',h1,h2,h3⟩
   ·exact .inl ⟨h1,.inl (by rw[<-h2];exact DGet.k ha)⟩
   ·exact .inr ⟨d',v',h1,.inl (by rw[<-h2];exact DGet.k ha),h3⟩
  ·rename_i kvs' hc
   cases e
   obtain⟨o,kws,hg,_,rk⟩:=hr.cell j a _ hj hc
   have ha:=jbj _ _ hg
   refine⟨a,rfl,?_⟩
   rcases rk.val (k:=k) with⟨h1,h2⟩ | ⟨d',v',h1,h2,h3⟩
   ·exact .inl ⟨h1,.inr (.inr ⟨o,kws,k,ha,rfl,h2.symm⟩)⟩
   ·exact .inr ⟨d',v',h1,.inr (.inr ⟨o,kws,k,ha,rfl,h2.symm⟩),h3⟩
  ·cases e
 | _=>cases e
theorem jon{neg:Bool}:S2 C (uIn C.P C.w C.K neg) (Z.dIn neg):=by
 intro ex bs h H E x y dx dy Q hr rx ry p
 unfold Z.dIn at p
 split at p
 ·simp only[RV] at rx ry;subst rx ry
  exact .inr (.inl ⟨_,_,rfl,rfl,p.now hr (by simp only[RV])⟩)
 ·split at p
  ·rename_i ys hy
   obtain⟨q,p⟩:=p.chk
   obtain⟨a,vs,rfl,hq,rs⟩:=jit hr ry hy
   obtain⟨fx,fx'⟩:=ju0 rx q.1
   obtain⟨h1,h2⟩:=jrb fx rs q.2
   refine .inl ⟨a,vs,rfl,hq,fx',h1,?_⟩
   unfold inV
   rw[h2]
   exact p.now hr (by simp only[RV])
  ·split at p
   ·rename_i kvs k e1 e2
    obtain⟨a,rfl,hd⟩:=jti hr ry e1 k
    have ek:=js9 rx e2
    subst ek
    rcases hd with⟨h1,h2⟩ | ⟨d',v',h1,h2,h3⟩
    ·refine .inr (.inr ⟨a,none,rfl,h2,?_⟩)
     rw[h1] at p
     exact p.now hr (by simp only[RV];rfl)
    ·refine .inr (.inr ⟨a,some v',rfl,h2,?_⟩)
     rw[h1] at p
     exact p.now hr (by simp only[RV];rfl)
   ·exact p.elim
theorem at_v{G:Hp}{ds:List Z.D}{vs:List V}{i:Int}{d:Z.D}(r:RVs C bs G vs ds)(e:Z.atI ds i=some d):∃v,atI vs i=some v /\ RV C bs G v d:=by
 unfold Z.atI at e
 unfold atI
 rw[r.len]
 have:ixN ds.length i=Z.ixN ds.length i:=rfl
 rw[this]
 cases e2:Z.ixN ds.length i with
 | none=>rw[e2] at e;cases e
 | some j=>
  rw[e2] at e
  exact r.get e
theorem s2_ix:S2 C (uIx C.P C.w C.K) Z.dIx:=by
 intro ex bs h H E x y dx dy Q hr rx ry p
 unfold Z.dIx at p
 split at p
 ·obtain⟨q,p⟩:=p.chk
  obtain⟨c,e1,p⟩:=p.oR
  simp only[RV] at rx ry;subst rx ry
  exact .inl (.inr (.inr ⟨_,_,c,rfl,rfl,q,e1,p.now hr (by simp only[RV])⟩))
 ·split at p
  ·rename_i xs hx
   split at p
   ·obtain⟨d,e1,p⟩:=p.oR1
    obtain⟨a,vs,rfl,hq,rs⟩:=jit hr rx hx
    obtain⟨v,hv,rv⟩:=at_v rs e1
    simp only[RV] at ry;subst ry
    rcases hq with hq | hq
    ·exact .inl (.inl ⟨a,vs,_,v,rfl,rfl,hq,hv,p.now hr rv⟩)
    ·exact .inl (.inr (.inl ⟨a,vs,_,v,rfl,rfl,hq,hv,p.now hr rv⟩))
   ·exact p.elim
  ·split at p
   ·rename_i kvs k e1 e2
    obtain⟨d,ev,p⟩:=p.oR1
    obtain⟨a,rfl,hd⟩:=jti hr rx e1 k
    have ek:=js9 ry e2
    subst ek
    rcases hd with⟨h1,h2⟩ | ⟨d',v',h1,h2,h3⟩
    ·rw[h1] at ev;cases ev
    ·rw[h1] at ev;cases ev
     exact .inr ⟨a,v',rfl,h2,p.now hr h3⟩
   ·exact p.elim
theorem s_ix{ta tb:TE}{ma mb:Z.ME}(ha:SE C E ta ma)(hb:SE C E tb mb):SE C E (tOp (uIx C.P C.w C.K) ta tb) (Z.mBin Z.dIx ma mb):=s_op s2_ix ha hb
theorem jpd:SO C E jq4 Z.oNo:=λex bs h ρ σ H Q hr re p=>Post.now hr p rfl
theorem jk9{t:TE}{m:Z.ME}(ht:SE C E t m):SO C E (tPart t) (Z.oSo m):=by
 intro ex bs h ρ σ H Q hr re p
 refine ht ex bs h ρ σ H _ hr re (p.bind λd x h1 bs1 H1 e1 rx p1=> ?_)
 cases d with
 | int i=>simp only[RV] at rx;exact⟨i,rx,Post.now e1.hr p1 rfl⟩
 | _=>exact p1.elim
theorem RVs.cut{G:Hp}{ds:List Z.D}{vs:List V}(r:RVs C bs G vs ds)(l u:Option Int):RVs C bs G (cutV vs l u) (Z.cut ds l u):=by
 unfold cutV Z.cut
 rw[r.len]
 exact(r.drop _).take _
theorem asQ_nt{d:Z.D}{v:V}{xs:List Z.D}(hr:HR C ex bs h H)(r:RV C bs (gh ex bs h H) v d)(nt:∀ds,d= .tup ds->False)(e:Z.asQ h d=some xs):∃a vs,v= .ref a /\ SqL C.K H a vs /\ RVs C bs (gh ex bs h H) vs xs:=by
 cases d with
 | lst ds=>
  simp only[RV] at r
  obtain⟨a,vs,rfl,ga,rs⟩:=r
  cases e
  exact⟨a,vs,rfl,SqL.of (jbj _ _ ga),rs⟩
 | tup ds=>exact(nt ds rfl).elim
 | arg ns=>
  simp only[RV] at r
  obtain⟨a,rfl,ga⟩:=r
  cases e
  refine⟨a,_,rfl,jbj.sql ga,?_⟩
  clear ga hr nt
  induction ns with
  | nil=>simp only[List.map_nil,RVs]
  | cons n ns ih=>simp only[List.map_cons,RVs,RV];exact⟨trivial,ih⟩
 | ref k=>
  simp only[RV] at r
  obtain⟨a,rfl,hk⟩:=r
  simp only[Z.asQ] at e
  split at e
  ·rename_i ys hc
   cases e
   obtain⟨vs,ha,rs⟩:=hr.cell k a _ hk hc
   exact⟨a,vs,rfl,SqL.of ha,rs⟩
  ·cases e
 | _=>cases e
theorem s_sl{t:TE}{tl th:TO}{m:Z.ME}{ml mh:Z.MO}(ht:SE C E t m)(hl:SO C E tl ml)(hh:SO C E th mh):SE C E (tSl (uSlS C.K) t tl th) (Z.mSl m ml mh):=by
 intro ex bs h ρ σ H Q hr re p
 refine ht ex bs h ρ σ H _ hr re (p.bind λd x h1 bs1 H1 e1 rx p1=> ?_)
 refine hl ex bs1 h1 ρ σ H1 _ e1.hr (re.ev e1) (p1.bind λl l' h2 bs2 H2 e2 rl p2=> ?_)
 refine hh ex bs2 h2 ρ σ H2 _ e2.hr ((re.ev e1).ev e2) (p2.bind λu u' h3 bs3 H3 e3 ru p3=> ?_)
 cases rl;cases ru
 have rx3:=(rx.ev e2).ev e3
 split at p3
 ·rename_i ds
  obtain⟨q,p3⟩:=p3.chk
  simp only[RV] at rx3
  obtain⟨a,vs,rfl,ga,rs⟩:=rx3
  refine .inl (.inr ⟨a,vs,rfl,SqT.of (jbj _ _ ga),by rw[rs.len];exact q,λp hp=>Post.ttup e3.hr p3 hp (rs.cut l u)⟩)
 ·rename_i z
  obtain⟨q,p3⟩:=p3.chk
  simp only[RV] at rx3
  exact .inr ⟨z,rx3,q,p3.now e3.hr (by simp only[RV])⟩
 ·rename_i hnt hns
  obtain⟨xs,e4,p3⟩:=p3.oR
  obtain⟨a,vs,ea,hq,rs⟩:=asQ_nt e3.hr rx3 hnt e4
  subst ea
  exact .inl (.inl ⟨a,vs,rfl,hq,λp hp=>Post.tree e3.hr p3 hp (rs.cut l u)⟩)
end
section
variable {C : Ct} {ex bs bs1 bs2 : List Addr} {h h1 h2 : Z.MH} {H H1 H2 : Hp} {E : XK}
theorem jmh{G:Hp}{d:Z.D}{vs:List V}(r:RVs C bs G vs [d]):∃v,vs=[v] /\ RV C bs G v d:=by
 match vs,r with
 | [v],r=>simp only[RVs] at r;exact⟨v,rfl,r.1⟩
 | [],r=>simp only[RVs] at r
 | _::_::_,r=>simp only[RVs] at r;exact r.2.elim
theorem two_v{G:Hp}{d e:Z.D}{vs:List V}(r:RVs C bs G vs [d,e]):∃v u,vs=[v,u] /\ RV C bs G v d /\ RV C bs G u e:=by
 match vs,r with
 | [v,u],r=>simp only[RVs] at r;exact⟨v,u,rfl,r.1,r.2.1⟩
 | [],r=>simp only[RVs] at r
 | [_],r=>simp only[RVs] at r;exact r.2.elim
 | _::_::_::_,r=>simp only[RVs] at r;exact r.2.2.elim
def juk(P:Program)(w:World)(K:W.Frag):List V->Hp->VK->Prop:=λxs H Q=>rLenU P w K xs H Q \/ ∃a kvs,xs=[V.ref a] /\ H a=some (.dK kvs) /\ Q (.int kvs.length) H
theorem jqe{X:Cx}:jdx X (.builtin "len") (juk X.prog X.w X.K):=jdx.or jpb jp2
theorem jgl:SL C (juk C.P C.w C.K) Z.fLen:=by
 intro ex bs h H E xs ds Q hr rs p
 unfold Z.fLen at p
 split at p
 ·obtain⟨q,p⟩:=p.chk
  obtain⟨v,rfl,r⟩:=jmh rs
  simp only[RV] at r;subst r
  exact .inl (.inr ⟨_,rfl,q,p.now hr (by simp only[RV])⟩)
 ·obtain⟨v,rfl,r⟩:=jmh rs
  split at p
  ·rename_i ys hy
   obtain⟨a,vs,rfl,hq,qs⟩:=jit hr r hy
   exact .inl (.inl ⟨a,vs,rfl,hq,p.now hr (by simp only[RV];rw[qs.len])⟩)
  ·split at p
   ·obtain⟨kvs,e,p⟩:=p.oR
    simp only[Z.asD] at e
    split at e
    ·rename_i kvs' hc
     cases e
     simp only[RV] at r
     obtain⟨a,rfl,hk⟩:=r
     obtain⟨kws,ha,rk⟩:=hr.cell _ a _ hk hc
     exact .inr ⟨a,kws,rfl,ha,p.now hr (by simp only[RV];rw[rk.len])⟩
    ·cases e
   ·exact p.elim
 ·exact p.elim
theorem n_list{tl:TA}{ml:Z.ML}(hl:SA C E tl ml):SN C E (tCB (λxs H Q=>∃p ys,xs=[.ref p] /\ (SqL C.K H p ys \/ SqT C.K H p ys) /\ ∀l,H l=none->Q (.ref l) (upd H l (.lst ys))) tl) (Z.lList ml):=by
 intro ex bs h ρ σ H Q hr re p
 refine hl ex bs h ρ σ H _ hr re (jdz.bind p λds xs h1 bs1 H1 e1 rx p1=> ?_)
 split at p1
 ·obtain⟨v,rfl,r⟩:=jmh rx
  rename_i d
  cases e:Z.asQ h1 d with
  | none=>rw[e] at p1;exact p1.elim
  | some ys=>
   rw[e] at p1
   obtain⟨a,vs,rfl,hq,qs⟩:=jit e1.hr r e
   exact⟨a,vs,rfl,hq,λl hl=>jdz.now e1.hr p1 hl qs⟩
 ·exact p1.elim
theorem jw3{K:W.Frag}{t n:String}(ht:t="NoneType" \/ t="bool" \/ t="int" \/ t="str" \/ t="tuple" \/ t="list" \/ t="dict")(hn:n="int" \/ n="bool" \/ n="str" \/ n="tuple" \/ n="list"):
  W.kitOne K (.type t) (.type n)=some (Z.isB t n):=by
 rcases ht with rfl | rfl | rfl | rfl | rfl | rfl | rfl<;>rcases hn with rfl | rfl | rfl | rfl | rfl<;>first | rfl | kernel_rfl
theorem ty_at{d:Z.D}{v:V}{t:String}(hr:HR C ex bs h H)(r:RV C bs (gh ex bs h H) v d)(e:Z.tyOf h d=some t):TyOf C.K H v (.type t) /\ (t="NoneType" \/ t="bool" \/ t="int" \/ t="str" \/ t="tuple" \/ t="list" \/ t="dict"):=by
 cases d with
 | non=>simp only[RV] at r;subst r;cases e;exact⟨.non,by simp⟩
 | bl b=>simp only[RV] at r;subst r;cases e;exact⟨.bl _,by simp⟩
 | int b=>simp only[RV] at r;subst r;cases e;exact⟨.int _,by simp⟩
 | str b=>simp only[RV] at r;subst r;cases e;exact⟨.str _,by simp⟩
 | tup ds=>
  simp only[RV] at r
  obtain⟨a,vs,rfl,ga,_⟩:=r
  cases e;exact⟨.tup (jbj _ _ ga),by simp⟩
 | lst ds=>
  simp only[RV] at r
  obtain⟨a,vs,rfl,ga,_⟩:=r
  cases e;exact⟨.lst (jbj _ _ ga),by simp⟩
 | ref k=>
  simp only[RV] at r
  obtain⟨a,rfl,hk⟩:=r
  simp only[Z.tyOf] at e
  split at e
  ·rename_i xs hc
   cases e
   obtain⟨vs,ha,_⟩:=hr.cell k a _ hk hc
   exact⟨.lst ha,by simp⟩
  ·rename_i xs hc
   cases e
   obtain⟨vs,ha,_⟩:=hr.cell k a _ hk hc
   exact⟨.dK ha,by simp⟩
  ·cases e
 | _=>cases e
theorem jsk{n:String}(h:Z.jmb n=true):n="int" \/ n="bool" \/ n="str" \/ n="tuple" \/ n="list":=by
 unfold Z.jmb at h
 simpa [or_assoc] using h
theorem jna:SL C (rIsi C.K) Z.fIsi:=by
 intro ex bs h H E xs ds Q hr rs p
 unfold Z.fIsi at p
 split at p
 ·obtain⟨q,p⟩:=p.chk
  obtain⟨t,e,p⟩:=p.oR
  obtain⟨v,u,rfl,r1,r2⟩:=two_v rs
  simp only[RV] at r2;subst r2
  obtain⟨ty,ht⟩:=ty_at hr r1 e
  exact⟨v,_,_,_,rfl,.inl ⟨_,rfl⟩,ty,jw3 ht (jsk q),p.now hr (by simp only[RV])⟩
 ·exact p.elim
theorem jki:SE C E jtu Z.jif:=by
 intro ex bs h ρ σ H Q hr re p
 intro a ha
 have e2:=Ev.cell (o:= .dK []) (c:= .dct []) hr ha ⟨[],jap,by simp only[RVk]⟩
 refine p (.ref a) (bs++[a]) _ e2 ?_
 simp only[RV]
 exact⟨a,rfl,by rw[<-hr.len];simp⟩
theorem RVk.put{G:Hp}{k:Sum Int Str}{v:V}{d:Z.D}(q:RV C bs G v d){ds:List (Sum Int Str×Z.D)}{vs:List (Key×V)}(r:RVk C bs G vs ds):RVk C bs G (putK vs k v) (Z.putK ds k d):=by
 have any:∀{ds:List (Sum Int Str×Z.D)} {vs:List (Key×V)},RVk C bs G vs ds->(vs.any λkv=>decide (kv.1=k))=ds.any λkv=>decide (kv.1=k):=by
  intro ds
  induction ds with
  | nil=>intro vs r;cases vs with
   | nil=>rfl
   | cons _ _=>simp only[RVk] at r
  | cons p ds ih=>
   intro vs r
   cases vs with
   | nil=>simp only[RVk] at r
   | cons w vs=>
    obtain⟨y,d'⟩:=p
    obtain⟨x,v'⟩:=w
    simp only[RVk] at r
    rw[List.any_cons,List.any_cons,ih r.2.2,r.1]
 have map:∀{ds:List (Sum Int Str×Z.D)} {vs:List (Key×V)},RVk C bs G vs ds->RVk C bs G (vs.map λkv=>if kv.1=k then(kv.1,v) else kv) (ds.map λkv=>if kv.1=k then(kv.1,d) else kv):=by
  intro ds
  induction ds with
  | nil=>intro vs r;cases vs with
   | nil=>simp only[List.map_nil,RVk]
   | cons _ _=>simp only[RVk] at r
  | cons p ds ih=>
   intro vs r
   cases vs with
   | nil=>simp only[RVk] at r
   | cons w vs=>
    obtain⟨y,d'⟩:=p
    obtain⟨x,v'⟩:=w
    simp only[RVk] at r
    obtain⟨rfl,r1,r2⟩:=r
    simp only[List.map_cons]
    by_cases e:x=k
    ·simp only[e,if_true,RVk];exact⟨trivial,q,by simpa [e] using ih r2⟩
    ·simp only[e,if_false,RVk];exact⟨trivial,r1,ih r2⟩
 have app:∀{ds:List (Sum Int Str×Z.D)} {vs:List (Key×V)},RVk C bs G vs ds->RVk C bs G (vs++[(k,v)]) (ds++[(k,d)]):=by
  intro ds
  induction ds with
  | nil=>intro vs r;cases vs with
   | nil=>simp only[List.nil_append,RVk];exact⟨trivial,q,trivial⟩
   | cons _ _=>simp only[RVk] at r
  | cons p ds ih=>
   intro vs r
   cases vs with
   | nil=>simp only[RVk] at r
   | cons w vs=>
    obtain⟨y,d'⟩:=p
    obtain⟨x,v'⟩:=w
    simp only[RVk] at r
    simp only[List.cons_append,RVk]
    exact⟨r.1,r.2.1,ih r.2.2⟩
 unfold putK Z.putK
 rw[any r]
 split
 ·exact map r
 ·exact app r
theorem jjz{to ti te:TE}{mo mi me:Z.ME}(ho:SE C E to mo)(hi:SE C E ti mi)(he:SE C E te me):SS C E (sDPut to ti te) (Z.jhx mo mi me):=by
 intro ex bs h ρ σ H D hr re p
 refine he ex bs h ρ σ H _ hr re (p.bind λd v h0 bs0 H0 e0 rv p0=> ?_)
 refine ho ex bs0 h0 ρ σ H0 _ e0.hr (re.ev e0) (p0.bind λo x h1 bs1 H1 e1 rx p1=> ?_)
 refine hi ex bs1 h1 ρ σ H1 _ e1.hr ((re.ev e0).ev e1) (p1.bind λi y h2 bs2 H2 e2 ry p2=> ?_)
 have rv2:=(rv.ev e1).ev e2
 have rx2:=rx.ev e2
 cases o with
 | ref k=>
  simp only[RV] at rx2
  obtain⟨a,rfl,hk⟩:=rx2
  dsimp only at p2
  split at p2
  ·rename_i kvs hc
   split at p2
   ·rename_i j hj
    split at p2
    ·rename_i hz
     obtain⟨kws,ha,rk⟩:=e2.hr.cell k a _ hk hc
     have ek:=js9 ry hj
     subst ek
     refine⟨a,_,rfl,DPut.k ha (by rw[rk.len];exact hz),?_⟩
     have e3:=Ev.put (o:= .dK (putK kws j v)) (c:= .dct (Z.putK kvs j d)) e2.hr hk hc ⟨_,jap,rk.put rv2⟩
     exact p2 σ bs2 _ e3 ((((re.ev e0).ev e1).ev e2).ev e3)
    ·exact p2.elim
   ·exact p2.elim
  ·exact p2.elim
 | _=>exact p2.elim
end
def spL(K:W.Frag):Sp:=λvs H Q _=>∃(a:Addr) (ns:List Int),vs=[.ref a] /\ SqL K H a (ns.map V.int) /\ ns.length<=63 /\ ∀H',Q (.bl true) H'
theorem spL_of(K:W.Frag)(H:Hp)(a:Addr)(ns:List Int)(hl:ns.length<=63)(hO:Only H)(hS:SqL K H a (ns.map V.int)):spL K [.ref a] H (λv _=>v= .bl true) λ_ _ _=>False:=⟨a,ns,rfl,hS,hl,λ_=>rfl⟩
theorem gh_nil{H:Hp}:gh [] [] [] H=H:=by
 funext x
 unfold gh
 rw[if_neg]
 rintro(z | ⟨k,c,z,_⟩)
 ·cases z
 ·simp at z
theorem law_ok{C:Ct}{P:Program}{w:World}{mg:Str->Option Value}{base:Heap}{CX:CXT}{k:Nat}{f:Addr}{fd:FuncData}{ps:List Str}{z:Z.MF}(F:FnOk P w C.K mg base CX k f fd ps (spZ C z))
  (hz:∀ns:List Int,ns.length<=63->∃h,z [.arg ns] []= .ok (.bl true) h):FnOk P w C.K mg base CX k f fd ps (spL C.K):=by
 refine F.imp λvs H Q E q=> ?_
 obtain⟨a,ns,rfl,hS,hl,q⟩:=q
 obtain⟨h,e⟩:=hz ns hl
 refine⟨[],[],[],[.arg ns],⟨rfl,λi j a e=>by simp at e,λa m=>(by cases m),λa m=>(by cases m),λa m=>(by cases m),λk a c e=>by simp at e⟩,?_,?_⟩
 ·rw[gh_nil];simp only[RVs,RV];exact⟨⟨a,rfl,hS⟩,trivial⟩
 ·rw[e]
  intro v bs' H' _ rv
  simp only[RV] at rv
  subst rv;exact q H'
theorem walk_ofE{l:W.OpenLaw}{n k:Nat}{q:Program}{loose:List Str}{XP:(Str->Option Value)->Heap->Prop}{YP:World->Heap->Prop}{d:DefRec}{K:Params->W.Frag}{CX:World->CXT}{sp:W.Frag->Sp}{x:Str}
  (hn:l.most=some n) (hn2:n<=sizeLine) (hdf:d.params.defaults=[]) (hr:Room k callerA)
  (hY:∀(w:World) (h:Heap),YP w h->(K w.params).In h)
  (F:∀(w:World) (mg:Str->Option Value) (fa:Addr) (h:Heap),(K w.params).In h->h.Ns mainGlobals mg->mg d.name=some (.ref fa)->
   ∃fd:FuncData,(∀(s:Shared) (u:Value),BindsTo s fd ⟨[u],[]⟩ [(x,u)]) /\
    ∀base:Heap,(K w.params).In base->base.Ns mainGlobals mg->FnOk l.prog w (K w.params) mg base (CX w) k fa fd [x] (sp (K w.params)))
  (hsp:∀(K:W.Frag) (H:Hp) (a:Addr) (ns:List Int),ns.length<=n->Only H->SqL K H a (ns.map V.int)->sp K [.ref a] H (λv _=>v= .bl true) λ_ _ _=>False)
  (hCX:∀(w:World) (H:Hp) (s:Shared) (e:Value) (s':Shared),CX w [] H s (λ_ _ _=>False) e s'->False):
  W.WalkO q loose XP YP l.row.toRowW d [] (λf vs=>PySem.call f vs):=
 jvd (K:=K) (CX:=CX) (sp:=λw=>sp (K w.params)) hn hn2 hdf hr hY F (λw H a ns h1 h2 h3=>hsp (K w.params) H a ns h1 h2 h3) hCX
theorem jro{C:Ct}{E:XK}:ST C E tYes Z.tYes:=λex bs h ρ σ H Q hr re p=>Post.now hr p rfl
section
variable {X : Cx} {P : Program} {w : World} {K : W.Frag}
theorem jdq(k:X.K=K):OpR X (binaryOp .Add) (uAdd K):=by subst k;exact jwm
theorem ix_K(p:X.prog=P)(w':X.w=w)(k:X.K=K)(hu:X.A.units+64<cLine):IxR X (uIx P w K):=by subst p w' k;exact ix_U hu
theorem jpv(p:X.prog=P)(w':X.w=w)(k:X.K=K)(hu:X.A.units+64<cLine):OpR X (compareOp .In) (uIn P w K false):=by subst p w' k;exact op_inU hu
theorem jlt(p:X.prog=P)(w':X.w=w)(k:X.K=K)(hu:X.A.units+64<cLine):OpR X (compareOp .NotIn) (uIn P w K true):=by subst p w' k;exact jq2 hu
theorem sl_K(k:X.K=K):SlR X (uSlS K):=by subst k;exact sl_S
theorem jul{e:Expr}{T:String}{r:V->List V->Hp->VK->Prop}{to:TE}(k:X.K=K)(h:PE X e (tBM0 X.K T r to)):PE X e (tBM0 K T r to):=by subst k;exact h
theorem jcs(p:X.prog=P)(w':X.w=w)(k:X.K=K):jdx X (.builtin "len") (juk P w K):=by subst p w' k;exact jqe
theorem jfw(k:X.K=K):jdx X (.builtin "isinstance") (rIsi K):=by subst k;exact jrw
theorem jnn(k:X.K=K):jdx X (.type "list") (λxs H Q=>∃p ys,xs=[.ref p] /\ (SqL K H p ys \/ SqT K H p ys) /\ ∀l,H l=none->Q (.ref l) (upd H l (.lst ys))):=by subst k;exact jl2
theorem jao{a:Expr}{ta:TE}(k:X.K=K)(ha:PE X a ta)(he:∀whole,isTrue a X.env whole=(do let v<-whole;standAt a.pos;holding [v] (truthy v))):
  PT X a (λσ H Q=>ta σ H λx H'=>∃k,TruV K x H' k /\ Q k H'):=by subst k;exact jsr ha he
theorem jw8{a:Expr}{ta:TE}{pos:Pos}(k:X.K=K)(ha:PE X a ta):PE X (.UnaryOp .Not a pos) (λσ H Q=>ta σ H λx H1=>∃k,TruV K x H1 k /\ Q (.bl (!k)) H1):=by subst k;exact jvy ha
theorem pi_K{tg l:Expr}{tl:TE}(k:X.K=K)(hl:PE X l tl):PI X tg l (iV K tl):=by subst k;exact pi_V hl
theorem jfe{e:Expr}{T:String}{r:V->List V->Hp->VK->Prop}{to:TE}{t:TA}(k:X.K=K)(h:PE X e (tBM X.K T r to t)):PE X e (tBM K T r to t):=by subst k;exact h
end
end L2
namespace L2
open PySem PySem.Spec
section
variable {C : Ct} {ex bs bs1 bs2 : List Addr} {h h1 h2 : Z.MH} {H H1 H2 : Hp} {E : XK}
theorem RVf.lookup{G:Hp}{f:Str}:∀{fs:List (Str×Z.D)} {vs:List (Str×V)},RVf C bs G vs fs->(∀d,fs.lookup f=some d->∃v,vs.lookup f=some v /\ RV C bs G v d) /\ (fs.lookup f=none->vs.lookup f=none)
  | [],[],_=>⟨λd e=>by simp at e,λ_=>rfl⟩
  | (y,d)::ds,(x,v)::vs,r=>by
    simp only[RVf] at r
    obtain⟨rfl,r1,r2⟩:=r
    have ih:=RVf.lookup (f:=f) r2
    by_cases q:(f==x)=true
    · simp only[List.lookup,q]
      exact⟨λd' e=>by cases e;exact⟨v,rfl,r1⟩,λe=>by cases e⟩
    · have q':(f==x)=false:=by simpa using q
      simp only[List.lookup,q']
      exact ih
  | [],_::_,r=>by simp only[RVf] at r
  | _::_,[],r=>by simp only[RVf] at r
theorem RVf.put{G:Hp}{f:Str}{d:Z.D}{v:V}(rv:RV C bs G v d):∀{fs:List (Str×Z.D)} {vs:List (Str×V)},RVf C bs G vs fs->RVf C bs G (putF f v vs) (Z.putF f d fs)
  | [],[],_=>by simp only[putF,Z.putF,RVf];exact⟨trivial,rv,trivial⟩
  | (y,e)::ds,(x,u)::vs,r=>by
    simp only[RVf] at r
    obtain⟨rfl,r1,r2⟩:=r
    simp only[putF,Z.putF]
    by_cases q:x=f
    · rw[if_pos q,if_pos q];simp only[RVf];exact⟨trivial,rv,r2⟩
    · rw[if_neg q,if_neg q];simp only[RVf];exact⟨trivial,r1,RVf.put rv r2⟩
  | [],_::_,r=>by simp only[RVf] at r
  | _::_,[],r=>by simp only[RVf] at r
theorem RVf.len{G:Hp}:∀{fs:List (Str×Z.D)} {vs:List (Str×V)},RVf C bs G vs fs->vs.length=fs.length
  | [],[],_=>rfl
  | (y,d)::ds,(x,v)::vs,r=>by simp only[RVf] at r;simp[RVf.len r.2.2]
  | [],_::_,r=>by simp only[RVf] at r
  | _::_,[],r=>by simp only[RVf] at r
theorem jtg{d:Z.D}{x:V}{c:String}{fs:List (Str×Z.D)}(hr:HR C ex bs h H)(rx:RV C bs (gh ex bs h H) x d)(e:Z.asO h d=some (c,fs)):
  ∃a dx fvs,x= .ref a /\ H a=some (.ins (C.cm c) dx fvs) /\ RVf C bs (gh ex bs h H) fvs fs:=by
 cases d with
 | obj c' fs'=>
  simp only[Z.asO,Option.some.injEq,Prod.mk.injEq] at e
  obtain⟨rfl,rfl⟩:=e
  simp only[RV] at rx
  obtain⟨a,dx,fvs,h1,h2,h3⟩:=rx
  exact⟨a,dx,fvs,h1,jbj _ _ h2,h3⟩
 | ref k=>
  simp only[RV] at rx
  obtain⟨a,rfl,hk⟩:=rx
  simp only[Z.asO] at e
  split at e
  ·rename_i c' fs' hc
   simp only[Option.some.injEq,Prod.mk.injEq] at e
   obtain⟨rfl,rfl⟩:=e
   obtain⟨dx,fvs,h1,h2⟩:=hr.cell k a _ hk hc
   exact⟨a,dx,fvs,rfl,h1,h2⟩
  ·cases e
 | _=>simp[Z.asO] at e
def jej(C:Ct)(f:Str)(tab:List String):Prop:=∀c∈tab,Cls C.K (C.cm c) /\ jbw C.K (C.cm c) f
theorem jda{f:Str}:jej C f []:=λc m=>by simp at m
theorem jsh{f:Str}{c:String}{tab:List String}(a:Cls C.K (C.cm c))(b:jbw C.K (C.cm c) f)(r:jej C f tab):jej C f (c::tab):=λc' m=>by
 rcases List.mem_cons.mp m with rfl | m
 ·exact⟨a,b⟩
 ·exact r c' m
theorem jc7{f:Str}{tab:List String}{t:TE}{m:Z.ME}(ok:jej C f tab)(ht:SE C E t m):SE C E (tFld C.K t f) (Z.mFld tab f m):=by
 intro ex bs h ρ σ H Q hr re p
 refine ht ex bs h ρ σ H _ hr re (p.bind λd x h1 bs1 H1 e1 rx p1=> ?_)
 obtain⟨⟨c,fs⟩,eo,p1⟩:=p1.oR
 obtain⟨hc,p1⟩:=p1.chk
 obtain⟨v,el,p1⟩:=p1.oR1
 obtain⟨a,dx,fvs,rfl,ha,rf⟩:=jtg e1.hr rx eo
 obtain⟨u,hu,ru⟩:=rf.lookup.1 v el
 exact⟨a,_,dx,fvs,u,rfl,ha,(ok c hc).1,(ok c hc).2,hu,Post.now e1.hr p1 ru⟩
theorem jdn{f:Str}{tab:List String}{to te:TE}{mo me:Z.ME}(ok:jej C f tab)(ho:SE C E to mo)(he:SE C E te me):SS C E (sFld C.K to te f) (Z.jfi tab f mo me):=by
 intro ex bs h ρ σ H D hr re p
 refine he ex bs h ρ σ H _ hr re (p.bind λd v h0 bs0 H0 e0 rv p0=> ?_)
 refine ho ex bs0 h0 ρ σ H0 _ e0.hr (re.ev e0) (p0.bind λo x h1 bs1 H1 e1 rx p1=> ?_)
 cases o with
 | ref k=>
  simp only[RV] at rx
  obtain⟨a,rfl,hk⟩:=rx
  dsimp only at p1
  split at p1
  ·rename_i c fs hc
   split at p1
   case isFalse=>exact p1.elim
   rename_i q
   obtain⟨dx,fvs,ha,rf⟩:=e1.hr.cell k a _ hk hc
   refine⟨a,_,dx,fvs,rfl,ha,(ok c q.1).1,(ok c q.1).2,by rw[rf.len];exact q.2,?_⟩
   have e2:=Ev.put (o:= .ins (C.cm c) dx (putF f v fvs)) (c:= .ins c (Z.putF f d fs)) e1.hr hk hc ⟨dx,_,jap,RVf.put (rv.ev e1) rf⟩
   exact p1 σ bs1 _ e2 ((re.ev e0).ev (e1.trans e2))
  ·exact p1.elim
 | _=>exact p1.elim
def jdu(C:Ct)(mg:Str->Option Value)(base:Heap)(k:Nat)(m:Str)(tab:List (String×Z.MF)):Prop:=
 ∀c z,tab.lookup c=some z->Cls C.K (C.cm c) /\ MethG C.P C.w C.K mg base (CXE C.P C.w) k (C.cm c) m (spZ C z)
theorem jdo{mg:Str->Option Value}{base:Heap}{k:Nat}{m:Str}:jdu C mg base k m []:=λc z e=>by simp at e
theorem jw0{mg:Str->Option Value}{base:Heap}{k j:Nat}{m:Str}{c:String}{z:Z.MF}{tab:List (String×Z.MF)}{f:Addr}{fd:FuncData}{ps:List Str}(a:Cls C.K (C.cm c))(b:Meth C.K (C.cm c) m f)(F:FnOk C.P C.w C.K mg base (CXE C.P C.w) j f fd ps (spZ C z))(hj:j<=k)(B:jfp C.K fd ps [])(r:jdu C mg base k m tab):
  jdu C mg base k m ((c,z)::tab):=λc' z' e=>by
 by_cases q:(c'==c)=true
 ·simp only[List.lookup,q] at e
  cases e
  have:c'=c:=by simpa using q
  subst this
  exact⟨a,f,fd,ps,b,F.mono hj,B⟩
 ·have q':(c'==c)=false:=by simpa using q
  simp only[List.lookup,q'] at e
  exact r c' z' e
theorem jbs{mg:Str->Option Value}{base:Heap}{k:Nat}{f:Str}{tab:List (String×Z.MF)}{to:TE}{ta:TA}{m:Z.ME}{l:Z.ML}(ok:jdu C mg base k f tab)(ho:SE C E to m)(hl:SA C E ta l):
  SE C E (jha C.P C.w C.K mg base (CXE C.P C.w) k f E to ta) (Z.jat tab f m l):=by
 intro ex bs h ρ σ H Q hr re p
 refine ho ex bs h ρ σ H _ hr re (p.bind λd x h1 bs1 H1 e1 rx p1=> ?_)
 obtain⟨⟨c,fs⟩,eo,p1⟩:=p1.oR
 obtain⟨z,ez,p1⟩:=p1.oR
 obtain⟨hn,p1⟩:=p1.chk
 obtain⟨a,dx,fvs,rfl,ha,rf⟩:=jtg e1.hr rx eo
 obtain⟨k1,k2⟩:=ok c z ez
 refine⟨a,_,dx,fvs,_,rfl,ha,k1,k2,rf.lookup.2 hn,?_⟩
 refine hl ex bs1 h1 ρ σ H1 _ e1.hr (re.ev e1) (p1.bind λds xs h2 bs2 H2 e2 rxs p2=> ?_)
 exact⟨ex,bs2,h2,d::ds,e2.hr,by simp only[RVs];exact⟨rx.ev e2,rxs⟩,p2⟩
theorem Ev.freezeI{k:Nat}{a:Addr}{c:String}{fs:List (Str×Z.D)}(hr:HR C ex bs h H)(hk:bs[k]?=some a)(h0:h[k]?=some (some (.ins c fs))):
  Ev C ex bs h H bs (h.set k none) H /\ RV C bs (gh ex bs (h.set k none) H) (.ref a) (.obj c fs):=by
 have ab:a∈bs:=List.mem_of_getElem? hk
 have lvs:∀x,lv bs (h.set k none) x->lv bs h x /\ x≠a:=λx ⟨j,c',e1,e2,l2⟩=>by
  by_cases hj:k=j
  ·subst hj;rw[List.getElem?_set_self (List.getElem?_eq_some_iff.mp h0).1] at e2;cases e2
  ·rw[List.getElem?_set_ne hj] at e2
   exact⟨⟨j,c',e1,e2,l2⟩,λz=>hj (hr.inj k j a hk (by rw[<-z];exact e1))⟩
 have sm:Same (gh ex bs h H) (gh ex bs (h.set k none) H):=λx u e=>by
  obtain⟨h1,h2,h3⟩:=jb3.mp e
  exact jb3.mpr ⟨h1,λl=>h2 (lvs x l).1,h3⟩
 obtain⟨dx,vs,h1,h2⟩:=hr.cell k a _ hk h0
 refine⟨⟨λ_ _ e=>e,⟨by simp[hr.len],hr.inj,hr.sep,hr.dom,hr.domx,λj x c' e1 e2=> ?_⟩,sm,λ_ _=>rfl⟩,?_⟩
 ·by_cases hj:k=j
  ·subst hj;rw[List.getElem?_set_self (List.getElem?_eq_some_iff.mp h0).1] at e2;cases e2
  ·rw[List.getElem?_set_ne hj] at e2
   exact(hr.cell j x c' e1 e2).mono (λ_ _ e=>e) sm rfl
 ·simp only[RV]
  exact⟨a,dx,vs,rfl,jb3.mpr ⟨λm=>hr.sep a m ab,λl=>(lvs a l).2 rfl,h1⟩,h2.mono (λ_ _ e=>e) sm⟩
theorem Ev.born{x dx:Addr}{c:String}(hr:HR C ex bs h H)(hx:H x=none)(hd:H dx=none)(ne:dx≠x):
  Ev C ex bs h H (bs++[x]) (h++[some (.ins c [])]) (upd (upd H dx (.own x)) x (.ins (C.cm c) dx [])):=by
 obtain⟨e1,_⟩:=Ev.alloc (o:= .own x) hr hd
 exact e1.trans (Ev.cell e1.hr (by rw[jad (Ne.symm ne)];exact hx) ⟨dx,[],jap,by simp only[RVf]⟩)
theorem jhv{a:Addr}{c:String}{z:Z.MF}{tl:TA}{ml:Z.ML}(ea:C.cm c=a)(hl:SA C E tl ml):SE C E (jsn a (spZ C z) [] E tl) (Z.jek c z ml):=by
 intro ex bs h ρ σ H Q hr re p
 refine hl ex bs h ρ σ H _ hr re (p.bind λds xs h1 bs1 H1 e1 rx p1=> ?_)
 intro x dx hx hd ne
 rw[<-ea]
 have e2:=Ev.born (c:=c) e1.hr hx hd ne
 have kx:(bs1++[x])[h1.length]?=some x:=by rw[<-e1.hr.len];simp
 refine⟨ex,bs1++[x],h1++[some (.ins c [])],.ref h1.length::ds,e2.hr,?_,?_⟩
 ·simp only[RVs,RV]
  exact⟨⟨x,rfl,kx⟩,by rw[List.append_nil];exact rx.ev e2⟩
 ·refine(p1.from e2).bind (R1:=RV C) λd v h2 bs2 H2 e3 rv p3=> ?_
  cases d with
  | non=>
   simp only[RV] at rv
   refine⟨rv,?_⟩
   dsimp only at p3
   split at p3
   ·rename_i c' fs hc
    obtain⟨e4,r4⟩:=Ev.freezeI e3.hr (e3.pre _ _ kx) hc
    exact p3 (.ref x) bs2 H2 e4 r4
   ·exact p3.elim
  | _=>exact p3.elim
theorem jv8{a:Addr}{c:String}{z:Z.MF}{tl:TA}{ml:Z.ML}(ea:C.cm c=a)(hl:SA C E tl ml):SE C E (jsn a (spZ C z) [] E tl) (Z.jqi c z ml):=by
 intro ex bs h ρ σ H Q hr re p
 refine hl ex bs h ρ σ H _ hr re (p.bind λds xs h1 bs1 H1 e1 rx p1=> ?_)
 intro x dx hx hd ne
 rw[<-ea]
 have e2:=Ev.born (c:=c) e1.hr hx hd ne
 have kx:(bs1++[x])[h1.length]?=some x:=by rw[<-e1.hr.len];simp
 refine⟨ex,bs1++[x],h1++[some (.ins c [])],.ref h1.length::ds,e2.hr,?_,?_⟩
 ·simp only[RVs,RV]
  exact⟨⟨x,rfl,kx⟩,by rw[List.append_nil];exact rx.ev e2⟩
 ·refine(p1.from e2).bind (R1:=RV C) λd v h2 bs2 H2 e3 rv p3=> ?_
  cases d with
  | non=>
   simp only[RV] at rv
   exact⟨rv,Post.now e3.hr p3 (by simp only[RV];exact⟨x,rfl,e3.pre _ _ kx⟩)⟩
  | _=>exact p3.elim
theorem jtb(ds:List Z.D)(i:Nat):(Z.jgp ds)[i]?=(ds[i]?).map λd=>Z.D.tup [.int i,d]:=by
 unfold Z.jgp
 rw[List.getElem?_mapIdx]
theorem ItOk.enum{a:Addr}{vs:List V}{ds:List Z.D}{G:Hp}(hq:SqL C.K G a vs)(r:RVs C bs G vs ds):ItOk C bs G (Ite C.K a) (none,Z.jgp ds):=by
 intro ex2 bs2 h2 H2 hr pre sm _ i
 have hq2:SqL C.K H2 a vs:=(sm.trans jbj).sql hq
 refine⟨λd e=> ?_,λhle=>⟨vs,hq2,by rw[r.len];simpa [Z.jgp] using hle⟩⟩
 rw[jtb] at e
 cases e2:ds[i]? with
 | none=>rw[e2] at e;cases e
 | some d0=>
  rw[e2] at e
  simp only[Option.map_some,Option.some.injEq] at e
  subst e
  obtain⟨v,hv,rv⟩:=r.get e2
  refine⟨⟨vs,v,hq2,hv⟩,λx H3 y=> ?_⟩
  obtain⟨p,x',hp,hx',rfl,rfl⟩:=y
  have:=hx' vs hq2
  rw[hv] at this;cases this
  obtain⟨e3,g⟩:=Ev.alloc (o:= .tup [.int i,v]) hr hp
  refine⟨e3,?_⟩
  simp only[RV,RVs]
  exact⟨p,_,rfl,g,by simp only[RVs,RV];exact⟨trivial,(rv.mono pre sm).ev e3,trivial⟩⟩
theorem RVs.only{G:Hp}{xs:List V}{d:Z.D}(r:RVs C bs G xs [d]):∃x,xs=[x] /\ RV C bs G x d:=by
 cases xs with
 | nil=>simp only[RVs] at r
 | cons x xs=>
  simp only[RVs] at r
  cases xs with
  | nil=>exact⟨x,rfl,r.1⟩
  | cons y ys=>exact absurd r.2 (by simp only[RVs];exact id)
theorem jib{t:TA}{m:Z.ML}(ht:SA C E t m):SI C E (jsx C.K t) (Z.jiq m):=by
 intro ex bs h ρ σ H Q hr re p
 refine ht ex bs h ρ σ H _ hr re (p.bind λds xs h1 bs1 H1 e1 rx p1=> ?_)
 split at p1
 ·obtain⟨x,rfl,ry⟩:=rx.only
  simp only[RV] at ry
  obtain⟨a,vs,rfl,ga,rs⟩:=ry
  exact⟨a,vs,rfl,SqL.of (jbj _ _ ga),Post.now e1.hr p1 (.enum (SqL.of ga) rs)⟩
 ·rename_i ns
  obtain⟨x,rfl,ry⟩:=rx.only
  simp only[RV] at ry
  obtain⟨a,rfl,ga⟩:=ry
  refine⟨a,_,rfl,jbj.sql ga,Post.now e1.hr p1 (.enum ga ?_)⟩
  clear ga p1 p rx
  induction ns with
  | nil=>simp only[List.map_nil,RVs]
  | cons n ns ih=>simp only[List.map_cons,RVs,RV];exact⟨trivial,ih⟩
 ·exact p1.elim
end
section
variable {C : Ct} {ex bs bs1 bs2 : List Addr} {h h1 h2 : Z.MH} {H H1 H2 : Hp} {E : XK}
theorem RVs.rev{G:Hp}:∀{ds:List Z.D} {vs:List V},RVs C bs G vs ds->RVs C bs G vs.reverse ds.reverse
 | [],[],_=>by simp only[List.reverse_nil,RVs]
 | d::ds,v::vs,h=>by
  simp only[RVs] at h
  rw[List.reverse_cons,List.reverse_cons]
  exact(RVs.rev h.2).append (.one h.1)
 | [],_::_,h=>by simp only[RVs] at h
 | _::_,[],h=>by simp only[RVs] at h
theorem jkd{tl:TA}{ml:Z.ML}(hl:SA C E tl ml):SN C E (jh7 C.K tl) (Z.jh3 ml):=by
 intro ex bs h ρ σ H Q hr re p
 refine hl ex bs h ρ σ H _ hr re (jdz.bind p λds xs h1 bs1 H1 e1 rx p1=> ?_)
 split at p1
 ·obtain⟨v,rfl,r⟩:=jmh rx
  rename_i d
  cases e:Z.asL h1 d with
  | none=>rw[e] at p1;exact p1.elim
  | some ys=>
   rw[e] at p1
   obtain⟨a,vs,rfl,hq,qs⟩:=jmw e1.hr r e
   exact⟨a,vs,rfl,SqL.of hq,λl hl=>jdz.now e1.hr p1 hl qs.rev⟩
 ·exact p1.elim
theorem jms{G:Hp}:∀{kvs:List (Sum Int Str×Z.D)} {kws:List (Key×V)} {ns:List Int},RVk C bs G kws kvs->Z.jdv kvs=some ns->kws.map (·.1)=ns.map Sum.inl
  | [],[],ns,_,e=>by simp only[Z.jdv] at e;cases e;rfl
  | (k,d)::kvs,(x,v)::kws,ns,h,e=>by
    simp only[RVk] at h
    cases k with
    | inl i=>
      simp only[Z.jdv] at e
      obtain⟨ms,e1,e2⟩:=Option.map_eq_some_iff.mp e
      subst e2
      rw[List.map_cons,List.map_cons,h.1,jms h.2.2 e1]
    | inr x=>simp only[Z.jdv] at e;cases e
  | [],_::_,_,h,_=>by simp only[RVk] at h
  | _::_,[],_,h,_=>by simp only[RVk] at h
theorem jsj{d:Z.D}{v:V}{ns:List Int}(hr:HR C ex bs h H)(r:RV C bs (gh ex bs h H) v d)(e:Z.jpw h d=some ns):∃a,v= .ref a /\ DKi H a ns:=by
 cases d with
 | ref k=>
  simp only[Z.jpw] at e
  split at e
  ·rename_i kvs hc
   simp only[RV] at r
   obtain⟨a,rfl,hk⟩:=r
   obtain⟨kws,ha,rk⟩:=hr.cell k a _ hk hc
   exact⟨a,rfl,kws,ha,jms rk e⟩
  ·cases e
 | _=>cases e
theorem jvt:SL C rSumD Z.js1:=by
 intro ex bs h H E xs ds Q hr rs p
 unfold Z.js1 at p
 split at p
 ·obtain⟨v,rfl,r⟩:=jmh rs
  obtain⟨ns,e,p⟩:=p.oR
  obtain⟨a,rfl,hq⟩:=jsj hr r e
  exact⟨a,ns,rfl,hq,p.now hr (by simp only[RV])⟩
 ·exact p.elim
theorem RVk.merge{G:Hp}:∀{more:List (Sum Int Str×Z.D)} {mws:List (Key×V)} {kvs:List (Sum Int Str×Z.D)} {kws:List (Key×V)},RVk C bs G mws more->RVk C bs G kws kvs->RVk C bs G (jid kws mws) (Z.jcm kvs more)
  | [],[],kvs,kws,_,r=>r
  | (k,d)::more,(x,v)::mws,kvs,kws,h,r=>by
    simp only[RVk] at h
    obtain⟨rfl,hv,hm⟩:=h
    exact RVk.merge (more:=more) (mws:=mws) hm (r.put hv)
  | [],_::_,_,_,h,_=>by simp only[RVk] at h
  | _::_,[],_,_,h,_=>by simp only[RVk] at h
theorem s_upd{to:TE}{tl:TA}{mo:Z.ME}{ml:Z.ML}(ho:SE C E to mo)(hl:SA C E tl ml):SE C E (tBM C.K "dict" rUpd to tl) (Z.mUpd mo ml):=by
 intro ex bs h ρ σ H Q hr re p
 refine ho ex bs h ρ σ H _ hr re (p.bind λo x h1 bs1 H1 e1 rx p1=> ?_)
 cases o with
 | ref k=>
  simp only[RV] at rx
  obtain⟨a,rfl,hk⟩:=rx
  dsimp only at p1
  split at p1
  ·rename_i kv0 hc0
   obtain⟨vs0,ha0,_⟩:=e1.hr.cell k a _ hk hc0
   refine⟨.inr (.inr (.inl ⟨rfl,.inl ⟨_,ha0⟩⟩)),?_⟩
   refine hl ex bs1 h1 ρ σ H1 _ e1.hr (re.ev e1) (p1.bind λds xs h2 bs2 H2 e2 rs p2=> ?_)
   split at p2
   ·rename_i j
    obtain⟨v,rfl,r⟩:=jmh rs
    simp only[RV] at r
    obtain⟨b,rfl,hj⟩:=r
    have hk2:=e2.pre k a hk
    split at p2
    ·rename_i kvs hc
     split at p2
     ·rename_i more hd
      obtain⟨q,p2⟩:=p2.chk
      obtain⟨kws,ha,rk⟩:=e2.hr.cell k a _ hk2 hc
      obtain⟨mws,hb,rm⟩:=e2.hr.cell j b _ hj hd
      refine⟨a,b,kws,mws,rfl,rfl,λz=>q.1 (e2.hr.inj k j a hk2 (by rw[z];exact hj)),ha,hb,by rw[rk.len,rm.len];exact q.2,?_⟩
      have e3:=Ev.put (o:= .dK (jid kws mws)) (c:= .dct (Z.jcm kvs more)) e2.hr hk2 hc ⟨_,jap,rm.merge rk⟩
      exact p2 .non bs2 _ e3 (by simp only[RV])
     ·exact p2.elim
    ·exact p2.elim
   ·exact p2.elim
  ·exact p1.elim
 | _=>exact p1.elim
theorem s_bits{to:TE}{mo:Z.ME}(ho:SE C E to mo):SE C E (tBM0 C.K "int" rBits to) (Z.mBits mo):=by
 intro ex bs h ρ σ H Q hr re p
 refine ho ex bs h ρ σ H _ hr re (p.bind λd x h1 bs1 H1 e1 rx p1=> ?_)
 cases d with
 | int i=>
  simp only[RV] at rx;subst rx
  exact⟨rfl,i,rfl,rfl,Post.now e1.hr p1 (by simp only[RV])⟩
 | _=>exact p1.elim
end
section
variable {X : Cx} {K : W.Frag}
theorem jtm{e:Expr}{ta:TA}(k:X.K=K)(h:PE X e (jh7 X.K ta)):PE X e (jh7 K ta):=by subst k;exact h
end
end L2
namespace L2
open PySem PySem.Spec PyProof.Rows
structure FnM (K:W.Frag) (x q:Str) (st:Stmt) (f:Addr) (fd:FuncData) (ps:List Str):Prop where
 F:Fun K x q st f fd
 B:jfp K fd ps []
structure FnT (K:W.Frag) (mg:Str->Option Value) (x q:Str) (st:Stmt) (f:Addr) (fd:FuncData) (ps:List Str):Prop where
 F:Fun K x q st f fd
 B:jfp K fd ps []
 m:mg x=some (.ref f)
structure ClsT (K:W.Frag) (mg:Str->Option Value) (x:Str) (c:Addr):Prop where
 cl:Cls K c
 mc:mg x=some (.ref c)
 ms:W.makesIn K c=true
 kc:W.keepIn K (.ref c)=true
section
variable {K : W.Frag} {h : Heap} {mg : Str -> Option Value} {x q : Str} {st : Stmt} {f c : Addr} {oc : Value} {od an : Option Addr} {osl : Array (Option Value)} {kV doc pm cdv ct : Value} {ps : List Str}
theorem fnm(l:K.lookup f=some ⟨oc,od,.func (W.fnOf x q (jeb st) (jcy st) (jac st) .none kV doc pm an cdv ct),osl⟩)
  (c:W.codeIn K cdv q=true) (k:W.keepIn K (.ref f)=true)
  (b:∀(kV doc pm:Value) (an:Option Addr) (cdv ct:Value) (us:List Value),us.length=ps.length->bindArgs (W.fnOf x q (jeb st) (jcy st) (jac st) .none kV doc pm an cdv ct) ⟨us,[]⟩=pure (ps.zip us):=by
   first
    | exact λ_ _ _ _ _ _ us hl=>match us,hl with | [_],_=>rfl
    | exact λ_ _ _ _ _ _ us hl=>match us,hl with | [_,_],_=>rfl
    | exact λ_ _ _ _ _ _ us hl=>match us,hl with | [_,_,_],_=>rfl
    | exact λ_ _ _ _ _ _ us hl=>match us,hl with | [_,_,_,_],_=>rfl
    | exact λ_ _ _ _ _ _ us hl=>match us,hl with | [_,_,_,_,_],_=>rfl
    | exact λ_ _ _ _ _ _ us hl=>match us,hl with | [_,_,_,_,_,_],_=>rfl
    | exact λ_ _ _ _ _ _ us hl=>match us,hl with | [],_=>rfl):
  FnM K x q st f (W.fnOf x q (jeb st) (jcy st) (jac st) .none kV doc pm an cdv ct) ps:=⟨jts l c k,(jts l c k).binds b⟩
theorem fnt(X:K.In h)(G:h.Ns mainGlobals mg)(a:W.nsIn K mainGlobals x=some (some (.ref f)))(M:FnM K x q st f (W.fnOf x q (jeb st) (jcy st) (jac st) .none kV doc pm an cdv ct) ps):
  FnT K mg x q st f (W.fnOf x q (jeb st) (jcy st) (jac st) .none kV doc pm an cdv ct) ps:=⟨M.F,M.B,W.mg_of X G a⟩
theorem clm(X:K.In h)(G:h.Ns mainGlobals mg)(a:W.nsIn K mainGlobals x=some (some (.ref c)))(pg:W.plainGet K c Str.empty=true)(hd:W.hasDictIn K c=true)(po:W.plainOver K c=true)
  (sa:W.findIn K (.ref c) "__setattr__"=some (some (.builtin "object.__setattr__"))) (mk:W.makesIn K c=true) (kc:W.keepIn K (.ref c)=true):ClsT K mg x c:=⟨⟨pg,hd,po,sa⟩,W.mg_of X G a,mk,kc⟩
theorem naOf{a:Str}(h:W.findIn K (.ref c) a=some none):jbw K c a:=h
theorem ClsT.k(C:ClsT K mg x c):GV mg x (.ref c):=⟨_,C.mc,rfl⟩
theorem ClsT.mkk(C:ClsT K mg x c)(M:Meth K c "__init__" f):Mk K c f:=⟨C.ms,M.at_,M.fn,C.kc⟩
end
theorem gOf{P:Program}{w:World}{K:W.Frag}{mg:Str->Option Value}{base:Heap}{CX:CXT}{k:Nat}{x q:Str}{st:Stmt}{f:Addr}{fd:FuncData}{ps:List Str}{sp:Sp}(H:FnT K mg x q st f fd ps)(o:FnOk P w K mg base CX k f fd ps sp):FnG P w K mg base CX k x sp:=⟨f,fd,ps,o,H.m,H.F.kp,H.B⟩
theorem mOf{P:Program}{w:World}{K:W.Frag}{mg:Str->Option Value}{base:Heap}{CX:CXT}{k:Nat}{x y q:Str}{st:Stmt}{c f:Addr}{fd:FuncData}{ps:List Str}{sp:Sp}(C:ClsT K mg x c)(M:Meth K c "__init__" f)(H:FnM K y q st f fd ps)(o:FnOk P w K mg base CX k f fd ps sp):MakeG P w K mg base CX k x c sp:=⟨f,fd,ps,C.mkk M,o,C.mc,H.B⟩
theorem scof{N P:List Str}{sc:Scope}(a:sc.kind= .function:=by rfl)(b:sc.isCoroutine=false:=by rfl)(c:sc.isGenerator=false:=by rfl)(d:N.Nodup:=by decide+kernel)(e:N.take P.length=P:=by rfl)
  (f:∀x∈P,sc.names.lookup x=some .local \/ sc.names.lookup x=some .cell:=by decide+kernel) (g:∀y∈sc.names,y.2≠ .free:=by decide+kernel):FnScope N P sc:=⟨a,b,c,d,e,f,g⟩
theorem okZ2{C:Ct}{P:Program}{w:World}{K:W.Frag}{mg:Str->Option Value}{base:Heap}{x qual:Str}{st:Stmt}{f:Addr}{fd:FuncData}{N ps:List Str}{k np nn:Nat}{b:Z.MS}{z:Z.MF}(F:Fun K x qual st f fd)(S:FnScope N ps (jac st))
  (hb:∀(cdv:Value) (A:Around) (outer:List Env) (s:Shared) (H:Hp) (E:XK),Room k (A.deeper (envOfC qual (jac st) s.heap.objs.size f cdv))->
   ∃t,PSs (cxOf (CXE P w) P w K mg base N qual (jac st) f cdv A outer s H E) (jcy st) t /\ SS C E t b)
  (hz:z=Z.mFun np nn b:=by rfl) (hp:ps.length=np:=by rfl) (hn:N.length=nn:=by rfl) (hle:np<=nn:=by decide):FnOk P w K mg base (CXE P w) (k+1) f fd ps (spZ C z):=
 okZ F S hz hp hn hle hb
theorem hm{j k:Nat}{A:Around}(r:Room k A)(h:j<=k:=by decide):Room j A:=r.mono h
theorem ixq(P:Program)(w:World)(K:W.Frag){X:Cx}{a b:Expr}{ta tb:TE}{pos:Pos}(hu:X.A.units+64<cLine)(ha:PE X a ta)(hb:PE X b tb)(hs:jqn b:=by exact λ_ _=>rfl)(p:X.prog=P:=by rfl)(w':X.w=w:=by rfl)(k:X.K=K:=by rfl):PE X (.Subscript a b pos) (tOp (uIx P w K) ta tb):=pe_ix (ix_K p w' k hu) ha hb hs
theorem mdq(P:Program)(w:World)(K:W.Frag)(mg:Str->Option Value)(base:Heap)(k:Nat){X:Cx}{m:Str}{E:XK}{e:Expr}{ta:TE}{t:TA}(h:PE X e (jha X.prog X.w X.K X.mg X.base (CXE P w) k m E ta t))(h1:X.prog=P:=by rfl)(h2:X.w=w:=by rfl)(h3:X.K=K:=by rfl)(h4:X.mg=mg:=by rfl)(h5:X.base=base:=by rfl):PE X e (jha P w K mg base (CXE P w) k m E ta t):=pe_mdK h1 h2 h3 h4 h5 h
section
variable {C : Ct} {ex bs bs1 bs2 : List Addr} {h h1 h2 : Z.MH} {H H1 H2 : Hp} {E : XK}
def NoD(G G':Hp):Prop:=∀x u,G x=some u->(∃o kw,u= .frz o (.dK kw) /\ o.cls= .type "dict") \/ G' x=some u
def NoDa(a:Addr)(G G':Hp):Prop:=NoD G G' /\ ∀x u,x≠a->G x=some u->G' x=some u
theorem NoD.sql{K:W.Frag}{G G':Hp}{a:Addr}{xs:List V}(e:NoD G G')(h:SqL K G a xs):SqL K G' a xs:=by
 rcases h with(h | ⟨o,h⟩) | h
 ·rcases e _ _ h with⟨_,_,z,_⟩ | z
  ·cases z
  ·exact .inl (.inl z)
 ·rcases e _ _ h with⟨_,_,z,_⟩ | z
  ·cases z
  ·exact .inl (.inr ⟨o,z⟩)
 ·exact .inr h
mutual
theorem RV.noD{G G':Hp}(hs:NoD G G'):∀{d:Z.D} {v:V},RV C bs G v d->RV C bs G' v d
 | .non,v,h=>by simp only[RV] at h ⊢;exact h
 | .bl b,v,h=>by simp only[RV] at h ⊢;exact h
 | .int i,v,h=>by simp only[RV] at h ⊢;exact h
 | .str x,v,h=>by simp only[RV] at h ⊢;exact h
 | .tup ds,v,h=>by
  simp only[RV] at h ⊢
  obtain⟨a,vs,h1,h2,h3⟩:=h
  rcases hs _ _ h2 with⟨_,_,z,_⟩ | z
  ·cases z
  ·exact⟨a,vs,h1,z,RVs.noD hs h3⟩
 | .lst ds,v,h=>by
  simp only[RV] at h ⊢
  obtain⟨a,vs,h1,h2,h3⟩:=h
  rcases hs _ _ h2 with⟨_,_,z,_⟩ | z
  ·cases z
  ·exact⟨a,vs,h1,z,RVs.noD hs h3⟩
 | .arg ns,v,h=>by
  simp only[RV] at h ⊢
  obtain⟨a,h1,h2⟩:=h
  exact⟨a,h1,hs.sql h2⟩
 | .ref k,v,h=>by simp only[RV] at h ⊢;exact h
 | .ty n,v,h=>by simp only[RV] at h ⊢;exact h
 | .cls n,v,h=>by simp only[RV] at h ⊢;exact h
 | .exc c,v,h=>by
  simp only[RV] at h ⊢
  obtain⟨a,oe,u,h1,h2,h3⟩:=h
  rcases hs _ _ h2 with⟨_,_,z,zc⟩ | z
  ·cases z;rw[h3] at zc;cases zc
  ·exact⟨a,oe,u,h1,z,h3⟩
 | .obj c fs,v,h=>by
  simp only[RV] at h ⊢
  obtain⟨a,dx,fvs,h1,h2,h3⟩:=h
  rcases hs _ _ h2 with⟨_,_,z,_⟩ | z
  ·cases z
  ·exact⟨a,dx,fvs,h1,z,RVf.noD hs h3⟩
 | .dic kvs,v,h=>by simp only[RV] at h ⊢;exact h
theorem RVs.noD{G G':Hp}(hs:NoD G G'):∀{ds:List Z.D} {vs:List V},RVs C bs G vs ds->RVs C bs G' vs ds
 | [],[],_=>by simp only[RVs]
 | d::ds,v::vs,h=>by
  simp only[RVs] at h ⊢
  exact⟨RV.noD hs h.1,RVs.noD hs h.2⟩
 | [],_::_,h=>by simp only[RVs] at h
 | _::_,[],h=>by simp only[RVs] at h
theorem RVf.noD{G G':Hp}(hs:NoD G G'):∀{ds:List (Str×Z.D)} {vs:List (Str×V)},RVf C bs G vs ds->RVf C bs G' vs ds
  | [],[],_=>by simp only[RVf]
  | (y,d)::ds,(x,v)::vs,h=>by
    simp only[RVf] at h ⊢
    exact⟨h.1,RV.noD hs h.2.1,RVf.noD hs h.2.2⟩
  | [],_::_,h=>by simp only[RVf] at h
  | _::_,[],h=>by simp only[RVf] at h
theorem RVk.noD{G G':Hp}(hs:NoD G G'):∀{ds:List (Sum Int Str×Z.D)} {vs:List (Key×V)},RVk C bs G vs ds->RVk C bs G' vs ds
  | [],[],_=>by simp only[RVk]
  | (y,d)::ds,(x,v)::vs,h=>by
    simp only[RVk] at h ⊢
    exact⟨h.1,RV.noD hs h.2.1,RVk.noD hs h.2.2⟩
  | [],_::_,h=>by simp only[RVk] at h
  | _::_,[],h=>by simp only[RVk] at h
end
theorem jee.noD{G G':Hp}{a b:Addr}{c:Z.Cell}(hn:NoDa b G G')(na:a≠b)(e:H1 a=H a)(q:jee C bs G H a c):jee C bs G' H1 a c:=by
 have hs:=hn.1
 cases c with
 | lst ds=>obtain⟨vs,h1,h2⟩:=q;exact⟨vs,by rw[e];exact h1,h2.noD hs⟩
 | dct kvs=>obtain⟨vs,h1,h2⟩:=q;exact⟨vs,by rw[e];exact h1,h2.noD hs⟩
 | ins c fs=>obtain⟨dx,vs,h1,h2⟩:=q;exact⟨dx,vs,by rw[e];exact h1,h2.noD hs⟩
 | fdc kvs=>obtain⟨o,vs,h1,hc,h2⟩:=q;exact⟨o,vs,hn.2 _ _ na h1,hc,h2.noD hs⟩
theorem Ev.froze{k:Nat}{a:Addr}{o:Obj}{kvs:List (Sum Int Str×Z.D)}{kws:List (Key×V)}(hr:HR C ex bs h H)(hk:bs[k]?=some a)(h0:h[k]?=some (some (.dct kvs)))(ha:H a=some (.dK kws)):
  Ev C ex bs h H bs (h.set k none) (upd H a (.frz o (.dK kws))) /\ gh ex bs (h.set k none) (upd H a (.frz o (.dK kws))) a=some (.frz o (.dK kws)):=by
 have ab:a∈bs:=List.mem_of_getElem? hk
 have lk:=(List.getElem?_eq_some_iff.mp h0).1
 have lvs:∀x,lv bs (h.set k none) x->lv bs h x /\ x≠a:=λx ⟨j,c',e1,e2,l2⟩=>by
  by_cases hj:k=j
  ·subst hj;rw[List.getElem?_set_self lk] at e2;cases e2
  ·rw[List.getElem?_set_ne hj] at e2
   exact⟨⟨j,c',e1,e2,l2⟩,λz=>hj (hr.inj k j a hk (by rw[<-z];exact e1))⟩
 have la:lv bs h a:=⟨k,_,hk,h0,rfl⟩
 have sm:Same (gh ex bs h H) (gh ex bs (h.set k none) (upd H a (.frz o (.dK kws)))):=λx u e=>by
  obtain⟨h1,h2,h3⟩:=jb3.mp e
  have:x≠a:=λz=>h2 (z▸la)
  exact jb3.mpr ⟨h1,λl=>h2 (lvs x l).1,by rw[jad this];exact h3⟩
 refine⟨⟨λ_ _ e=>e,⟨by simp[hr.len],hr.inj,hr.sep,λx m=> ?_,λx m=> ?_,λj x c' e1 e2=> ?_⟩,sm,λx m=> ?_⟩,jb3.mpr ⟨λm=>hr.sep a m ab,λl=>(lvs a l).2 rfl,jap⟩⟩
 ·by_cases q:x=a
  ·subst q;rw[jap];simp
  ·rw[jad q];exact hr.dom x m
 ·have:x≠a:=λz=>hr.sep x m (z▸ab)
  rw[jad this];exact hr.domx x m
 ·by_cases hj:k=j
  ·subst hj;rw[List.getElem?_set_self lk] at e2;cases e2
  ·rw[List.getElem?_set_ne hj] at e2
   have:x≠a:=λz=>hj (hr.inj k j a hk (by rw[<-z];exact e1))
   exact(hr.cell j x c' e1 e2).mono (λ_ _ e=>e) sm (jad this)
 ·exact jad λz=>hr.sep x m (z▸ab)
theorem Ev.thawed{k:Nat}{a:Addr}{o:Obj}{kvs:List (Sum Int Str×Z.D)}{kws:List (Key×V)}(hr:HR C ex bs h H)(hk:bs[k]?=some a)(h0:h[k]?=some (some (.dct kvs)))(rk:RVk C bs (gh ex bs h H) kws kvs)(hc:o.cls= .type "dict")
  (ev:Ev C ex bs h H bs1 h1 H1) (lk:k<h1.length) (ha:H1 a=some (.frz o (.dK kws))):NoD (gh ex bs1 h1 H1) (gh ex bs1 (h1.set k (some (.dct kvs))) (upd H1 a (.dK kws))) /\ Ev C ex bs h H bs1 (h1.set k (some (.dct kvs))) (upd H1 a (.dK kws)):=by
 have hk1:=ev.pre k a hk
 have ab:a∈bs1:=List.mem_of_getElem? hk1
 have lvs:∀x,lv bs1 (h1.set k (some (.dct kvs))) x->lv bs1 h1 x \/ x=a:=λx ⟨j,c',e1,e2,l2⟩=>by
  by_cases hj:k=j
  ·subst hj;rw[hk1] at e1;cases e1;exact .inr rfl
  ·rw[List.getElem?_set_ne hj] at e2
   exact .inl ⟨j,c',e1,e2,l2⟩
 have nd:NoD (gh ex bs1 h1 H1) (gh ex bs1 (h1.set k (some (.dct kvs))) (upd H1 a (.dK kws))):=λx u e=>by
  obtain⟨q1,q2,q3⟩:=jb3.mp e
  by_cases q:x=a
  ·subst q;rw[ha] at q3;cases q3;exact .inl ⟨o,kws,rfl,hc⟩
  ·exact .inr (jb3.mpr ⟨q1,λl=>(lvs x l).elim q2 q,by rw[jad q];exact q3⟩)
 have nda:NoDa a (gh ex bs1 h1 H1) (gh ex bs1 (h1.set k (some (.dct kvs))) (upd H1 a (.dK kws))):=⟨nd,λx u q e=>by
  obtain⟨q1,q2,q3⟩:=jb3.mp e
  exact jb3.mpr ⟨q1,λl=>(lvs x l).elim q2 q,by rw[jad q];exact q3⟩⟩
 have la:lv bs h a:=⟨k,_,hk,h0,rfl⟩
 refine⟨nd,ev.pre,⟨by simp[ev.hr.len],ev.hr.inj,ev.hr.sep,λx m=> ?_,λx m=> ?_,λj x c' e1 e2=> ?_⟩,λx u e=> ?_,λx m=> ?_⟩
 ·by_cases q:x=a
  ·subst q;rw[jap];simp
  ·rw[jad q];exact ev.hr.dom x m
 ·have:x≠a:=λz=>ev.hr.sep x m (z▸ab)
  rw[jad this];exact ev.hr.domx x m
 ·by_cases hj:k=j
  ·subst hj
   rw[List.getElem?_set_self lk] at e2
   cases e2
   rw[hk1] at e1;cases e1
   exact⟨kws,jap,(rk.mono ev.pre ev.same).noD nd⟩
  ·rw[List.getElem?_set_ne hj] at e2
   have:x≠a:=λz=>hj (ev.hr.inj k j a hk1 (by rw[<-z];exact e1))
   exact(ev.hr.cell j x c' e1 e2).noD nda this (jad this)
 ·rcases nd x u (ev.same x u e) with⟨o',kw,rfl,_⟩ | z
  ·obtain⟨q1,q2,q3⟩:=jb3.mp (ev.same x _ e)
   obtain⟨p1,p2,p3⟩:=jb3.mp e
   have:x≠a:=λz=>p2 (z▸la)
   exact jb3.mpr ⟨q1,λl=>(lvs x l).elim q2 this,by rw[jad this];exact q3⟩
  ·exact z
 ·have:x≠a:=λz=>ev.hr.sep x m (z▸ab)
  rw[jad this];exact ev.exs x m
theorem ItOk.items{G:Hp}{a:Addr}{o:Obj}{kws:List (Key×V)}{kvs:List (Sum Int Str×Z.D)}(hg:G a=some (.frz o (.dK kws)))(r:RVk C bs G kws kvs):ItOk C bs G (Itit a o kws) (none,kvs.map Z.jhm):=by
 intro ex2 bs2 h2 H2 hr pre sm _ i
 have ha:H2 a=some (.frz o (.dK kws)):=jbj _ _ (sm _ _ hg)
 have get:∀{ds:List (Sum Int Str×Z.D)} {vs:List (Key×V)},RVk C bs G vs ds->ds.length=vs.length /\ ∀(i:Nat) (p:Sum Int Str×Z.D),ds[i]?=some p->∃v,vs[i]?=some (p.1,v) /\ RV C bs G v p.2:=by
  intro ds
  induction ds with
  | nil=>intro vs q;cases vs with
   | nil=>exact⟨rfl,λi p e=>by simp at e⟩
   | cons _ _=>simp only[RVk] at q
  | cons p ds ih=>intro vs q;cases vs with
   | nil=>simp only[RVk] at q
   | cons u vs=>
    simp only[RVk] at q
    obtain⟨q1,q2,q3⟩:=q
    obtain⟨i1,i2⟩:=ih q3
    refine⟨by simp[i1],λi p' e=> ?_⟩
    cases i with
    | zero=>simp at e;subst e;exact⟨u.2,by simp[<-q1],q2⟩
    | succ i=>exact i2 i p' (by simpa using e)
 obtain⟨hl,hget⟩:=get r
 refine⟨λd e=> ?_,λhle=>⟨ha,by simp at hle;omega⟩⟩
 rw[List.getElem?_map] at e
 obtain⟨p,ep,rfl⟩:=Option.map_eq_some_iff.mp e
 obtain⟨v,hv,rv⟩:=hget i p ep
 refine⟨⟨ha,(List.getElem?_eq_some_iff.mp hv).1⟩,λx H3 y=> ?_⟩
 obtain⟨q,k,v',hq,hkv,rfl,rfl⟩:=y
 rw[hv] at hkv
 cases hkv
 obtain⟨e3,g⟩:=Ev.alloc (o:= .tup [kV p.1,v]) hr hq
 refine⟨e3,?_⟩
 simp only[Z.jhm,RV,RVs]
 refine⟨q,_,rfl,g,?_⟩
 simp only[RVs]
 refine⟨?_,(rv.mono pre sm).ev e3,trivial⟩
 cases p.1 with
 | inl i=>simp only[kV,Z.keyD,RV]
 | inr x=>simp only[kV,Z.keyD,RV]
theorem jw5{to:TE}{g:TG}{tb:TS}{mo:Z.ME}{mg:Z.MG}{mb:Z.MS}(ho:SE C E to mo)(hg:SG C E g mg)(hb:SS C E tb mb):SS C E (tForI to g tb) (Z.jv0 mo mg mb):=by
 intro ex bs h ρ σ H D hr re p N
 refine ho ex bs h ρ σ H _ hr re (p.bind λd x h1 bs1 H1 e1 rx p1=> ?_)
 cases d with
 | ref k=>
  simp only[RV] at rx
  obtain⟨a,rfl,hk⟩:=rx
  dsimp only at p1
  split at p1
  ·rename_i kvs h0
   obtain⟨kws,ha,rk⟩:=e1.hr.cell k a _ hk h0
   refine⟨a,kws,rfl,ha,λo oc na=> ?_⟩
   obtain⟨e2,ga⟩:=Ev.froze (o:=o) e1.hr hk h0 ha
   refine jml (gd:=none) (items:=kvs.map Z.jhm) hg hb e2.hr ((re.ev e1).ev e2) (.items ga (rk.mono e2.pre e2.same)) ?_
   rw[Z.jb5]
   have hfz:∀{bs':List Addr} {h':Z.MH} {H':Hp},Ev C ex bs1 (h1.set k none) (upd H1 a (.frz o (.dK kws))) bs' h' H'->H' a=some (.frz o (.dK kws)):=λev=>jbj _ _ (ev.same _ _ ga)
   cases er:Z.jb1 mg mb (kvs.map Z.jhm) ρ (h1.set k none) with
   | nx ρ' h'=>
    rw[er] at p1
    dsimp only[Z.jq7] at p1
    split at p1
    ·rename_i hn
     intro σ' bs' H' ev re'
     obtain⟨nd,e3⟩:=Ev.thawed e1.hr hk h0 rk oc (e2.trans ev) (List.getElem?_eq_some_iff.mp hn).1 (hfz ev)
     exact⟨a,o,kws,na,hfz ev,p1 σ' bs' _ e3 ⟨re'.1,λi d q=>by obtain⟨v,q1,q2⟩:=re'.2 i d q;exact⟨v,q1,q2.noD nd⟩⟩⟩
    ·exact p1.elim
   | rt d h'=>
    rw[er] at p1
    dsimp only[Z.jq7] at p1
    split at p1
    ·rename_i hn
     intro v bs' H' ev rv
     obtain⟨nd,e3⟩:=Ev.thawed e1.hr hk h0 rk oc (e2.trans ev) (List.getElem?_eq_some_iff.mp hn).1 (hfz ev)
     exact⟨a,o,kws,na,hfz ev,p1 v bs' _ e3 (rv.noD nd)⟩
    ·exact p1.elim
   | exc c h'=>
    rw[er] at p1
    exact λbs' H' ev=>p1 bs' H' (e2.trans ev)
   | bk ρ' h'=>rw[er] at p1;exact p1.elim
   | ct ρ' h'=>rw[er] at p1;exact p1.elim
   | stuck=>rw[er] at p1;exact p1.elim
  ·exact p1.elim
 | _=>exact p1.elim
end
section
variable {C : Ct} {ex bs bs1 bs2 : List Addr} {h h1 h2 : Z.MH} {H H1 H2 : Hp} {E : XK}
theorem RVk.gets{G:Hp}:∀{ds:List (Sum Int Str×Z.D)} {vs:List (Key×V)},RVk C bs G vs ds->ds.length=vs.length /\ ∀(i:Nat) (d:Z.D),(ds.map λp=>Z.keyD p.1)[i]?=some d->∃k v,vs[i]?=some (k,v) /\ d=Z.keyD k
  | [],[],_=>⟨rfl,λi d e=>by simp at e⟩
  | (y,d)::ds,(x,v)::vs,h=>by
    simp only[RVk] at h
    obtain⟨h1,h2,h3⟩:=h
    obtain⟨i1,i2⟩:=RVk.gets h3
    refine⟨by simp[i1],λi d' e=> ?_⟩
    cases i with
    | zero=>simp at e;subst e;exact⟨x,v,rfl,by rw[h1]⟩
    | succ i=>exact i2 i d' (by simpa using e)
  | [],_::_,h=>by simp only[RVk] at h
  | _::_,[],h=>by simp only[RVk] at h
theorem RV.key{G:Hp}(k:Key):RV C bs G (kV k) (Z.keyD k):=by
 cases k with
 | inl i=>simp only[Z.keyD,RV];rfl
 | inr x=>simp only[Z.keyD,RV];rfl
theorem ItOk.keys{G:Hp}{a:Addr}{o:Obj}{kws:List (Key×V)}{kvs:List (Sum Int Str×Z.D)}(hg:G a=some (.frz o (.dK kws)))(r:RVk C bs G kws kvs):ItOk C bs G (Itkz a o kws) (none,kvs.map λp=>Z.keyD p.1):=by
 intro ex2 bs2 h2 H2 hr pre sm _ i
 have ha:H2 a=some (.frz o (.dK kws)):=jbj _ _ (sm _ _ hg)
 obtain⟨hl,hget⟩:=r.gets
 refine⟨λd e=> ?_,λhle=>⟨ha,by simp at hle;omega⟩⟩
 obtain⟨k,v,hv,rfl⟩:=hget i d e
 refine⟨⟨ha,(List.getElem?_eq_some_iff.mp hv).1⟩,λx H3 y=> ?_⟩
 obtain⟨rfl,y⟩:=y
 rw[hv] at y
 simp at y
 subst y
 exact⟨Ev.refl hr,RV.key k⟩
theorem Ev.frozeK{k:Nat}{a:Addr}{o:Obj}{kvs:List (Sum Int Str×Z.D)}{kws:List (Key×V)}(hr:HR C ex bs h H)(hk:bs[k]?=some a)(h0:h[k]?=some (some (.dct kvs)))(ha:H a=some (.dK kws))(rk:RVk C bs (gh ex bs h H) kws kvs)(oc:o.cls= .type "dict"):
  Ev C ex bs h H bs (h.set k (some (.fdc kvs))) (upd H a (.frz o (.dK kws))) /\ gh ex bs (h.set k (some (.fdc kvs))) (upd H a (.frz o (.dK kws))) a=some (.frz o (.dK kws)):=by
 have ab:a∈bs:=List.mem_of_getElem? hk
 have lk:=(List.getElem?_eq_some_iff.mp h0).1
 have lvs:∀x,lv bs (h.set k (some (.fdc kvs))) x->lv bs h x /\ x≠a:=λx ⟨j,c',e1,e2,l2⟩=>by
  by_cases hj:k=j
  ·subst hj;rw[List.getElem?_set_self lk] at e2;cases e2;cases l2
  ·rw[List.getElem?_set_ne hj] at e2
   exact⟨⟨j,c',e1,e2,l2⟩,λz=>hj (hr.inj k j a hk (by rw[<-z];exact e1))⟩
 have la:lv bs h a:=⟨k,_,hk,h0,rfl⟩
 have sm:Same (gh ex bs h H) (gh ex bs (h.set k (some (.fdc kvs))) (upd H a (.frz o (.dK kws)))):=λx u e=>by
  obtain⟨h1,h2,h3⟩:=jb3.mp e
  have:x≠a:=λz=>h2 (z▸la)
  exact jb3.mpr ⟨h1,λl=>h2 (lvs x l).1,by rw[jad this];exact h3⟩
 have ga:gh ex bs (h.set k (some (.fdc kvs))) (upd H a (.frz o (.dK kws))) a=some (.frz o (.dK kws)):=jb3.mpr ⟨λm=>hr.sep a m ab,λl=>(lvs a l).2 rfl,jap⟩
 refine⟨⟨λ_ _ e=>e,⟨by simp[hr.len],hr.inj,hr.sep,λx m=> ?_,λx m=> ?_,λj x c' e1 e2=> ?_⟩,sm,λx m=> ?_⟩,ga⟩
 ·by_cases q:x=a
  ·subst q;rw[jap];simp
  ·rw[jad q];exact hr.dom x m
 ·have:x≠a:=λz=>hr.sep x m (z▸ab)
  rw[jad this];exact hr.domx x m
 ·by_cases hj:k=j
  ·subst hj
   rw[List.getElem?_set_self lk] at e2;cases e2
   rw[hk] at e1;cases e1
   exact⟨o,kws,ga,oc,rk.mono (λ_ _ e=>e) sm⟩
  ·rw[List.getElem?_set_ne hj] at e2
   have:x≠a:=λz=>hj (hr.inj k j a hk (by rw[<-z];exact e1))
   exact(hr.cell j x c' e1 e2).mono (λ_ _ e=>e) sm (jad this)
 ·exact jad λz=>hr.sep x m (z▸ab)
theorem jwa{to:TE}{g:TG}{tb:TS}{mo:Z.ME}{mg:Z.MG}{mb:Z.MS}(ho:SE C E to mo)(hg:SG C E g mg)(hb:SS C E tb mb):SS C E (tForK to g tb) (Z.jvl mo mg mb):=by
 intro ex bs h ρ σ H D hr re p N
 refine ho ex bs h ρ σ H _ hr re (p.bind λd x h1 bs1 H1 e1 rx p1=> ?_)
 cases d with
 | ref k=>
  simp only[RV] at rx
  obtain⟨a,rfl,hk⟩:=rx
  dsimp only at p1
  split at p1
  ·rename_i kvs h0
   obtain⟨kws,ha,rk⟩:=e1.hr.cell k a _ hk h0
   refine⟨a,kws,rfl,ha,λo oc na=> ?_⟩
   obtain⟨e2,ga⟩:=Ev.frozeK (o:=o) e1.hr hk h0 ha rk oc
   refine jml (gd:=none) (items:=kvs.map λp=>Z.keyD p.1) hg hb e2.hr ((re.ev e1).ev e2) (.keys ga (rk.mono e2.pre e2.same)) ?_
   rw[Z.jb5]
   have hfz:∀{bs':List Addr} {h':Z.MH} {H':Hp},Ev C ex bs1 (h1.set k (some (.fdc kvs))) (upd H1 a (.frz o (.dK kws))) bs' h' H'->H' a=some (.frz o (.dK kws)):=λev=>jbj _ _ (ev.same _ _ ga)
   cases er:Z.jb1 mg mb (kvs.map λp=>Z.keyD p.1) ρ (h1.set k (some (.fdc kvs))) with
   | nx ρ' h'=>
    rw[er] at p1
    dsimp only[Z.jvx] at p1
    split at p1
    ·rename_i _ hn
     intro σ' bs' H' ev re'
     obtain⟨nd,e3⟩:=Ev.thawed e1.hr hk h0 rk oc (e2.trans ev) (List.getElem?_eq_some_iff.mp hn).1 (hfz ev)
     exact⟨a,o,kws,na,hfz ev,p1 σ' bs' _ e3 ⟨re'.1,λi d q=>by obtain⟨v,q1,q2⟩:=re'.2 i d q;exact⟨v,q1,q2.noD nd⟩⟩⟩
    ·exact p1.elim
   | rt d h'=>
    rw[er] at p1
    dsimp only[Z.jvx] at p1
    split at p1
    ·rename_i _ hn
     intro v bs' H' ev rv
     obtain⟨nd,e3⟩:=Ev.thawed e1.hr hk h0 rk oc (e2.trans ev) (List.getElem?_eq_some_iff.mp hn).1 (hfz ev)
     exact⟨a,o,kws,na,hfz ev,p1 v bs' _ e3 (rv.noD nd)⟩
    ·exact p1.elim
   | exc c h'=>
    rw[er] at p1
    exact λbs' H' ev=>p1 bs' H' (e2.trans ev)
   | bk ρ' h'=>rw[er] at p1;exact p1.elim
   | ct ρ' h'=>rw[er] at p1;exact p1.elim
   | stuck=>rw[er] at p1;exact p1.elim
  ·exact p1.elim
 | _=>exact p1.elim
theorem RVk.drop{G:Hp}{k:Sum Int Str}:∀{ds:List (Sum Int Str×Z.D)} {vs:List (Key×V)},RVk C bs G vs ds->RVk C bs G (jjs vs k) (Z.jmj ds k)
  | [],[],_=>by simp only[jjs,Z.jmj,List.filter_nil,RVk]
  | (y,d)::ds,(x,v)::vs,h=>by
    simp only[RVk] at h
    obtain⟨rfl,h2,h3⟩:=h
    have ih:=RVk.drop (k:=k) h3
    unfold jjs Z.jmj at ih ⊢
    by_cases q:x=k
    · simp only[List.filter_cons,q,ne_eq,not_true_eq_false,decide_false,Bool.false_eq_true,if_false];exact ih
    · simp only[List.filter_cons,q,ne_eq,not_false_eq_true,decide_true,if_true,RVk];exact⟨trivial,h2,ih⟩
  | [],_::_,h=>by simp only[RVk] at h
  | _::_,[],h=>by simp only[RVk] at h
theorem jqb{to ti:TE}{mo mi:Z.ME}(ho:SE C E to mo)(hi:SE C E ti mi):SE C E (ju2 to ti) (Z.jlr mo mi):=by
 intro ex bs h ρ σ H Q hr re p
 refine ho ex bs h ρ σ H _ hr re (p.bind λo x h1 bs1 H1 e1 rx p1=> ?_)
 cases o with
 | ref k=>
  simp only[RV] at rx
  obtain⟨a,rfl,hk⟩:=rx
  dsimp only at p1
  split at p1
  ·rename_i kv0 hc0
   obtain⟨vs0,ha0,_⟩:=e1.hr.cell k a _ hk hc0
   refine⟨a,rfl,.inl ⟨_,.inl ha0⟩,?_⟩
   refine hi ex bs1 h1 ρ σ H1 _ e1.hr (re.ev e1) (p1.bind λy vy h2 bs2 H2 e2 ry p2=> ?_)
   split at p2
   ·rename_i j hj
    split at p2
    ·rename_i kvs hc
     obtain⟨kws,ha,rk⟩:=e2.hr.cell k a _ (e2.pre k a hk) hc
     have ek:=js9 ry hj
     subst ek
     rcases RVk.val (k:=j) rk with⟨q1,q2⟩ | ⟨d,v,q1,q2,q3⟩
     ·rw[q1] at p2;exact p2.elim
     ·rw[q1] at p2
      refine⟨kws,j,v,ha,rfl,q2,?_⟩
      have e3:=Ev.put (o:= .dK (jjs kws j)) (c:= .dct (Z.jmj kvs j)) e2.hr (e2.pre k a hk) hc ⟨_,jap,rk.drop⟩
      exact p2 v bs2 _ e3 (q3.ev e3)
    ·exact p2.elim
   ·exact p2.elim
  ·exact p1.elim
 | _=>exact p1.elim
theorem jlq{to te:TE}{mo me:Z.ME}(ho:SE C E to mo)(he:SE C E te me):SS C E (jsa (tBM C.K "list" jox to (jse te tNil))) (Z.jjm mo me):=by
 intro ex bs h ρ σ H D hr re p
 refine ho ex bs h ρ σ H _ hr re (p.bind λo x h1 bs1 H1 e1 rx p1=> ?_)
 cases o with
 | ref k=>
  simp only[RV] at rx
  obtain⟨a,rfl,hk⟩:=rx
  dsimp only at p1
  split at p1
  ·rename_i xs0 hc0
   obtain⟨vs0,ha0,_⟩:=e1.hr.cell k a _ hk hc0
   refine⟨.inl ⟨rfl,vs0,SqL.of ha0⟩,?_⟩
   refine he ex bs1 h1 ρ σ H1 _ e1.hr (re.ev e1) (p1.bind λd y h2 bs2 H2 e2 ry p2=> ?_)
   split at p2
   ·rename_i xs hc
    split at p2
    ·rename_i ys hy
     split at p2
     ·rename_i hz
      obtain⟨vs,ha,rs⟩:=e2.hr.cell k a _ (e2.pre k a hk) hc
      obtain⟨b,ws,rfl,hb,rw'⟩:=jmw e2.hr ry hy
      refine⟨a,b,vs,ws,rfl,rfl,ha,hb,by rw[rs.len,rw'.len];exact hz,?_⟩
      have e3:=Ev.put (o:= .lst (vs++ws)) (c:= .lst (xs++ys)) e2.hr (e2.pre k a hk) hc ⟨_,jap,rs.append rw'⟩
      exact p2 σ bs2 _ e3 (((re.ev e1).ev e2).ev e3)
     ·exact p2.elim
    ·exact p2.elim
   ·exact p2.elim
  ·exact p1.elim
 | _=>exact p1.elim
theorem fldc{f:Str}{c:String}{a:Addr}{tab:List String}(hc:C.cm c=a)(cl:Cls C.K a)(na:jbw C.K a f)(r:jej C f tab):jej C f (c::tab):=by subst hc;exact jsh cl na r
theorem mtc{mg:Str->Option Value}{base:Heap}{k j:Nat}{m:Str}{c:String}{a:Addr}{z:Z.MF}{tab:List (String×Z.MF)}{f:Addr}{fd:FuncData}{ps:List Str}(hc:C.cm c=a)(cl:Cls C.K a)(b:Meth C.K a m f)(F:FnOk C.P C.w C.K mg base (CXE C.P C.w) j f fd ps (spZ C z))(hj:j<=k)(B:jfp C.K fd ps [])(r:jdu C mg base k m tab):jdu C mg base k m ((c,z)::tab):=by subst hc;exact jw0 cl b F hj B r
theorem jwi{tl:TA}{ml:Z.ML}(hl:SA C E tl ml):SE C E (tCB rDict tl) (Z.ju6 ml):=by
 intro ex bs h ρ σ H Q hr re p
 refine hl ex bs h ρ σ H _ hr re (p.bind λds xs h1 bs1 H1 e1 rx p1=> ?_)
 split at p1
 ·rename_i k
  obtain⟨v,rfl,r⟩:=jmh rx
  simp only[RV] at r
  obtain⟨a,rfl,hk⟩:=r
  split at p1
  ·rename_i kvs hc
   obtain⟨vs,ha,rk⟩:=e1.hr.cell k a _ hk hc
   refine⟨a,vs,rfl,ha,λl hl=> ?_⟩
   have e2:=Ev.cell (o:= .dK vs) (c:= .dct kvs) e1.hr hl ⟨vs,jap,rk⟩
   refine p1 (.ref l) (bs1++[l]) _ e2 ?_
   simp only[RV]
   exact⟨l,rfl,by rw[<-e1.hr.len];simp⟩
  ·exact p1.elim
 ·exact p1.elim
theorem ItOk.rev{a:Addr}{vs:List V}{ds:List Z.D}{G:Hp}(hq:SqL C.K G a vs)(r:RVs C bs G vs ds):ItOk C bs G (jv3 C.K a vs) (none,ds.reverse):=by
 intro ex2 bs2 h2 H2 hr pre sm _ i
 have hq2:SqL C.K H2 a vs:=(sm.trans jbj).sql hq
 have hl:=r.len
 refine⟨λd e=> ?_,λhle=>⟨hq2,by rw[hl];simpa using hle⟩⟩
 have hi:i<ds.length:=by simpa using (List.getElem?_eq_some_iff.mp e).1
 rw[List.getElem?_reverse hi] at e
 obtain⟨v,hv,rv⟩:=r.get e
 refine⟨⟨hq2,by rw[hl];exact hi⟩,λx H3 y=> ?_⟩
 obtain⟨rfl,y⟩:=y
 rw[hl,hv] at y
 cases y
 exact⟨Ev.refl hr,rv.mono pre sm⟩
theorem si_rev{t:TA}{m:Z.ML}(ht:SA C E t m):SI C E (iRev C.K t) (Z.lRev m):=by
 intro ex bs h ρ σ H Q hr re p
 refine ht ex bs h ρ σ H _ hr re (p.bind λds xs h1 bs1 H1 e1 rx p1=> ?_)
 split at p1
 ·obtain⟨x,rfl,ry⟩:=rx.only
  simp only[RV] at ry
  obtain⟨a,vs,rfl,ga,rs⟩:=ry
  exact⟨a,vs,rfl,SqL.of (jbj _ _ ga),Post.now e1.hr p1 (.rev (SqL.of ga) rs)⟩
 ·exact p1.elim
end
end L2
namespace Z
open PySem
theorem jcj{α:Type}{g:MG}{t:MT}{m:ME}{ρ0:Ro}{h:MH}(e:α->D)(r:α->Ro)(f:α->D):∀(as:List α),(∀a∈as,g (e a) ρ0 h= .nx (r a) h /\ t (r a) h= .ok true h /\ m (r a) h= .ok (f a) h)->compLoop g t m ρ0 (as.map e) h= .ok (as.map f) h
 | [],_=>by unfold compLoop;rfl
 | a::as,q=>by
  obtain⟨h1,h2,h3⟩:=q a (List.mem_cons_self ..)
  rw[List.map_cons]
  unfold compLoop
  simp only[h1,h2,h3,jcj e r f as λb hb=>q b (List.mem_cons_of_mem _ hb),List.map_cons]
@[simp] theorem rng_length(lo:Int)(n:Nat):(rng lo n).length=n:=by simp[rng]
@[simp] theorem sIx_one(n:Nat):sIx (n+1) 0 (some 1)=1:=by simp[sIx]
@[simp] theorem cut_one{α:Type}(x:α)(xs:List α):cut (x::xs) (some 1) none=xs:=by
 unfold cut
 rw[show sIx (x::xs).length 0 (some 1)=1 by simp[sIx]]
 simp[sIx]
@[simp] theorem atI_zero{α:Type}(a:α)(l:List α):atI (a::l) 0=some a:=by simp[atI,ixN]
@[simp] theorem atI_one{α:Type}(a b:α)(l:List α):atI (a::b::l) 1=some b:=by
 unfold atI ixN
 rw[if_pos (by decide),if_pos (by simp only[List.length_cons];omega)];rfl
@[simp] theorem atI_two{α:Type}(a b c:α)(l:List α):atI (a::b::c::l) 2=some c:=by
 unfold atI ixN
 rw[if_pos (by decide),if_pos (by simp only[List.length_cons];omega)];rfl
mutual
theorem juu:∀{d:D} {p:PyData},d.py=some p->d.eq d=true
 | .non,_,_=>by simp[D.eq]
 | .bl b,_,_=>by simp[D.eq]
 | .int i,_,_=>by simp[D.eq]
 | .str x,_,_=>by simp[D.eq]
 | .tup ds,_,e=>by
  simp only[D.py,Option.map_eq_some_iff] at e
  obtain⟨ps,h,_⟩:=e
  simp only[D.eq];exact jk1 h
 | .lst ds,_,e=>by
  simp only[D.py,Option.map_eq_some_iff] at e
  obtain⟨ps,h,_⟩:=e
  simp only[D.eq];exact jk1 h
 | .arg _,_,e=>by simp only[D.py] at e;cases e
 | .ref _,_,e=>by simp only[D.py] at e;cases e
 | .ty _,_,e=>by simp only[D.py] at e;cases e
 | .cls _,_,e=>by simp only[D.py] at e;cases e
 | .exc _,_,e=>by simp only[D.py] at e;cases e
 | .obj _ _,_,e=>by simp only[D.py] at e;cases e
 | .dic _,_,e=>by simp only[D.py] at e;cases e
theorem jk1:∀{ds:List D} {ps:List PyData},D.pys ds=some ps->D.eqs ds ds=true
 | [],_,_=>by simp[D.eqs]
 | d::ds,ps,e=>by
  simp only[D.pys] at e
  split at e
  ·rename_i p qs e1 e2
   simp only[D.eqs,Bool.and_eq_true]
   exact⟨juu e1,jk1 e2⟩
  ·cases e
end
theorem jp5{ds:List D}{n:Nat}(h:∀d∈ds,d.py.isSome=true /\ d.deep<=n):(D.pys ds).isSome=true /\ D.deeps ds<=n:=by
 induction ds with
 | nil=>exact⟨by simp[D.pys],by simp[D.deeps]⟩
 | cons d ds ih=>
  obtain⟨h1,h2⟩:=h d (List.mem_cons_self ..)
  obtain⟨h3,h4⟩:=ih λe he=>h e (List.mem_cons_of_mem _ he)
  rw[Option.isSome_iff_exists] at h1 h3
  obtain⟨p,hp⟩:=h1
  obtain⟨ps,hps⟩:=h3
  exact⟨by simp[D.pys,hp,hps],by simp only[D.deeps];omega⟩
theorem jv2{ds:List D}{n:Nat}(h:∀d∈ds,d.py.isSome=true /\ d.deep<=n):(D.lst ds).py.isSome=true /\ (D.lst ds).deep<=n+1:=by
 obtain⟨h1,h2⟩:=jp5 h
 exact⟨by simp only[D.py];simpa using h1,by simp only[D.deep];omega⟩
theorem jut(i:Int)(n:Nat):(D.int i).py.isSome=true /\ (D.int i).deep<=n:=⟨by simp[D.py],by simp[D.deep]⟩
theorem dat_of{d:D}{n:Nat}(h:d.py.isSome=true /\ d.deep<=n)(hn:n<=64):d.dat=true:=by
 unfold D.dat
 rw[h.1,Bool.true_and,decide_eq_true_eq];omega
mutual
theorem res_id(h:MH):∀(n:Nat) {d:D},D.bnd 0 d=true->res n h d=d
 | 0,d,_=>by unfold res;rfl
 | n+1,.ref k,e=>by simp[D.bnd] at e
 | n+1,.tup xs,e=>by
  simp only[D.bnd] at e
  unfold res;rw[jmk h n e]
 | n+1,.lst xs,e=>by
  simp only[D.bnd] at e
  unfold res;rw[jmk h n e]
 | n+1,.non,_=>by unfold res;rfl
 | n+1,.bl _,_=>by unfold res;rfl
 | n+1,.int _,_=>by unfold res;rfl
 | n+1,.str _,_=>by unfold res;rfl
 | n+1,.arg _,_=>by unfold res;rfl
 | n+1,.ty _,_=>by unfold res;rfl
 | n+1,.cls _,_=>by unfold res;rfl
 | n+1,.exc _,_=>by unfold res;rfl
 | n+1,.obj _ _,_=>by unfold res;rfl
 | n+1,.dic _,_=>by unfold res;rfl
theorem jmk(h:MH):∀(n:Nat) {ds:List D},D.bnds 0 ds=true->ds.map (res n h)=ds
 | n,[],_=>rfl
 | n,d::ds,e=>by
  simp only[D.bnds,Bool.and_eq_true] at e
  rw[List.map_cons,res_id h n e.1,jmk h n e.2]
end
end Z
namespace Clo
def sub(a b:Nat):Prop:=∀i,a.testBit i=true->b.testBit i=true
theorem sub.refl(a:Nat):sub a a:=λ_ h=>h
theorem sub.trans{a b c:Nat}(h:sub a b)(g:sub b c):sub a c:=λi q=>g i (h i q)
theorem sub.antisymm{a b:Nat}(h:sub a b)(g:sub b a):a=b:=Nat.eq_of_testBit_eq λi=>by
 cases x:a.testBit i with
 | true=>rw[h i x]
 | false=>cases y:b.testBit i with
  | true=>rw[g i y] at x;cases x
  | false=>rfl
theorem jd9(a b:Nat):sub a (a|||b):=λi h=>by rw[Nat.testBit_or,h];rfl
theorem jfr(a b:Nat):sub b (a|||b):=λi h=>by rw[Nat.testBit_or,h,Bool.or_true]
theorem jlo{a b c:Nat}(h:sub a c)(g:sub b c):sub (a|||b) c:=λi q=>by
 rw[Nat.testBit_or,Bool.or_eq_true] at q
 rcases q with q | q
 ·exact h i q
 ·exact g i q
theorem js3(a:Nat):sub 0 a:=λi h=>by simp at h
theorem sub.or_eq{a b:Nat}(h:sub a b):a|||b=b:=sub.antisymm (jlo h (sub.refl _)) (jfr _ _)
theorem sub.or_eq'{a b:Nat}(h:sub a b):b|||a=b:=sub.antisymm (jlo (sub.refl _) h) (jd9 _ _)
theorem sub.le{a b:Nat}(h:sub a b):a<=b:=by rw[<-h.or_eq];exact Nat.left_le_or
theorem and_ne{a b:Nat}:a&&&b≠0↔∃i,a.testBit i=true /\ b.testBit i=true:=by
 constructor
 ·intro h
  obtain⟨i,hi⟩:=Nat.exists_testBit_of_ne_zero h
  rw[Nat.testBit_and,Bool.and_eq_true] at hi
  exact⟨i,hi⟩
 ·rintro⟨i,h1,h2⟩ e
  have:(a&&&b).testBit i=true:=by rw[Nat.testBit_and,h1,h2];rfl
  rw[e] at this;simp at this
theorem sub.and_ne{a b c:Nat}(h:sub b c)(g:a&&&b≠0):a&&&c≠0:=by
 obtain⟨i,h1,h2⟩:=Clo.and_ne.mp g
 exact Clo.and_ne.mpr ⟨i,h1,h i h2⟩
def closed(ps:List Nat)(t:Nat):Prop:=∀p∈ps,p&&&t≠0->sub p t
structure Is (ps:List Nat) (s r:Nat):Prop where
 ge:sub s r
 cl:closed ps r
 le:∀t,sub s t->closed ps t->sub r t
theorem Is.uniq{ps:List Nat}{s r q:Nat}(a:Is ps s r)(b:Is ps s q):r=q:=sub.antisymm (a.le q b.ge b.cl) (b.le r a.ge a.cl)
def all(ps:List Nat)(s:Nat):Nat:=ps.foldl (·|||·) s
theorem jmz:∀(ps:List Nat) (s:Nat),sub s (all ps s)
 | [],s=>sub.refl _
 | p::ps,s=>(jd9 s p).trans (jmz ps (s|||p))
theorem jk6:∀(ps:List Nat) (s p:Nat),p∈ps->sub p (all ps s)
 | q::ps,s,p,m=>by
  rcases List.mem_cons.mp m with rfl | m
  ·exact(jfr s p).trans (jmz ps (s|||p))
  ·exact jk6 ps (s|||q) p m
theorem jnt(ps:List Nat)(s:Nat):closed ps (all ps s):=λp m _=>jk6 ps s p m
structure Step (ps:List Nat) (F:Nat->Nat):Prop where
 up:∀r,sub r (F r)
 lo:∀r t,closed ps t->sub r t->sub (F r) t
 fx:∀r,F r=r->closed ps r
structure Mid (ps:List Nat) (s r:Nat):Prop where
 ge:sub s r
 le:∀t,sub s t->closed ps t->sub r t
theorem Mid.start(ps:List Nat)(s:Nat):Mid ps s s:=⟨sub.refl _,λ_ h _=>h⟩
theorem Mid.step{ps:List Nat}{s r:Nat}{F:Nat->Nat}(f:Step ps F)(m:Mid ps s r):Mid ps s (F r):=⟨m.ge.trans (f.up r),λt h c=>f.lo r t c (m.le t h c)⟩
theorem Mid.fin{ps:List Nat}{s r:Nat}{F:Nat->Nat}(f:Step ps F)(m:Mid ps s r)(e:F r=r):Is ps s r:=⟨m.ge,f.fx r e,m.le⟩
theorem Mid.bnd{ps:List Nat}{s r:Nat}(m:Mid ps s r):r<=all ps s:=(m.le _ (jmz ps s) (jnt ps s)).le
theorem Step.lt{ps:List Nat}{F:Nat->Nat}(f:Step ps F){r:Nat}(h:F r≠r):r<F r:=Nat.lt_of_le_of_ne (f.up r).le (Ne.symm h)
theorem walk{ps:List Nat}{s:Nat}{F:Nat->Nat}(f:Step ps F){P:Nat->Prop}(h1:∀r,Mid ps s r->F r=r->P r)(h2:∀r,Mid ps s r->F r≠r->P (F r)->P r):∀(n r:Nat),Mid ps s r->all ps s - r<n->P r
 | 0,r,_,h=>absurd h (Nat.not_lt_zero _)
 | n+1,r,m,h=>by
  by_cases e:F r=r
  ·exact h1 r m e
  ·have:=f.lt e
   have:=(m.step f).bnd
   exact h2 r m e (walk f h1 h2 n (F r) (m.step f) (by omega))
def pass(ps:List Nat)(r:Nat):Nat:=ps.foldl (λr p=>if p&&&r≠0 then r|||p else r) r
theorem jk4:∀(ps:List Nat) (r:Nat),sub r (pass ps r)
 | [],r=>sub.refl _
 | p::ps,r=>by
  show sub r (pass ps (if p&&&r≠0 then r|||p else r))
  refine sub.trans ?_ (jk4 ps _)
  split
  ·exact jd9 _ _
  ·exact sub.refl _
theorem jr0:∀(ps:List Nat) (r t:Nat),closed ps t->sub r t->sub (pass ps r) t
 | [],r,t,_,h=>h
 | p::ps,r,t,c,h=>by
  show sub (pass ps (if p&&&r≠0 then r|||p else r)) t
  refine jr0 ps _ t (λq m=>c q (List.mem_cons_of_mem _ m)) ?_
  split
  ·rename_i n
   exact jlo h (c p List.mem_cons_self (h.and_ne n))
  ·exact h
theorem jr5:∀(ps:List Nat) (r:Nat),pass ps r=r->closed ps r
 | [],r,_=>λp m=>by cases m
 | p::ps,r,e=>by
  have e':pass ps (if p&&&r≠0 then r|||p else r)=r:=e
  have u:=jk4 ps (if p&&&r≠0 then r|||p else r)
  rw[e'] at u
  have k:(if p&&&r≠0 then r|||p else r)=r:=by
   by_cases n:p&&&r≠0
   ·rw[if_pos n] at u ⊢;exact sub.antisymm u (jd9 _ _)
   ·rw[if_neg n]
  rw[k] at e'
  intro q m n
  rcases List.mem_cons.mp m with rfl | m
  ·rw[if_pos n] at u;exact(jfr _ _).trans u
  ·exact jr5 ps r e' q m n
theorem jdd(ps:List Nat):Step ps (pass ps):=⟨jk4 ps,jr0 ps,jr5 ps⟩
def ji6(s:Nat)(ps:List Nat)(f:Nat):Nat:=ps.foldl (λf p=>if s&&&p≠0 then f|||p else f) f
theorem jje(s:Nat):∀(ps:List Nat) (f:Nat),sub f (ji6 s ps f)
 | [],f=>sub.refl _
 | p::ps,f=>by
  show sub f (ji6 s ps (if s&&&p≠0 then f|||p else f))
  refine sub.trans ?_ (jje s ps _)
  split
  ·exact jd9 _ _
  ·exact sub.refl _
theorem jkg(s:Nat):∀(ps:List Nat) (f p:Nat),p∈ps->s&&&p≠0->sub p (ji6 s ps f)
 | q::ps,f,p,m,n=>by
  show sub p (ji6 s ps (if s&&&q≠0 then f|||q else f))
  rcases List.mem_cons.mp m with rfl | m
  ·rw[if_pos n];exact(jfr _ _).trans (jje s ps _)
  ·exact jkg s ps _ p m n
theorem jn7(s t:Nat)(hs:sub s t):∀(ps:List Nat) (f:Nat),closed ps t->sub f t->sub (ji6 s ps f) t
 | [],f,_,h=>h
 | p::ps,f,c,h=>by
  show sub (ji6 s ps (if s&&&p≠0 then f|||p else f)) t
  refine jn7 s t hs ps _ (λq m=>c q (List.mem_cons_of_mem _ m)) ?_
  split
  ·rename_i n
   exact jlo h (c p List.mem_cons_self (hs.and_ne (by rw[Nat.and_comm];exact n)))
  ·exact h
def near(ps:List Nat)(s:Nat):Nat:=ji6 s ps s
theorem jhr(ps:List Nat):Step ps (near ps):=⟨λr=>jje r ps r,λr t c h=>jn7 r t h ps r c h,λr e p m n=>by
 have:=jkg r ps r p m (by rw[Nat.and_comm];exact n)
 rw[show ji6 r ps r=r from e] at this;exact this⟩
theorem ex(ps:List Nat)(s:Nat):∃r,Is ps s r:=walk (P:=λr=>Mid ps s r->∃r,Is ps s r) (jdd ps) (λr _ e m=>⟨r,m.fin (jdd ps) e⟩) (λr m _ h _=>h (m.step (jdd ps))) _ s (Mid.start ps s) (Nat.lt_succ_self _) (Mid.start ps s)
def clo(ps:List Nat)(s:Nat):Nat:=(ex ps s).choose
theorem is(ps:List Nat)(s:Nat):Is ps s (clo ps s):=(ex ps s).choose_spec
theorem Is.eq{ps:List Nat}{s r:Nat}(h:Is ps s r):r=clo ps s:=h.uniq (is ps s)
end Clo
namespace Z
open PySem
theorem band(a b:Nat):Builtin.bitAnd (a:Int) b=((a&&&b:Nat):Int):=by simp[Builtin.bitAnd]
theorem bor(a b:Nat):Builtin.bitOr (a:Int) b=((a|||b:Nat):Int):=by
 rw[PyProof.Rows.bitOr_and,band]
 have:=PyProof.Rows.nat_or_add_and a b
 omega
theorem jhc(a b:Nat):Builtin.bitAnd (a:Int) (Builtin.bitNot b)=((a - (a&&&b):Nat):Int):=by
 rw[PyProof.Rows.bitAnd_not,band]
 have:a&&&b<=a:=Nat.and_le_left
 omega
theorem jhh(a b:Nat):a - (a&&&b)=a^^^(a&&&b):=by
 have h:(a^^^(a&&&b))+(a&&&b)=a:=by
  have h1:=PyProof.Rows.nat_or_add_and (a^^^(a&&&b)) (a&&&b)
  have h2:(a^^^(a&&&b))&&&(a&&&b)=0:=Nat.eq_of_testBit_eq λi=>by
   simp only[Nat.testBit_and,Nat.testBit_xor,Nat.zero_testBit]
   cases a.testBit i<;>cases b.testBit i<;>rfl
  have h3:(a^^^(a&&&b))|||(a&&&b)=a:=Nat.eq_of_testBit_eq λi=>by
   simp only[Nat.testBit_or,Nat.testBit_and,Nat.testBit_xor]
   cases a.testBit i<;>cases b.testBit i<;>rfl
  omega
 omega
theorem jbz(a b i:Nat):(a - (a&&&b)).testBit i=(a.testBit i&& !b.testBit i):=by
 rw[jhh,Nat.testBit_xor,Nat.testBit_and]
 cases a.testBit i<;>cases b.testBit i<;>rfl
theorem bitk(a k:Nat):Builtin.bitAnd ((a:Int) / 2^((k:Int)).toNat) 1=if a.testBit k then 1 else 0:=by
 have e:((a:Int) / 2^((k:Int)).toNat)=((a / 2^k:Nat):Int):=by simp
 rw[e,show(1:Int)=((1:Nat):Int) from rfl,band,Nat.and_one_is_mod,Nat.testBit_eq_decide_div_mod_eq]
 by_cases q:a / 2^k % 2=1
 ·simp[q]
 ·have:a / 2^k % 2=0:=by omega
  simp[this]
theorem ne0(a:Nat):((a:Int)!=0)=decide (a≠0):=by
 cases a with
 | zero=>rfl
 | succ n=>simp;omega
theorem okp{b:Nat}(h:b<=100):jm0 1 (b:Int):=⟨by omega,by omega,by decide⟩
theorem jak(a i:Nat):(2^a).testBit i=decide (a=i):=by rw[Nat.testBit_two_pow]
theorem jou(x a:Nat):(x&&&2^a≠0)↔x.testBit a=true:=by
 rw[Clo.and_ne]
 constructor
 ·rintro⟨i,h1,h2⟩
  rw[jak] at h2
  have:a=i:=by simpa using h2
  subst this;exact h1
 ·intro h
  exact⟨a,h,by rw[jak];simp⟩
end Z
namespace My
open Z
def jj5:List String:=["Feed","Earth"]
def jgi:List String:=["Breaker","Splitter"]
def jdm:List String:=["Breaker","Splitter"]
def jaz:List String:=["Net"]
def jg6:List String:=["Bundle"]
def jfa:List String:=["Bundle"]
def jct:List String:=["Bundle"]
def jdj:List String:=["Bundle"]
def jed:List String:=["Bundle"]
def jbn:List String:=["Bundle"]
def jcb:List String:=["Bundle"]
def b_Qp:Z.MS:=(sSeq (sIf (tB (mBin dLt (mVar 1) (mFn fLen (ja2 (mVar 0) mNil))))
      (sRet (mBin dIx (mVar 0) (mVar 1)))
      jbq)
      (sRet (mC (.int 0))))
def z_Qp:Z.MF:=mFun 2 2 b_Qp
def b_Qc:Z.MS:=(sSeq (sAsg (mBin dMod (mVar 0) (mC (.int 8))) (ja8 2))
      (sSeq (sAsg (mBin dMod (mBin dDiv (mVar 0) (mC (.int 8))) (mVar 1)) (ja8 3))
      (sSeq (sIf (tOr (tB (mBin dLt (mVar 2) (mC (.int 2)))) (tAnd (tB (mBin dEq (mVar 1) (mC (.int 1)))) (tB (mBin dLt (mVar 2) (mC (.int 6))))))
      (sRet (mTup (ja2 (mC (.str "feed")) (ja2 (mVar 3) mNil))))
      jbq)
      (sSeq (sIf (tOr (tB (mBin dEq (mVar 2) (mC (.int 2)))) (tB (mBin dEq (mVar 1) (mC (.int 1)))))
      (sRet (mTup (ja2 (mC (.str "earth")) (ja2 (mVar 3) mNil))))
      jbq)
      (sSeq (sAsg (mBin dMod (mBin dAdd (mBin dAdd (mVar 3) (mC (.int 1))) (mBin dMod (mBin dDiv (mBin dDiv (mVar 0) (mC (.int 8))) (mVar 1)) (mBin dSub (mVar 1) (mC (.int 1))))) (mVar 1)) (ja8 4))
      (sRet (mTup (ja2 (mBin dIx (jcx (jds (ja2 (mC (.str "breaker")) (ja2 (mC (.str "splitter")) mNil)))) (mBin dMod (mVar 2) (mC (.int 2)))) (ja2 (mVar 3) (ja2 (mVar 4) mNil))))))))))
def z_Qc:Z.MF:=mFun 2 5 b_Qc
def jc2:Z.MS:=(jeq (mVar 4) (mTup (ja2 (mBin dIx (mVar 3) (mVar 5)) (ja2 (mBin dMod (mBin dAdd (mBin dIx (mVar 6) (mC (.int 0))) (mVar 2)) (mC (.int 8))) (ja2 (mBin dMod (mBin dAdd (mBin dIx (mVar 6) (mC (.int 1))) (mVar 2)) (mC (.int 8))) mNil)))))
def b_Qi:Z.MS:=(sSeq (sAsg (mBin dMod (mVar 0) (mC (.int 8))) (ja8 2))
      (sSeq (sAsg (jcx (jgw 1 [0] (jjf (ja2 (mC (.int 9)) mNil)) (ja8 0) tYes (mBin dIx (jcx (jds (ja2 (mC (.str "breaker")) (ja2 (mC (.str "splitter")) mNil)))) (mBin dMod (mBin dDiv (mBin dDiv (mVar 1) (mC (.int 216))) (mBin dShl (mC (.int 1)) (mVar 0))) (mC (.int 2)))))) (ja8 3))
      (sSeq (sAsg (jgs (jds (ja2 (mTup (ja2 (mC (.str "feed")) (ja2 (mVar 2) mNil))) (ja2 (mTup (ja2 (mC (.str "feed")) (ja2 (mVar 2) mNil))) mNil)))) (ja8 4))
      (sSeq (sFor (jiq (ja2 (jcx (jds (ja2 (mTup (ja2 (mC (.int 0)) (ja2 (mC (.int 1)) mNil))) (ja2 (mTup (ja2 (mC (.int 1)) (ja2 (mC (.int 2)) mNil))) (ja2 (mTup (ja2 (mC (.int 2)) (ja2 (mC (.int 7)) mNil))) (ja2 (mTup (ja2 (mC (.int 0)) (ja2 (mC (.int 3)) mNil))) (ja2 (mTup (ja2 (mC (.int 3)) (ja2 (mC (.int 4)) mNil))) (ja2 (mTup (ja2 (mC (.int 4)) (ja2 (mC (.int 2)) mNil))) (ja2 (mTup (ja2 (mC (.int 1)) (ja2 (mC (.int 5)) mNil))) (ja2 (mTup (ja2 (mC (.int 5)) (ja2 (mC (.int 6)) mNil))) (ja2 (mTup (ja2 (mC (.int 6)) (ja2 (mC (.int 7)) mNil))) mNil))))))))))) mNil)) (gTup [5,6])
      jc2)
      (sSeq (sAsg (mBin dMod (mBin dDiv (mVar 0) (mC (.int 8))) (mC (.int 11))) (ja8 7))
      (jdg 4 (sRet (mBin dAdd (mBin dAdd (mSl (mVar 4) (oSo (mVar 7)) oNo) (mSl (mVar 4) oNo (oSo (mVar 7)))) (jcx (jds (ja2 (jbb z_Qc (ja2 (mVar 1) (ja2 (mC (.int 8)) mNil))) mNil)))))))))))
def z_Qi:Z.MF:=mFun 2 8 b_Qi
def b_Qn:Z.MS:=(sSeq (sAsg (jbb z_Qp (ja2 (mVar 0) (ja2 (mC (.int 0)) mNil))) (ja8 1))
      (sSeq (sIf (tB (mBin dEq (mBin dMod (mVar 1) (mC (.int 3))) (mC (.int 2))))
      (sRet (mTup (ja2 (mC (.int 8)) (ja2 (jbb z_Qi (ja2 (mBin dDiv (mVar 1) (mC (.int 3))) (ja2 (jbb z_Qp (ja2 (mVar 0) (ja2 (mC (.int 2)) mNil))) mNil))) mNil))))
      jbq)
      (sSeq (sAsg (mBin dDiv (mVar 1) (mC (.int 3))) (ja8 1))
      (sSeq (sAsg (mBin dAdd (mC (.int 2)) (mBin dMod (mVar 1) (mC (.int 4)))) (ja8 2))
      (sSeq (sIf (tB (mBin dEq (mBin dMod (mBin dDiv (mVar 1) (mC (.int 4))) (mC (.int 4))) (mC (.int 1))))
      (sAsg (mBin dAdd (mC (.int 1)) (mBin dMod (mBin dDiv (mVar 1) (mC (.int 16))) (mC (.int 10)))) (ja8 2))
      jbq)
      (sRet (mTup (ja2 (mVar 2) (ja2 (jcx (jgw 1 [2] (lIt (mSl (mVar 0) (oSo (mC (.int 2))) (oSo (mC (.int 14))))) (ja8 0) tYes (jbb z_Qc (ja2 (mVar 0) (ja2 (mVar 1) mNil))))) mNil)))))))))
def z_Qn:Z.MF:=mFun 1 3 b_Qn
def b_Q4:Z.MS:=(sSeq (sAsg (mBin dSub (mBin dShl (mC (.int 1)) (mVar 1)) (mC (.int 1))) (ja8 2))
      (sSeq (sIf (tB (mBin dEq (mBin dMod (mVar 0) (mC (.int 4))) (mC (.int 0))))
      (sRet (mBin dMod (mBin dDiv (mVar 0) (mC (.int 4))) (mBin dShl (mC (.int 1)) (mVar 1))))
      jbq)
      (sSeq (sIf (tAnd (tB (mBin dEq (mBin dMod (mVar 0) (mC (.int 4))) (mC (.int 1)))) (tB (mBin dGt (mVar 1) (mC (.int 0)))))
      (sRet (mBin dAnd (mVar 2) (mUn dInv (mBin dShl (mC (.int 1)) (mBin dMod (mBin dDiv (mVar 0) (mC (.int 4))) (mVar 1))))))
      jbq)
      (sRet (mVar 2)))))
def z_Q4:Z.MF:=mFun 2 3 b_Q4
def jil:Z.MS:=(sIf (tAnd (tB (mBin dEq (mBin dAnd (mBin dShr (mVar 1) (mVar 3)) (mC (.int 1))) (mC (.int 1)))) (tB (mBin dEq (mBin dIx (mVar 4) (mC (.int 0))) (mC (.str "feed")))))
      (sAsg (mBin dOr (mVar 2) (mBin dShl (mC (.int 1)) (mBin dIx (mVar 4) (mC (.int 1))))) (ja8 2))
      jbq)
def jig:Z.MS:=(sIf (tAnd (tB (mBin dEq (mBin dAnd (mBin dShr (mVar 1) (mVar 3)) (mC (.int 1))) (mC (.int 1)))) (tB (mBin dEq (mFn fLen (ja2 (mVar 4) mNil)) (mC (.int 3)))))
      (sSeq (sAsg (mBin dOr (mBin dShl (mC (.int 1)) (mBin dIx (mVar 4) (mC (.int 1)))) (mBin dShl (mC (.int 1)) (mBin dIx (mVar 4) (mC (.int 2))))) (ja8 6))
      (sIf (tAnd (tB (mBin dNe (mBin dAnd (mVar 2) (mVar 6)) (mC (.int 0)))) (tB (mBin dNe (mBin dAnd (mVar 2) (mVar 6)) (mVar 6))))
      (sSeq (sAsg (mBin dOr (mVar 2) (mVar 6)) (ja8 2))
      (sAsg (mC (.bl true)) (ja8 5)))
      jbq))
      jbq)
def jih:Z.MS:=(sSeq (sAsg (mC (.bl false)) (ja8 5))
      (sFor (jiq (ja2 (mBin dIx (mVar 0) (mC (.int 1))) mNil)) (gTup [3,4])
      jig))
def b_Qv:Z.MS:=(sSeq (sAsg (mC (.int 0)) (ja8 2))
      (sSeq (sFor (jiq (ja2 (mBin dIx (mVar 0) (mC (.int 1))) mNil)) (gTup [3,4])
      jil)
      (sSeq (sAsg (mC (.bl true)) (ja8 5))
      (sSeq (jb7 (tTru (mVar 5))
      jih)
      (sRet (mVar 2))))))
def z_Qv:Z.MF:=mFun 2 7 b_Qv
def jaq:Z.MS:=(sIf (tAnd (tB (mBin dEq (mBin dAnd (mBin dShr (mVar 1) (mVar 3)) (mC (.int 1))) (mC (.int 1)))) (tB (mBin dEq (mBin dAnd (mBin dShr (jbb z_Qv (ja2 (mVar 0) (ja2 (mBin dAnd (mVar 1) (mUn dInv (mBin dShl (mC (.int 1)) (mVar 3)))) mNil))) (mVar 2)) (mC (.int 1))) (mC (.int 0)))))
      (sRet (mC (.bl true)))
      jbq)
def b_Qu:Z.MS:=(sSeq (sIf (tB (mBin dEq (mBin dAnd (mBin dShr (jbb z_Qv (ja2 (mVar 0) (ja2 (mVar 1) mNil))) (mVar 2)) (mC (.int 1))) (mC (.int 0))))
      (sRet (mC (.bl true)))
      jbq)
      (sSeq (sFor (jjf (ja2 (mFn fLen (ja2 (mBin dIx (mVar 0) (mC (.int 1))) mNil)) mNil)) (ja8 3)
      jaq)
      (sRet (mC (.bl false)))))
def z_Qu:Z.MF:=mFun 3 4 b_Qu
def b_Qt:Z.MS:=(sRet (mAnd (mFn fIsi (ja2 (mVar 0) (ja2 (mC (.ty "int")) mNil))) (mNotV (mFn fIsi (ja2 (mVar 0) (ja2 (mC (.ty "bool")) mNil))))))
def z_Qt:Z.MF:=mFun 1 1 b_Qt
def jd5:Z.MS:=(sSeq (sIf (tOr (tNot (tTru (jbb z_Qt (ja2 (mBin dIx (mVar 2) (mVar 4)) mNil)))) (tOr (tB (mBin dLt (mBin dIx (mVar 2) (mVar 4)) (mC (.int 0)))) (tB (mBin dEq (mBin dAnd (mBin dShr (mVar 1) (mBin dIx (mVar 2) (mVar 4))) (mC (.int 1))) (mC (.int 0))))))
      (sRet (mC (.bl false)))
      jbq)
      (sIf (tOr (tB (mBin (dIn false) (mBin dIx (mVar 2) (mVar 4)) (mSl (mVar 2) oNo (oSo (mVar 4))))) (tB (mBin dNe (mBin dEq (mBin dIx (mBin dIx (mBin dIx (mVar 0) (mC (.int 1))) (mBin dIx (mVar 2) (mVar 4))) (mC (.int 0))) (mC (.str "feed"))) (mBin dEq (mVar 4) (mC (.int 0))))))
      (sRet (mC (.bl false)))
      jbq))
def jc3:Z.MS:=(sSeq (sAsg (mBin dIx (mBin dIx (mVar 0) (mC (.int 1))) (mVar 6)) (ja8 7))
      (sSeq (sIf (tOr (tB (mBin dNe (mFn fLen (ja2 (mVar 7) mNil)) (mC (.int 3)))) (tB (mBin (dIn true) (mVar 5) (mSl (mVar 7) (oSo (mC (.int 1))) oNo))))
      (sRet (mC (.bl false)))
      jbq)
      (sAsg (mBin dSub (mBin dAdd (mBin dIx (mVar 7) (mC (.int 1))) (mBin dIx (mVar 7) (mC (.int 2)))) (mVar 5)) (ja8 5))))
def b_Qy:Z.MS:=(sSeq (sIf (tOr (tNot (tTru (mFn fIsi (ja2 (mVar 2) (ja2 (mC (.ty "list")) mNil))))) (tB (mBin dEq (mVar 2) (jcx (jds mNil)))))
      (sRet (mC (.bl false)))
      jbq)
      (sSeq (sFor (jjf (ja2 (mFn fLen (ja2 (mVar 2) mNil)) mNil)) (ja8 4)
      jd5)
      (sSeq (sAsg (mBin dIx (mBin dIx (mBin dIx (mVar 0) (mC (.int 1))) (mBin dIx (mVar 2) (mC (.int 0)))) (mC (.int 1))) (ja8 5))
      (sSeq (sFor (lIt (mSl (mVar 2) (oSo (mC (.int 1))) oNo)) (ja8 6)
      jc3)
      (sRet (mBin dEq (mVar 5) (mVar 3)))))))
def z_Qy:Z.MF:=mFun 4 8 b_Qy
def b_X1:Z.MS:=(sSeq (sIf (tOr (tNot (tTru (mFn fIsi (ja2 (mVar 3) (ja2 (mC (.ty "tuple")) mNil))))) (tOr (tB (mBin dNe (mFn fLen (ja2 (mVar 3) mNil)) (mC (.int 3)))) (tB (mBin dNe (mBin dIx (mVar 3) (mC (.int 0))) (mC (.str "two"))))))
      (sRet (mC (.bl false)))
      jbq)
      (sSeq (sIf (tOr (tNot (tTru (jbb z_Qy (ja2 (mVar 0) (ja2 (mVar 1) (ja2 (mBin dIx (mVar 3) (mC (.int 1))) (ja2 (mVar 2) mNil))))))) (tNot (tTru (jbb z_Qy (ja2 (mVar 0) (ja2 (mVar 1) (ja2 (mBin dIx (mVar 3) (mC (.int 2))) (ja2 (mVar 2) mNil))))))))
      (sRet (mC (.bl false)))
      jbq)
      (sRet (mBin dEq (jcx (jgw 1 [3] (lIt (mBin dIx (mVar 3) (mC (.int 1)))) (ja8 0) (tB (mBin (dIn false) (mVar 0) (mBin dIx (mVar 1) (mC (.int 2))))) (mVar 0))) (jcx (jds mNil))))))
def z_X1:Z.MF:=mFun 4 4 b_X1
def jud:Z.MS:=(sRet (mBin dEq (mBin dAnd (mBin dShr (mVar 0) (mVar 1)) (mC (.int 1))) (mC (.int 1))))
def jio:Z.MF:=mFun 2 2 jud
def b_Qx:Z.MS:=(sRet (jcx (jgw 1 [0] (jjf (ja2 (mBits (mVar 0)) mNil)) (ja8 0) (tTru (jbb jio (ja2 (mVar 1) (ja2 (mVar 0) mNil)))) (mVar 0))))
def z_Qx:Z.MF:=mFun 1 1 b_Qx
def b_Q6:Z.MS:=(sSeq (jfi jgi "one" (mVar 0) (mVar 1))
      (jfi jdm "other" (mVar 0) (mVar 2)))
def z_Q6:Z.MF:=mFun 3 3 b_Q6
def b_Qa:Z.MS:=(jfi jj5 "bar" (mVar 0) (mVar 1))
def z_Qa:Z.MF:=mFun 2 2 b_Qa
def b_Qh:Z.MS:=(jfi jj5 "bar" (mVar 0) (mVar 1))
def z_Qh:Z.MF:=mFun 2 2 b_Qh
def b_Q3:Z.MS:=(sSeq (jfi jgi "one" (mVar 0) (mVar 1))
      (jfi jdm "other" (mVar 0) (mVar 2)))
def z_Q3:Z.MF:=mFun 3 3 b_Q3
def b_Qz:Z.MS:=(sSeq (sAsg (mBin dIx (mVar 0) (mC (.int 0))) (ja8 1))
      (sSeq (sIf (tB (mBin dEq (mVar 1) (mC (.str "feed"))))
      (sRet (jek "Feed" z_Qh (ja2 (mBin dIx (mVar 0) (mC (.int 1))) mNil)))
      jbq)
      (sSeq (sIf (tB (mBin dEq (mVar 1) (mC (.str "earth"))))
      (sRet (jek "Earth" z_Qa (ja2 (mBin dIx (mVar 0) (mC (.int 1))) mNil)))
      jbq)
      (sSeq (sIf (tB (mBin dEq (mVar 1) (mC (.str "breaker"))))
      (sRet (jek "Breaker" z_Q6 (ja2 (mBin dIx (mVar 0) (mC (.int 1))) (ja2 (mBin dIx (mVar 0) (mC (.int 2))) mNil))))
      jbq)
      (sRet (jek "Splitter" z_Q3 (ja2 (mBin dIx (mVar 0) (mC (.int 1))) (ja2 (mBin dIx (mVar 0) (mC (.int 2))) mNil))))))))
def z_Qz:Z.MF:=mFun 1 2 b_Qz
def b_Qo:Z.MS:=(jfi jaz "switches" (mVar 0) (jcx (jgw 1 [] (lIt (mBin dIx (mVar 1) (mC (.int 1)))) (ja8 0) tYes (jbb z_Qz (ja2 (mVar 0) mNil)))))
def z_Qo:Z.MF:=mFun 2 2 b_Qo
def b_Qr:Z.MS:=(sRet (mC (.int 0)))
def z_Qr:Z.MF:=mFun 1 1 b_Qr
def b_Qw:Z.MS:=(sRet (mBin dShl (mC (.int 1)) (mFld jj5 "bar" (mVar 0))))
def z_Qw:Z.MF:=mFun 1 1 b_Qw
def b_Qq:Z.MS:=(sRet (mC (.int 0)))
def z_Qq:Z.MF:=mFun 1 1 b_Qq
def b_Qf:Z.MS:=(sRet (mBin dOr (mBin dShl (mC (.int 1)) (mFld jgi "one" (mVar 0))) (mBin dShl (mC (.int 1)) (mFld jdm "other" (mVar 0)))))
def z_Qf:Z.MF:=mFun 1 1 b_Qf
def b_Qb:Z.MS:=(sRet (mBin dOr (mBin dShl (mC (.int 1)) (mFld jgi "one" (mVar 0))) (mBin dShl (mC (.int 1)) (mFld jdm "other" (mVar 0)))))
def z_Qb:Z.MF:=mFun 1 1 b_Qb
def jcq:List (String×Z.MF):=[("Switch",z_Qr),("Feed",z_Qw),("Earth",z_Qr),("Breaker",z_Qr),("Splitter",z_Qr)]
def jbt:List (String×Z.MF):=[("Switch",z_Qq),("Feed",z_Qq),("Earth",z_Qq),("Breaker",z_Qf),("Splitter",z_Qb)]
def b_Qd:Z.MS:=(sSeq (sIf (tTru (jat jcq "feeds" (mVar 1) mNil))
      (sRet (mBin dOr (jat jcq "feeds" (mVar 1) mNil) (mFld jed "power" (mVar 0))))
      jbq)
      (sRet (jat jbt "joins" (mVar 1) mNil)))
def z_Qd:Z.MF:=mFun 2 2 b_Qd
def je1:List (String×Z.MF):=[("Bundle",z_Qd)]
def b_Q8:Z.MS:=(sSeq (jfi jg6 "yard" (mVar 0) (mVar 1))
      (sSeq (jfi jfa "net" (mVar 0) (jek "Net" z_Qo (ja2 (mVar 1) mNil)))
      (sSeq (jfi jct "common" (mVar 0) (mVar 3))
      (sSeq (jfi jdj "place" (mVar 0) (mVar 4))
      (sSeq (jfi jed "power" (mVar 0) (mBin dShl (mC (.int 1)) (mBin dIx (mVar 1) (mC (.int 0)))))
      (sSeq (jfi jbn "pairs" (mVar 0) jif)
      (sSeq (jfi jcb "goals" (mVar 0) jif)
      (sFor (lIt (jbb z_Qx (ja2 (mBin dAnd (mVar 2) (mUn dInv (mVar 3))) mNil))) (ja8 5)
      (jhx (mFld jbn "pairs" (mVar 0)) (mVar 5) (jat je1 "pair_of" (mVar 0) (ja2 (mBin dIx (mFld jaz "switches" (mFld jfa "net" (mVar 0))) (mVar 5)) mNil)))))))))))
def z_Q8:Z.MF:=mFun 5 6 b_Q8
def b_Qk:Z.MS:=(sRet (jcx (jgw 2 [1] (jiq (ja2 (mFld jaz "switches" (mVar 0)) mNil)) (gTup [0,1]) (tTru (jbb jio (ja2 (mVar 2) (ja2 (mVar 0) mNil)))) (mVar 1))))
def z_Qk:Z.MF:=mFun 2 2 b_Qk
def jbr:List (String×Z.MF):=[("Net",z_Qk)]
def b_Q7:Z.MS:=(sSeq (sAsg (jcx (jgw 1 [] (lIt (jat jbr "shut_ones" (mVar 0) (ja2 (mVar 1) mNil))) (ja8 0) tYes (jat jbt "joins" (mVar 0) mNil))) (ja8 3))
      (sSeq (sAsg (mVar 2) (ja8 4))
      (sSeq (sAsg (mC .non) (ja8 5))
      (sSeq (jb7 (tB (mBin dNe (mVar 4) (mVar 5)))
      (sSeq (sAsg (mVar 4) (ja8 5))
      (sFor (lIt (mVar 3)) (ja8 6)
      (sIf (tTru (mBin dAnd (mVar 6) (mVar 4)))
      (sAsg (mBin dOr (mVar 4) (mVar 6)) (ja8 4))
      jbq))))
      (sRet (mVar 4))))))
def z_Q7:Z.MF:=mFun 3 7 b_Q7
def jca:List (String×Z.MF):=[("Net",z_Q7)]
def b_Qg:Z.MS:=(sSeq (sAsg (mC (.int 0)) (ja8 2))
      (sSeq (sFor (lIt (jat jbr "shut_ones" (mVar 0) (ja2 (mVar 1) mNil))) (ja8 3)
      (sAsg (mBin dOr (mVar 2) (jat jcq "feeds" (mVar 3) mNil)) (ja8 2)))
      (sRet (jat jca "joined_bars" (mVar 0) (ja2 (mVar 1) (ja2 (mVar 2) mNil))))))
def z_Qg:Z.MF:=mFun 2 4 b_Qg
def b_Q0:Z.MS:=(sRet (jat jca "joined_bars" (mFld jfa "net" (mVar 0)) (ja2 (mFld jct "common" (mVar 0)) (ja2 (mVar 1) mNil))))
def z_Q0:Z.MF:=mFun 2 2 b_Q0
def jbe:List (String×Z.MF):=[("Bundle",z_Q0)]
def jb6:Z.MS:=(sIf (tTru (mBin dAnd (jat jbe "joined_in_common" (mVar 0) (ja2 (mBin dIx (mVar 4) (mC (.int 1))) mNil)) (mVar 3)))
      (sSeq (jeq (mVar 2) (mVar 4))
      (sAsg (mBin dAnd (mBin dIx (mFld jbn "pairs" (mVar 0)) (mBin dIx (mVar 4) (mC (.int 0)))) (mUn dInv (mBin dIx (mVar 4) (mC (.int 1))))) (ja8 3)))
      jbq)
def b_Qj:Z.MS:=(sSeq (sAsg (jgs (jds mNil)) (ja8 2))
      (sSeq (sAsg (mFld jdj "place" (mVar 0)) (ja8 3))
      (sSeq (sFor (lRev (ja2 (mVar 1) mNil)) (ja8 4)
      jb6)
      (jdg 2 (sRet (jcx (jh3 (ja2 (mVar 2) mNil))))))))
def z_Qj:Z.MF:=mFun 2 5 b_Qj
def jay:Z.MS:=(sSeq (sAsg (mBin dAnd (mBin dIx (mFld jbn "pairs" (mVar 0)) (mVar 5)) (mUn dInv (mVar 3))) (ja8 6))
      (sIf (tAnd (tTru (mVar 6)) (tTru (mBin dAnd (mBin dIx (mVar 1) (mVar 5)) (mVar 3))))
      (sSeq (jeq (mVar 2) (mTup (ja2 (mVar 5) (ja2 (mVar 6) mNil))))
      (sAsg (mBin dOr (mVar 3) (jat jbe "joined_in_common" (mVar 0) (ja2 (mVar 6) mNil))) (ja8 3)))
      jbq))
def b_Q9:Z.MS:=(sSeq (sAsg (jgs (jds mNil)) (ja8 2))
      (sSeq (sAsg (mFld jed "power" (mVar 0)) (ja8 3))
      (sSeq (sAsg (mC .non) (ja8 4))
      (sSeq (jb7 (tAnd (tB (mBin dNe (mVar 3) (mVar 4))) (tNot (tTru (mBin dAnd (mVar 3) (mFld jdj "place" (mVar 0))))))
      (sSeq (sAsg (mVar 3) (ja8 4))
      (jvl (mVar 1) (ja8 5)
      jay)))
      (jdg 2 (sRet (mVar 2)))))))
def z_Q9:Z.MF:=mFun 2 7 b_Q9
def jev:List (String×Z.MF):=[("Bundle",z_Qj)]
def jco:List (String×Z.MF):=[("Bundle",z_Q9)]
def b_Q1:Z.MS:=(sSeq (sAsg jif (ja8 1))
      (sSeq (jv0 (mFld jcb "goals" (mVar 0)) (gTup [2,3])
      (jhx (mVar 1) (mVar 2) (mBin dAnd (mBin dIx (mFld jbn "pairs" (mVar 0)) (mVar 2)) (mUn dInv (mVar 3)))))
      (sRet (jat jev "row_in" (mVar 0) (ja2 (jat jco "steps_by" (mVar 0) (ja2 (mVar 1) mNil)) mNil)))))
def z_Q1:Z.MF:=mFun 1 4 b_Q1
def b_Ql:Z.MS:=(sSeq (sAsg (jgs (jds mNil)) (ja8 3))
      (sSeq (jb7 (tNot (tTru (mBin dAnd (mVar 2) (mVar 1))))
      (sSeq (sAsg (mBin dIx (mVar 0) (mVar 2)) (ja8 4))
      (sSeq (jeq (mVar 3) (mBin dIx (mVar 4) (mC (.int 0))))
      (sAsg (mBin dIx (mVar 4) (mC (.int 1))) (ja8 2)))))
      (jdg 3 (sRet (jgs (jh3 (ja2 (mVar 3) mNil)))))))
def z_Ql:Z.MF:=mFun 3 5 b_Ql
def jin:Z.MS:=(sSeq (sAsg (jat jbt "joins" (mVar 6) mNil) (ja8 7))
      (sIf (tAnd (tTru (jbb jio (ja2 (mVar 1) (ja2 (mVar 5) mNil)))) (tAnd (tTru (mBin dAnd (mVar 7) (mVar 2))) (tTru (mBin dAnd (mVar 7) (mUn dInv (mVar 3))))))
      (jhx (mVar 4) (mBin dAnd (mVar 7) (mUn dInv (mVar 3))) (mTup (ja2 (mVar 5) (ja2 (mBin dAnd (mVar 7) (mVar 2)) mNil))))
      jbq))
def b_Qs:Z.MS:=(sSeq (sAsg jif (ja8 4))
      (sSeq (sFor (jiq (ja2 (mFld jaz "switches" (mVar 0)) mNil)) (gTup [5,6])
      jin)
      (sRet (mVar 4))))
def z_Qs:Z.MF:=mFun 4 8 b_Qs
def b_X5:Z.MS:=(sRet (mBin dAnd (mVar 0) (mUn dNeg (mVar 0))))
def z_X5:Z.MF:=mFun 1 1 b_X5
def jux:Z.MS:=(sSeq (sAsg (jbb z_Qs (ja2 (mVar 4) (ja2 (mVar 1) (ja2 (mVar 7) (ja2 (mVar 6) mNil))))) (ja8 8))
      (sSeq (jgv (mUpd (mVar 5) (ja2 (mVar 8) mNil)))
      (sSeq (sAsg (mFn js1 (ja2 (mVar 8) mNil)) (ja8 7))
      (sAsg (mBin dOr (mVar 6) (mVar 7)) (ja8 6)))))
def jju:Z.MS:=(sSeq (sAsg (jek "Net" z_Qo (ja2 (mVar 0) mNil)) (ja8 4))
      (sSeq (sAsg jif (ja8 5))
      (sSeq (sAsg (mVar 2) (ja8 6))
      (sSeq (sAsg (mVar 2) (ja8 7))
      (sSeq (jb7 (tAnd (tTru (mVar 7)) (tNot (tTru (mBin dAnd (mVar 7) (mVar 3)))))
      jux)
      (sSeq (sIf (tNot (tTru (mVar 7)))
      (sRet (mC .non))
      jbq)
      (sRet (jbb z_Ql (ja2 (mVar 5) (ja2 (mVar 2) (ja2 (jbb z_X5 (ja2 (mBin dAnd (mVar 7) (mVar 3)) mNil)) mNil)))))))))))
def jji:Z.MF:=mFun 4 9 jju
def jbp:Z.MS:=(sSeq (jjm (mVar 2) (jbb jji (ja2 (mFld jg6 "yard" (mVar 0)) (ja2 (mFld jct "common" (mVar 0)) (ja2 (mVar 3) (ja2 (mBin dAnd (mBin dIx (mFld jbn "pairs" (mVar 0)) (mBin dIx (mVar 4) (mC (.int 0)))) (mUn dInv (mBin dIx (mVar 4) (mC (.int 1))))) mNil))))))
      (sSeq (jeq (mVar 2) (mBin dIx (mVar 4) (mC (.int 0))))
      (sAsg (mBin dIx (mVar 4) (mC (.int 1))) (ja8 3))))
def b_Qe:Z.MS:=(sSeq (sAsg (jgs (jds mNil)) (ja8 2))
      (sSeq (sAsg (mFld jed "power" (mVar 0)) (ja8 3))
      (sSeq (sFor (lIt (mVar 1)) (ja8 4)
      jbp)
      (sSeq (jjm (mVar 2) (jbb jji (ja2 (mFld jg6 "yard" (mVar 0)) (ja2 (mFld jct "common" (mVar 0)) (ja2 (mVar 3) (ja2 (mFld jdj "place" (mVar 0)) mNil))))))
      (jdg 2 (sRet (mVar 2)))))))
def z_Qe:Z.MF:=mFun 2 5 b_Qe
def jc0:List (String×Z.MF):=[("Bundle",z_Q1)]
def jhj:List (String×Z.MF):=[("Bundle",z_Qe)]
def jbo:Z.MS:=(sSeq (jeq (mVar 1) (jat jhj "way_by" (mVar 0) (ja2 (mVar 2) mNil)))
      (sSeq (sFor (lIt (mVar 2)) (ja8 3)
      (jgv (jlr (mFld jcb "goals" (mVar 0)) (mBin dIx (mVar 3) (mC (.int 0))))))
      (sAsg (jat jc0 "row_of_a_way" (mVar 0) mNil) (ja8 2))))
def b_Q5:Z.MS:=(sSeq (sAsg (jgs (jds mNil)) (ja8 1))
      (sSeq (sAsg (jat jc0 "row_of_a_way" (mVar 0) mNil) (ja8 2))
      (sSeq (jb7 (tTru (mVar 2))
      jbo)
      (sRet (mVar 1)))))
def z_Q5:Z.MF:=mFun 1 4 b_Q5
def b_Q2:Z.MS:=(sSeq (sAsg (ju6 (ja2 (mFld jbn "pairs" (mVar 0)) mNil)) (ja8 1))
      (sSeq (jgv (mUpd (mVar 1) (ja2 (mFld jcb "goals" (mVar 0)) mNil)))
      (sRet (jat jco "steps_by" (mVar 0) (ja2 (mVar 1) mNil)))))
def z_Q2:Z.MF:=mFun 1 2 b_Q2
def jd8:List (String×Z.MF):=[("Bundle",z_Q2)]
def jbv:Z.MS:=(sIf (tB (mBin (dIn false) (mBin dIx (mVar 2) (mC (.int 0))) (mFld jcb "goals" (mVar 0))))
      (jgv (jlr (mFld jcb "goals" (mVar 0)) (mBin dIx (mVar 2) (mC (.int 0)))))
      (jhx (mFld jcb "goals" (mVar 0)) (mBin dIx (mVar 2) (mC (.int 0))) (mBin dIx (mVar 2) (mC (.int 1)))))
def b_Qm:Z.MS:=(sSeq (sAsg (jat jev "row_in" (mVar 0) (ja2 (jat jd8 "steps_left" (mVar 0) mNil) mNil)) (ja8 1))
      (sSeq (sFor (lIt (mVar 1)) (ja8 2)
      jbv)
      (sRet (mBin dGt (mFn fLen (ja2 (mVar 1) mNil)) (mC (.int 0))))))
def z_Qm:Z.MF:=mFun 1 3 b_Qm
def jch:List (String×Z.MF):=[("Net",z_Qg)]
def jes:List (String×Z.MF):=[("Bundle",z_Q5)]
def jfo:List (String×Z.MF):=[("Bundle",z_Qm)]
def b_X3:Z.MS:=(sSeq (sAsg (jek "Net" z_Qo (ja2 (mVar 0) mNil)) (ja8 3))
      (sSeq (sIf (tB (mBin (dIn true) (mVar 2) (jbb z_Qx (ja2 (jat jch "live_bars" (mVar 3) (ja2 (mVar 1) mNil)) mNil))))
      (sRet (mC .non))
      jbq)
      (sSeq (sAsg (mBin dShl (mC (.int 1)) (mVar 2)) (ja8 4))
      (sSeq (sAsg (jcx (jgw 1 [4,3,1] (lIt (jbb z_Qx (ja2 (mVar 1) mNil))) (ja8 0) (tNot (tTru (mBin dAnd (jat jch "live_bars" (mVar 2) (ja2 (mBin dAnd (mVar 3) (mUn dInv (mBin dShl (mC (.int 1)) (mVar 0)))) mNil)) (mVar 1)))) (mVar 0))) (ja8 5))
      (sSeq (sIf (tTru (mVar 5))
      (sRet (mTup (ja2 (mC (.str "on")) (ja2 (mVar 5) mNil))))
      jbq)
      (sSeq (sAsg (jqi "Bundle" z_Q8 (ja2 (mVar 0) (ja2 (mVar 1) (ja2 (mC (.int 0)) (ja2 (mVar 4) mNil))))) (ja8 6))
      (sSeq (jgv (jat jfo "widen" (mVar 6) mNil))
      (sSeq (jgv (jat jfo "widen" (mVar 6) mNil))
      (sSeq (sAsg (jat jes "take_ways" (mVar 6) mNil) (ja8 7))
      (sRet (mTup (ja2 (mC (.str "two")) (ja2 (mBin dIx (mVar 7) (mC (.int 0))) (ja2 (mBin dIx (mVar 7) (mC (.int 1))) mNil))))))))))))))
def z_X3:Z.MF:=mFun 3 8 b_X3
def jjv:Z.MS:=(sSeq (sAsg (jbb z_Q4 (ja2 (mBin dDiv (mVar 2) (mC (.int 16))) (ja2 (mFn fLen (ja2 (mBin dIx (mVar 1) (mC (.int 1))) mNil)) mNil))) (ja8 3))
      (sSeq (sAsg (mBin dMod (mBin dMod (mVar 2) (mC (.int 16))) (mBin dIx (mVar 1) (mC (.int 0)))) (ja8 4))
      (sIf (tNot (tTru (jbb z_Qu (ja2 (mVar 1) (ja2 (mVar 3) (ja2 (mVar 4) mNil))))))
      (sIf (tNot (tTru (jbb z_X1 (ja2 (mVar 1) (ja2 (mVar 3) (ja2 (mVar 4) (ja2 (jbb z_X3 (ja2 (mTup (ja2 (mBin dIx (mVar 1) (mC (.int 0))) (ja2 (jcx (lList (ja2 (mBin dIx (mVar 1) (mC (.int 1))) mNil))) mNil))) (ja2 (mVar 3) (ja2 (mVar 4) mNil)))) mNil)))))))
      (sRet (mC (.bl false)))
      jbq)
      jbq)))
def jr7:Z.MS:=(sSeq (sAsg (jbb z_Qn (ja2 (mVar 0) mNil)) (ja8 1))
      (sSeq (sFor (lIt (mBin dAdd (jcx (jds (ja2 (jbb z_Qp (ja2 (mVar 0) (ja2 (mC (.int 1)) mNil))) mNil))) (mSl (mVar 0) (oSo (mC (.int 12))) (oSo (mC (.int 63)))))) (ja8 2)
      jjv)
      (sRet (mC (.bl true)))))
def z_law:Z.MF:=mFun 1 5 jr7
end My
namespace My
open Z PySem
inductive Sw where
 | feed (b:Nat) | earth (b:Nat) | breaker (a b:Nat) | splitter (a b:Nat)
def Sw.d:Sw->D
 | .feed b=> .tup [.str "feed",.int b]
 | .earth b=> .tup [.str "earth",.int b]
 | .breaker a b=> .tup [.str "breaker",.int a,.int b]
 | .splitter a b=> .tup [.str "splitter",.int a,.int b]
def Sw.o:Sw->D
 | .feed b=> .obj "Feed" [("bar",.int b)]
 | .earth b=> .obj "Earth" [("bar",.int b)]
 | .breaker a b=> .obj "Breaker" [("one",.int a),("other",.int b)]
 | .splitter a b=> .obj "Splitter" [("one",.int a),("other",.int b)]
def Sw.pair:Sw->Nat
 | .breaker a b=>2^a|||2^b
 | .splitter a b=>2^a|||2^b
 | _=>0
def Sw.fed:Sw->Nat
 | .feed b=>2^b
 | _=>0
def Sw.led:Sw->Nat
 | .earth b=>2^b
 | _=>0
def Sw.ok(n:Nat):Sw->Prop
 | .feed b=>b<n
 | .earth b=>b<n
 | .breaker a b=>a<n /\ b<n /\ a≠b
 | .splitter a b=>a<n /\ b<n /\ a≠b
theorem k_fe:¬(Str.ofString "earth"=Str.ofString "feed"):=by decide+kernel
theorem k_bf:¬(Str.ofString "breaker"=Str.ofString "feed"):=by decide+kernel
theorem k_be:¬(Str.ofString "breaker"=Str.ofString "earth"):=by decide+kernel
theorem k_sf:¬(Str.ofString "splitter"=Str.ofString "feed"):=by decide+kernel
theorem k_se:¬(Str.ofString "splitter"=Str.ofString "earth"):=by decide+kernel
theorem k_sb:¬(Str.ofString "splitter"=Str.ofString "breaker"):=by decide+kernel
theorem k_oo:¬(Str.ofString "one"=Str.ofString "other"):=by decide+kernel
theorem k_oo':(Str.ofString "other"==Str.ofString "one")=false:=by decide+kernel
theorem jty{α:Type}(h:List α)(a:α):(h++[a])[h.length]?=some a:=by simp
theorem jtf{α:Type}(h:List α)(a b:α):(h++[a]).set h.length b=h++[b]:=by simp
theorem jr3(s:Sw)(h:MH)(hb:h.all (Cell.bnd h.length)=true):z_Qz [s.d] h= .ok s.o h:=by
 have hb':∀x∈h,Cell.bnd h.length x=true:=by simpa using hb
 cases s<;>simp[z_Qz,b_Qz,Sw.d,Sw.o,z_Qh,b_Qh,z_Qa,b_Qa,z_Q6,b_Q6,z_Q3,b_Q3,k_fe,k_bf,k_be,k_sf,k_se,k_sb,k_oo,jj5,jgi,jdm,putF,D.bnd,D.bndf]<;>rw[if_neg (by omega),if_pos hb']
theorem jcv{α:Type}{g:MG}{t:MT}{m:ME}{ρ0:Ro}{h:MH}(e:α->D)(r:α->Ro)(tt:α->Bool)(f:α->D):∀(as:List α),(∀a∈as,g (e a) ρ0 h= .nx (r a) h /\ t (r a) h= .ok (tt a) h /\ m (r a) h= .ok (f a) h)->compLoop g t m ρ0 (as.map e) h= .ok ((as.filter tt).map f) h
 | [],_=>rfl
 | a::as,q=>by
  obtain⟨h1,h2,h3⟩:=q a (List.mem_cons_self ..)
  have ih:=jcv e r tt f as λb hb=>q b (List.mem_cons_of_mem _ hb)
  rw[List.map_cons]
  unfold compLoop
  rw[h1]
  cases y:tt a with
  | true=>simp only[h2,y,h3,ih,List.filter_cons,if_true,List.map_cons]
  | false=>simp only[h2,y,ih,List.filter_cons,if_false,Bool.false_eq_true]
def yd(n:Nat)(sws:List Sw):D:= .tup [.int n,.lst (sws.map Sw.d)]
def netO(sws:List Sw):D:= .obj "Net" [("switches",.lst (sws.map Sw.o))]
def Hb(h:MH):Prop:=∀n,h.length<=n->h.all (Cell.bnd n)=true
theorem Hb.nil:Hb []:=λ_ _=>rfl
theorem Hb.snoc{h:MH}{c:Option Cell}(a:Hb h)(b:∀n,h.length<n->Cell.bnd n c=true):Hb (h++[c]):=λn hn=>by
 simp only[List.length_append,List.length_cons,List.length_nil,List.all_append,List.all_cons,List.all_nil,Bool.and_true,Bool.and_eq_true] at hn ⊢
 exact⟨a n (by omega),b n (by omega)⟩
theorem js0(n:Nat)(sws:List Sw)(h:MH)(hl:sws.length<=12)(hb:Hb h):z_Qo [.ref h.length,yd n sws] (h++[some (.ins "Net" [])])= .ok .non (h++[some (.ins "Net" [("switches",.lst (sws.map Sw.o))])]):=by
 have hb2:Hb (h++[some (.ins "Net" [])]):=hb.snoc λn _=>by simp[Cell.bnd,D.bnds]
 have comp:compLoop (ja8 0) tYes (jbb z_Qz (ja2 (mVar 0) mNil)) [none] (sws.map Sw.d) (h++[some (.ins "Net" [])])= .ok (sws.map Sw.o) (h++[some (.ins "Net" [])]):=
  jcj (g:=ja8 0) (t:=tYes) (m:=jbb z_Qz (ja2 (mVar 0) mNil)) (ρ0:=[none]) Sw.d (λs=>[some s.d]) Sw.o sws (λs _=>by
   refine⟨by simp,by simp,?_⟩
   have:=jr3 s _ (hb2 _ (Nat.le_refl _))
   simp[this])
 simp[-List.map_map,z_Qo,b_Qo,yd,comp,jaz,putF,show sws.length<16777216 by omega]
theorem jh1{m:ME}{ρ:Ro}{h:MH}(n:Nat)(sws:List Sw)(hl:sws.length<=12)(hb:Hb h)(e:m ρ h= .ok (yd n sws) h):jek "Net" z_Qo (ja2 m mNil) ρ h= .ok (netO sws) (h++[none]):=by
 have:=js0 n sws h hl hb
 simp[e,this,netO]
def jel(st:Nat)(sws:List Sw):List (Sw×Nat):=sws.zipIdx.filter λp=>st.testBit p.2
theorem jh6(sws:List Sw)(f:Sw->D):jgp (sws.map f)=sws.zipIdx.map λp=> .tup [.int (p.2:Int),f p.1]:=by
 unfold jgp
 rw[List.mapIdx_eq_zipIdx_map,List.zipIdx_map,List.map_map]
 rfl
theorem jq1(st k:Nat)(h:MH):jio [.int st,.int k] h= .ok (.bl (st.testBit k)) h:=by
 have:=bitk st k
 cases q:st.testBit k<;>simp[q] at this<;>simp[jio,jud,this]
theorem jkx(sws:List Sw)(st:Nat)(h:MH)(hl:sws.length<=12):z_Qk [netO sws,.int st] h= .ok (.lst ((jel st sws).map λp=>p.1.o)) h:=by
 have comp:compLoop (gTup [0,1]) (tTru (jbb jio (ja2 (mVar 2) (ja2 (mVar 0) mNil)))) (mVar 1) [none,none,some (.int st)] (jgp (sws.map Sw.o)) h= .ok ((jel st sws).map λp=>p.1.o) h:=by
  rw[jh6]
  refine jcv (λp:Sw×Nat=> .tup [.int (p.2:Int),p.1.o]) (λp=>[some (.int p.2),some p.1.o,some (.int st)]) (λp=>st.testBit p.2) (λp=>p.1.o) sws.zipIdx λp _=> ?_
  have:=jq1 st p.2 h
  refine⟨by simp,?_,by simp⟩
  simp[this]
 have h2:(jgp (sws.map Sw.o)).length=sws.length:=by simp[jgp]
 simp[-List.map_map,z_Qk,b_Qk,netO,comp,jaz,h2,show sws.length<16777216 by omega]
theorem k_j1:(Str.ofString "joins"==Str.ofString "bar")=false:=by decide+kernel
theorem k_j2:(Str.ofString "joins"==Str.ofString "one")=false:=by decide+kernel
theorem k_j3:(Str.ofString "joins"==Str.ofString "other")=false:=by decide+kernel
theorem jw7(s:Sw){n:Nat}(hn:n<=10)(ok:s.ok n)(h:MH):jat jbt "joins" (mVar 0) mNil [some s.o] h= .ok (.int s.pair) h:=by
 cases s with
 | feed b=>simp[Sw.o,jbt,k_j1,z_Qq,b_Qq,Sw.pair,List.lookup]
 | earth b=>simp[Sw.o,jbt,k_j1,z_Qq,b_Qq,Sw.pair,List.lookup]
 | breaker a b=>
  obtain⟨h1,h2,_⟩:=ok
  have:=bor (2^a) (2^b)
  simp[Sw.o,jbt,k_j2,k_j3,k_oo',z_Qf,b_Qf,Sw.pair,List.lookup,jgi,jdm,okp (show a<=100 by omega),okp (show b<=100 by omega)] at this ⊢
  exact this
 | splitter a b=>
  obtain⟨h1,h2,_⟩:=ok
  have:=bor (2^a) (2^b)
  simp[Sw.o,jbt,k_j2,k_j3,k_oo',z_Qb,b_Qb,Sw.pair,List.lookup,jgi,jdm,okp (show a<=100 by omega),okp (show b<=100 by omega)] at this ⊢
  exact this
def jal(st:Nat)(sws:List Sw):List Nat:=(jel st sws).map λp=>p.1.pair
def cB:MT:=(tB (mBin dNe (mVar 4) (mVar 5)))
def fB:MS:=(sIf (tTru (mBin dAnd (mVar 6) (mVar 4))) (sAsg (mBin dOr (mVar 4) (mVar 6)) (ja8 4)) jbq)
theorem jls(a b c d e:Option D)(h:MH):∀(ps:List Nat) (r:Nat) (x:Option D),∃x',jb1 (ja8 6) fB (ps.map λp:Nat=>D.int p) [a,b,c,d,some (.int r),e,x] h= .nx [a,b,c,d,some (.int (Clo.pass ps r:Nat)),e,x'] h
 | [],r,x=>⟨x,rfl⟩
 | p::ps,r,x=>by
  obtain⟨x',ih⟩:=jls a b c d e h ps (if p&&&r≠0 then r|||p else r) (some (.int p))
  refine⟨x',?_⟩
  rw[List.map_cons]
  unfold jb1
  have e1:=band p r
  have e2:=bor r p
  have e3:=ne0 (p&&&r)
  by_cases q:p&&&r≠0
  ·rw[if_pos q] at ih
   have:Clo.pass (p::ps) r=Clo.pass ps (r|||p):=by show Clo.pass ps (if p&&&r≠0 then r|||p else r)=_;rw[if_pos q]
   rw[this]
   have fb:fB [a,b,c,d,some (.int r),e,some (.int p)] h= .nx [a,b,c,d,some (.int (r|||p:Nat)),e,some (.int p)] h:=by
    simp[fB,e1,e2,e3,q]
   simp[fb]
   exact ih
  ·rw[if_neg q] at ih
   have:Clo.pass (p::ps) r=Clo.pass ps r:=by show Clo.pass ps (if p&&&r≠0 then r|||p else r)=_;rw[if_neg q]
   rw[this]
   have q':p&&&r=0:=by simpa using q
   have fb:fB [a,b,c,d,some (.int r),e,some (.int p)] h= .nx [a,b,c,d,some (.int r),e,some (.int p)] h:=by
    simp[fB,e1,e3,q']
   simp[fb]
   exact ih
def wB:MS:=(sSeq (sAsg (mVar 4) (ja8 5)) (sFor (lIt (mVar 3)) (ja8 6) fB))
theorem wB_ok(a b c:Option D)(ps:List Nat)(h:MH)(r:Nat)(y x:Option D):∃x',wB [a,b,c,some (.lst (ps.map λp:Nat=>D.int p)),some (.int r),y,x] h= .nx [a,b,c,some (.lst (ps.map λp:Nat=>D.int p)),some (.int (Clo.pass ps r:Nat)),some (.int r),x'] h:=by
 obtain⟨x',e⟩:=jls a b c (some (.lst (ps.map λp:Nat=>D.int p))) (some (.int r)) h ps r x
 exact⟨x',by simp[wB,e]⟩
theorem jss(a b c:Option D)(ps:List Nat)(s:Nat)(h:MH)(y:Option D)(hy:y=some .non)(x:Option D):∃x',jb7 cB wB [a,b,c,some (.lst (ps.map λp:Nat=>D.int p)),some (.int s),y,x] h= .nx [a,b,c,some (.lst (ps.map λp:Nat=>D.int p)),some (.int (Clo.clo ps s:Nat)),some (.int (Clo.clo ps s:Nat)),x'] h:=by
 have W:∀x,∃x',jb7 cB wB [a,b,c,some (.lst (ps.map λp:Nat=>D.int p)),some (.int (Clo.pass ps s:Nat)),some (.int s),x] h= .nx [a,b,c,some (.lst (ps.map λp:Nat=>D.int p)),some (.int (Clo.clo ps s:Nat)),some (.int (Clo.clo ps s:Nat)),x'] h:=by
  refine Clo.walk (P:=λr=>∀x,∃x',jb7 cB wB [a,b,c,some (.lst (ps.map λp:Nat=>D.int p)),some (.int (Clo.pass ps r:Nat)),some (.int r),x] h= .nx [a,b,c,some (.lst (ps.map λp:Nat=>D.int p)),some (.int (Clo.clo ps s:Nat)),some (.int (Clo.clo ps s:Nat)),x'] h) (Clo.jdd ps) ?_ ?_ _ s (Clo.Mid.start ps s) (Nat.lt_succ_self _)
  ·intro r m e x
   have er:=(m.fin (Clo.jdd ps) e).eq
   refine⟨x,?_⟩
   rw[e,<-er]
   exact jd6 (by simp[cB])
  ·intro r m ne ih x
   obtain⟨x1,e1⟩:=wB_ok a b c ps h (Clo.pass ps r) (some (.int r)) x
   obtain⟨x2,e2⟩:=ih x1
   exact⟨x2,by rw[jdp (h1:=h) (by simp[cB];omega) e1,e2]⟩
 obtain⟨x1,e1⟩:=wB_ok a b c ps h s y x
 obtain⟨x2,e2⟩:=W x1
 exact⟨x2,by rw[jdp (h1:=h) (by subst hy;simp[cB,D.dat,D.py,D.deep,D.eq]) e1,e2]⟩
def jbi(n:Nat)(sws:List Sw):Prop:=1<=n /\ n<=10 /\ sws.length<=12 /\ ∀s∈sws,s.ok n
theorem jjd{st:Nat}{sws:List Sw}{p:Sw×Nat}(h:p∈jel st sws):p.1∈sws:=by
 unfold jel at h
 have:=(List.mem_filter.mp h).1
 exact(List.mem_zipIdx this).2.2▸List.getElem_mem _
theorem k_jb:(Str.ofString "joined_bars"==Str.ofString "switches")=false:=by decide+kernel
theorem k_so:(Str.ofString "shut_ones"==Str.ofString "switches")=false:=by decide+kernel
theorem jrs(st:Nat)(sws:List Sw):(jel st sws).length<=sws.length:=by
 unfold jel
 exact Nat.le_trans (List.length_filter_le _ _) (by simp)
theorem jm5(ok:jbi n sws)(st s:Nat)(h:MH):z_Q7 [netO sws,.int st,.int s] h= .ok (.int (Clo.clo (jal st sws) s:Nat)) h:=by
 obtain⟨h1,h2,h3,h4⟩:=ok
 have e1:=jkx sws st h h3
 have comp:compLoop (ja8 0) tYes (jat jbt "joins" (mVar 0) mNil) [none] ((jel st sws).map λp=>p.1.o) h= .ok ((jal st sws).map λp:Nat=>D.int p) h:=by
  unfold jal
  rw[List.map_map]
  exact jcj (g:=ja8 0) (t:=tYes) (m:=jat jbt "joins" (mVar 0) mNil) (ρ0:=[none]) (λp:Sw×Nat=>p.1.o) (λp=>[some p.1.o]) (λp=> .int (p.1.pair:Nat)) (jel st sws) λp hp=>⟨by simp,by simp,jw7 p.1 h2 (h4 _ (jjd hp)) h⟩
 obtain⟨x',ew⟩:=jss (some (netO sws)) (some (.int st)) (some (.int s)) (jal st sws) s h (some .non) rfl none
 have hl:=jrs st sws
 have a1:jat jbr "shut_ones" (mVar 0) (ja2 (mVar 1) mNil) [some (netO sws),some (.int st),some (.int s),none,none,none,none] h= .ok (.lst ((jel st sws).map λp=>p.1.o)) h:=by
  simp only[netO] at e1
  simp[-List.map_map,netO,jbr,List.lookup,k_so,e1]
 have eb:b_Q7=sSeq (sAsg (jcx (jgw 1 [] (lIt (jat jbr "shut_ones" (mVar 0) (ja2 (mVar 1) mNil))) (ja8 0) tYes (jat jbt "joins" (mVar 0) mNil))) (ja8 3)) (sSeq (sAsg (mVar 2) (ja8 4)) (sSeq (sAsg (mC .non) (ja8 5)) (sSeq (jb7 cB wB) (sRet (mVar 4))))):=rfl
 simp[-List.map_map, -jat,z_Q7,eb,a1,comp,ew,show(jel st sws).length<16777216 by omega]
theorem k_f1:(Str.ofString "feeds"==Str.ofString "bar")=false:=by decide+kernel
theorem k_f2:(Str.ofString "feeds"==Str.ofString "one")=false:=by decide+kernel
theorem k_f3:(Str.ofString "feeds"==Str.ofString "other")=false:=by decide+kernel
theorem feeds(s:Sw){n:Nat}(hn:n<=10)(ok:s.ok n){m:ME}{ρ:Ro}{h:MH}(e:m ρ h= .ok s.o h):jat jcq "feeds" m mNil ρ h= .ok (.int s.fed) h:=by
 cases s with
 | feed b=>
  have:b<n:=ok
  simp[e,Sw.o,jcq,k_f1,z_Qw,b_Qw,Sw.fed,List.lookup,jj5,okp (show b<=100 by omega)]
 | earth b=>simp[e,Sw.o,jcq,k_f1,z_Qr,b_Qr,Sw.fed,List.lookup]
 | breaker a b=>simp[e,Sw.o,jcq,k_f2,k_f3,z_Qr,b_Qr,Sw.fed,List.lookup]
 | splitter a b=>simp[e,Sw.o,jcq,k_f2,k_f3,z_Qr,b_Qr,Sw.fed,List.lookup]
def jfg(st:Nat)(sws:List Sw):Nat:=Clo.all ((jel st sws).map λp=>p.1.fed) 0
def jci(st:Nat)(sws:List Sw):Nat:=Clo.clo (jal st sws) (jfg st sws)
theorem jri{J:ME}(val:Sw->Nat){n:Nat}(a b:Option D)(h:MH)(hJ:∀s:Sw,s.ok n->∀f:Nat,J [a,b,some (.int f),some s.o] h= .ok (.int (val s)) h):∀(ps:List (Sw×Nat)) (f:Nat) (x:Option D),(∀p∈ps,p.1.ok n)->
  ∃x',jb1 (ja8 3) (sAsg (mBin dOr (mVar 2) J) (ja8 2)) (ps.map λp=>p.1.o) [a,b,some (.int f),x] h= .nx [a,b,some (.int (Clo.all (ps.map λp=>val p.1) f:Nat)),x'] h
 | [],f,x,_=>⟨x,rfl⟩
 | p::ps,f,x,hp=>by
  obtain⟨x',ih⟩:=jri val a b h hJ ps (f|||val p.1) (some p.1.o) λq m=>hp q (List.mem_cons_of_mem _ m)
  refine⟨x',?_⟩
  have e1:=hJ p.1 (hp p (List.mem_cons_self ..)) f
  have e2:=bor f (val p.1)
  rw[List.map_cons,List.map_cons]
  unfold jb1
  simp[-List.map_map,e1,e2]
  exact ih
theorem jug(sws:List Sw)(st:Nat)(h:MH)(hl:sws.length<=12){m l:ME}{ρ:Ro}(e1:m ρ h= .ok (netO sws) h)(e2:l ρ h= .ok (.int st) h):jat jbr "shut_ones" m (ja2 l mNil) ρ h= .ok (.lst ((jel st sws).map λp=>p.1.o)) h:=by
 have:=jkx sws st h hl
 unfold netO at e1 this
 simp[-List.map_map,e1,e2,jbr,List.lookup,k_so,this]
theorem jl9(ok:jbi n sws)(st s:Nat)(h:MH){m l k:ME}{ρ:Ro}(e1:m ρ h= .ok (netO sws) h)(e2:l ρ h= .ok (.int st) h)(e3:k ρ h= .ok (.int s) h):jat jca "joined_bars" m (ja2 l (ja2 k mNil)) ρ h= .ok (.int (Clo.clo (jal st sws) s:Nat)) h:=by
 have:=jm5 ok st s h
 unfold netO at e1 this
 simp[-List.map_map,e1,e2,e3,jca,List.lookup,k_jb,this]
theorem jrh(ok:jbi n sws)(st:Nat)(h:MH):z_Qg [netO sws,.int st] h= .ok (.int (jci st sws:Nat)) h:=by
 obtain⟨x',e⟩:=jri (J:=jat jcq "feeds" (mVar 3) mNil) Sw.fed (n:=n) (some (netO sws)) (some (.int st)) h (λs hs f=>feeds s ok.2.1 hs (by simp)) (jel st sws) 0 none λp hp=>ok.2.2.2 _ (jjd hp)
 have e1:=jug sws st h ok.2.2.1 (m:=mVar 0) (l:=mVar 1) (ρ:=[some (netO sws),some (.int st),some (.int 0),none]) (by simp) (by simp)
 have e2:=jl9 ok st (jfg st sws) h (m:=mVar 0) (l:=mVar 1) (k:=mVar 2) (ρ:=[some (netO sws),some (.int st),some (.int (jfg st sws:Nat)),x']) (by simp) (by simp) (by simp)
 have f0:Clo.all ((jel st sws).map λp=>p.1.fed) 0=jfg st sws:=rfl
 rw[f0] at e
 simp at e
 simp[-List.map_map, -jat,z_Qg,b_Qg,e1,e,e2,jci]
theorem k_lb:(Str.ofString "live_bars"==Str.ofString "switches")=false:=by decide+kernel
theorem jrc(ok:jbi n sws)(st:Nat)(h:MH){m l:ME}{ρ:Ro}{h0:MH}(e1:m ρ h0= .ok (netO sws) h)(e2:l ρ h= .ok (.int st) h):jat jch "live_bars" m (ja2 l mNil) ρ h0= .ok (.int (jci st sws:Nat)) h:=by
 have:=jrh ok st h
 unfold netO at e1 this
 simp[-List.map_map,e1,e2,jch,List.lookup,k_lb,this]
theorem jg4{α:Type}{xs:List α}{k:Nat}{x:α}(e:xs[k]?=some x):atI xs (k:Int)=some x:=by
 obtain⟨hk,e'⟩:=List.getElem?_eq_some_iff.mp e
 simp[atI,ixN,hk,e']
theorem jhe{g:MG}{b:MS}{h:MH}(I:Ro->Prop):∀(ds:List D) (ρ:Ro),I ρ->(∀d∈ds,∀ρ,I ρ->∃ρ1,g d ρ h= .nx ρ1 h /\ ∃ρ2,b ρ1 h= .nx ρ2 h /\ I ρ2)->∃ρ',I ρ' /\ jb1 g b ds ρ h= .nx ρ' h
 | [],ρ,i,_=>⟨ρ,i,rfl⟩
 | d::ds,ρ,i,q=>by
  obtain⟨ρ1,e1,ρ2,e2,i2⟩:=q d (List.mem_cons_self ..) ρ i
  obtain⟨ρ',i',e'⟩:=jhe I ds ρ2 i2 λd m=>q d (List.mem_cons_of_mem _ m)
  refine⟨ρ',i',?_⟩
  unfold jb1
  simp only[e1,e2,e']
theorem jho{sws:List Sw}{p:Sw×Nat}(h:p∈sws.zipIdx):sws[p.2]?=some p.1:=by
 have:=List.mem_zipIdx h
 obtain⟨_,h2,h3⟩:=this
 rw[List.getElem?_eq_getElem (by omega),h3]
 simp
theorem jmo{sws:List Sw}{p:Sw×Nat}(h:p∈sws.zipIdx):p.1∈sws:=List.mem_of_getElem? (jho h)
theorem jhy{st k:Nat}{sws:List Sw}{w:Sw}(hw:sws[k]?=some w)(hb:st.testBit k=true):w.pair∈jal st sws:=by
 unfold jal jel
 refine List.mem_map.mpr ⟨(w,k),List.mem_filter.mpr ⟨?_,hb⟩,rfl⟩
 exact List.mk_mem_zipIdx_iff_getElem?.mpr hw
theorem jf2{st p:Nat}{sws:List Sw}(h:p∈jal st sws):∃k w,sws[k]?=some w /\ st.testBit k=true /\ w.pair=p:=by
 obtain⟨q,hq,rfl⟩:=List.mem_map.mp h
 obtain⟨h1,h2⟩:=List.mem_filter.mp hq
 exact⟨q.2,q.1,jho h1,h2,rfl⟩
theorem jhl{n:Nat}{w:Sw}(ok:w.ok n):w.pair<2^n:=by
 cases w with
 | feed b=>exact Nat.two_pow_pos n
 | earth b=>exact Nat.two_pow_pos n
 | breaker a b=>exact Nat.or_lt_two_pow (Nat.pow_lt_pow_right (by decide) ok.1) (Nat.pow_lt_pow_right (by decide) ok.2.1)
 | splitter a b=>exact Nat.or_lt_two_pow (Nat.pow_lt_pow_right (by decide) ok.1) (Nat.pow_lt_pow_right (by decide) ok.2.1)
theorem jqu{n:Nat}:∀(ps:List Nat) (s:Nat),(∀p∈ps,p<2^n)->s<2^n->Clo.all ps s<2^n
 | [],s,_,h=>h
 | p::ps,s,hp,h=>jqu ps (s|||p) (λq m=>hp q (List.mem_cons_of_mem _ m)) (Nat.or_lt_two_pow h (hp p List.mem_cons_self))
theorem clo_lt(ok:jbi n sws)(st:Nat){s:Nat}(hs:s<2^n):Clo.clo (jal st sws) s<2^n:=by
 have i:=Clo.is (jal st sws) s
 refine Nat.lt_of_le_of_lt (Clo.Mid.bnd (ps:=jal st sws) (s:=s) ⟨i.ge,i.le⟩) (jqu _ _ (λp hp=> ?_) hs)
 obtain⟨k,w,h1,_,rfl⟩:=jf2 hp
 exact jhl (ok.2.2.2 w (List.mem_of_getElem? h1))
theorem jl8(s i:Nat):∀(ps:List Nat) (f:Nat),(Clo.ji6 s ps f).testBit i=true↔(f.testBit i=true \/ ∃p∈ps,s&&&p≠0 /\ p.testBit i=true)
 | [],f=>by simp[Clo.ji6]
 | p::ps,f=>by
  show(Clo.ji6 s ps (if s&&&p≠0 then f|||p else f)).testBit i=true↔_
  rw[jl8 s i ps]
  by_cases q:s&&&p≠0
  ·rw[if_pos q,Nat.testBit_or,Bool.or_eq_true]
   constructor
   ·rintro((h | h) | ⟨r,m,h1,h2⟩)
    ·exact .inl h
    ·exact .inr ⟨p,List.mem_cons_self ..,q,h⟩
    ·exact .inr ⟨r,List.mem_cons_of_mem _ m,h1,h2⟩
   ·rintro(h | ⟨r,m,h1,h2⟩)
    ·exact .inl (.inl h)
    ·rcases List.mem_cons.mp m with rfl | m
     ·exact .inl (.inr h2)
     ·exact .inr ⟨r,m,h1,h2⟩
  ·rw[if_neg q]
   constructor
   ·rintro(h | ⟨r,m,h1,h2⟩)
    ·exact .inl h
    ·exact .inr ⟨r,List.mem_cons_of_mem _ m,h1,h2⟩
   ·rintro(h | ⟨r,m,h1,h2⟩)
    ·exact .inl h
    ·rcases List.mem_cons.mp m with rfl | m
     ·exact absurd h1 q
     ·exact .inr ⟨r,m,h1,h2⟩
theorem jf1{ps:List Nat}{s i:Nat}:(Clo.near ps s).testBit i=true↔(s.testBit i=true \/ ∃p∈ps,s&&&p≠0 /\ p.testBit i=true):=jl8 s i ps s
def Rn(ps:List Nat)(s:Nat):Nat->Nat
 | 0=>s
 | j+1=>Clo.near ps (Rn ps s j)
def Fn(ps:List Nat)(s:Nat):Nat->Nat
 | 0=>s
 | j+1=>Rn ps s (j+1) - (Rn ps s (j+1)&&&Rn ps s j)
theorem jf7{ps:List Nat}{s j i:Nat}:(Fn ps s (j+1)).testBit i=true↔((Rn ps s (j+1)).testBit i=true /\ (Rn ps s j).testBit i=false):=by
 show(Rn ps s (j+1) - (Rn ps s (j+1)&&&Rn ps s j)).testBit i=true↔_
 rw[jbz,Bool.and_eq_true,Bool.not_eq_true']
theorem jur{ps:List Nat}{s j:Nat}:Clo.sub (Rn ps s j) (Rn ps s (j+1)):=λi h=>jf1.mpr (.inl h)
theorem js5{ps:List Nat}{s:Nat}:∀{j k:Nat},j<=k->Clo.sub (Rn ps s j) (Rn ps s k)
 | j,0,h=>by
  have:j=0:=by omega
  subst this;exact Clo.sub.refl _
 | j,k+1,h=>by
  by_cases e:j=k+1
  ·subst e;exact Clo.sub.refl _
  ·exact(js5 (show j<=k by omega)).trans jur
theorem jn9{ps:List Nat}{s:Nat}:∀{j:Nat},Clo.sub (Fn ps s j) (Rn ps s j)
 | 0=>Clo.sub.refl _
 | j+1=>λi h=>(jf7.mp h).1
theorem jpm{ps:List Nat}{s j i:Nat}:(Fn ps s (j+1)).testBit i=true↔((Rn ps s j).testBit i=false /\ ∃p∈ps,p&&&Fn ps s j≠0 /\ p.testBit i=true):=by
 rw[jf7]
 constructor
 ·rintro⟨h1,h2⟩
  refine⟨h2,?_⟩
  rcases jf1.mp h1 with h | ⟨p,m,q1,q2⟩
  ·rw[h] at h2;cases h2
  ·refine⟨p,m,?_,q2⟩
   obtain⟨c,c1,c2⟩:=Clo.and_ne.mp q1
   by_cases hf:(Fn ps s j).testBit c=true
   ·exact Clo.and_ne.mpr ⟨c,c2,hf⟩
   ·exfalso
    cases j with
    | zero=>exact hf c1
    | succ j=>
     have hc:(Rn ps s j).testBit c=true:=by
      cases x:(Rn ps s j).testBit c with
      | true=>rfl
      | false=>exact absurd (jf7.mpr ⟨c1,x⟩) hf
     have:(Rn ps s (j+1)).testBit i=true:=jf1.mpr (.inr ⟨p,m,Clo.and_ne.mpr ⟨c,hc,c2⟩,q2⟩)
     rw[this] at h2;cases h2
 ·rintro⟨h1,p,m,q1,q2⟩
  refine⟨jf1.mpr (.inr ⟨p,m,?_,q2⟩),h1⟩
  rw[Nat.and_comm]
  exact jn9.and_ne q1
theorem Rn_or{ps:List Nat}{s j:Nat}:Rn ps s j|||Fn ps s (j+1)=Rn ps s (j+1):=Nat.eq_of_testBit_eq λi=>by
 rw[Nat.testBit_or]
 cases x:(Rn ps s j).testBit i with
 | true=>rw[jur i x];rfl
 | false=>
  rw[Bool.false_or]
  cases y:(Rn ps s (j+1)).testBit i with
  | true=>exact jf7.mpr ⟨y,x⟩
  | false=>
   cases z:(Fn ps s (j+1)).testBit i with
   | false=>rfl
   | true=>rw[(jf7.mp z).1] at y;cases y
theorem jpz{ps:List Nat}{s j:Nat}(h:Fn ps s (j+1)=0):∀k,j<=k->Rn ps s k=Rn ps s j:=by
 have e:Rn ps s (j+1)=Rn ps s j:=by rw[<-Rn_or,h,Nat.or_zero]
 intro k
 induction k with
 | zero=>
  intro hk
  have:j=0:=by omega
  rw[this]
 | succ k ih=>
  intro hk
  by_cases q:j=k+1
  ·rw[q]
  ·show Clo.near ps (Rn ps s k)=_
   rw[ih (by omega)];exact e
def pc:Nat->Nat->Nat
 | 0,_=>0
 | n+1,r=>pc n r+(if r.testBit n=true then 1 else 0)
theorem pc_le:∀(n r:Nat),pc n r<=n
 | 0,_=>Nat.le_refl _
 | n+1,r=>by
  have:=pc_le n r
  unfold pc
  split<;>omega
theorem jph{a b:Nat}(h:Clo.sub a b):∀n,pc n a<=pc n b
 | 0=>Nat.le_refl _
 | n+1=>by
  have:=jph h n
  unfold pc
  by_cases q:a.testBit n=true
  ·rw[if_pos q,if_pos (h n q)];omega
  ·rw[if_neg q];omega
theorem jw2{a b i:Nat}(h:Clo.sub a b)(ha:a.testBit i=false)(hb:b.testBit i=true):∀n,i<n->pc n a<pc n b
 | 0,hn=>absurd hn (Nat.not_lt_zero _)
 | n+1,hn=>by
  by_cases e:i=n
  ·subst e
   have:=jph h i
   unfold pc
   rw[if_neg (by rw[ha];decide),if_pos hb];omega
  ·have:=jw2 h ha hb n (by omega)
   unfold pc
   by_cases q:a.testBit n=true
   ·rw[if_pos q,if_pos (h n q)];omega
   ·rw[if_neg q];omega
theorem Rn_lt{ps:List Nat}{s n:Nat}(hp:∀p∈ps,p<2^n)(hs:s<2^n):∀j,Rn ps s j<2^n:=by
 intro j
 refine Nat.lt_pow_two_of_testBit _ λi hi=> ?_
 cases x:(Rn ps s j).testBit i with
 | false=>rfl
 | true=>
  exfalso
  induction j with
  | zero=>
   have x:s.testBit i=true:=x
   exact absurd (Nat.lt_of_lt_of_le hs (Nat.pow_le_pow_right (by decide) hi)) (by have:=Nat.ge_two_pow_of_testBit x;omega)
  | succ j ih=>
   rcases jf1.mp x with h | ⟨p,m,_,q⟩
   ·exact ih h
   ·have:=Nat.ge_two_pow_of_testBit q
    have:=hp p m
    have:=Nat.pow_le_pow_right (n:=2) (by decide) hi
    omega
theorem jqg{ps:List Nat}{s n:Nat}(hp:∀p∈ps,p<2^n)(hs:s<2^n):∀j,(∀i,i<=j->Fn ps s i≠0)->j+1<=pc n (Rn ps s j):=by
 intro j
 have lt:∀{r i:Nat},r<2^n->r.testBit i=true->i<n:=fun{r i} h q=>by
  by_cases hi:i<n
  ·exact hi
  ·have:=Nat.ge_two_pow_of_testBit q
   have:=Nat.pow_le_pow_right (n:=2) (by decide) (show n<=i by omega)
   omega
 induction j with
 | zero=>
  intro h
  obtain⟨i,hi⟩:=Nat.exists_testBit_of_ne_zero (h 0 (Nat.le_refl _))
  have:=jw2 (a:=0) (b:=s) (Clo.js3 s) (Nat.zero_testBit i) hi n (lt hs hi)
  show 0+1<=pc n s
  omega
 | succ j ih=>
  intro h
  have h1:=ih λi hi=>h i (by omega)
  obtain⟨i,hi⟩:=Nat.exists_testBit_of_ne_zero (h (j+1) (Nat.le_refl _))
  obtain⟨q1,q2⟩:=jf7.mp hi
  have:=jw2 (jur (ps:=ps) (s:=s) (j:=j)) q2 q1 n (lt (Rn_lt hp hs _) q1)
  omega
def K2(b:Nat):Sum Int Str:= .inl ((2^b:Nat):Int)
theorem jol{a b:Nat}(h:K2 a=K2 b):a=b:=by
 unfold K2 at h
 have h1:((2^a:Nat):Int)=((2^b:Nat):Int):=Sum.inl.inj h
 have h2:2^a=2^b:=by omega
 have h3:=jak a a
 rw[h2,jak] at h3
 simpa using (show b=a by simpa using h3.symm).symm
theorem jjk(kvs:List (Sum Int Str×D))(k j:Sum Int Str)(v:D):valK (putK kvs k v) j=if j=k then some v else valK kvs j:=by
 unfold putK valK
 by_cases a:(kvs.any λkv=>decide (kv.1=k))=true
 ·rw[if_pos a]
  induction kvs with
  | nil=>simp at a
  | cons p r ih=>
   rw[List.map_cons,List.find?_cons]
   by_cases e:p.1=k
   ·rw[if_pos e]
    by_cases q:k=j
    ·subst q
     simp[e]
    ·have q':¬j=k:=λz=>q z.symm
     rw[List.find?_cons]
     simp only[e,q,decide_false,if_neg q']
     clear ih a
     have:∀l:List (Sum Int Str×D),((l.map λkv=>if kv.1=k then(kv.1,v) else kv).find? λkv=>decide (kv.1=j)).map (·.2)=(l.find? λkv=>decide (kv.1=j)).map (·.2):=by
      intro l
      induction l with
      | nil=>rfl
      | cons x l ih=>
       rw[List.map_cons,List.find?_cons,List.find?_cons]
       by_cases ex:x.1=k
       ·rw[if_pos ex]
        have:¬x.1=j:=λz=>q (ex.symm.trans z)
        simp only[this,decide_false]
        exact ih
       ·rw[if_neg ex]
        by_cases ej:x.1=j
        ·simp[ej]
        ·simp only[ej,decide_false];exact ih
     exact this r
   ·rw[if_neg e]
    rw[List.find?_cons]
    by_cases ej:p.1=j
    ·have q':¬j=k:=λz=>e (ej.trans z)
     simp[ej,q']
    ·simp only[ej,decide_false]
     refine ih ?_
     rw[List.any_cons,decide_eq_false e,Bool.false_or] at a
     exact a
 ·rw[if_neg a]
  rw[List.find?_append]
  by_cases q:j=k
  ·subst q
   rw[if_pos rfl]
   have:kvs.find? (λkv=>decide (kv.1=j))=none:=List.find?_eq_none.mpr λx hx hd=>a (List.any_eq_true.mpr ⟨x,hx,hd⟩)
   rw[this]
   simp
  ·rw[if_neg q]
   have q':¬k=j:=λz=>q z.symm
   cases kvs.find? (λkv=>decide (kv.1=j))<;>simp[q']
theorem jko:∀(kvs:List (Sum Int Str×D)) (i:Int) (v:D) (ns:List Int),jdv kvs=some ns->jdv (kvs++[(.inl i,v)])=some (ns++[i])
  | [],i,v,ns,e=>by simp only[jdv,Option.some.injEq] at e;subst e;simp[jdv]
  | (.inl a,x)::r,i,v,ns,e=>by
    simp only[jdv] at e
    obtain⟨ms,e1,rfl⟩:=Option.map_eq_some_iff.mp e
    rw[List.cons_append]
    simp only[jdv,jko r i v ms e1,Option.map_some,List.cons_append]
  | (.inr a,x)::r,i,v,ns,e=>by simp only[jdv] at e;cases e
theorem jgb(k:Sum Int Str)(v:D):∀(kvs:List (Sum Int Str×D)),jdv (kvs.map λkv=>if kv.1=k then(kv.1,v) else kv)=jdv kvs
  | []=>rfl
  | (.inl a,x)::r=>by
    rw[List.map_cons]
    by_cases e:(Sum.inl a:Sum Int Str)=k
    · rw[if_pos e];simp only[jdv,jgb k v r]
    · rw[if_neg e];simp only[jdv,jgb k v r]
  | (.inr a,x)::r=>by
    rw[List.map_cons]
    by_cases e:(Sum.inr a:Sum Int Str)=k
    · rw[if_pos e];simp only[jdv]
    · rw[if_neg e];simp only[jdv]
theorem jjj(k:Sum Int Str):∀kvs:List (Sum Int Str×D),(kvs.any λkv=>decide (kv.1=k))=(valK kvs k).isSome
 | []=>rfl
 | p::r=>by
  have ih:=jjj k r
  unfold valK at ih ⊢
  rw[List.any_cons,List.find?_cons]
  by_cases e:p.1=k
  ·simp[e]
  ·simp only[e,decide_false,Bool.false_or];exact ih
structure DK (P:Nat->D->Prop) (kvs:List (Sum Int Str×D)) (acc:Nat):Prop where
 keys:∃ns:List Int,jdv kvs=some ns /\ ns.sum=(acc:Int)
 vals:∀b,acc.testBit b=true->∃v,valK kvs (K2 b)=some v /\ P b v
 none:∀x,(valK kvs x).isSome=true->∃b,acc.testBit b=true /\ x=K2 b
 cl:∀kv∈kvs,∀n,D.bnd n kv.2=true
 all:∀kv∈kvs,∃b,acc.testBit b=true /\ kv.1=K2 b /\ P b kv.2
theorem DK.nil(P:Nat->D->Prop):DK P [] 0:=⟨⟨[],rfl,rfl⟩,λb h=>by simp at h,λx h=>by simp[valK] at h,λkv m=>(by cases m),λkv m=>(by cases m)⟩
theorem jw6{a b:Nat}(h:a.testBit b=false):a+2^b=a|||2^b:=by
 have e1:(a|||2^b)&&&2^b=2^b:=Nat.eq_of_testBit_eq λi=>by
  rw[Nat.testBit_and,Nat.testBit_or]
  cases (2^b).testBit i<;>simp
 have e2:=jhh (a|||2^b) (2^b)
 rw[e1] at e2
 have e3:(a|||2^b)^^^2^b=a:=Nat.eq_of_testBit_eq λi=>by
  rw[Nat.testBit_xor,Nat.testBit_or,jak]
  by_cases q:b=i
  ·subst q;simp[h]
  ·simp[q]
 rw[e3] at e2
 have e4:2^b<=a|||2^b:=Nat.right_le_or
 omega
theorem jqv{kvs:List (Sum Int Str×D)}{k:Sum Int Str}{v:D}(h:∀kv∈kvs,∀n,D.bnd n kv.2=true)(cv:∀n,D.bnd n v=true):∀kv∈putK kvs k v,∀n,D.bnd n kv.2=true:=by
 intro kv m n
 unfold putK at m
 split at m
 ·obtain⟨x,hx,e⟩:=List.mem_map.mp m
  split at e
  ·rw[<-e];exact cv n
  ·rw[<-e];exact h x hx n
 ·rcases List.mem_append.mp m with m | m
  ·exact h kv m n
  ·rw[List.mem_singleton.mp m];exact cv n
theorem jni:∀(more kvs:List (Sum Int Str×D)),(∀kv∈kvs,∀n,D.bnd n kv.2=true)->(∀kv∈more,∀n,D.bnd n kv.2=true)->∀kv∈jcm kvs more,∀n,D.bnd n kv.2=true
 | [],kvs,h,_=>h
 | p::r,kvs,h,g=>jni r (putK kvs p.1 p.2) (jqv h (g p (List.mem_cons_self ..))) λkv m=>g kv (List.mem_cons_of_mem _ m)
theorem jre{n:Nat}:∀{ds:List D},(∀d∈ds,D.bnd n d=true)->D.bnds n ds=true
 | [],_=>by simp[D.bnds]
 | d::ds,h=>by
  simp only[D.bnds,Bool.and_eq_true]
  exact⟨h d (List.mem_cons_self ..),jre λx m=>h x (List.mem_cons_of_mem _ m)⟩
theorem jtv{kvs:List (Sum Int Str×D)}(h:∀kv∈kvs,∀n,D.bnd n kv.2=true)(n:Nat):Cell.bnd n (some (.dct kvs))=true:=by
 show D.bnds n (kvs.map (·.2))=true
 refine jre λd m=> ?_
 obtain⟨kv,hk,rfl⟩:=List.mem_map.mp m
 exact h kv hk n
theorem DK.put{P:Nat->D->Prop}{kvs:List (Sum Int Str×D)}{acc b:Nat}{v:D}(k:DK P kvs acc)(p:P b v)(cv:∀n,D.bnd n v=true):DK P (putK kvs (K2 b) v) (acc|||2^b):=by
 refine⟨?_,λc hc=> ?_,λx hx=> ?_,jqv k.cl cv,λkv m=> ?_⟩
 ·obtain⟨ns,e1,e2⟩:=k.keys
  unfold putK
  rw[jjj]
  by_cases q:(valK kvs (K2 b)).isSome=true
  ·rw[if_pos q,jgb]
   obtain⟨c,hc,e⟩:=k.none _ q
   have hcb:=jol e
   subst hcb
   refine⟨ns,e1,?_⟩
   rw[e2]
   have:acc|||2^b=acc:=Clo.sub.or_eq' λi hi=>by
    rw[jak,decide_eq_true_iff] at hi
    subst hi;exact hc
   rw[this]
  ·rw[if_neg q]
   have hb:acc.testBit b=false:=by
    cases x:acc.testBit b with
    | false=>rfl
    | true=>obtain⟨w,hw,_⟩:=k.vals b x;rw[hw] at q;exact absurd rfl q
   refine⟨ns++[((2^b:Nat):Int)],jko kvs _ v ns e1,?_⟩
   rw[List.sum_append,e2,<-jw6 hb]
   simp
 ·rw[jjk]
  by_cases e:K2 c=K2 b
  ·rw[if_pos e]
   have:=jol e
   subst this
   exact⟨v,rfl,p⟩
  ·rw[if_neg e]
   rw[Nat.testBit_or,Bool.or_eq_true] at hc
   rcases hc with hc | hc
   ·exact k.vals c hc
   ·rw[jak,decide_eq_true_iff] at hc
    subst hc;exact absurd rfl e
 ·rw[jjk] at hx
  by_cases e:x=K2 b
  ·exact⟨b,by rw[Nat.testBit_or,jak];simp,e⟩
  ·rw[if_neg e] at hx
   obtain⟨c,hc,e'⟩:=k.none x hx
   exact⟨c,by rw[Nat.testBit_or,hc];rfl,e'⟩
 ·have hb:(acc|||2^b).testBit b=true:=by rw[Nat.testBit_or,jak];simp
  have old:∀x∈kvs,∃c,(acc|||2^b).testBit c=true /\ x.1=K2 c /\ P c x.2:=λx hx=>by
   obtain⟨c,h1,h2,h3⟩:=k.all x hx
   exact⟨c,by rw[Nat.testBit_or,h1];rfl,h2,h3⟩
  unfold putK at m
  split at m
  ·obtain⟨x,hx,e⟩:=List.mem_map.mp m
   split at e
   ·rename_i q
    rw[<-e];exact⟨b,hb,q,p⟩
   ·rw[<-e];exact old x hx
  ·rcases List.mem_append.mp m with m | m
   ·exact old kv m
   ·rw[List.mem_singleton.mp m];exact⟨b,hb,rfl,p⟩
theorem jnd(kvs:List (Sum Int Str×D))(k:Sum Int Str)(v:D):(putK kvs k v).length<=kvs.length+1:=by
 unfold putK
 split<;>simp
theorem jkl:∀(more kvs:List (Sum Int Str×D)),(jcm kvs more).length<=kvs.length+more.length
 | [],kvs=>Nat.le_refl _
 | p::r,kvs=>by
  have h1:=jkl r (putK kvs p.1 p.2)
  have h2:=jnd kvs p.1 p.2
  show(jcm (putK kvs p.1 p.2) r).length<=kvs.length+(r.length+1)
  omega
theorem jja:∀(more kvs:List (Sum Int Str×D)) (j:Sum Int Str),(∃kv∈more,kv.1=j /\ valK (jcm kvs more) j=some kv.2) \/ ((valK more j).isSome=false /\ valK (jcm kvs more) j=valK kvs j)
 | [],kvs,j=> .inr ⟨rfl,rfl⟩
 | p::r,kvs,j=>by
  rcases jja r (putK kvs p.1 p.2) j with⟨kv,m,e1,e2⟩ | ⟨e1,e2⟩
  ·exact .inl ⟨kv,List.mem_cons_of_mem _ m,e1,e2⟩
  ·have e2:valK (jcm kvs (p::r)) j=valK (putK kvs p.1 p.2) j:=e2
   rw[jjk] at e2
   by_cases q:j=p.1
   ·rw[if_pos q] at e2
    exact .inl ⟨p,List.mem_cons_self ..,q.symm,e2⟩
   ·rw[if_neg q] at e2
    refine .inr ⟨?_,e2⟩
    rw[<-jjj] at e1 ⊢
    rw[List.any_cons,e1,decide_eq_false (λz=>q z.symm)];rfl
def Sw.ends(w:Sw)(a b:Nat):Prop:=w= .breaker a b \/ w= .breaker b a \/ w= .splitter a b \/ w= .splitter b a
def Good(sws:List Sw)(st k a b:Nat):Prop:=∃w,sws[k]?=some w /\ st.testBit k=true /\ w.ends a b
theorem jue(s:Sw){n:Nat}(hn:n<=10)(ok:s.ok n){m:ME}{ρ:Ro}{h:MH}(e:m ρ h= .ok s.o h):jat jbt "joins" m mNil ρ h= .ok (.int s.pair) h:=by
 have j:=jw7 s hn ok h
 simp only[jat,mVar,List.getElem?_cons_zero,jcz] at j
 simp only[jat,e,jcz]
 exact j
theorem jsd{w:Sw}{n F R:Nat}(ok:w.ok n)(hs:Clo.sub F R)(h1:w.pair&&&F≠0)(h2:w.pair - (w.pair&&&R)≠0):∃a b,w.ends a b /\ F.testBit a=true /\ R.testBit b=false /\ w.pair&&&F=2^a /\ w.pair - (w.pair&&&R)=2^b:=by
 have gen:∀x y:Nat,x≠y->w.pair=2^x|||2^y->(w.ends x y)->(w.ends y x)->∃a b,w.ends a b /\ F.testBit a=true /\ R.testBit b=false /\ w.pair&&&F=2^a /\ w.pair - (w.pair&&&R)=2^b:=by
  intro x y ne e exy eyx
  rw[e] at h1 h2 ⊢
  obtain⟨i,i1,i2⟩:=Clo.and_ne.mp h1
  obtain⟨j,j0⟩:=Nat.exists_testBit_of_ne_zero h2
  rw[jbz,Bool.and_eq_true,Bool.not_eq_true'] at j0
  obtain⟨j1,j2⟩:=j0
  rw[Nat.testBit_or,jak,jak,Bool.or_eq_true,decide_eq_true_iff,decide_eq_true_iff] at i1 j1
  have nij:i≠j:=λz=>by subst z;rw[hs i i2] at j2;cases j2
  have fin:∀a b:Nat,a≠b->F.testBit a=true->R.testBit b=false->(2^a|||2^b)&&&F=2^a /\ (2^a|||2^b) - ((2^a|||2^b)&&&R)=2^b:=by
   intro a b nab fa rb
   have fb:F.testBit b=false:=by
    cases q:F.testBit b with
    | false=>rfl
    | true=>rw[hs b q] at rb;cases rb
   refine⟨Nat.eq_of_testBit_eq λk=> ?_,Nat.eq_of_testBit_eq λk=> ?_⟩
   ·rw[Nat.testBit_and,Nat.testBit_or,jak,jak]
    by_cases ka:a=k
    ·subst ka;simp[fa]
    ·by_cases kb:b=k
     ·subst kb;simp[fb,ka]
     ·simp[ka,kb]
   ·rw[jbz,Nat.testBit_or,jak,jak]
    by_cases ka:a=k
    ·subst ka;simp[hs a fa,Ne.symm nab]
    ·by_cases kb:b=k
     ·subst kb;simp[rb]
     ·simp[ka,kb]
  rcases i1 with rfl | rfl<;>rcases j1 with rfl | rfl
  ·exact absurd rfl nij
  ·obtain⟨q1,q2⟩:=fin x y ne i2 j2
   exact⟨x,y,exy,i2,j2,q1,q2⟩
  ·obtain⟨q1,q2⟩:=fin y x (Ne.symm ne) i2 j2
   rw[Nat.or_comm] at q1 q2
   exact⟨y,x,eyx,i2,j2,q1,q2⟩
  ·exact absurd rfl nij
 cases w with
 | feed b=>simp[Sw.pair] at h1
 | earth b=>simp[Sw.pair] at h1
 | breaker a b=>exact gen a b ok.2.2 rfl (.inl rfl) (.inr (.inl rfl))
 | splitter a b=>exact gen a b ok.2.2 rfl (.inr (.inr (.inl rfl))) (.inr (.inr (.inr rfl)))
def sfB:MS:=(sSeq (sAsg (jat jbt "joins" (mVar 6) mNil) (ja8 7))
      (sIf (tAnd (tTru (jbb jio (ja2 (mVar 1) (ja2 (mVar 5) mNil)))) (tAnd (tTru (mBin dAnd (mVar 7) (mVar 2))) (tTru (mBin dAnd (mVar 7) (mUn dInv (mVar 3))))))
      (jhx (mVar 4) (mBin dAnd (mVar 7) (mUn dInv (mVar 3))) (mTup (ja2 (mVar 5) (ja2 (mBin dAnd (mVar 7) (mVar 2)) mNil))))
      jbq))
def hit(st F R:Nat)(p:Sw×Nat):Prop:=st.testBit p.2=true /\ p.1.pair&&&F≠0 /\ p.1.pair - (p.1.pair&&&R)≠0
instance (st F R:Nat) (p:Sw×Nat):Decidable (hit st F R p):=by unfold hit;infer_instance
def putH(st F R:Nat)(kvs:List (Sum Int Str×D))(p:Sw×Nat):List (Sum Int Str×D):=
 if hit st F R p then putK kvs (.inl ((p.1.pair - (p.1.pair&&&R):Nat):Int)) (.tup [.int p.2,.int ((p.1.pair&&&F:Nat):Int)]) else kvs
theorem sfB_ok{n:Nat}(hn:n<=10)(a:Option D)(st F R c:Nat)(p:Sw×Nat)(ok:p.1.ok n)(x:Option D)(h:MH)(kvs:List (Sum Int Str×D))(hc:h[c]?=some (some (.dct kvs)))(hl:kvs.length<16777216):
  sfB [a,some (.int st),some (.int F),some (.int R),some (.ref c),some (.int p.2),some p.1.o,x] h= .nx [a,some (.int st),some (.int F),some (.int R),some (.ref c),some (.int p.2),some p.1.o,some (.int p.1.pair)] (h.set c (some (.dct (putH st F R kvs p)))):=by
 have j:=jue (m:=mVar 6) (ρ:=[a,some (.int st),some (.int F),some (.int R),some (.ref c),some (.int p.2),some p.1.o,x]) (h:=h) p.1 hn ok (by simp)
 have hh:=jq1 st p.2 h
 have e1:=band p.1.pair F
 have e2:=jhc p.1.pair R
 have e3:=ne0 (p.1.pair&&&F)
 have e4:=ne0 (p.1.pair - (p.1.pair&&&R))
 have hset:h.set c (some (.dct kvs))=h:=List.ext_getElem? λi=>by
  by_cases q:c=i
  ·subst q;rw[List.getElem?_set_self (List.getElem?_eq_some_iff.mp hc).1,hc]
  ·rw[List.getElem?_set_ne q]
 have no:¬hit st F R p->putH st F R kvs p=kvs:=λq=>if_neg q
 have yes:hit st F R p->putH st F R kvs p=putK kvs (.inl ((p.1.pair - (p.1.pair&&&R):Nat):Int)) (.tup [.int p.2,.int ((p.1.pair&&&F:Nat):Int)]):=λq=>if_pos q
 by_cases q1:st.testBit p.2=true
 ·by_cases q2:p.1.pair&&&F≠0
  ·by_cases q3:p.1.pair - (p.1.pair&&&R)≠0
   ·rw[yes ⟨q1,q2,q3⟩]
    simp[-jat,sfB,j,hh,e1,e2,e3,e4,q1,q2,q3,hc,hl]
   ·rw[no (λz=>q3 z.2.2),hset]
    have q3':p.1.pair - (p.1.pair&&&R)=0:=by simpa using q3
    simp[-jat,sfB,j,hh,e1,e2,e3,e4,q1,q2,q3']
  ·rw[no (λz=>q2 z.2.1),hset]
   have q2':p.1.pair&&&F=0:=by simpa using q2
   simp[-jat,sfB,j,hh,e1,e3,q1,q2']
 ·rw[no (λz=>q1 z.1),hset]
  simp[-jat,sfB,j,hh,q1]
def PS(sws:List Sw)(st F:Nat)(b:Nat)(v:D):Prop:=∃k a:Nat,v= .tup [.int k,.int ((2^a:Nat):Int)] /\ F.testBit a=true /\ Good sws st k a b
theorem jey{α:Type}{h:List α}{c:Nat}{x:α}(hc:h[c]?=some x):h.set c x=h:=List.ext_getElem? λi=>by
 by_cases q:c=i
 ·subst q;rw[List.getElem?_set_self (List.getElem?_eq_some_iff.mp hc).1,hc]
 ·rw[List.getElem?_set_ne q]
theorem jrf(ok:jbi n sws)(st F R:Nat)(hs:Clo.sub F R):∀(ps:List (Sw×Nat)) (kvs:List (Sum Int Str×D)) (acc:Nat),(∀p∈ps,p∈sws.zipIdx)->kvs.length+ps.length<16777216->DK (PS sws st F) kvs acc->
  ∃kvs' acc',DK (PS sws st F) kvs' acc' /\ kvs'.length<=kvs.length+ps.length /\ (∀i,acc'.testBit i=true↔(acc.testBit i=true \/ ∃p∈ps,hit st F R p /\ (p.1.pair - (p.1.pair&&&R)).testBit i=true)) /\
   ∀(a:Option D) (c:Nat) (h:MH) (x y z:Option D),h[c]?=some (some (.dct kvs))->∃x' y' z',jb1 (gTup [5,6]) sfB (ps.map λp=> .tup [.int (p.2:Int),p.1.o]) [a,some (.int st),some (.int F),some (.int R),some (.ref c),x,y,z] h= .nx [a,some (.int st),some (.int F),some (.int R),some (.ref c),x',y',z'] (h.set c (some (.dct kvs')))
 | [],kvs,acc,_,_,k=>⟨kvs,acc,k,Nat.le_refl _,λi=>by simp,λa c h x y z hc=>⟨x,y,z,by rw[jey hc];rfl⟩⟩
 | p::ps,kvs,acc,hp,hl,k=>by
  have mp:=hp p (List.mem_cons_self ..)
  have okp':=ok.2.2.2 p.1 (jmo mp)
  have hk:∃acc1,DK (PS sws st F) (putH st F R kvs p) acc1 /\ ∀i,acc1.testBit i=true↔(acc.testBit i=true \/ (hit st F R p /\ (p.1.pair - (p.1.pair&&&R)).testBit i=true)):=by
   by_cases q:hit st F R p
   ·obtain⟨a',b',h1,h2,h3,h4,h5⟩:=jsd okp' hs q.2.1 q.2.2
    refine⟨acc|||2^b',?_,λi=> ?_⟩
    ·unfold putH
     rw[if_pos q,h4,h5]
     exact k.put ⟨p.2,a',rfl,h2,p.1,jho mp,q.1,h1⟩ λn=>by simp[D.bnd,D.bnds]
    ·rw[h5,Nat.testBit_or,Bool.or_eq_true]
     constructor
     ·rintro(z | z)
      ·exact .inl z
      ·exact .inr ⟨q,z⟩
     ·rintro(z | ⟨_,z⟩)
      ·exact .inl z
      ·exact .inr z
   ·exact⟨acc,by unfold putH;rw[if_neg q];exact k,λi=>⟨.inl,λz=>z.elim id λz=>absurd z.1 q⟩⟩
  obtain⟨acc1,k1,hb1⟩:=hk
  have hl1:(putH st F R kvs p).length<=kvs.length+1:=by
   unfold putH
   split
   ·exact jnd _ _ _
   ·omega
  obtain⟨kvs',acc',k2,l2,hb2,run⟩:=jrf ok st F R hs ps _ acc1 (λq m=>hp q (List.mem_cons_of_mem _ m)) (by simp at hl;omega) k1
  refine⟨kvs',acc',k2,by simp;omega,λi=> ?_,λa c h x y z hc=> ?_⟩
  ·rw[hb2,hb1]
   constructor
   ·rintro((z | z) | ⟨q,m,z⟩)
    ·exact .inl z
    ·exact .inr ⟨p,List.mem_cons_self ..,z⟩
    ·exact .inr ⟨q,List.mem_cons_of_mem _ m,z⟩
   ·rintro(z | ⟨q,m,z⟩)
    ·exact .inl (.inl z)
    ·rcases List.mem_cons.mp m with rfl | m
     ·exact .inl (.inr z)
     ·exact .inr ⟨q,m,z⟩
  ·have e1:=sfB_ok ok.2.1 a st F R c p okp' z h kvs hc (by simp at hl;omega)
   have hc1:(h.set c (some (.dct (putH st F R kvs p))))[c]?=some (some (.dct (putH st F R kvs p))):=List.getElem?_set_self (List.getElem?_eq_some_iff.mp hc).1
   obtain⟨x',y',z',e2⟩:=run a c _ (some (.int p.2)) (some p.1.o) (some (.int p.1.pair)) hc1
   refine⟨x',y',z',?_⟩
   rw[List.set_set] at e2
   rw[List.map_cons]
   unfold jb1
   simp only[gTup,jkv,List.set_cons_succ,List.set_cons_zero,e1]
   exact e2
theorem jo6(ok:jbi n sws)(st s j:Nat):∃kvs,DK (PS sws st (Fn (jal st sws) s j)) kvs (Fn (jal st sws) s (j+1)) /\ kvs.length<=12 /\ ∀h:MH,z_Qs [netO sws,.int st,.int (Fn (jal st sws) s j:Nat),.int (Rn (jal st sws) s j:Nat)] h= .ok (.ref h.length) (h++[some (.dct kvs)]):=by
 obtain⟨kvs,acc,k,l,hb,run⟩:=jrf ok st (Fn (jal st sws) s j) (Rn (jal st sws) s j) jn9 sws.zipIdx [] 0 (λp m=>m) (by simp;have:=ok.2.2.1;omega) (DK.nil _)
 have ea:acc=Fn (jal st sws) s (j+1):=Nat.eq_of_testBit_eq λi=>by
  have h1:=hb i
  have h2:=jpm (ps:=jal st sws) (s:=s) (j:=j) (i:=i)
  have:acc.testBit i=true↔(Fn (jal st sws) s (j+1)).testBit i=true:=by
   rw[h1,h2]
   constructor
   ·rintro(z | ⟨p,m,⟨q1,q2,q3⟩,z⟩)
    ·simp at z
    ·rw[jbz,Bool.and_eq_true,Bool.not_eq_true'] at z
     exact⟨z.2,p.1.pair,jhy (jho m) q1,q2,z.1⟩
   ·rintro⟨z,q,m,q1,q2⟩
    obtain⟨k,w,w1,w2,rfl⟩:=jf2 m
    refine .inr ⟨(w,k),List.mk_mem_zipIdx_iff_getElem?.mpr w1,⟨w2,q1,λzz=> ?_⟩,?_⟩
    ·have:(w.pair - (w.pair&&&Rn (jal st sws) s j)).testBit i=true:=by rw[jbz,q2,z];rfl
     have zz':w.pair - (w.pair&&&Rn (jal st sws) s j)=0:=zz
     rw[zz'] at this;simp at this
    ·show(w.pair - (w.pair&&&Rn (jal st sws) s j)).testBit i=true
     rw[jbz,q2,z];rfl
  cases q:acc.testBit i with
  | true=>rw[this.mp q]
  | false=>
   cases q2:(Fn (jal st sws) s (j+1)).testBit i with
   | false=>rfl
   | true=>rw[this.mpr q2] at q;cases q
 rw[ea] at k
 refine⟨kvs,k,by have:=ok.2.2.1;simp at l;omega,λh=> ?_⟩
 obtain⟨x',y',z',e⟩:=run (some (netO sws)) h.length (h++[some (.dct [])]) none none none (by simp)
 have eb:b_Qs=(sSeq (sAsg jif (ja8 4)) (sSeq (sFor (jiq (ja2 (mFld jaz "switches" (mVar 0)) mNil)) (gTup [5,6]) sfB) (sRet (mVar 4)))):=rfl
 have es:=jh6 sws Sw.o
 rw[jtf] at e
 simp only[netO] at e ⊢
 simp[-List.map_map, -gTup,z_Qs,eb,jaz,es,e,D.bnd]
def jcp(sws:List Sw)(st:Nat):List Nat->Nat->Nat->Prop
 | [],a,b=>a=b
 | k::ks,a,c=>∃b,Good sws st k a b /\ jcp sws st ks b c
def nbC:MT:=(tNot (tTru (mBin dAnd (mVar 2) (mVar 1))))
def nbB:MS:=(sSeq (sAsg (mBin dIx (mVar 0) (mVar 2)) (ja8 4))
      (sSeq (jeq (mVar 3) (mBin dIx (mVar 4) (mC (.int 0))))
      (sAsg (mBin dIx (mVar 4) (mC (.int 1))) (ja8 2))))
theorem nbB_ok(c m s X k Y:Nat)(h:MH)(kvs:List (Sum Int Str×D))(acc:List D)(x:Option D)(hc:h[c]?=some (some (.dct kvs)))(hm:h[m]?=some (some (.lst acc)))(hv:valK kvs (.inl (X:Int))=some (.tup [.int k,.int Y]))(hl:acc.length<16777216):
  nbB [some (.ref c),some (.int s),some (.int X),some (.ref m),x] h= .nx [some (.ref c),some (.int s),some (.int Y),some (.ref m),some (.tup [.int k,.int Y])] (h.set m (some (.lst (acc++[.int k])))):=by
 simp[nbB,hc,hm,hv,hl]
theorem jth(s X:Nat)(a b c:Option D)(h:MH):nbC [a,some (.int s),some (.int X),b,c] h= .ok (!decide (X&&&s≠0)) h:=by
 have e1:=band X s
 have e2:=ne0 (X&&&s)
 simp[nbC,e1,e2]
def jns(sws:List Sw)(st s j:Nat)(kvs:List (Sum Int Str×D)):Prop:=∀i,i<j->∀b,(Fn (jal st sws) s (i+1)).testBit b=true->∃v,valK kvs (K2 b)=some v /\ PS sws st (Fn (jal st sws) s i) b v
theorem jr2{sws:List Sw}{st s j:Nat}{kvs:List (Sum Int Str×D)}(sa:jns sws st s j kvs):∀(i b:Nat),i<=j->(Fn (jal st sws) s i).testBit b=true->
  ∃(ks:List Nat) (a:Nat),ks.length=i /\ jcp sws st ks.reverse a b /\ s.testBit a=true /\ ∀(c m:Nat) (h:MH) (acc:List D) (x:Option D),c≠m->h[c]?=some (some (.dct kvs))->h[m]?=some (some (.lst acc))->acc.length+i<16777216->
   ∃x':Option D,jb7 nbC nbB [some (.ref c),some (.int s),some (.int ((2^b:Nat):Int)),some (.ref m),x] h= .nx [some (.ref c),some (.int s),some (.int ((2^a:Nat):Int)),some (.ref m),x'] (h.set m (some (.lst (acc++ks.map λk:Nat=>D.int k))))
 | 0,b,_,hb=>by
  refine⟨[],b,rfl,rfl,hb,λc m h acc x cm hc hm hl=>⟨x,?_⟩⟩
  have hb:s.testBit b=true:=hb
  have e:nbC [some (.ref c),some (.int s),some (.int ((2^b:Nat):Int)),some (.ref m),x] h= .ok false h:=by
   rw[jth]
   have:2^b&&&s≠0:=by rw[Nat.and_comm];exact(jou s b).mpr hb
   rw[decide_eq_true this];rfl
  rw[jd6 e,List.map_nil,List.append_nil,jey hm]
 | i+1,b,hi,hb=>by
  obtain⟨v,hv,k,p,rfl,hp,hg⟩:=sa i (by omega) b hb
  obtain⟨ks,a,l3,t3,s3,run⟩:=jr2 sa i p (by omega) hp
  refine⟨k::ks,a,by simp[l3],?_,s3,λc m h acc x cm hc hm hl=> ?_⟩
  ·rw[List.reverse_cons]
   have app:∀(l:List Nat) (u:Nat),jcp sws st l u p->jcp sws st (l++[k]) u b:=by
    intro l
    induction l with
    | nil=>intro u e;exact⟨b,by rw[show u=p from e];exact hg,rfl⟩
    | cons y l ih=>rintro u ⟨w,g,t⟩;exact⟨w,g,ih w t⟩
   exact app _ _ t3
  ·have e:nbC [some (.ref c),some (.int s),some (.int ((2^b:Nat):Int)),some (.ref m),x] h= .ok true h:=by
    rw[jth]
    have:¬(2^b&&&s≠0):=by
     rw[Nat.and_comm,jou s b]
     intro z
     have:=js5 (ps:=jal st sws) (s:=s) (show 0<=i by omega) b z
     rw[(jf7.mp hb).2] at this;cases this
    rw[decide_eq_false this];rfl
   have e2:=nbB_ok c m s (2^b) k (2^p) h kvs acc x hc hm hv (by omega)
   have hc2:(h.set m (some (.lst (acc++[.int k]))))[c]?=some (some (.dct kvs)):=by rw[List.getElem?_set_ne (Ne.symm cm)];exact hc
   have hm2:(h.set m (some (.lst (acc++[.int k]))))[m]?=some (some (.lst (acc++[.int k]))):=List.getElem?_set_self (List.getElem?_eq_some_iff.mp hm).1
   obtain⟨x',e3⟩:=run c m _ (acc++[.int k]) (some (.tup [.int k,.int ((2^p:Nat):Int)])) cm hc2 hm2 (by simp;omega)
   refine⟨x',?_⟩
   rw[jdp e e2,e3,List.set_set,List.map_cons,List.append_assoc];rfl
theorem jgd{sws:List Sw}{st s j:Nat}{kvs:List (Sum Int Str×D)}(sa:jns sws st s j kvs)(b:Nat)(hj:j<=100)(hb:(Fn (jal st sws) s j).testBit b=true):
  ∃(ks:List Nat) (a:Nat),ks.length=j /\ jcp sws st ks a b /\ s.testBit a=true /\ ∀(c:Nat) (h:MH),h[c]?=some (some (.dct kvs))->z_Ql [.ref c,.int s,.int ((2^b:Nat):Int)] h= .ok (.ref (h.length+1)) (h++[none,some (.lst (ks.map λk:Nat=>D.int k))]):=by
 obtain⟨ks,a,l,t,sb,run⟩:=jr2 sa j b (Nat.le_refl _) hb
 refine⟨ks.reverse,a,by simp[l],t,sb,λc h hc=> ?_⟩
 have hcl:c<h.length:=(List.getElem?_eq_some_iff.mp hc).1
 obtain⟨x',e⟩:=run c h.length (h++[some (.lst [])]) [] none (by omega) (by rw[List.getElem?_append_left hcl];exact hc) (by simp) (by simp;omega)
 have eb:b_Ql=(sSeq (sAsg (jgs (jds mNil)) (ja8 3)) (sSeq (jb7 nbC nbB) (jdg 3 (sRet (jgs (jh3 (ja2 (mVar 3) mNil))))))):=rfl
 rw[jtf,List.nil_append] at e
 generalize 2^b=X at*
 generalize 2^a=Y at*
 simp[-List.map_map,z_Ql,eb,e,D.bnd,List.map_reverse]
 intro z;omega
theorem juv:∀x:Fin 1024,x.val≠0->∃b:Fin 10,x.val - (x.val&&&(x.val - 1))=2^b.val /\ x.val.testBit b.val=true:=by decide+kernel
theorem jnv{x:Nat}(hx:x<1024)(h0:x≠0):∃b,(∀h:MH,z_X5 [.int x] h= .ok (.int ((2^b:Nat):Int)) h) /\ x.testBit b=true:=by
 obtain⟨b,e,t⟩:=juv ⟨x,hx⟩ h0
 refine⟨b.val,λh=> ?_,t⟩
 have e1:(-(x:Int))=Builtin.bitNot ((x - 1:Nat):Int):=by unfold Builtin.bitNot;omega
 have e2:=jhc x (x - 1)
 have:z_X5 [.int x] h= .ok (.int (Builtin.bitAnd (x:Int) (-(x:Int)))) h:=by simp[z_X5,b_X5]
 rw[this,e1,e2]
 have e:x - (x&&&(x - 1))=2^b.val:=e
 rw[e]
def whC:MT:=(tAnd (tTru (mVar 7)) (tNot (tTru (mBin dAnd (mVar 7) (mVar 3)))))
def whB:MS:=(sSeq (sAsg (jbb z_Qs (ja2 (mVar 4) (ja2 (mVar 1) (ja2 (mVar 7) (ja2 (mVar 6) mNil))))) (ja8 8))
      (sSeq (jgv (mUpd (mVar 5) (ja2 (mVar 8) mNil)))
      (sSeq (sAsg (mFn js1 (ja2 (mVar 8) mNil)) (ja8 7))
      (sAsg (mBin dOr (mVar 6) (mVar 7)) (ja8 6)))))
theorem jte(a b c d e f:Option D)(g F:Nat)(x:Option D)(h:MH):whC [a,b,c,some (.int g),d,e,f,some (.int F),x] h= .ok (decide (F≠0)&& !decide (F&&&g≠0)) h:=by
 have e1:=band F g
 have e2:=ne0 (F&&&g)
 have e3:=ne0 F
 by_cases q:F≠0
 ·simp[whC,e1,e2,e3,q]
 ·have q':F=0:=by simpa using q
  subst q'
  simp[whC]
def Cl(j:MH):Prop:=∀c∈j,∀n,Cell.bnd n c=true
theorem Hb.app{h j:MH}(a:Hb h)(b:Cl j):Hb (h++j):=λn hn=>by
 rw[List.all_append,a n (by simp at hn;omega),Bool.true_and]
 exact List.all_eq_true.mpr λc m=>b c m n
theorem whB_ok(ok:jbi n sws)(st s g j:Nat)(kvs:List (Sum Int Str×D))(sa:jns sws st s j kvs)(hl:kvs.length<=12*j)(hj:j<=100)(ck:∀kv∈kvs,∀n,D.bnd n kv.2=true):
  ∃kvs',jns sws st s (j+1) kvs' /\ kvs'.length<=12*(j+1) /\ (∀kv∈kvs',∀n,D.bnd n kv.2=true) /\ ∀(h junk:MH) (a x:Option D),Cl junk->∃junk' x',Cl junk' /\
   whB [a,some (.int st),some (.int s),some (.int g),some (netO sws),some (.ref (h.length+1)),some (.int (Rn (jal st sws) s j:Nat)),some (.int (Fn (jal st sws) s j:Nat)),x] (h++[none,some (Cell.dct kvs)]++junk)= .nx [a,some (.int st),some (.int s),some (.int g),some (netO sws),some (.ref (h.length+1)),some (.int (Rn (jal st sws) s (j+1):Nat)),some (.int (Fn (jal st sws) s (j+1):Nat)),x'] (h++[none,some (Cell.dct kvs')]++junk'):=by
 obtain⟨more,dk,ml,run⟩:=jo6 ok st s j
 obtain⟨ns,k1,k2⟩:=dk.keys
 have eo:=bor (Rn (jal st sws) s j) (Fn (jal st sws) s (j+1))
 rw[Rn_or] at eo
 refine⟨jcm kvs more,?_,?_,jni more kvs ck dk.cl,λh junk a x cj=>⟨junk++[some (Cell.dct more)],some (.ref (h++[none,some (Cell.dct kvs)]++junk).length),?_,?_⟩⟩
 ·intro i hi b hb
  rcases jja more kvs (K2 b) with⟨kv,mk,m1,m2⟩ | ⟨m1,m2⟩
  ·obtain⟨b',hb',eb,pb⟩:=dk.all kv mk
   have:=jol (m1.symm.trans eb)
   subst this
   by_cases q:i=j
   ·subst q
    exact⟨kv.2,m2,pb⟩
   ·exfalso
    have h1:=js5 (ps:=jal st sws) (s:=s) (show i+1<=j by omega) b (jf7.mp hb).1
    rw[(jf7.mp hb').2] at h1;cases h1
  ·rw[m2]
   by_cases q:i=j
   ·subst q
    obtain⟨v,hv,_⟩:=dk.vals b hb
    rw[hv] at m1;cases m1
   ·exact sa i (by omega) b hb
 ·have:=jkl more kvs
  omega
 ·intro c m
  rcases List.mem_append.mp m with m | m
  ·exact cj c m
  ·rw[List.mem_singleton.mp m]
   exact jtv dk.cl
 ·have e1:=run (h++[none,some (Cell.dct kvs)]++junk)
  have g1:(h++[none,some (Cell.dct kvs)]++junk++[some (Cell.dct more)])[h.length+1]?=some (some (Cell.dct kvs)):=by simp[List.getElem?_append]
  have g2:(h++[none,some (Cell.dct kvs)]++junk++[some (Cell.dct more)])[(h++[none,some (Cell.dct kvs)]++junk).length]?=some (some (Cell.dct more)):=jty _ _
  have hne:h.length+1≠(h++[none,some (Cell.dct kvs)]++junk).length:=by simp
  have hset:(h++[none,some (Cell.dct kvs)]++junk++[some (Cell.dct more)]:MH).set (h.length+1) (some (Cell.dct (jcm kvs more)))=h++[none,some (Cell.dct (jcm kvs more))]++(junk++[some (Cell.dct more)]):=by
   simp[List.set_append]
  have g3:(h++[none,some (Cell.dct (jcm kvs more))]++(junk++[some (Cell.dct more)]))[(h++[none,some (Cell.dct kvs)]++junk).length]?=some (some (Cell.dct more)):=by
   have:(h++[none,some (Cell.dct kvs)]++junk).length=(h++[none,some (Cell.dct (jcm kvs more))]++junk).length:=by simp
   rw[this,<-List.append_assoc]
   exact jty _ _
  generalize hH:h++[none,some (Cell.dct kvs)]++junk=H at*
  generalize hH':h++[none,some (Cell.dct (jcm kvs more))]++(junk++[some (Cell.dct more)])=H' at*
  have hz:kvs.length+more.length<=16777216:=by omega
  simp[whB,e1,g1,hne,hz,hset,g3,k1,k2,eo]
theorem jum{ps:List Nat}{s g j:Nat}(h:∀i,i<j->Rn ps s i&&&g=0)(hf:Fn ps s j&&&g=0):Rn ps s j&&&g=0:=by
 cases j with
 | zero=>exact hf
 | succ j=>
  by_cases q:Rn ps s (j+1)&&&g=0
  ·exact q
  ·exfalso
   obtain⟨c,c1,c2⟩:=Clo.and_ne.mp q
   cases x:(Rn ps s j).testBit c with
   | true=>exact Clo.and_ne.mpr ⟨c,x,c2⟩ (h j (Nat.lt_succ_self _))
   | false=>exact Clo.and_ne.mpr ⟨c,jf7.mpr ⟨c1,x⟩,c2⟩ hf
theorem jwh{ps:List Nat}{s g j:Nat}(h:∀i,i<j->Rn ps s i&&&g=0)(hf:Fn ps s j=0):∀i,Rn ps s i&&&g=0:=by
 intro i
 cases j with
 | zero=>
  have h0:s=0:=hf
  have h1:Fn ps s 1=0:=Nat.eq_of_testBit_eq λc=>by
   cases x:(Fn ps s 1).testBit c with
   | false=>simp
   | true=>
    obtain⟨_,p,_,q,_⟩:=jpm.mp x
    rw[hf] at q;simp at q
  have:=jpz h1 i (Nat.zero_le _)
  rw[this]
  show s&&&g=0
  rw[h0];simp
 | succ j=>
  by_cases q:i<j+1
  ·exact h i q
  ·rw[jpz hf i (by omega)]
   exact h j (Nat.lt_succ_self _)
theorem jvw(ok:jbi n sws)(st s g:Nat)(hs:s<2^n):∀(m j:Nat) (kvs:List (Sum Int Str×D)),11<=j+m->jns sws st s j kvs->kvs.length<=12*j->(∀kv∈kvs,∀n,D.bnd n kv.2=true)->(∀i,i<j->Rn (jal st sws) s i&&&g=0)->(∀i,i<j->Fn (jal st sws) s i≠0)->
  ∃j' kvs',jns sws st s j' kvs' /\ (∀kv∈kvs',∀n,D.bnd n kv.2=true) /\ (∀i,i<j'->Rn (jal st sws) s i&&&g=0) /\ (Fn (jal st sws) s j'=0 \/ (Fn (jal st sws) s j'&&&g≠0 /\ j'<=9)) /\ ∀(h junk:MH) (a x:Option D),Cl junk->∃junk' x',Cl junk' /\
   jb7 whC whB [a,some (.int st),some (.int s),some (.int g),some (netO sws),some (.ref (h.length+1)),some (.int (Rn (jal st sws) s j:Nat)),some (.int (Fn (jal st sws) s j:Nat)),x] (h++[none,some (Cell.dct kvs)]++junk)= .nx [a,some (.int st),some (.int s),some (.int g),some (netO sws),some (.ref (h.length+1)),some (.int (Rn (jal st sws) s j':Nat)),some (.int (Fn (jal st sws) s j':Nat)),x'] (h++[none,some (Cell.dct kvs')]++junk'):=by
 have hp:∀p∈jal st sws,p<2^n:=λp m=>by
  obtain⟨k,w,h1,_,rfl⟩:=jf2 m
  exact jhl (ok.2.2.2 w (List.mem_of_getElem? h1))
 have hle:∀j,(∀i,i<j+1->Fn (jal st sws) s i≠0)->j<=9:=λj hj=>by
  have h1:=jqg hp hs j λi hi=>hj i (by omega)
  have h2:=pc_le n (Rn (jal st sws) s j)
  have:=ok.2.1
  omega
 intro m
 induction m with
 | zero=>
  intro j kvs hm _ _ _ _ hf
  exfalso
  cases j with
  | zero=>omega
  | succ j=>have:=hle j hf;omega
 | succ m ih=>
  intro j kvs hm sa hl ck hg hf
  have hc:=λ(h junk:MH) (a x:Option D)=>jte a (some (.int st)) (some (.int s)) (some (netO sws)) (some (.ref (h.length+1))) (some (.int (Rn (jal st sws) s j:Nat))) g (Fn (jal st sws) s j) x (h++[none,some (Cell.dct kvs)]++junk)
  by_cases q1:Fn (jal st sws) s j=0
  ·exact⟨j,kvs,sa,ck,hg,.inl q1,λh junk a x cj=>⟨junk,x,cj,jd6 (by rw[hc,q1];rfl)⟩⟩
  ·have hf':∀i,i<j+1->Fn (jal st sws) s i≠0:=λi hi=>by
    by_cases e:i=j
    ·subst e;exact q1
    ·exact hf i (by omega)
   have hj:=hle j hf'
   by_cases q2:Fn (jal st sws) s j&&&g=0
   ·obtain⟨kvs1,sa1,l1,ck1,run1⟩:=whB_ok ok st s g j kvs sa hl (by omega) ck
    have hg':∀i,i<j+1->Rn (jal st sws) s i&&&g=0:=λi hi=>by
     by_cases e:i=j
     ·subst e;exact jum hg q2
     ·exact hg i (by omega)
    obtain⟨j',kvs',p1,p2,p3,p4,run2⟩:=ih (j+1) kvs1 (by omega) sa1 l1 ck1 hg' hf'
    refine⟨j',kvs',p1,p2,p3,p4,λh junk a x cj=> ?_⟩
    obtain⟨junk1,x1,cj1,e1⟩:=run1 h junk a x cj
    obtain⟨junk2,x2,cj2,e2⟩:=run2 h junk1 a x1 cj1
    refine⟨junk2,x2,cj2,?_⟩
    rw[jdp (h1:=h++[none,some (Cell.dct kvs)]++junk) (by rw[hc,decide_eq_true q1,decide_eq_false (show ¬(Fn (jal st sws) s j&&&g≠0) by simp[q2])];rfl) e1]
    exact e2
   ·refine⟨j,kvs,sa,ck,hg,.inr ⟨q2,hj⟩,λh junk a x cj=>⟨junk,x,cj,jd6 ?_⟩⟩
    rw[hc,decide_eq_true q1,decide_eq_true (show Fn (jal st sws) s j&&&g≠0 from q2)];rfl
theorem jdl{np nn:Nat}{b:MS}{ds:List D}{h J:MH}{d:D}(hl:ds.length=np)(e:b (ds.map some++List.replicate (nn - ds.length) none) h= .rt d (h++J))(hb:Hb h)(hd:d.bnd h.length=true):mFun np nn b ds h= .ok d h:=by
 unfold mFun
 rw[if_pos hl,e]
 show fin h.length d (h++J)=_
 unfold fin
 by_cases q:(h++J).length<=h.length
 ·rw[if_pos q]
  have:J=[]:=by
   cases J with
   | nil=>rfl
   | cons _ _=>simp at q;omega
  rw[this,List.append_nil]
 ·rw[if_neg q,if_pos]
  ·rw[List.take_left']
   rfl
  ·rw[hd,Bool.true_and,List.take_left' rfl]
   exact hb _ (Nat.le_refl _)
theorem jp9{np nn:Nat}{b:MS}{ds:List D}{h J:MH}{d:D}(hl:ds.length=np)(e:b (ds.map some++List.replicate (nn - ds.length) none) h= .rt d (h++J))(hd:d.bnd h.length=false):mFun np nn b ds h= .ok d (h++J):=by
 unfold mFun
 rw[if_pos hl,e]
 show fin h.length d (h++J)=_
 unfold fin
 by_cases q:(h++J).length<=h.length
 ·rw[if_pos q]
 ·rw[if_neg q,if_neg]
  rw[hd];simp
theorem way_ok(ok:jbi n sws)(st s g:Nat)(hs:s<2^n):
  ((∀i,Rn (jal st sws) s i&&&g=0) /\ ∀h:MH,Hb h->jji [yd n sws,.int st,.int s,.int g] h= .ok .non h) \/
  ∃j ks a b,(∀i,i<j->Rn (jal st sws) s i&&&g=0) /\ Rn (jal st sws) s j&&&g≠0 /\ j<=9 /\ ks.length=j /\ jcp sws st ks a b /\ s.testBit a=true /\ g.testBit b=true /\ ∀h:MH,Hb h->∃junk,Cl junk /\
   jji [yd n sws,.int st,.int s,.int g] h= .ok (.ref (h.length+junk.length)) (h++junk++[some (.lst (ks.map λk:Nat=>D.int k))]):=by
 obtain⟨j,kvs,sa,ck,hg,fin,run⟩:=jvw ok st s g hs 11 0 [] (by omega) (λi hi=>absurd hi (Nat.not_lt_zero _)) (by simp) (λkv m=>by cases m) (λi hi=>absurd hi (Nat.not_lt_zero _)) (λi hi=>absurd hi (Nat.not_lt_zero _))
 have eb:jju=(sSeq (sAsg (jek "Net" z_Qo (ja2 (mVar 0) mNil)) (ja8 4))
   (sSeq (sAsg jif (ja8 5))
   (sSeq (sAsg (mVar 2) (ja8 6))
   (sSeq (sAsg (mVar 2) (ja8 7))
   (sSeq (jb7 whC whB)
   (sSeq (sIf (tNot (tTru (mVar 7)))
   (sRet (mC .non))
   jbq)
   (sRet (jbb z_Ql (ja2 (mVar 5) (ja2 (mVar 2) (ja2 (jbb z_X5 (ja2 (mBin dAnd (mVar 7) (mVar 3)) mNil)) mNil))))))))))):=rfl
 have e3:∀(h:MH),Hb h->∃junk x',Cl junk /\ ∀(r:RS),(sSeq (sIf (tNot (tTru (mVar 7))) (sRet (mC .non)) jbq) (sRet (jbb z_Ql (ja2 (mVar 5) (ja2 (mVar 2) (ja2 (jbb z_X5 (ja2 (mBin dAnd (mVar 7) (mVar 3)) mNil)) mNil)))))) [some (yd n sws),some (.int st),some (.int s),some (.int g),some (netO sws),some (.ref (h.length+1)),some (.int (Rn (jal st sws) s j:Nat)),some (.int (Fn (jal st sws) s j:Nat)),x'] (h++[none,some (Cell.dct kvs)]++junk)=r->
   jju [some (yd n sws),some (.int st),some (.int s),some (.int g),none,none,none,none,none] h=r:=λh hb=>by
  have e1:=jh1 (m:=mVar 0) (ρ:=[some (yd n sws),some (.int st),some (.int s),some (.int g),none,none,none,none,none]) (h:=h) n sws ok.2.2.1 hb (by simp)
  obtain⟨junk,x',cj,e2⟩:=run h [] (some (yd n sws)) none (λc m=>by cases m)
  refine⟨junk,x',cj,λr hr=> ?_⟩
  have e2:jb7 whC whB [some (yd n sws),some (.int st),some (.int s),some (.int g),some (netO sws),some (.ref (h.length+1)),some (.int s),some (.int s),none] (h++[none,some (Cell.dct [])])= .nx [some (yd n sws),some (.int st),some (.int s),some (.int g),some (netO sws),some (.ref (h.length+1)),some (.int (Rn (jal st sws) s j:Nat)),some (.int (Fn (jal st sws) s j:Nat)),x'] (h++[none,some (Cell.dct kvs)]++junk):=by
   have:=e2
   rw[List.append_nil] at this
   exact this
  rw[eb,sSeq,sAsg,e1]
  simp only[jc4,ja8,List.set_cons_succ,List.set_cons_zero,sSeq,sAsg,jif,mVar,List.getElem?_cons_succ,List.getElem?_cons_zero,List.length_append,List.length_cons,List.length_nil,Nat.zero_add,List.append_assoc,List.cons_append,List.nil_append] at hr ⊢
  rw[e2]
  simpa only[List.append_assoc,List.cons_append,List.nil_append] using hr
 have e0:=ne0 (Fn (jal st sws) s j)
 rcases fin with f0 | ⟨f1,hj⟩
 ·refine .inl ⟨jwh hg f0,λh hb=> ?_⟩
  obtain⟨junk,x',cj,e3⟩:=e3 h hb
  have e4:=e3 (.rt .non (h++[none,some (Cell.dct kvs)]++junk)) (by simp[e0,f0])
  rw[List.append_assoc] at e4
  exact jdl (b:=jju) (np:=4) (nn:=9) (ds:=[yd n sws,.int st,.int s,.int g]) rfl e4 hb (by simp[D.bnd])
 ·right
  have hp:∀p∈jal st sws,p<2^n:=λp m=>by
   obtain⟨k,w,h1,_,rfl⟩:=jf2 m
   exact jhl (ok.2.2.2 w (List.mem_of_getElem? h1))
  have q1:Fn (jal st sws) s j≠0:=λz=>f1 (by rw[z];simp)
  have hlt:Fn (jal st sws) s j&&&g<1024:=by
   have h1:=Rn_lt hp hs j
   have h2:Fn (jal st sws) s j&&&g<=Fn (jal st sws) s j:=Nat.and_le_left
   have h3:=(jn9 (ps:=jal st sws) (s:=s) (j:=j)).le
   have h4:2^n<=2^10:=Nat.pow_le_pow_right (by decide) ok.2.1
   omega
  obtain⟨b,lo,tb⟩:=jnv hlt f1
  rw[Nat.testBit_and,Bool.and_eq_true] at tb
  obtain⟨ks,a,l5,t5,s5,e5⟩:=jgd sa b (by omega) tb.1
  have ba:=band (Fn (jal st sws) s j) g
  have rb:Rn (jal st sws) s j&&&g≠0:=by
   rw[Nat.and_comm] at f1 ⊢
   exact jn9.and_ne f1
  refine⟨j,ks,a,b,hg,rb,hj,l5,t5,s5,tb.2,λh hb=> ?_⟩
  obtain⟨junk,x',cj,e3⟩:=e3 h hb
  refine⟨[none,some (Cell.dct kvs)]++junk++[none],?_,?_⟩
  ·intro c m
   rcases List.mem_append.mp m with m | m
   ·rcases List.mem_append.mp m with m | m
    ·simp at m
     rcases m with rfl | rfl
     ·exact λ_=>rfl
     ·exact jtv ck
    ·exact cj c m
   ·rw[List.mem_singleton.mp m];exact λ_=>rfl
  ·have e5:=e5 (h.length+1) (h++[none,some (Cell.dct kvs)]++junk) (by simp[List.getElem?_append])
   have lo:=lo (h++[none,some (Cell.dct kvs)]++junk)
   have e4:=e3 (.rt (.ref ((h++[none,some (Cell.dct kvs)]++junk).length+1)) (h++[none,some (Cell.dct kvs)]++junk++[none,some (.lst (ks.map λk:Nat=>D.int k))])) (by
    generalize h++[none,some (Cell.dct kvs)]++junk=H at*
    generalize 2^b=X at*
    simp[e0,q1,ba,lo,e5])
   have e6:=jp9 (b:=jju) (np:=4) (nn:=9) (ds:=[yd n sws,.int st,.int s,.int g]) (J:=[none,some (Cell.dct kvs)]++junk++[none,some (.lst (ks.map λk:Nat=>D.int k))]) rfl (by rw[<-List.append_assoc,<-List.append_assoc];exact e4) (by simp[D.bnd];omega)
   refine Eq.trans e6 ?_
   congr 1
   ·simp;omega
   ·simp
theorem joinsG(s:Sw){n:Nat}(hn:n<=10)(ok:s.ok n){m:ME}{ρ:Ro}{h:MH}(e:m ρ h= .ok s.o h):jat jbt "joins" m mNil ρ h= .ok (.int s.pair) h:=by
 have:=jw7 s hn ok h
 unfold jat at this ⊢
 rw[e]
 simpa using this
def jbu(x:Nat):List Nat:=(List.range (Builtin.Int.intBits (x:Int))).filter λk=>x.testBit k
theorem jf3{x k:Nat}:k∈jbu x↔x.testBit k=true:=by
 unfold jbu
 rw[List.mem_filter,List.mem_range]
 refine⟨λh=>h.2,λh=>⟨?_,h⟩⟩
 have h0:x≠0:=λz=>by subst z;simp at h
 have h1:2^k<=x:=Nat.ge_two_pow_of_testBit h
 have h2:=(Nat.le_log2 h0).mpr h1
 simp[Builtin.Int.intBits,h0]
 omega
theorem jfn{x m:Nat}(hx:x<2^m):Builtin.Int.intBits (x:Int)<=m:=by
 by_cases h0:x=0
 ·subst h0;simp[Builtin.Int.intBits]
 ·have h2:=(Nat.log2_lt h0).mpr hx
  simp[Builtin.Int.intBits,h0]
  omega
theorem jk0(m:Nat):rng 0 m=(List.range m).map λk:Nat=>D.int k:=by
 unfold rng
 simp
theorem jg1(x:Nat)(hx:x<2^12)(h:MH):z_Qx [.int x] h= .ok (.lst ((jbu x).map λk:Nat=>D.int k)) h:=by
 have hl:=jfn hx
 have comp:compLoop (ja8 0) (tTru (jbb jio (ja2 (mVar 1) (ja2 (mVar 0) mNil)))) (mVar 0) [none,some (.int x)] (rng 0 (Builtin.Int.intBits (x:Int))) h= .ok ((jbu x).map λk:Nat=>D.int k) h:=by
  rw[jk0]
  exact jcv (g:=ja8 0) (t:=tTru (jbb jio (ja2 (mVar 1) (ja2 (mVar 0) mNil)))) (m:=mVar 0) (ρ0:=[none,some (.int x)]) (h:=h) (λk:Nat=>D.int k) (λk=>[some (.int k),some (.int x)]) (λk=>x.testBit k) (λk:Nat=>D.int k) (List.range (Builtin.Int.intBits (x:Int))) λk _=>by
   have:=jq1 x k h
   refine⟨by simp,?_,by simp⟩
   simp[this]
 simp[-List.map_map,z_Qx,b_Qx,comp,show Builtin.Int.intBits (x:Int)<4611686018427387904 by omega,show Builtin.Int.intBits (x:Int)<16777216 by omega]
theorem sw_at{sws:List Sw}{k:Nat}{w:Sw}(hw:sws[k]?=some w){m l:ME}{ρ:Ro}{h:MH}(em:m ρ h= .ok (netO sws) h)(el:l ρ h= .ok (.int k) h):(mBin dIx (mFld jaz "switches" m) l) ρ h= .ok w.o h:=by
 have hx:atI (sws.map Sw.o) (k:Int)=some w.o:=jg4 (by rw[List.getElem?_map,hw];rfl)
 simp[-List.map_map,em,el,netO,jaz,List.lookup,hx]
def swv(v:Sw->Nat)(sws:List Sw)(k:Nat):Nat:=match sws[k]? with
 | some w=>v w
 | none=>0
theorem J_eq{ps:List Nat}{R b x:Nat}(c:Clo.closed ps R)(h:(Clo.clo ps (2^b)).testBit x=true):R.testBit x=R.testBit b:=by
 have I:=Clo.is ps (2^b)
 have hb:(Clo.clo ps (2^b)).testBit b=true:=I.ge b (by rw[jak];simp)
 cases q:R.testBit b with
 | true=>
  refine I.le R (λi hi=> ?_) c x h
  rw[jak] at hi
  exact(of_decide_eq_true hi)▸q
 | false=>
  have T:=I.le (Clo.clo ps (2^b) - (Clo.clo ps (2^b)&&&R)) (λi hi=>by
   rw[jak] at hi
   have:=of_decide_eq_true hi
   subst this
   rw[jbz,hb,q];rfl) (λp hp hn=>by
   obtain⟨i,h1,h2⟩:=Clo.and_ne.mp hn
   rw[jbz,Bool.and_eq_true] at h2
   intro j hj
   rw[jbz,I.cl p hp (Clo.and_ne.mpr ⟨i,h1,h2.1⟩) j hj,Bool.true_and]
   cases z:R.testBit j with
   | false=>rfl
   | true=>
    have:=c p hp (Clo.and_ne.mpr ⟨j,hj,z⟩) i h1
    rw[this] at h2
    exact absurd h2.2 (by simp)) x h
  rw[jbz,Bool.and_eq_true] at T
  simpa using T.2
theorem jlm(ps:List Nat)(b:Nat):(Clo.clo ps (2^b)).testBit b=true:=(Clo.is ps (2^b)).ge b (by rw[jak];simp)
theorem J_no{ps:List Nat}{b pw:Nat}(hp:∀p∈ps,p.testBit pw=false)(h:b≠pw):(Clo.clo ps (2^b)).testBit pw=false:=by
 have c:Clo.closed ps (2^pw):=λp m n=>by
  obtain⟨i,h1,h2⟩:=Clo.and_ne.mp n
  rw[jak] at h2
  rw[<-of_decide_eq_true h2,hp p m] at h1;cases h1
 cases q:(Clo.clo ps (2^b)).testBit pw with
 | false=>rfl
 | true=>
  have:=J_eq c q
  rw[jak,jak] at this
  simp at this
  exact absurd this.symm h
abbrev Stp:=Nat×Nat×Nat
def Sp(en:Nat->Nat)(x:Stp):Prop:=x.2.1≠x.2.2 /\ en x.1=2^x.2.1|||2^x.2.2
theorem Sp.bit{en:Nat->Nat}{x:Stp}(h:Sp en x)(i:Nat):(en x.1).testBit i=true↔(i=x.2.1 \/ i=x.2.2):=by
 rw[h.2,Nat.testBit_or,jak,jak,Bool.or_eq_true]
 simp[eq_comm]
theorem Sp.same{en:Nat->Nat}{x y:Stp}(h:Sp en x)(g:Sp en y)(e:x.1=y.1):(y.2.1=x.2.1 /\ y.2.2=x.2.2) \/ (y.2.1=x.2.2 /\ y.2.2=x.2.1):=by
 have h1:=(h.bit y.2.1).mp (by rw[e];exact(g.bit _).mpr (.inl rfl))
 have h2:=(h.bit y.2.2).mp (by rw[e];exact(g.bit _).mpr (.inr rfl))
 have:=g.1
 rcases h1 with h1 | h1<;>rcases h2 with h2 | h2
 ·exact absurd (h1.trans h2.symm) this
 ·exact .inl ⟨h1,h2⟩
 ·exact .inr ⟨h1,h2⟩
 ·exact absurd (h1.trans h2.symm) this
inductive Gr (ps:List Nat) (en st:Nat->Nat) (pw:Nat):List Stp->Nat->Prop
 | nil:Gr ps en st pw [] (2^pw)
 | snoc {l:List Stp} {r:Nat} {x:Stp}:Gr ps en st pw l r->Sp en x->r.testBit x.2.1=true->r.testBit x.2.2=false->(st x.1).testBit x.2.1=true->Gr ps en st pw (l++[x]) (r|||Clo.clo ps (2^x.2.2))
section
variable {ps : List Nat} {en st : Nat -> Nat} {pw : Nat} {l : List Stp} {r : Nat}
theorem Gr.pw_(g:Gr ps en st pw l r):r.testBit pw=true:=by
 induction g with
 | nil=>rw[jak];simp
 | snoc _ _ _ _ _ ih=>rw[Nat.testBit_or,ih];rfl
theorem Gr.closed(g:Gr ps en st pw l r)(hp:∀p∈ps,p.testBit pw=false):Clo.closed ps r:=by
 induction g with
 | nil=>
  intro p m n
  obtain⟨i,h1,h2⟩:=Clo.and_ne.mp n
  rw[jak] at h2
  rw[<-of_decide_eq_true h2,hp p m] at h1;cases h1
 | snoc _ _ _ _ _ ih=>
  intro p m n
  obtain⟨i,h1,h2⟩:=Clo.and_ne.mp n
  rw[Nat.testBit_or,Bool.or_eq_true] at h2
  rcases h2 with h2 | h2
  ·exact(ih p m (Clo.and_ne.mpr ⟨i,h1,h2⟩)).trans (Clo.jd9 _ _)
  ·exact((Clo.is ps _).cl p m (Clo.and_ne.mpr ⟨i,h1,h2⟩)).trans (Clo.jfr _ _)
theorem Gr.mem(g:Gr ps en st pw l r):∀x∈l,Sp en x /\ r.testBit x.2.1=true /\ r.testBit x.2.2=true /\ (st x.1).testBit x.2.1=true /\ x.2.2≠pw:=by
 induction g with
 | nil=>intro x m;cases m
 | snoc g h1 h2 h3 h4 ih=>
  intro x m
  rcases List.mem_append.mp m with m | m
  ·obtain⟨a,b,c,d,e⟩:=ih x m
   exact⟨a,by rw[Nat.testBit_or,b];rfl,by rw[Nat.testBit_or,c];rfl,d,e⟩
  ·rw[List.mem_singleton.mp m]
   refine⟨h1,by rw[Nat.testBit_or,h2];rfl,by rw[Nat.testBit_or,jlm];simp,h4,λz=> ?_⟩
   rw[z,g.pw_] at h3;cases h3
theorem Gr.nodup(g:Gr ps en st pw l r):(l.map (·.1)).Nodup:=by
 induction g with
 | nil=>exact .nil
 | @snoc l r x g h1 h2 h3 h4 ih=>
  rw[List.map_append,List.nodup_append]
  refine⟨ih,by simp,λa ha b hb=> ?_⟩
  obtain⟨y,my,rfl⟩:=List.mem_map.mp ha
  have hb:b=x.1:=by simpa using hb
  subst hb
  intro e
  obtain⟨s1,s2,s3,_,_⟩:=g.mem y my
  rcases s1.same h1 e with⟨_,q⟩ | ⟨_,q⟩
  ·rw[q,s3] at h3;cases h3
  ·rw[q,s2] at h3;cases h3
theorem Gr.reach(g:Gr ps en st pw l r){i:Nat}(h:r.testBit i=true):i=pw \/ ∃x∈l,(Clo.clo ps (2^x.2.2)).testBit i=true:=by
 induction g with
 | nil=>rw[jak] at h;exact .inl (of_decide_eq_true h).symm
 | snoc _ _ _ _ _ ih=>
  rw[Nat.testBit_or,Bool.or_eq_true] at h
  rcases h with h | h
  ·rcases ih h with h | ⟨x,m,q⟩
   ·exact .inl h
   ·exact .inr ⟨x,List.mem_append_left _ m,q⟩
  ·exact .inr ⟨_,List.mem_append_right _ (List.mem_singleton.mpr rfl),h⟩
end
def pick(ps:List Nat):Nat->List Stp->List Stp
 | _,[]=>[]
 | W,x::l=>if Clo.clo ps (2^x.2.2)&&&W≠0 then x::pick ps (2^x.2.1) l else pick ps W l
theorem jcd(ps:List Nat):∀(W:Nat) (l:List Stp),(pick ps W l).Sublist l
 | _,[]=>List.Sublist.refl _
 | W,x::l=>by
  unfold pick
  split
  ·exact(jcd ps _ l).cons₂ x
  ·exact(jcd ps W l).cons x
theorem jka{ps:List Nat}:∀{W:Nat} {l:List Stp},(∀x∈l,Clo.clo ps (2^x.2.2)&&&W=0)->pick ps W l=[]
 | _,[],_=>rfl
 | W,x::l,h=>by
  unfold pick
  rw[if_neg (by rw[h x (List.mem_cons_self ..)];simp)]
  exact jka λy m=>h y (List.mem_cons_of_mem _ m)
inductive Ch (ps:List Nat) (pw:Nat):Nat->List Stp->Prop
 | one {W:Nat} {x:Stp}:Clo.clo ps (2^x.2.2)&&&W≠0->x.2.1=pw->Ch ps pw W [x]
 | cons {W:Nat} {x:Stp} {l:List Stp}:Clo.clo ps (2^x.2.2)&&&W≠0->x.2.1≠pw->Ch ps pw (2^x.2.1) l->Ch ps pw W (x::l)
theorem jf4(a i:Nat):a&&&2^i≠0↔a.testBit i=true:=by
 rw[Clo.and_ne]
 constructor
 ·rintro⟨j,h1,h2⟩
  rw[jak] at h2
  exact(of_decide_eq_true h2)▸h1
 ·intro h
  exact⟨i,h,by rw[jak];simp⟩
theorem jqs{ps:List Nat}{en st:Nat->Nat}{pw:Nat}(hp:∀p∈ps,p.testBit pw=false){l:List Stp}{r:Nat}(g:Gr ps en st pw l r):∀{W:Nat},W&&&r≠0->W.testBit pw=false->Ch ps pw W (pick ps W l.reverse):=by
 induction g with
 | nil=>
  intro W h1 h2
  rw[jf4] at h1
  rw[h1] at h2;cases h2
 | @snoc l r x g s1 s2 s3 s4 ih=>
  intro W h1 h2
  rw[List.reverse_append]
  show Ch ps pw W (pick ps W (x::l.reverse))
  unfold pick
  by_cases q:Clo.clo ps (2^x.2.2)&&&W≠0
  ·rw[if_pos q]
   by_cases e:x.2.1=pw
   ·have:pick ps (2^x.2.1) l.reverse=[]:=jka λy m=>by
     have:=J_no hp (g.mem y (List.mem_reverse.mp m)).2.2.2.2
     rw[e]
     exact Classical.byContradiction λz=>by rw[(jf4 _ _).mp z] at this;cases this
    rw[this]
    exact .one q e
   ·refine .cons q e (ih ?_ ?_)
    ·rw[Nat.and_comm,jf4];exact s2
    ·rw[jak];simp[e]
  ·rw[if_neg q]
   refine ih ?_ h2
   obtain⟨i,a,b⟩:=Clo.and_ne.mp h1
   rw[Nat.testBit_or,Bool.or_eq_true] at b
   rcases b with b | b
   ·exact Clo.and_ne.mpr ⟨i,a,b⟩
   ·exact absurd (Clo.and_ne.mpr ⟨i,b,a⟩) q
theorem jkr{ps:List Nat}{en st:Nat->Nat}{pw:Nat}{l:List Stp}{r W:Nat}(g:Gr ps en st pw l r)(h:W&&&r=0):pick ps W l.reverse=[]:=jka λx m=>by
 refine Classical.byContradiction λz=> ?_
 obtain⟨i,a,b⟩:=Clo.and_ne.mp z
 have:r.testBit i=true:=by
  replace m:=List.mem_reverse.mp m
  clear h
  induction g with
  | nil=>cases m
  | snoc _ _ _ _ _ ih=>
   rw[Nat.testBit_or]
   rcases List.mem_append.mp m with m | m
   ·rw[ih m];rfl
   ·rw[List.mem_singleton.mp m] at a;rw[a];simp
 have q:W&&&r≠0:=Clo.and_ne.mpr ⟨i,b,this⟩
 exact q h
def ind(R i:Nat):Int:=if R.testBit i=true then 1 else 0
def dl(R:Nat)(x:Stp):Int:=ind R x.2.1 - ind R x.2.2
def fl(R:Nat)(l:List Stp):Int:=(l.map (dl R)).sum
theorem jdc(R:Nat)(x:Stp)(l:List Stp):fl R (x::l)=dl R x+fl R l:=rfl
theorem ju5(R:Nat)(l k:List Stp):fl R (l++k)=fl R l+fl R k:=by
 unfold fl
 rw[List.map_append,List.sum_append]
theorem jop(R:Nat):∀l:List Stp,fl R l.reverse=fl R l
 | []=>rfl
 | x::l=>by rw[List.reverse_cons,ju5,jop R l,jdc,jdc];simp[fl];omega
theorem Ch.sum{ps:List Nat}{pw R:Nat}(c:Clo.closed ps R)(hw:R.testBit pw=true){W:Nat}{l:List Stp}(h:Ch ps pw W l):∀b:Bool,(∀i,W.testBit i=true->R.testBit i=b)->fl R l=1 - (if b then 1 else 0):=by
 have one:∀{W:Nat} {x:Stp} {b:Bool},Clo.clo ps (2^x.2.2)&&&W≠0->(∀i,W.testBit i=true->R.testBit i=b)->ind R x.2.2=if b then 1 else 0:=fun{W x b} h hb=>by
  obtain⟨i,h1,h2⟩:=Clo.and_ne.mp h
  have:=J_eq c h1
  rw[hb i h2] at this
  unfold ind
  rw[<-this]
 induction h with
 | one h e=>
  intro b hb
  rw[jdc]
  unfold dl
  rw[one h hb,e]
  have:ind R pw=1:=by unfold ind;rw[hw];rfl
  rw[this]
  simp[fl]
 | @cons W x l h e g ih=>
  intro b hb
  have:=ih (R.testBit x.2.1) (λi hi=>by rw[jak] at hi;rw[of_decide_eq_true hi])
  rw[jdc,this]
  unfold dl
  rw[one h hb]
  unfold ind
  cases R.testBit x.2.1<;>simp<;>omega
structure Fo (en:Nat->Nat) (ks:List Nat) (gl:List Stp):Prop where
 nd:(gl.map (·.1)).Nodup
 sp:∀x∈gl,Sp en x
 ks:∀x∈gl,x.1∈ks
theorem jj1{l:List Nat}(h:l.Nodup):l.reverse.Nodup:=by
 unfold List.Nodup at*
 rw[List.pairwise_reverse]
 exact h.imp Ne.symm
def hasK(gl:List Stp)(e:Nat):Bool:=gl.any λy=>decide (y.1=e)
def delK(gl:List Stp)(e:Nat):List Stp:=gl.filter λy=>decide (y.1≠e)
def tog(gl:List Stp)(x:Stp):List Stp:=if hasK gl x.1=true then delK gl x.1 else gl++[x]
def togs(gl row:List Stp):List Stp:=row.foldl tog gl
theorem jh8{gl:List Stp}{e:Nat}:hasK gl e=true↔∃y∈gl,y.1=e:=by
 unfold hasK
 rw[List.any_eq_true]
 simp
theorem jea{gl:List Stp}{e:Nat}{y:Stp}:y∈delK gl e↔y∈gl /\ y.1≠e:=by
 unfold delK
 rw[List.mem_filter]
 simp
theorem jvb{gl:List Stp}{e:Nat}(h:∀y∈gl,y.1≠e):delK gl e=gl:=List.filter_eq_self.mpr λy m=>by simpa using h y m
theorem jpq{R:Nat}:∀{gl:List Stp} {x:Stp},(gl.map (·.1)).Nodup->x∈gl->fl R (delK gl x.1)=fl R gl - dl R x
 | y::gl,x,nd,m=>by
  rw[List.map_cons] at nd
  obtain⟨n1,n2⟩:=List.nodup_cons.mp nd
  rcases List.mem_cons.mp m with rfl | m
  ·have:delK (x::gl) x.1=gl:=by
    show List.filter _ (x::gl)=gl
    rw[List.filter_cons_of_neg (by simp)]
    exact jvb λy m e=>n1 (List.mem_map.mpr ⟨y,m,e⟩)
   rw[this,jdc];omega
  ·have ne:y.1≠x.1:=λe=>n1 (List.mem_map.mpr ⟨x,m,e.symm⟩)
   have:delK (y::gl) x.1=y::delK gl x.1:=List.filter_cons_of_pos (by simpa using ne)
   rw[this,jdc,jdc,jpq n2 m];omega
theorem nd_del{gl:List Stp}{e:Nat}(nd:(gl.map (·.1)).Nodup):((delK gl e).map (·.1)).Nodup:=List.Sublist.nodup (List.Sublist.map _ List.filter_sublist) nd
theorem Fo.del{en:Nat->Nat}{ks:List Nat}{gl:List Stp}(f:Fo en ks gl)(e:Nat):Fo en ks (delK gl e):=⟨nd_del f.nd,λx m=>f.sp x (jea.mp m).1,λx m=>f.ks x (jea.mp m).1⟩
theorem Fo.tog{en:Nat->Nat}{ks:List Nat}{gl:List Stp}(f:Fo en ks gl){x:Stp}(s:Sp en x)(k:x.1∈ks):Fo en ks (tog gl x):=by
 unfold My.tog
 split
 ·exact f.del _
 ·rename_i h
  refine⟨?_,λy m=> ?_,λy m=> ?_⟩
  ·rw[List.map_append,List.nodup_append]
   refine⟨f.nd,by simp,λa ha b hb e=>h ?_⟩
   obtain⟨y,my,rfl⟩:=List.mem_map.mp ha
   have hb:b=x.1:=by simpa using hb
   exact jh8.mpr ⟨y,my,e.trans hb⟩
  ·rcases List.mem_append.mp m with m | m
   ·exact f.sp y m
   ·rw[List.mem_singleton.mp m];exact s
  ·rcases List.mem_append.mp m with m | m
   ·exact f.ks y m
   ·rw[List.mem_singleton.mp m];exact k
theorem fl_tog{R:Nat}{gl:List Stp}{x:Stp}(nd:(gl.map (·.1)).Nodup)(h:∀y∈gl,y.1=x.1->y.2.1=x.2.2 /\ y.2.2=x.2.1):fl R (tog gl x)=fl R gl+dl R x:=by
 unfold tog
 split
 ·rename_i q
  obtain⟨y,m,e⟩:=jh8.mp q
  rw[<-e,jpq nd m]
  obtain⟨h1,h2⟩:=h y m e
  unfold dl
  rw[h1,h2];omega
 ·rw[ju5]
  simp[fl]
theorem jv4{gl:List Stp}{x y:Stp}(ne:y.1≠x.1):y∈tog gl x↔y∈gl:=by
 unfold tog
 split
 ·rw[jea];simp[ne]
 ·rw[List.mem_append,List.mem_singleton]
  constructor
  ·rintro(h | h)
   ·exact h
   ·exact absurd (congrArg (·.1) h) ne
  ·exact .inl
theorem jos{en:Nat->Nat}{ks:List Nat}:∀{row gl:List Stp},Fo en ks gl->(row.map (·.1)).Nodup->(∀x∈row,Sp en x /\ x.1∈ks /\ ∀y∈gl,y.1=x.1->y.2.1=x.2.2 /\ y.2.2=x.2.1)->Fo en ks (togs gl row) /\ ∀R,fl R (togs gl row)=fl R gl+fl R row
 | [],gl,f,_,_=>⟨f,λR=>by simp[togs,fl]⟩
 | x::row,gl,f,nd,h=>by
  rw[List.map_cons] at nd
  obtain⟨n1,n2⟩:=List.nodup_cons.mp nd
  obtain⟨s,k,q⟩:=h x (List.mem_cons_self ..)
  obtain⟨f2,e2⟩:=jos (row:=row) (f.tog s k) n2 (λz m=>by
   obtain⟨s',k',q'⟩:=h z (List.mem_cons_of_mem _ m)
   refine⟨s',k',λy hy e=>q' y ?_ e⟩
   refine(jv4 λe'=>n1 ?_).mp hy
   exact List.mem_map.mpr ⟨z,m,e.symm.trans e'⟩)
  refine⟨f2,λR=> ?_⟩
  show fl R (togs (tog gl x) row)=_
  rw[e2,fl_tog f.nd q,jdc];omega
def stL(en:Nat->Nat)(gl:List Stp)(e:Nat):Nat:=match gl.find? λy=>decide (y.1=e) with
 | some y=>2^y.2.2
 | none=>en e
def stW(gl:List Stp)(e:Nat):Nat:=match gl.find? λy=>decide (y.1=e) with
 | some y=>2^y.2.1
 | none=>0
theorem jew{gl:List Stp}(nd:(gl.map (·.1)).Nodup){y:Stp}(m:y∈gl):(gl.find? λz=>decide (z.1=y.1))=some y:=by
 induction gl with
 | nil=>cases m
 | cons a gl ih=>
  rw[List.map_cons] at nd
  obtain⟨n1,n2⟩:=List.nodup_cons.mp nd
  rw[List.find?_cons]
  rcases List.mem_cons.mp m with rfl | m
  ·simp
  ·have:¬a.1=y.1:=λe=>n1 (List.mem_map.mpr ⟨y,m,e.symm⟩)
   simp only[this,decide_false]
   exact ih n2 m
theorem jfv{gl:List Stp}{e:Nat}{y:Stp}(h:(gl.find? λz=>decide (z.1=e))=some y):y∈gl /\ y.1=e:=⟨List.mem_of_find?_eq_some h,by simpa using List.find?_some h⟩
section
variable {ps : List Nat} {en : Nat -> Nat} {pw : Nat} {ks : List Nat} {gl l : List Stp} {r W : Nat}
theorem js4(hp:∀p∈ps,p.testBit pw=false)(f:Fo en ks gl)(g:Gr ps en (stL en gl) pw l r)(hk:∀x∈l,x.1∈ks)(h1:W&&&r≠0)(h2:W.testBit pw=false):
  pick ps W l.reverse≠[] /\ Fo en ks (togs gl (pick ps W l.reverse).reverse) /\ ∀R,Clo.closed ps R->R.testBit pw=true->W&&&R=0->fl R (togs gl (pick ps W l.reverse).reverse)=fl R gl+1:=by
 have c:=jqs hp g h1 h2
 have sb:∀x∈(pick ps W l.reverse).reverse,x∈l:=λx m=>List.mem_reverse.mp ((jcd ps W _).subset (List.mem_reverse.mp m))
 have nd:((pick ps W l.reverse).reverse.map (·.1)).Nodup:=by
  rw[List.map_reverse]
  refine jj1 (List.Sublist.nodup (List.Sublist.map _ (jcd ps W _)) ?_)
  rw[List.map_reverse]
  exact jj1 g.nodup
 obtain⟨f2,e2⟩:=jos f nd (λx m=>by
  obtain⟨s1,s2,s3,s4,_⟩:=g.mem x (sb x m)
  refine⟨s1,hk x (sb x m),λy hy e=> ?_⟩
  have fm:=jew f.nd hy
  rw[e] at fm
  unfold stL at s4
  rw[fm] at s4
  rw[jak] at s4
  have s4:y.2.2=x.2.1:=of_decide_eq_true s4
  rcases(f.sp y hy).same s1 e with⟨a,b⟩ | ⟨a,b⟩
  ·exact absurd (s4.symm.trans b.symm) s1.1
  ·exact⟨b.symm,s4⟩)
 refine⟨(λz=>by rw[z] at c;cases c),f2,λR hc hw hW=> ?_⟩
 rw[e2,jop,c.sum hc hw false (λi hi=>by
  cases q:R.testBit i with
  | false=>rfl
  | true=>exact absurd hW (Clo.and_ne.mpr ⟨i,hi,q⟩))]
 simp
theorem jtz{R:Nat}:∀{gl:List Stp},(gl.map (·.1)).Nodup->(∀x∈gl,x.1∈ks)->ks.Nodup->(ks.map λe=>match gl.find? λy=>decide (y.1=e) with | some y=>dl R y | none=>0).sum=fl R gl
 | [],_,_,_=>by
  have:∀ks:List Nat,(ks.map λ_=>(0:Int)).sum=0:=λks=>by
   induction ks with
   | nil=>rfl
   | cons a l ih=>rw[List.map_cons,List.sum_cons,ih];rfl
  exact this ks
 | x::gl,nd,hk,nk=>by
  rw[List.map_cons] at nd
  obtain⟨n1,n2⟩:=List.nodup_cons.mp nd
  have ih:=jtz (R:=R) n2 (λy m=>hk y (List.mem_cons_of_mem _ m)) nk
  have pt:∀(f:Nat->Int) (a:Nat) (v:Int) (ks:List Nat),ks.Nodup->f a=0->(ks.map λe=>if a=e then v else f e).sum=(if a∈ks then v else 0)+(ks.map f).sum:=λf a v ks=>by
   induction ks with
   | nil=>intro _ _;simp
   | cons b ks ih=>
    intro nd hf
    obtain⟨m1,m2⟩:=List.nodup_cons.mp nd
    rw[List.map_cons,List.sum_cons,List.map_cons,List.sum_cons,ih m2 hf]
    by_cases e:a=b
    ·subst e;simp[m1,hf]
    ·simp[e];omega
  have:=pt (λe=>match gl.find? λy=>decide (y.1=e) with | some y=>dl R y | none=>0) x.1 (dl R x) ks nk (by
   have:gl.find? (λy=>decide (y.1=x.1))=none:=List.find?_eq_none.mpr λy m e=>n1 (List.mem_map.mpr ⟨y,m,by simpa using e⟩)
   simp only[this])
  rw[if_pos (hk x (List.mem_cons_self ..)),ih] at this
  rw[jdc,<-this]
  congr 1
  refine List.map_congr_left λe _=> ?_
  rw[List.find?_cons]
  by_cases q:x.1=e
  ·simp[q]
  ·simp[q]
def rimB(en:Nat->Nat)(r e:Nat):Bool:=decide (en e&&&r≠0)&&decide (en e - (en e&&&r)≠0)
theorem je3{e:Nat}:rimB en r e=true↔(∃i,(en e).testBit i=true /\ r.testBit i=true) /\ ∃i,(en e).testBit i=true /\ r.testBit i=false:=by
 unfold rimB
 rw[Bool.and_eq_true,decide_eq_true_iff,decide_eq_true_iff,Clo.and_ne]
 refine and_congr Iff.rfl ?_
 constructor
 ·intro h
  obtain⟨i,hi⟩:=Nat.exists_testBit_of_ne_zero h
  rw[jbz] at hi
  exact⟨i,by simpa using hi⟩
 ·rintro⟨i,h1,h2⟩ z
  have:(en e - (en e&&&r)).testBit i=true:=by rw[jbz,h1,h2];rfl
  rw[z] at this;simp at this
def Full(en:Nat->Nat)(ks:List Nat)(gl:List Stp)(r:Nat):Prop:=∀e∈ks,(∀i,(en e).testBit i=true->r.testBit i=true) \/ stL en gl e&&&r=0
theorem jvr(f:Fo en ks gl)(F:Full en ks gl r){x:Stp}(m:x∈gl):dl r x=if rimB en r x.1=true then 1 else 0:=by
 have s:=f.sp x m
 rcases F x.1 (f.ks x m) with h | h
 ·have h1:=h _ ((s.bit _).mpr (.inl rfl))
  have h2:=h _ ((s.bit _).mpr (.inr rfl))
  rw[if_neg]
  ·unfold dl ind;rw[h1,h2];rfl
  ·intro q
   obtain⟨_,i,a,b⟩:=je3.mp q
   rw[h i a] at b;cases b
 ·have fm:=jew f.nd m
  unfold stL at h
  rw[fm] at h
  have h2:r.testBit x.2.2=false:=by
   cases q:r.testBit x.2.2 with
   | false=>rfl
   | true=>
    have:(2^x.2.2)&&&r≠0:=Clo.and_ne.mpr ⟨x.2.2,by rw[jak];simp,q⟩
    exact absurd h this
  cases h1:r.testBit x.2.1 with
  | true=>
   rw[if_pos (je3.mpr ⟨⟨_,(s.bit _).mpr (.inl rfl),h1⟩,_,(s.bit _).mpr (.inr rfl),h2⟩)]
   unfold dl ind;rw[h1,h2];rfl
  | false=>
   rw[if_neg]
   ·unfold dl ind;rw[h1,h2];rfl
   ·intro q
    obtain⟨⟨i,a,b⟩,_⟩:=je3.mp q
    rcases(s.bit i).mp a with rfl | rfl
    ·rw[h1] at b;cases b
    ·rw[h2] at b;cases b
theorem jrn(F:Full en ks gl r){e:Nat}(m:e∈ks)(h:rimB en r e=true):∃x∈gl,x.1=e:=by
 rcases F e m with q | q
 ·obtain⟨_,i,a,b⟩:=je3.mp h
  rw[q i a] at b;cases b
 ·cases z:gl.find? λy=>decide (y.1=e) with
  | some x=>exact⟨x,jfv z⟩
  | none=>
   unfold stL at q
   rw[z] at q
   obtain⟨⟨i,a,b⟩,_⟩:=je3.mp h
   exact absurd q (Clo.and_ne.mpr ⟨i,a,b⟩)
theorem jle(f:Fo en ks gl)(nk:ks.Nodup)(F:Full en ks gl r):fl r gl=((ks.filter λe=>rimB en r e).length:Nat):=by
 rw[<-jtz f.nd f.ks nk]
 have:∀l:List Nat,(∀e∈l,e∈ks)->(l.map λe=>match gl.find? λy=>decide (y.1=e) with | some y=>dl r y | none=>(0:Int)).sum=(((l.filter λe=>rimB en r e).length:Nat):Int):=λl=>by
  induction l with
  | nil=>intro _;rfl
  | cons e l ih=>
   intro h
   rw[List.map_cons,List.sum_cons,ih λa m=>h a (List.mem_cons_of_mem _ m),List.filter_cons]
   have he:=h e (List.mem_cons_self ..)
   have key:(match gl.find? λy=>decide (y.1=e) with | some y=>dl r y | none=>(0:Int))=if rimB en r e=true then(1:Int) else 0:=by
    cases z:gl.find? λy=>decide (y.1=e) with
    | some x=>
     obtain⟨m,e'⟩:=jfv z
     simp only
     rw[jvr f F m,e']
    | none=>
     simp only
     rw[if_neg]
     intro q
     obtain⟨x,m,e'⟩:=jrn F he q
     have:=jew f.nd m
     rw[e',z] at this;cases this
   rw[key]
   split
   ·simp;omega
   ·simp
 exact this ks λe m=>m
end
def dels(gl row:List Stp):List Stp:=row.foldl (λgl x=>delK gl x.1) gl
section
variable {ps : List Nat} {en : Nat -> Nat} {pw : Nat} {ks : List Nat}
theorem jow:∀{row gl:List Stp},Fo en ks gl->(row.map (·.1)).Nodup->(∀x∈row,x∈gl)->Fo en ks (dels gl row) /\ (∀R,fl R (dels gl row)=fl R gl - fl R row) /\ (∀y∈dels gl row,y∈gl)
 | [],gl,f,_,_=>⟨f,λR=>by simp[dels,fl],λy m=>m⟩
 | x::row,gl,f,nd,h=>by
  rw[List.map_cons] at nd
  obtain⟨n1,n2⟩:=List.nodup_cons.mp nd
  have mx:=h x (List.mem_cons_self ..)
  obtain⟨f2,e2,s2⟩:=jow (row:=row) (f.del x.1) n2 (λz m=>jea.mpr ⟨h z (List.mem_cons_of_mem _ m),λe=>n1 (List.mem_map.mpr ⟨z,m,e⟩)⟩)
  refine⟨f2,λR=> ?_,λy m=>(jea.mp (s2 y m)).1⟩
  show fl R (dels (delK gl x.1) row)=_
  rw[e2,jpq f.nd mx,jdc];omega
variable {gl l : List Stp} {r W : Nat}
theorem jqt(f:Fo en ks gl)(g:Gr ps en (stW gl) pw l r):∀x∈l,x∈gl:=λx m=>by
 obtain⟨s1,_,_,s4,_⟩:=g.mem x m
 unfold stW at s4
 cases z:gl.find? λy=>decide (y.1=x.1) with
 | none=>rw[z] at s4;simp at s4
 | some y=>
  rw[z] at s4
  obtain⟨my,e⟩:=jfv z
  have s4:y.2.1=x.2.1:=by rw[jak] at s4;exact of_decide_eq_true s4
  have:y=x:=by
   rcases(f.sp y my).same s1 e with⟨a,b⟩ | ⟨a,b⟩
   ·exact Prod.ext e (Prod.ext s4 b.symm)
   ·exact absurd (b.trans s4).symm s1.1
  exact this▸my
theorem juh(hp:∀p∈ps,p.testBit pw=false)(f:Fo en ks gl)(g:Gr ps en (stW gl) pw l r)(h1:W&&&r≠0)(h2:W.testBit pw=false):
  Ch ps pw W (pick ps W l.reverse) /\ (∀x∈pick ps W l.reverse,x∈gl) /\ Fo en ks (dels gl (pick ps W l.reverse).reverse) /\ (∀y∈dels gl (pick ps W l.reverse).reverse,y∈gl) /\ ∀R,Clo.closed ps R->R.testBit pw=true->W&&&R=0->fl R (dels gl (pick ps W l.reverse).reverse)=fl R gl - 1:=by
 have c:=jqs hp g h1 h2
 have sb:∀x∈pick ps W l.reverse,x∈gl:=λx m=>jqt f g x (List.mem_reverse.mp ((jcd ps W _).subset m))
 have nd:((pick ps W l.reverse).reverse.map (·.1)).Nodup:=by
  rw[List.map_reverse]
  refine jj1 (List.Sublist.nodup (List.Sublist.map _ (jcd ps W _)) ?_)
  rw[List.map_reverse]
  exact jj1 g.nodup
 obtain⟨f2,e2,s2⟩:=jow f nd (λx m=>sb x (List.mem_reverse.mp m))
 refine⟨c,sb,f2,s2,λR hc hw hW=> ?_⟩
 rw[e2,jop,c.sum hc hw false (λi hi=>by
  cases q:R.testBit i with
  | false=>rfl
  | true=>exact absurd hW (Clo.and_ne.mpr ⟨i,hi,q⟩))]
 simp
theorem jqk:∀{l:List Stp} {R:Nat},(∀x∈l,dl R x<=0)->fl R l<=0
 | [],R,_=>by simp[fl]
 | x::l,R,h=>by
  rw[jdc]
  have:=h x (List.mem_cons_self ..)
  have:=jqk (l:=l) (R:=R) λy m=>h y (List.mem_cons_of_mem _ m)
  omega
theorem jrv(f:Fo en ks gl)(h:∀x∈gl,(∀i,(en x.1).testBit i=true->r.testBit i=true) \/ stW gl x.1&&&r=0):fl r gl<=0:=jqk λx m=>by
 have s:=f.sp x m
 unfold dl ind
 rcases h x m with q | q
 ·rw[q _ ((s.bit _).mpr (.inl rfl)),q _ ((s.bit _).mpr (.inr rfl))];simp
 ·unfold stW at q
  rw[jew f.nd m] at q
  have:r.testBit x.2.1=false:=by
   cases z:r.testBit x.2.1 with
   | false=>rfl
   | true=>exact absurd q (Clo.and_ne.mpr ⟨x.2.1,by rw[jak];simp,z⟩)
  rw[this]
  cases r.testBit x.2.2<;>simp
end
theorem jem{n:Nat}:∀{ds:List D},(∀d∈ds,D.bnd n d=true)->D.bnds n ds=true
 | [],_=>by simp[D.bnds]
 | d::ds,h=>by
  simp only[D.bnds,Bool.and_eq_true]
  exact⟨h d (List.mem_cons_self ..),jem λx m=>h x (List.mem_cons_of_mem _ m)⟩
structure Bu where
 n:Nat
 sws:List Sw
 cm:Nat
 pl:Nat
 kp:List Nat
 gl:List Stp
def prS(n:Nat)(sws:List Sw)(e:Nat):Nat:=match sws[e]? with
 | some w=>if w.fed≠0 then w.fed|||2^n else w.pair
 | none=>0
def Bu.en(u:Bu):Nat->Nat:=prS u.n u.sws
def Bu.ps(u:Bu):List Nat:=jal u.cm u.sws
def nD(l:List (Nat×Nat)):List (Sum Int Str×D):=l.map λp=>(.inl (p.1:Int),.int (p.2:Nat))
def fD(ks:List Nat)(v:Nat->Nat):List (Sum Int Str×D):=nD (ks.map λe=>(e,v e))
def glD(gl:List Stp):List (Sum Int Str×D):=nD (gl.map λx=>(x.1,2^x.2.2))
def Bu.f(u:Bu)(rp rg:Nat):List (Str×D):=[(Str.ofString "yard",yd u.n u.sws),(Str.ofString "net",netO u.sws),(Str.ofString "common",.int u.cm),(Str.ofString "place",.int u.pl),(Str.ofString "power",.int (2^u.n:Nat)),(Str.ofString "pairs",.ref rp),(Str.ofString "goals",.ref rg)]
@[simp] theorem un10:(Str.ofString "net"==Str.ofString "yard")=false:=by decide+kernel
@[simp] theorem un20:(Str.ofString "common"==Str.ofString "yard")=false:=by decide+kernel
@[simp] theorem un21:(Str.ofString "common"==Str.ofString "net")=false:=by decide+kernel
@[simp] theorem un30:(Str.ofString "place"==Str.ofString "yard")=false:=by decide+kernel
@[simp] theorem un31:(Str.ofString "place"==Str.ofString "net")=false:=by decide+kernel
@[simp] theorem un32:(Str.ofString "place"==Str.ofString "common")=false:=by decide+kernel
@[simp] theorem un40:(Str.ofString "power"==Str.ofString "yard")=false:=by decide+kernel
@[simp] theorem un41:(Str.ofString "power"==Str.ofString "net")=false:=by decide+kernel
@[simp] theorem un42:(Str.ofString "power"==Str.ofString "common")=false:=by decide+kernel
@[simp] theorem un43:(Str.ofString "power"==Str.ofString "place")=false:=by decide+kernel
@[simp] theorem un50:(Str.ofString "pairs"==Str.ofString "yard")=false:=by decide+kernel
@[simp] theorem un51:(Str.ofString "pairs"==Str.ofString "net")=false:=by decide+kernel
@[simp] theorem un52:(Str.ofString "pairs"==Str.ofString "common")=false:=by decide+kernel
@[simp] theorem un53:(Str.ofString "pairs"==Str.ofString "place")=false:=by decide+kernel
@[simp] theorem un54:(Str.ofString "pairs"==Str.ofString "power")=false:=by decide+kernel
@[simp] theorem un60:(Str.ofString "goals"==Str.ofString "yard")=false:=by decide+kernel
@[simp] theorem un61:(Str.ofString "goals"==Str.ofString "net")=false:=by decide+kernel
@[simp] theorem un62:(Str.ofString "goals"==Str.ofString "common")=false:=by decide+kernel
@[simp] theorem un63:(Str.ofString "goals"==Str.ofString "place")=false:=by decide+kernel
@[simp] theorem un64:(Str.ofString "goals"==Str.ofString "power")=false:=by decide+kernel
@[simp] theorem un65:(Str.ofString "goals"==Str.ofString "pairs")=false:=by decide+kernel
@[simp] theorem in_yard:"Bundle"∈jg6:=by decide
@[simp] theorem in_net:"Bundle"∈jfa:=by decide
@[simp] theorem in_common:"Bundle"∈jct:=by decide
@[simp] theorem in_place:"Bundle"∈jdj:=by decide
@[simp] theorem in_power:"Bundle"∈jed:=by decide
@[simp] theorem in_pairs:"Bundle"∈jbn:=by decide
@[simp] theorem in_goals:"Bundle"∈jcb:=by decide
@[simp] theorem uf_yard(u:Bu)(rp rg:Nat):(u.f rp rg).lookup (Str.ofString "yard")=some (yd u.n u.sws):=by simp[Bu.f,List.lookup]
@[simp] theorem uf_net(u:Bu)(rp rg:Nat):(u.f rp rg).lookup (Str.ofString "net")=some (netO u.sws):=by simp[Bu.f,List.lookup]
@[simp] theorem uf_common(u:Bu)(rp rg:Nat):(u.f rp rg).lookup (Str.ofString "common")=some (.int u.cm):=by simp[Bu.f,List.lookup]
@[simp] theorem uf_place(u:Bu)(rp rg:Nat):(u.f rp rg).lookup (Str.ofString "place")=some (.int u.pl):=by simp[Bu.f,List.lookup]
@[simp] theorem jjb(u:Bu)(rp rg:Nat):(u.f rp rg).lookup (Str.ofString "power")=some (.int (2^u.n:Nat)):=by simp[Bu.f,List.lookup]
@[simp] theorem uf_pairs(u:Bu)(rp rg:Nat):(u.f rp rg).lookup (Str.ofString "pairs")=some (.ref rp):=by simp[Bu.f,List.lookup]
@[simp] theorem uf_goals(u:Bu)(rp rg:Nat):(u.f rp rg).lookup (Str.ofString "goals")=some (.ref rg):=by simp[Bu.f,List.lookup]
theorem uf_no(u:Bu)(rp rg:Nat){m:Str}(h:([Str.ofString "yard",Str.ofString "net",Str.ofString "common",Str.ofString "place",Str.ofString "power",Str.ofString "pairs",Str.ofString "goals"]).contains m=false):(u.f rp rg).lookup m=none:=by
 simp only[List.contains,List.elem_eq_mem,List.mem_cons,List.not_mem_nil,or_false,decide_eq_false_iff_not,not_or] at h
 obtain⟨h1,h2,h3,h4,h5,h6,h7⟩:=h
 simp[Bu.f,List.lookup,beq_eq_false_iff_ne.mpr h1,beq_eq_false_iff_ne.mpr h2,beq_eq_false_iff_ne.mpr h3,beq_eq_false_iff_ne.mpr h4,beq_eq_false_iff_ne.mpr h5,beq_eq_false_iff_ne.mpr h6,beq_eq_false_iff_ne.mpr h7]
def Ob(h:MH)(p rp rg:Nat)(u:Bu):Prop:=h[p]?=some (some (.ins "Bundle" (u.f rp rg)))
theorem jdk{h:MH}{p rp rg:Nat}{u:Bu}(o:Ob h p rp rg u){tab:List (String×MF)}{f:Str}{z:MF}{m:ME}{l:ML}{ρ:Ro}{ds:List D}(et:tab.lookup "Bundle"=some z)(hf:([Str.ofString "yard",Str.ofString "net",Str.ofString "common",Str.ofString "place",Str.ofString "power",Str.ofString "pairs",Str.ofString "goals"]).contains f=false)(e:m ρ h= .ok (.ref p) h)(el:l ρ h= .ok ds h):jat tab f m l ρ h=z (.ref p::ds) h:=by
 have o:h[p]?=some (some (.ins "Bundle" (u.f rp rg))):=o
 have ea:asO h (.ref p)=some ("Bundle",u.f rp rg):=by simp[o]
 have ef:=uf_no u rp rg hf
 simp only[jat,e,jcz,ea,jwo,et,chk,ef,if_true,el]
theorem jic{h:MH}{p rp rg:Nat}{u:Bu}(o:Ob h p rp rg u)(ok:jbi u.n u.sws)(s:Nat):z_Q0 [.ref p,.int s] h= .ok (.int (Clo.clo u.ps s:Nat)) h:=by
 have o:h[p]?=some (some (.ins "Bundle" (u.f rp rg))):=o
 have e:=jl9 ok u.cm s h (m:=mFld jfa "net" (mVar 0)) (l:=mFld jct "common" (mVar 0)) (k:=mVar 1) (ρ:=[some (.ref p),some (.int s)]) (by simp[o]) (by simp[o]) (by simp)
 unfold Bu.ps
 simp[-jat, -mFld,z_Q0,b_Q0,e]
theorem valN{l:List (Nat×Nat)}(nd:(l.map (·.1)).Nodup){p:Nat×Nat}(m:p∈l):valK (nD l) (.inl (p.1:Int))=some (.int (p.2:Nat)):=by
 induction l with
 | nil=>cases m
 | cons a l ih=>
  rw[List.map_cons] at nd
  obtain⟨n1,n2⟩:=List.nodup_cons.mp nd
  unfold valK nD
  simp only[List.map_cons,List.find?_cons]
  rcases List.mem_cons.mp m with rfl | m
  ·simp
  ·have ne:¬((Sum.inl (a.1:Int):Sum Int Str)= .inl (p.1:Int)):=λz=>n1 (by
    have:a.1=p.1:=by have:=Sum.inl.inj z;omega
    rw[this];exact List.mem_map.mpr ⟨p,m,rfl⟩)
   simp only[ne,decide_false]
   exact ih n2 m
theorem valF{ks:List Nat}(nd:ks.Nodup)(v:Nat->Nat){e:Nat}(m:e∈ks):valK (fD ks v) (.inl (e:Int))=some (.int (v e:Nat)):=by
 refine valN (p:=(e,v e)) ?_ (List.mem_map.mpr ⟨e,m,rfl⟩)
 rw[List.map_map]
 show(ks.map id).Nodup
 rw[List.map_id];exact nd
theorem jtl(ok:jbi n sws)(e:Nat):prS n sws e=0 \/ ∃a b,a≠b /\ prS n sws e=2^a|||2^b /\ a<=n /\ b<=n:=by
 unfold prS
 cases hw:sws[e]? with
 | none=>exact .inl rfl
 | some w=>
  have wok:=ok.2.2.2 w (List.mem_of_getElem? hw)
  have pos:∀a:Nat,2^a≠0:=λa=>Nat.ne_of_gt (Nat.pow_pos (by decide))
  cases w with
  | feed a=>exact .inr ⟨a,n,Nat.ne_of_lt wok,by simp[Sw.fed,pos],Nat.le_of_lt wok,Nat.le_refl _⟩
  | earth a=>exact .inl (by simp[Sw.fed,Sw.pair])
  | breaker a b=>exact .inr ⟨a,b,wok.2.2,by simp[Sw.fed,Sw.pair],Nat.le_of_lt wok.1,Nat.le_of_lt wok.2.1⟩
  | splitter a b=>exact .inr ⟨a,b,wok.2.2,by simp[Sw.fed,Sw.pair],Nat.le_of_lt wok.1,Nat.le_of_lt wok.2.1⟩
def jaf(x:Stp):D:= .tup [.int x.1,.int (2^x.2.2:Nat)]
theorem jsq(ok:jbi n sws){e r s0:Nat}(hs:Clo.sub s0 (prS n sws e))(h1:prS n sws e - (prS n sws e&&&r)≠0)(h2:s0&&&r≠0):∃s b,Sp (prS n sws) (e,s,b) /\ r.testBit s=true /\ r.testBit b=false /\ s0.testBit s=true /\ prS n sws e - (prS n sws e&&&r)=2^b /\ b<=n:=by
 obtain⟨s,q1,q2⟩:=Clo.and_ne.mp h2
 obtain⟨b,qb⟩:=Nat.exists_testBit_of_ne_zero h1
 rw[jbz] at qb
 have b1:(prS n sws e).testBit b=true:=(Bool.and_eq_true_iff.mp qb).1
 have b2:r.testBit b=false:=by simpa using (Bool.and_eq_true_iff.mp qb).2
 have ne:s≠b:=λz=>by rw[z,b2] at q2;cases q2
 have s1:=hs s q1
 rcases jtl ok e with z | ⟨x,y,xy,exy,lx,ly⟩
 ·rw[z] at b1;simp at b1
 ·have bx:∀i,(prS n sws e).testBit i=true↔(i=x \/ i=y):=λi=>by
   rw[exy,Nat.testBit_or,jak,jak,Bool.or_eq_true];simp[eq_comm]
  have key:prS n sws e=2^s|||2^b:=by
   rcases(bx s).mp s1 with rfl | rfl<;>rcases(bx b).mp b1 with rfl | rfl
   ·exact absurd rfl ne
   ·exact exy
   ·rw[Nat.or_comm];exact exy
   ·exact absurd rfl ne
  refine⟨s,b,⟨ne,key⟩,q2,b2,q1,?_,?_⟩
  ·refine Nat.eq_of_testBit_eq λi=> ?_
   rw[jbz,key,Nat.testBit_or,jak,jak]
   by_cases e1:b=i
   ·subst e1;simp[b2]
   ·by_cases e2:s=i
    ·subst e2;simp[q2,e1]
    ·simp[e1,e2]
  ·rcases(bx b).mp b1 with rfl | rfl
   ·exact lx
   ·exact ly
section
variable {u : Bu} {p rp rg q : Nat} {st : Nat -> Nat} {ks : List Nat}
structure Wk (H:MH) (p rp rg q c:Nat) (u:Bu) (ks:List Nat) (st:Nat->Nat):Prop where
 o:Ob H p rp rg u
 a:H[rp]?=some (some (.dct (fD u.kp u.en)))
 s:H[q]?=some (some (.fdc (fD ks st)))
 c:H.length=c
theorem Wk.get{H:MH}{c:Nat}(w:Wk H p rp rg q c u ks st)(x:Option Cell):Ob (H++[x]) p rp rg u /\ (H++[x])[rp]?=some (some (.dct (fD u.kp u.en))) /\ (H++[x])[q]?=some (some (.fdc (fD ks st))) /\ (H++[x])[c]?=some x:=by
 have lt:∀{j:Nat} {y:Option Cell},H[j]?=some y->(H++[x])[j]?=some y:=fun{j y} e=>by rw[List.getElem?_append_left (List.getElem?_eq_some_iff.mp e).1];exact e
 exact⟨lt w.o,lt w.a,lt w.s,by rw[<-w.c];simp⟩
theorem jw1(ok:jbi u.n u.sws)(nk:u.kp.Nodup)(ns:ks.Nodup){e:Nat}(m1:e∈u.kp)(m2:e∈ks)(hst:Clo.sub (st e) (u.en e)){H:MH}{c:Nat}(w:Wk H p rp rg q c u ks st){l:List Stp}{r:Nat}(g:Gr u.ps u.en st u.n l r)(hl:l.length<10000)(a4 x6:Option D):
  ∃(l':List Stp) (r':Nat) (y6:Option D),Gr u.ps u.en st u.n l' r' /\ Clo.sub r r' /\ l'.length<=l.length+1 /\ (∀x∈l',x∈l \/ x.1=e) /\ (r'=r->l'=l /\ ((∀i,(u.en e).testBit i=true->r.testBit i=true) \/ st e&&&r=0)) /\
   jay [some (.ref p),some (.ref q),some (.ref c),some (.int r),a4,some (.int e),x6] (H++[some (.lst (l.map jaf))])= .nx [some (.ref p),some (.ref q),some (.ref c),some (.int r'),a4,some (.int e),y6] (H++[some (.lst (l'.map jaf))]):=by
 obtain⟨o,ga,gs,gc⟩:=w.get (some (.lst (l.map jaf)))
 have v1:=valF nk u.en m1
 have v2:=valF ns st m2
 have b1:=jhc (u.en e) r
 have b2:=band (st e) r
 have n1:=ne0 (u.en e - (u.en e&&&r))
 have n2:=ne0 (st e&&&r)
 have o':(H++[some (Cell.lst (l.map jaf))])[p]?=some (some (.ins "Bundle" (u.f rp rg))):=o
 have ll:l.length<16777216:=by omega
 by_cases h1:u.en e - (u.en e&&&r)≠0
 ·by_cases h2:st e&&&r≠0
  ·obtain⟨s,b,sp,q1,q2,q3,q4,q5⟩:=jsq ok hst h1 h2
   have q4:u.en e - (u.en e&&&r)=2^b:=q4
   refine⟨l++[(e,s,b)],r|||Clo.clo u.ps (2^b),some (.int (2^b:Nat)),.snoc g sp q1 q2 q3,Clo.jd9 _ _,by simp,λx mx=> ?_,λz=> ?_,?_⟩
   ·rcases List.mem_append.mp mx with mx | mx
    ·exact .inl mx
    ·rw[List.mem_singleton.mp mx];exact .inr rfl
   ·exfalso
    have:(r|||Clo.clo u.ps (2^b)).testBit b=true:=by rw[Nat.testBit_or,jlm];simp
    rw[z,q2] at this;cases this
   ·rw[q4] at b1 n1
    have pw:(2:Nat)^b≠0:=Nat.ne_of_gt (Nat.pow_pos (by decide))
    rw[decide_eq_true pw] at n1
    rw[decide_eq_true h2] at n2
    have st2:(H++[some (Cell.lst (l.map jaf))]).set c (some (.lst (l.map jaf++[.tup [.int e,.int (2^b:Nat)]])))=H++[some (.lst ((l++[(e,s,b)]).map jaf))]:=by
     rw[<-w.c,List.map_append]
     simp[jaf]
    obtain⟨o2,_,_,_⟩:=w.get (some (.lst ((l++[(e,s,b)]).map jaf)))
    have mj:=jdk o2 (tab:=jbe) (f:="joined_in_common") (z:=z_Q0) (m:=mVar 0) (l:=ja2 (mVar 6) mNil) (ρ:=[some (.ref p),some (.ref q),some (.ref c),some (.int r),a4,some (.int e),some (.int (2^b:Nat))]) (ds:=[.int (2^b:Nat)]) rfl (by decide+kernel) (by simp) (by simp)
    rw[jic o2 ok (2^b)] at mj
    have bo:=bor r (Clo.clo u.ps (2^b))
    generalize (((2:Nat)^b:Nat):Int)=B at*
    generalize Clo.clo u.ps (2^b)=J at*
    generalize H++[some (Cell.lst ((l++[(e,s,b)]).map jaf))]=H2 at*
    simp[-List.map_map, -jat,jay,o',ga,gs,gc,v1,v2,b1,n1,b2,n2,ll,st2,mj,bo]
  ·have h2':st e&&&r=0:=by simpa using h2
   rw[h2'] at b2 n2
   rw[decide_eq_true h1] at n1
   refine⟨l,r,some (.int ((u.en e - (u.en e&&&r):Nat):Int)),g,Clo.sub.refl _,by omega,λx mx=> .inl mx,λ_=>⟨rfl,.inr h2'⟩,?_⟩
   generalize (((u.en e - (u.en e&&&r):Nat)):Int)=B at*
   generalize H++[some (Cell.lst (l.map jaf))]=H1 at*
   simp[-List.map_map, -jat,jay,o',ga,gs,v1,v2,b1,n1,b2]
 ·have h1':u.en e - (u.en e&&&r)=0:=by simpa using h1
  rw[h1'] at b1 n1
  refine⟨l,r,some (.int 0),g,Clo.sub.refl _,by omega,λx mx=> .inl mx,λ_=>⟨rfl,.inl λi hi=> ?_⟩,?_⟩
  ·cases z:r.testBit i with
   | true=>rfl
   | false=>
    have:(u.en e - (u.en e&&&r)).testBit i=true:=by rw[jbz,hi,z];rfl
    rw[h1'] at this;simp at this
  ·generalize H++[some (Cell.lst (l.map jaf))]=H1 at*
   simp[-List.map_map, -jat,jay,o',ga,v1,b1]
theorem jqz(ok:jbi u.n u.sws)(nk:u.kp.Nodup)(ns:ks.Nodup)(hk:∀e∈ks,e∈u.kp)(hst:∀e∈ks,Clo.sub (st e) (u.en e)){H:MH}{c:Nat}(w:Wk H p rp rg q c u ks st)(a4:Option D):∀(es:List Nat) (l:List Stp) (r:Nat) (x5 x6:Option D),(∀e∈es,e∈ks)->Gr u.ps u.en st u.n l r->l.length+es.length<10000->(∀x∈l,x.1∈ks)->
  ∃(l':List Stp) (r':Nat) (y5 y6:Option D),Gr u.ps u.en st u.n l' r' /\ Clo.sub r r' /\ l'.length<=l.length+es.length /\ (∀x∈l',x.1∈ks) /\ (r'=r->l'=l /\ ∀e∈es,(∀i,(u.en e).testBit i=true->r.testBit i=true) \/ st e&&&r=0) /\
   jb1 (ja8 5) jay (es.map λe:Nat=>D.int e) [some (.ref p),some (.ref q),some (.ref c),some (.int r),a4,x5,x6] (H++[some (.lst (l.map jaf))])= .nx [some (.ref p),some (.ref q),some (.ref c),some (.int r'),a4,y5,y6] (H++[some (.lst (l'.map jaf))])
 | [],l,r,x5,x6,_,g,_,kl=>⟨l,r,x5,x6,g,Clo.sub.refl _,by simp,kl,λ_=>⟨rfl,λe m=>by cases m⟩,rfl⟩
 | e::es,l,r,x5,x6,he,g,hl,kl=>by
  simp only[List.length_cons] at hl
  have me:=he e (List.mem_cons_self ..)
  obtain⟨l1,r1,y6,g1,s1,n1,k1,c1,e1⟩:=jw1 ok nk ns (hk e me) me (hst e me) w g (by omega) a4 x6
  obtain⟨l2,r2,z5,z6,g2,s2,n2,k2,c2,e2⟩:=jqz ok nk ns hk hst w a4 es l1 r1 (some (.int e)) y6 (λa m=>he a (List.mem_cons_of_mem _ m)) g1 (by omega) (λx m=>by
   rcases k1 x m with h | h
   ·exact kl x h
   ·rw[h];exact me)
  refine⟨l2,r2,z5,z6,g2,s1.trans s2,by simp only[List.length_cons];omega,k2,λz=> ?_,?_⟩
  ·have er:r1=r:=Clo.sub.antisymm (by rw[<-z];exact s2) s1
   subst er
   obtain⟨h1,h2⟩:=c1 rfl
   obtain⟨h3,h4⟩:=c2 z
   refine⟨h3.trans h1,λa m=> ?_⟩
   rcases List.mem_cons.mp m with rfl | m
   ·exact h2
   ·exact h4 a m
  ·rw[List.map_cons]
   unfold jb1
   simp only[ja8,List.set_cons_succ,List.set_cons_zero,e1]
   exact e2
def sbC:MT:=(tAnd (tB (mBin dNe (mVar 3) (mVar 4))) (tNot (tTru (mBin dAnd (mVar 3) (mFld jdj "place" (mVar 0))))))
def sbB:MS:=(sSeq (sAsg (mVar 3) (ja8 4)) (jvl (mVar 1) (ja8 5) jay))
structure Wt (H:MH) (p rp rg q c:Nat) (u:Bu) (ks:List Nat) (st:Nat->Nat):Prop where
 o:Ob H p rp rg u
 a:H[rp]?=some (some (.dct (fD u.kp u.en)))
 s:H[q]?=some (some (.dct (fD ks st)))
 c:H.length=c
 n:q≠rp
theorem Wt.walk{H:MH}{c:Nat}(w:Wt H p rp rg q c u ks st):Wk (H.set q (some (.fdc (fD ks st)))) p rp rg q c u ks st:=by
 have lq:=(List.getElem?_eq_some_iff.mp w.s).1
 have n1:q≠p:=λe=>by
  have o:H[p]?=some (some (.ins "Bundle" (u.f rp rg))):=w.o
  rw[<-e,w.s] at o;cases o
 exact⟨by unfold Ob;rw[List.getElem?_set_ne n1];exact w.o,by rw[List.getElem?_set_ne w.n];exact w.a,by rw[List.getElem?_set_self lq],by rw[List.length_set];exact w.c⟩
theorem jcw:∀(l ks:List Nat),l.Nodup->(∀x∈l,x∈ks)->l.length<=ks.length
 | [],_,_,_=>Nat.zero_le _
 | a::l,ks,nd,h=>by
  obtain⟨n1,n2⟩:=List.nodup_cons.mp nd
  have ma:=h a (List.mem_cons_self ..)
  have:=jcw l (ks.erase a) n2 λx m=>(List.mem_erase_of_ne λe=>n1 (by rw[<-e];exact m)).mpr (h x (List.mem_cons_of_mem _ m))
  rw[List.length_erase_of_mem ma] at this
  have:=List.length_pos_of_mem ma
  simp only[List.length_cons];omega
def Bu.top(u:Bu)(ks:List Nat):Nat:=Clo.all (u.ps++ks.map u.en) (2^u.n)
theorem Gr.le_top{l:List Stp}{r:Nat}(g:Gr u.ps u.en st u.n l r)(kl:∀x∈l,x.1∈ks):Clo.sub r (u.top ks):=by
 induction g with
 | nil=>exact Clo.jmz _ _
 | @snoc l r x g s1 s2 s3 s4 ih=>
  have mx:=kl x (List.mem_append_right _ (List.mem_singleton.mpr rfl))
  refine Clo.jlo (ih λy m=>kl y (List.mem_append_left _ m)) ((Clo.is u.ps _).le _ (λi hi=> ?_) λp m _=>Clo.jk6 _ _ _ (List.mem_append_left _ m))
  rw[jak] at hi
  have e:=of_decide_eq_true hi
  exact Clo.jk6 _ _ (u.en x.1) (List.mem_append_right _ (List.mem_map.mpr ⟨_,mx,rfl⟩)) i ((s1.bit i).mpr (.inr e.symm))
def Shut(u:Bu)(ks:List Nat)(st:Nat->Nat)(r:Nat):Prop:=∀e∈ks,(∀i,(u.en e).testBit i=true->r.testBit i=true) \/ st e&&&r=0
theorem jw4(ok:jbi u.n u.sws)(nk:u.kp.Nodup)(ns:ks.Nodup)(hk:∀e∈ks,e∈u.kp)(hst:∀e∈ks,Clo.sub (st e) (u.en e)){H:MH}{c:Nat}(w:Wt H p rp rg q c u ks st){l:List Stp}{r:Nat}(g:Gr u.ps u.en st u.n l r)(kl:∀x∈l,x.1∈ks)(hks:ks.length<=12)(a:D)(x5 x6:Option D):
  ∃(l':List Stp) (r':Nat) (y5 y6:Option D),Gr u.ps u.en st u.n l' r' /\ Clo.sub r r' /\ (∀x∈l',x.1∈ks) /\ (r'=r->Shut u ks st r) /\
   sbB [some (.ref p),some (.ref q),some (.ref c),some (.int r),some a,x5,x6] (H++[some (.lst (l.map jaf))])= .nx [some (.ref p),some (.ref q),some (.ref c),some (.int r'),some (.int r),y5,y6] (H++[some (.lst (l'.map jaf))]):=by
 have ll:l.length<=ks.length:=by
  have:=jcw (l.map (·.1)) ks g.nodup (λe m=>by obtain⟨x,mx,rfl⟩:=List.mem_map.mp m;exact kl x mx)
  simpa using this
 obtain⟨l',r',y5,y6,g',s',n',k',c',e'⟩:=jqz ok nk ns hk hst w.walk (some (.int r)) ks l r x5 x6 (λe m=>m) g (by omega) kl
 refine⟨l',r',y5,y6,g',s',k',λz=>(c' z).2,?_⟩
 have lq:=(List.getElem?_eq_some_iff.mp w.s).1
 have ek:(fD ks st).map (λp=>keyD p.1)=ks.map λe:Nat=>D.int e:=by
  unfold fD nD
  rw[List.map_map,List.map_map]
  rfl
 rw[<-ek] at e'
 have gq:∀x:Option Cell,(H++[x])[q]?=some (some (.dct (fD ks st))):=λx=>by rw[List.getElem?_append_left lq];exact w.s
 have sq:∀(x y:Option Cell),(H++[x]).set q y=H.set q y++[x]:=λx y=>List.set_append_left _ _ lq
 have gf:∀x:Option Cell,(H.set q (some (.fdc (fD ks st)))++[x])[q]?=some (some (.fdc (fD ks st))):=λx=>by rw[List.getElem?_append_left (by rw[List.length_set];exact lq),List.getElem?_set_self lq]
 have sf:∀x:Option Cell,(H.set q (some (.fdc (fD ks st)))++[x]).set q (some (.dct (fD ks st)))=H++[x]:=λx=>by
  rw[List.set_append_left _ _ (by rw[List.length_set];exact lq),List.set_set,jey w.s]
 generalize fD ks st=KV at*
 simp[-List.map_map,sbB,gq,sq,e',gf,sf]
def aD:Option Nat->D
 | none=> .non
 | some r=> .int (r:Nat)
def aN(a:Option Nat)(r:Nat):Bool:=match a with
 | none=>true
 | some r0=>decide (r≠r0)
theorem jwl{H:MH}{c:Nat}(w:Wt H p rp rg q c u ks st)(l:List Stp)(r:Nat)(a:Option Nat)(x5 x6:Option D):sbC [some (.ref p),some (.ref q),some (.ref c),some (.int r),some (aD a),x5,x6] (H++[some (.lst (l.map jaf))])= .ok (aN a r&&decide (u.pl&&&r=0)) (H++[some (.lst (l.map jaf))]):=by
 have lp:p<H.length:=(List.getElem?_eq_some_iff.mp w.o).1
 have o:(H++[some (Cell.lst (l.map jaf))])[p]?=some (some (.ins "Bundle" (u.f rp rg))):=by rw[List.getElem?_append_left lp];exact w.o
 have b1:=band r u.pl
 have n1:=ne0 (r&&&u.pl)
 rw[Nat.and_comm] at b1 n1
 have ng:(!decide (u.pl&&&r≠0))=decide (u.pl&&&r=0):=by by_cases z:u.pl&&&r=0<;>simp[z]
 cases a with
 | none=>
  have d1:(D.int (r:Int)).dat=true:=by simp[D.dat,D.py,D.deep]
  have d2:D.non.dat=true:=by simp[D.dat,D.py,D.deep]
  have e:dNe (.int (r:Int)) .non (H++[some (Cell.lst (l.map jaf))])= .ok (.bl true) (H++[some (Cell.lst (l.map jaf))]):=by simp[d1,d2,D.eq]
  simp[-dNe,sbC,aD,aN,e,o,b1,n1,ng]
 | some r0=>
  by_cases z:r=r0
  ·subst z
   simp[sbC,aD,aN]
  ·have z':¬((r:Int)=(r0:Int)):=by omega
   simp[sbC,aD,aN,z,z',o,b1,n1,ng]
theorem jmq(ok:jbi u.n u.sws)(nk:u.kp.Nodup)(ns:ks.Nodup)(hk:∀e∈ks,e∈u.kp)(hst:∀e∈ks,Clo.sub (st e) (u.en e)){H:MH}{c:Nat}(w:Wt H p rp rg q c u ks st)(hks:ks.length<=12):∀(k:Nat) (l:List Stp) (r:Nat) (a:Option Nat) (x5 x6:Option D),Gr u.ps u.en st u.n l r->(∀x∈l,x.1∈ks)->(a=some r->Shut u ks st r)->(u.top ks - r<k \/ a=some r)->
  ∃(l':List Stp) (r':Nat) (y4 y5 y6:Option D),Gr u.ps u.en st u.n l' r' /\ (∀x∈l',x.1∈ks) /\ (u.pl&&&r'≠0 \/ Shut u ks st r') /\
   jb7 sbC sbB [some (.ref p),some (.ref q),some (.ref c),some (.int r),some (aD a),x5,x6] (H++[some (.lst (l.map jaf))])= .nx [some (.ref p),some (.ref q),some (.ref c),some (.int r'),y4,y5,y6] (H++[some (.lst (l'.map jaf))])
 | k,l,r,a,x5,x6,g,kl,ha,hm=>by
  have hc:=jwl w l r a x5 x6
  by_cases z:a=some r
  ·have:aN a r=false:=by rw[z];simp[aN]
   rw[this] at hc
   exact⟨l,r,_,_,_,g,kl,.inr (ha z),jd6 hc⟩
  ·have na:aN a r=true:=by
    cases a with
    | none=>rfl
    | some r0=>simp[aN];exact λe=>z (by rw[e])
   by_cases hp:u.pl&&&r=0
   ·rw[na,hp] at hc
    obtain⟨l1,r1,y5,y6,g1,s1,k1,c1,e1⟩:=jw4 ok nk ns hk hst w g kl hks (aD a) x5 x6
    have hm:u.top ks - r<k:=hm.resolve_right z
    cases k with
    | zero=>exact absurd hm (Nat.not_lt_zero _)
    | succ k=>
     obtain⟨l2,r2,z4,z5,z6,g2,k2,d2,e2⟩:=jmq ok nk ns hk hst w hks k l1 r1 (some r) y5 y6 g1 k1 (λe=>by
      have:r=r1:=Option.some.inj e
      rw[<-this];exact c1 this.symm) (by
      by_cases e:r=r1
      ·exact .inr (by rw[e])
      ·left
       have h1:=s1.le
       have h2:=(g1.le_top k1).le
       omega)
     refine⟨l2,r2,z4,z5,z6,g2,k2,d2,?_⟩
     rw[jdp hc e1]
     exact e2
   ·have:decide (u.pl&&&r=0)=false:=decide_eq_false hp
    rw[na,this] at hc
    exact⟨l,r,_,_,_,g,kl,.inl hp,jd6 hc⟩
end
section
variable {u : Bu} {p rp rg q : Nat} {st : Nat -> Nat} {ks : List Nat}
theorem ji3(ok:jbi u.n u.sws)(nk:u.kp.Nodup)(ns:ks.Nodup)(hk:∀e∈ks,e∈u.kp)(hst:∀e∈ks,Clo.sub (st e) (u.en e))(hks:ks.length<=12){h:MH}(hb:Hb h)(w:Wt h p rp rg q h.length u ks st):
  ∃(l:List Stp) (r:Nat),Gr u.ps u.en st u.n l r /\ (∀x∈l,x.1∈ks) /\ (u.pl&&&r≠0 \/ Shut u ks st r) /\ z_Q9 [.ref p,.ref q] h= .ok (.lst (l.map jaf)) h:=by
 obtain⟨l,r,y4,y5,y6,g,kl,d,e⟩:=jmq ok nk ns hk hst w hks _ [] (2^u.n) none none none .nil (λx m=>by cases m) (λz=>by cases z) (.inl (Nat.lt_succ_self _))
 refine⟨l,r,g,kl,d,?_⟩
 have o:(h++[some (Cell.lst [])])[p]?=some (some (.ins "Bundle" (u.f rp rg))):=by rw[List.getElem?_append_left (List.getElem?_eq_some_iff.mp w.o).1];exact w.o
 have eb:b_Q9=(sSeq (sAsg (jgs (jds mNil)) (ja8 2))
   (sSeq (sAsg (mFld jed "power" (mVar 0)) (ja8 3))
   (sSeq (sAsg (mC .non) (ja8 4))
   (sSeq (jb7 sbC sbB)
   (jdg 2 (sRet (mVar 2))))))):=rfl
 have e:jb7 sbC sbB [some (.ref p),some (.ref q),some (.ref h.length),some (.int (2^u.n:Nat)),some .non,none,none] (h++[some (.lst [])])= .nx [some (.ref p),some (.ref q),some (.ref h.length),some (.int r),y4,y5,y6] (h++[some (.lst (l.map jaf))]):=e
 have gc:∀x:Option Cell,(h++[x])[h.length]?=some x:=λx=>by simp
 have sc:∀x y:Option Cell,(h++[x]).set h.length y=h++[y]:=λx y=>by simp
 have key:b_Q9 [some (.ref p),some (.ref q),none,none,none,none,none] h= .rt (.lst (l.map jaf)) (h++[none]):=by
  rw[eb]
  have up:=jjb u rp rg
  generalize (((2:Nat)^u.n:Nat):Int)=P at*
  generalize l.map jaf=L at*
  simp[o,up,e,gc,sc]
 refine jdl (b:=b_Q9) (np:=2) (nn:=7) (ds:=[.ref p,.ref q]) (J:=[none]) rfl key hb ?_
 simp only[D.bnd]
 exact jem λd m=>by
  obtain⟨x,_,rfl⟩:=List.mem_map.mp m
  simp[jaf,D.bnd,D.bnds]
theorem jlx{en:Nat->Nat}{x:Stp}(s:Sp en x):en x.1 - (en x.1&&&2^x.2.2)=2^x.2.1:=Nat.eq_of_testBit_eq λi=>by
 rw[jbz,s.2,Nat.testBit_or,jak,jak]
 have:=s.1
 by_cases e1:x.2.2=i
 ·subst e1;simp[this]
 ·by_cases e2:x.2.1=i
  ·simp[e1,e2]
  ·simp[e1,e2]
theorem jmi(ok:jbi u.n u.sws)(nk:u.kp.Nodup){h:MH}(o:Ob h p rp rg u)(ga:h[rp]?=some (some (.dct (fD u.kp u.en))))(y1:Option D):∀(es acc:List Stp) (W:Nat) (x4:Option D),(∀x∈es,Sp u.en x /\ x.1∈u.kp)->acc.length+es.length<10000->
  ∃(W':Nat) (z4:Option D),jb1 (ja8 4) jb6 (es.map jaf) [some (.ref p),y1,some (.ref h.length),some (.int W),x4] (h++[some (.lst (acc.map jaf))])= .nx [some (.ref p),y1,some (.ref h.length),some (.int W'),z4] (h++[some (.lst ((acc++pick u.ps W es).map jaf))])
 | [],acc,W,x4,_,_=>⟨W,x4,by simp[pick,jb1]⟩
 | x::es,acc,W,x4,hx,hl=>by
  simp only[List.length_cons] at hl
  obtain⟨sx,kx⟩:=hx x (List.mem_cons_self ..)
  have lt:∀{j:Nat} {y:Option Cell} (z:Option Cell),h[j]?=some y->(h++[z])[j]?=some y:=fun{j y} z e=>by rw[List.getElem?_append_left (List.getElem?_eq_some_iff.mp e).1];exact e
  have o1:∀z:Option Cell,Ob (h++[z]) p rp rg u:=λz=>lt z o
  have ga1:=λz=>lt z ga
  have v1:=valF nk u.en kx
  have b1:=jhc (u.en x.1) (2^x.2.2)
  rw[jlx sx] at b1
  have mj:=λz=>jdk (o1 z) (tab:=jbe) (f:="joined_in_common") (z:=z_Q0) (m:=mVar 0) (l:=ja2 (mBin dIx (mVar 4) (mC (.int 1))) mNil) (ρ:=[some (.ref p),y1,some (.ref h.length),some (.int W),some (jaf x)]) (ds:=[.int (2^x.2.2:Nat)]) rfl (by decide+kernel) (by simp) (by simp[jaf])
  simp only[jic (o1 _) ok] at mj
  have bw:=band (Clo.clo u.ps (2^x.2.2)) W
  have nw:=ne0 (Clo.clo u.ps (2^x.2.2)&&&W)
  have i0:∀h:MH,dIx (jaf x) (.int 0) h= .ok (.int x.1) h:=λh=>by simp[jaf,atI,ixN]
  have i1:∀h:MH,dIx (jaf x) (.int 1) h= .ok (.int (2^x.2.2:Nat)) h:=λh=>by simp[jaf,atI,ixN]
  have gc:∀z:Option Cell,(h++[z])[h.length]?=some z:=λz=>by simp
  have sc:∀z y:Option Cell,(h++[z]).set h.length y=h++[y]:=λz y=>by simp
  have ex:∀z:Option Cell,dIx (.ref rp) (.int x.1) (h++[z])= .ok (.int (u.en x.1:Nat)) (h++[z]):=λz=>by simp[ga1 z,v1]
  have fp:∀(z:Option Cell) (ρ:Ro),ρ[0]?=some (some (.ref p))->mFld jbn "pairs" (mVar 0) ρ (h++[z])= .ok (.ref rp) (h++[z]):=λz ρ e=>by
   have o1:(h++[z])[p]?=some (some (.ins "Bundle" (u.f rp rg))):=o1 z
   simp[e,o1]
  have al:acc.length<16777216:=by omega
  rw[List.map_cons]
  unfold jb1 pick
  by_cases c:Clo.clo u.ps (2^x.2.2)&&&W≠0
  ·rw[if_pos c]
   rw[decide_eq_true c] at nw
   obtain⟨W',z4,ih⟩:=jmi ok nk o ga y1 es (acc++[x]) (2^x.2.1) (some (jaf x)) (λy m=>hx y (List.mem_cons_of_mem _ m)) (by simp;omega)
   refine⟨W',z4,?_⟩
   have st:jb6 [some (.ref p),y1,some (.ref h.length),some (.int W),some (jaf x)] (h++[some (.lst (acc.map jaf))])= .nx [some (.ref p),y1,some (.ref h.length),some (.int (2^x.2.1:Nat)),some (jaf x)] (h++[some (.lst ((acc++[x]).map jaf))]):=by
    have am:(acc++[x]).map jaf=acc.map jaf++[jaf x]:=by simp
    rw[am]
    generalize jaf x=sx at*
    generalize (((2:Nat)^x.2.2:Nat):Int)=B at*
    generalize (((2:Nat)^x.2.1:Nat):Int)=S at*
    generalize Clo.clo u.ps (2^x.2.2)=J at*
    simp[-List.map_map, -jat, -dIx, -mFld,jb6,mj,bw,nw,gc,al,sc,fp,i0,i1,ex,b1]
   simp only[ja8,List.set_cons_succ,List.set_cons_zero,st]
   rw[show acc++x::pick u.ps (2^x.2.1) es=acc++[x]++pick u.ps (2^x.2.1) es by simp]
   exact ih
  ·rw[if_neg c]
   rw[decide_eq_false c] at nw
   obtain⟨W',z4,ih⟩:=jmi ok nk o ga y1 es acc W (some (jaf x)) (λy m=>hx y (List.mem_cons_of_mem _ m)) (by omega)
   refine⟨W',z4,?_⟩
   have st:jb6 [some (.ref p),y1,some (.ref h.length),some (.int W),some (jaf x)] (h++[some (.lst (acc.map jaf))])= .nx [some (.ref p),y1,some (.ref h.length),some (.int W),some (jaf x)] (h++[some (.lst (acc.map jaf))]):=by
    generalize jaf x=sx at*
    generalize (((2:Nat)^x.2.2:Nat):Int)=B at*
    generalize Clo.clo u.ps (2^x.2.2)=J at*
    simp[-List.map_map, -jat, -dIx, -mFld,jb6,mj,bw,nw]
   simp only[ja8,List.set_cons_succ,List.set_cons_zero,st]
   exact ih
theorem jld(ok:jbi u.n u.sws)(nk:u.kp.Nodup){h:MH}(hb:Hb h)(o:Ob h p rp rg u)(ga:h[rp]?=some (some (.dct (fD u.kp u.en)))){l:List Stp}(hl:∀x∈l,Sp u.en x /\ x.1∈u.kp)(ll:l.length<9000):
  z_Qj [.ref p,.lst (l.map jaf)] h= .ok (.lst ((pick u.ps u.pl l.reverse).reverse.map jaf)) h:=by
 obtain⟨W',z4,e⟩:=jmi ok nk o ga (some (.lst (l.map jaf))) l.reverse [] u.pl none (λx m=>hl x (List.mem_reverse.mp m)) (by simp;omega)
 rw[List.map_reverse,List.nil_append] at e
 have o1:∀z:Option Cell,(h++[z])[p]?=some (some (.ins "Bundle" (u.f rp rg))):=λz=>by rw[List.getElem?_append_left (List.getElem?_eq_some_iff.mp o).1];exact o
 have gc:∀z:Option Cell,(h++[z])[h.length]?=some z:=λz=>by simp
 have sc:∀z y:Option Cell,(h++[z]).set h.length y=h++[y]:=λz y=>by simp
 have e:jb1 (ja8 4) jb6 (l.map jaf).reverse [some (.ref p),some (.lst (l.map jaf)),some (.ref h.length),some (.int u.pl),none] (h++[some (.lst [])])=_:=e
 have pl:(pick u.ps u.pl l.reverse).length<=9000:=by
  have:=(jcd u.ps u.pl l.reverse).length_le
  rw[List.length_reverse] at this;omega
 rw[List.map_reverse]
 have key:b_Qj [some (.ref p),some (.lst (l.map jaf)),none,none,none] h= .rt (.lst ((pick u.ps u.pl l.reverse).map jaf).reverse) (h++[none]):=by
  generalize l.map jaf=L at*
  generalize (pick u.ps u.pl l.reverse).map jaf=Q at*
  simp[-List.map_map,b_Qj,o1,e,gc,sc]
 refine jdl (b:=b_Qj) (np:=2) (nn:=5) (ds:=[.ref p,.lst (l.map jaf)]) (J:=[none]) rfl key hb ?_
 simp only[D.bnd]
 exact jem λd m=>by
  obtain⟨x,_,rfl⟩:=List.mem_map.mp (List.mem_reverse.mp m)
  simp[jaf,D.bnd,D.bnds]
end
theorem put_fD{ks:List Nat}(nk:ks.Nodup)(v:Nat->Nat){e:Nat}(m:e∈ks)(w:Nat):putK (fD ks v) (.inl (e:Int)) (.int (w:Nat))=fD ks λx=>if x=e then w else v x:=by
 have an:((fD ks v).any λkv=>decide (kv.1= .inl (e:Int)))=true:=List.any_eq_true.mpr ⟨(.inl (e:Int),.int (v e:Nat)),List.mem_map.mpr ⟨(e,v e),List.mem_map.mpr ⟨e,m,rfl⟩,rfl⟩,by simp⟩
 unfold putK
 rw[if_pos an]
 unfold fD nD
 rw[List.map_map,List.map_map,List.map_map]
 refine List.map_congr_left λx _=> ?_
 simp only[Function.comp]
 by_cases q:x=e
 ·subst q;simp
 ·have:¬((Sum.inl (x:Int):Sum Int Str)= .inl (e:Int)):=λz=>q (by have:=Sum.inl.inj z;omega)
  simp[q,this]
theorem jmt{ks:List Nat}(nk:ks.Nodup):∀(gl:List Stp) (v:Nat->Nat),(gl.map (·.1)).Nodup->(∀x∈gl,x.1∈ks)->jcm (fD ks v) (glD gl)=fD ks λe=>match gl.find? λy=>decide (y.1=e) with | some y=>2^y.2.2 | none=>v e
 | [],v,_,_=>rfl
 | x::gl,v,nd,hk=>by
  rw[List.map_cons] at nd
  obtain⟨n1,n2⟩:=List.nodup_cons.mp nd
  have ih:=jmt nk gl (λe=>if e=x.1 then 2^x.2.2 else v e) n2 (λy m=>hk y (List.mem_cons_of_mem _ m))
  show jcm (putK (fD ks v) (.inl (x.1:Int)) (.int (2^x.2.2:Nat))) (glD gl)=_
  rw[put_fD nk v (hk x (List.mem_cons_self ..)),ih]
  congr 1
  funext e
  rw[List.find?_cons]
  by_cases q:x.1=e
  ·have:gl.find? (λy=>decide (y.1=e))=none:=List.find?_eq_none.mpr λy m z=>n1 (List.mem_map.mpr ⟨y,m,by rw[q];simpa using z⟩)
   simp[q,this]
  ·have q':¬e=x.1:=λz=>q z.symm
   simp[q,q']
theorem jlv(gl:List Stp)(e:Nat):(valK (glD gl) (.inl (e:Int))).isSome=hasK gl e:=by
 induction gl with
 | nil=>rfl
 | cons g gl ih=>
  unfold hasK valK glD nD at*
  simp only[List.map_cons,List.find?_cons,List.any_cons]
  by_cases q:g.1=e
  ·simp[q]
  ·have:¬((Sum.inl (g.1:Int):Sum Int Str)= .inl (e:Int)):=λz=>q (by have:=Sum.inl.inj z;omega)
   simp only[this,q,decide_false,Bool.false_or]
   exact ih
theorem jn2(gl:List Stp)(e:Nat):jmj (glD gl) (.inl (e:Int))=glD (delK gl e):=by
 unfold jmj glD nD delK
 rw[List.map_map,List.map_map,List.filter_map]
 congr 1
 refine List.filter_congr λg _=> ?_
 simp only[Function.comp]
 by_cases q:g.1=e
 ·subst q;simp
 ·have:¬((Sum.inl (g.1:Int):Sum Int Str)= .inl (e:Int)):=λz=>q (by have:=Sum.inl.inj z;omega)
  simp[q,this]
theorem jvs{gl:List Stp}{x:Stp}(h:hasK gl x.1=false):putK (glD gl) (.inl (x.1:Int)) (.int (2^x.2.2:Nat))=glD (gl++[x]):=by
 have:((glD gl).any λkv=>decide (kv.1= .inl (x.1:Int)))=false:=by
  rw[List.any_eq_false]
  intro kv hkv
  obtain⟨g,hg,rfl⟩:=List.mem_map.mp hkv
  obtain⟨y,hy,rfl⟩:=List.mem_map.mp hg
  have:y.1≠x.1:=λz=>by
   have:=jh8.mpr ⟨y,hy,z⟩
   rw[h] at this;cases this
  simp
  omega
 unfold putK
 rw[if_neg (by rw[this];simp)]
 simp[glD,nD]
structure Us (h:MH) (p rp rg:Nat) (u:Bu):Prop where
 o:Ob h p rp rg u
 a:h[rp]?=some (some (.dct (fD u.kp u.en)))
 g:h[rg]?=some (some (.dct (glD u.gl)))
 hb:Hb h
 ok:jbi u.n u.sws
 nk:u.kp.Nodup
 lk:u.kp.length<=12
 ne:rp≠rg
 f:Fo u.en u.kp u.gl
section
variable {u : Bu} {p rp rg : Nat} {h : MH}
theorem ji2(U:Us h p rp rg u):u.gl.length<=12:=by
 have:=jcw (u.gl.map (·.1)) u.kp U.f.nd (λe m=>by obtain⟨x,mx,rfl⟩:=List.mem_map.mp m;exact U.f.ks x mx)
 rw[List.length_map] at this
 exact Nat.le_trans this U.lk
theorem jry(l:List (Nat×Nat))(n:Nat):Cell.bnd n (some (.dct (nD l)))=true:=by
 simp only[Cell.bnd]
 exact jem λd hd=>by
  simp only[nD,List.map_map,List.mem_map] at hd
  obtain⟨g,_,rfl⟩:=hd
  simp[D.bnd]
theorem jjw(U:Us h p rp rg u):∃(l:List Stp) (r:Nat),Gr u.ps u.en (stL u.en u.gl) u.n l r /\ (∀x∈l,x.1∈u.kp) /\ (u.pl&&&r≠0 \/ Shut u u.kp (stL u.en u.gl) r) /\ l.length<=12 /\ z_Q2 [.ref p] h= .ok (.lst (l.map jaf)) h:=by
 have lt:∀{j:Nat} {y:Option Cell} (z:Option Cell),h[j]?=some y->(h++[z])[j]?=some y:=fun{j y} z e=>by rw[List.getElem?_append_left (List.getElem?_eq_some_iff.mp e).1];exact e
 have hb1:∀l,Hb (h++[some (.dct (nD l))]):=λl=>U.hb.snoc λk _=>jry l k
 have lp:=(List.getElem?_eq_some_iff.mp U.a).1
 obtain⟨l,r,g,kl,d,e⟩:=ji3 (q:=h.length) U.ok U.nk U.nk (λe m=>m) (st:=stL u.en u.gl) (λe m=>by
  unfold stL
  cases z:u.gl.find? λy=>decide (y.1=e) with
  | none=>exact Clo.sub.refl _
  | some y=>
   obtain⟨my,ey⟩:=jfv z
   intro i hi
   rw[jak] at hi
   have:=of_decide_eq_true hi
   rw[<-ey]
   exact((U.f.sp y my).bit i).mpr (.inr this.symm)) U.lk (hb1 _) (h:=h++[some (.dct (fD u.kp (stL u.en u.gl)))]) ⟨lt _ U.o,lt _ U.a,by simp,by simp,by omega⟩
 have ll:l.length<=12:=by
  have:=jcw (l.map (·.1)) u.kp g.nodup (λe m=>by obtain⟨x,mx,rfl⟩:=List.mem_map.mp m;exact kl x mx)
  rw[List.length_map] at this
  exact Nat.le_trans this U.lk
 refine⟨l,r,g,kl,d,ll,?_⟩
 have mg:jcm (fD u.kp u.en) (glD u.gl)=fD u.kp (stL u.en u.gl):=jmt U.nk u.gl u.en U.f.nd U.f.ks
 have o:h[p]?=some (some (.ins "Bundle" (u.f rp rg))):=U.o
 have o1:∀z:Option Cell,(h++[z])[p]?=some (some (.ins "Bundle" (u.f rp rg))):=λz=>lt z U.o
 have ga:=U.a
 have gg:∀z:Option Cell,(h++[z])[rg]?=some (some (.dct (glD u.gl))):=λz=>lt z U.g
 have gc:∀z:Option Cell,(h++[z])[h.length]?=some z:=λz=>by simp
 have sc:∀z y:Option Cell,(h++[z]).set h.length y=h++[y]:=λz y=>by simp
 have ng:¬(h.length=rg):=by have:=(List.getElem?_eq_some_iff.mp U.g).1;omega
 have l1:(fD u.kp u.en).length+(glD u.gl).length<=16777216:=by
  have:=ji2 U
  have:=U.lk
  simp[fD,nD,glD];omega
 have mb:=jdk (h:=h++[some (.dct (fD u.kp (stL u.en u.gl)))]) (lt _ U.o) (tab:=jco) (f:="steps_by") (z:=z_Q9) (m:=mVar 0) (l:=ja2 (mVar 1) mNil) (ρ:=[some (.ref p),some (.ref h.length)]) (ds:=[.ref h.length]) rfl (by decide+kernel) (by simp) (by simp)
 rw[e] at mb
 have key:b_Q2 [some (.ref p),none] h= .rt (.lst (l.map jaf)) (h++[some (.dct (fD u.kp (stL u.en u.gl)))]):=by
  generalize l.map jaf=L at*
  generalize fD u.kp (stL u.en u.gl)=S at*
  generalize fD u.kp u.en=A at*
  generalize glD u.gl=G at*
  simp[-jat,b_Q2,o,o1,ga,gg,gc,sc,ng,l1,mg,mb]
 refine jdl (b:=b_Q2) (np:=1) (nn:=2) (ds:=[.ref p]) (J:=[some (.dct (fD u.kp (stL u.en u.gl)))]) rfl key U.hb ?_
 simp only[D.bnd]
 exact jem λd m=>by
  obtain⟨x,_,rfl⟩:=List.mem_map.mp m
  simp[jaf,D.bnd,D.bnds]
def Bu.put(u:Bu)(gl:List Stp):Bu:={u with gl:=gl}
theorem Us.put(U:Us h p rp rg u){gl:List Stp}(f:Fo u.en u.kp gl):Us (h.set rg (some (.dct (glD gl)))) p rp rg (u.put gl):=by
 have lg:=(List.getElem?_eq_some_iff.mp U.g).1
 have np:rg≠p:=λe=>by
  have o:h[p]?=some (some (.ins "Bundle" (u.f rp rg))):=U.o
  rw[<-e,U.g] at o;cases o
 refine⟨?_,?_,?_,?_,U.ok,U.nk,U.lk,U.ne,f⟩
 ·show(h.set rg _)[p]?=_
  rw[List.getElem?_set_ne np];exact U.o
 ·rw[List.getElem?_set_ne (Ne.symm U.ne)];exact U.a
 ·rw[List.getElem?_set_self lg];rfl
 ·intro n hn
  rw[List.length_set] at hn
  have:=U.hb n hn
  rw[List.all_eq_true] at this ⊢
  intro x hx
  rcases List.mem_or_eq_of_mem_set hx with hx | rfl
  ·exact this x hx
  ·exact jry _ n
theorem jrd:∀(row:List Stp) {h:MH} {u:Bu} (U:Us h p rp rg u) (y1 x2:Option D),(∀x∈row,Sp u.en x /\ x.1∈u.kp)->∃y2,Fo u.en u.kp (togs u.gl row) /\ jb1 (ja8 2) jbv (row.map jaf) [some (.ref p),y1,x2] h= .nx [some (.ref p),y1,y2] (h.set rg (some (.dct (glD (togs u.gl row)))))
 | [],h,u,U,y1,x2,_=>⟨x2,U.f,by
   show RS.nx _ h=_
   rw[show h.set rg (some (.dct (glD (togs u.gl []))))=h from jey U.g]⟩
 | x::row,h,u,U,y1,x2,hx=>by
  obtain⟨sx,kx⟩:=hx x (List.mem_cons_self ..)
  have o:h[p]?=some (some (.ins "Bundle" (u.f rp rg))):=U.o
  have gg:=U.g
  have lg:=(List.getElem?_eq_some_iff.mp U.g).1
  have i0:∀h:MH,dIx (jaf x) (.int 0) h= .ok (.int x.1) h:=λh=>by simp[jaf,atI,ixN]
  have i1:∀h:MH,dIx (jaf x) (.int 1) h= .ok (.int (2^x.2.2:Nat)) h:=λh=>by simp[jaf,atI,ixN]
  have st:jbv [some (.ref p),y1,some (jaf x)] h= .nx [some (.ref p),y1,some (jaf x)] (h.set rg (some (.dct (glD (tog u.gl x))))):=by
   unfold tog
   cases c:hasK u.gl x.1 with
   | true=>
    have hv:=jlv u.gl x.1
    rw[c] at hv
    obtain⟨w,hw⟩:=Option.isSome_iff_exists.mp hv
    have dr:=jn2 u.gl x.1
    have di:dIn false (.int x.1) (.ref rg) h= .ok (.bl true) h:=by simp[gg,hw]
    simp only[if_true]
    generalize jaf x=sx at*
    simp[-dIx, -dIn,jbv,i0,o,di,gg,hw,dr]
   | false=>
    have hv:=jlv u.gl x.1
    rw[c] at hv
    have hw:valK (glD u.gl) (.inl (x.1:Int))=none:=Option.not_isSome_iff_eq_none.mp (by rw[hv];simp)
    have pt:=jvs c
    have di:dIn false (.int x.1) (.ref rg) h= .ok (.bl false) h:=by simp[gg,hw]
    have l1:(glD u.gl).length<16777216:=by
     have:=ji2 U
     simp[nD,glD];omega
    simp only[Bool.false_eq_true,if_false]
    generalize jaf x=sx at*
    generalize (((2:Nat)^x.2.2:Nat):Int)=B at*
    simp[-dIx, -dIn,jbv,i0,i1,o,di,gg,l1,pt]
  obtain⟨y2,f2,e2⟩:=jrd row (U.put (U.f.tog sx kx)) y1 (some (jaf x)) (λy m=>hx y (List.mem_cons_of_mem _ m))
  refine⟨y2,f2,?_⟩
  rw[List.map_cons]
  unfold jb1
  simp only[ja8,List.set_cons_succ,List.set_cons_zero,st]
  rw[List.set_set] at e2
  exact e2
end
theorem Rn_fix(ps:List Nat)(s:Nat):∃J,Clo.near ps (Rn ps s J)=Rn ps s J:=by
 refine Clo.walk (ps:=ps) (s:=s) (F:=Clo.near ps) (P:=λr=>∀j,r=Rn ps s j->∃J,Clo.near ps (Rn ps s J)=Rn ps s J) (Clo.jhr ps) (λr _ e j q=>⟨j,by rw[<-q];exact e⟩) (λr _ _ ih j q=>ih (j+1) (by rw[q];rfl)) _ s (Clo.Mid.start ps s) (Nat.lt_succ_self _) 0 rfl
theorem Rn_in(ps:List Nat)(s:Nat):∀j,Clo.sub (Rn ps s j) (Clo.clo ps s)
 | 0=>(Clo.is ps s).ge
 | j+1=>(Clo.jhr ps).lo _ _ (Clo.is ps s).cl (Rn_in ps s j)
theorem clo_ne{ps:List Nat}{s g:Nat}:(∃j,Rn ps s j&&&g≠0)↔Clo.clo ps s&&&g≠0:=by
 constructor
 ·rintro⟨j,h⟩
  rw[Nat.and_comm] at h ⊢
  exact(Rn_in ps s j).and_ne h
 ·intro h
  obtain⟨J,e⟩:=Rn_fix ps s
  refine⟨J,?_⟩
  have:Clo.sub (Clo.clo ps s) (Rn ps s J):=(Clo.is ps s).le _ (js5 (ps:=ps) (s:=s) (Nat.zero_le J)) ((Clo.jhr ps).fx _ e)
  rw[Nat.and_comm] at h ⊢
  exact this.and_ne h
section
variable {u : Bu} {p rp rg : Nat} {h : MH}
theorem ps_no(ok:jbi n sws)(cm:Nat):∀p∈jal cm sws,p.testBit n=false:=λp m=>by
 obtain⟨k,w,h1,_,rfl⟩:=jf2 m
 exact Nat.testBit_lt_two_pow (jhl (ok.2.2.2 w (List.mem_of_getElem? h1)))
structure Adm (u:Bu) (R:Nat):Prop where
 c:Clo.closed u.ps R
 p:R.testBit u.n=true
 w:u.pl&&&R=0
theorem jqy(U:Us h p rp rg u)(hpl:u.pl<2^u.n):
  (∃gl',Us (h.set rg (some (.dct (glD gl')))) p rp rg (u.put gl') /\ (∀R,Adm u R->fl R gl'=fl R u.gl+1) /\ z_Qm [.ref p] h= .ok (.bl true) (h.set rg (some (.dct (glD gl'))))) \/
  (∃r,Adm u r /\ Full u.en u.kp u.gl r /\ z_Qm [.ref p] h= .ok (.bl false) h):=by
 obtain⟨l,r,g,kl,d,ll,e⟩:=jjw U
 have hp:∀p∈u.ps,p.testBit u.n=false:=ps_no U.ok u.cm
 have h2:u.pl.testBit u.n=false:=Nat.testBit_lt_two_pow hpl
 have spl:∀x∈l,Sp u.en x /\ x.1∈u.kp:=λx m=>⟨(g.mem x m).1,kl x m⟩
 have er:=jld U.ok U.nk U.hb U.o U.a spl (by omega)
 have m1:=jdk U.o (tab:=jd8) (f:="steps_left") (z:=z_Q2) (m:=mVar 0) (l:=mNil) (ρ:=[some (.ref p),none,none]) (ds:=[]) rfl (by decide+kernel) (by simp) (by simp)
 rw[e] at m1
 have m2:=jdk U.o (tab:=jev) (f:="row_in") (z:=z_Qj) (m:=mVar 0) (l:=ja2 (jat jd8 "steps_left" (mVar 0) mNil) mNil) (ρ:=[some (.ref p),none,none]) (ds:=[.lst (l.map jaf)]) rfl (by decide+kernel) (by simp) (by simp only[ja2,m1,jcz,mNil])
 rw[er] at m2
 by_cases q:u.pl&&&r≠0
 ·obtain⟨ne,f2,e2⟩:=js4 hp U.f g kl q h2
  generalize hrow:(pick u.ps u.pl l.reverse).reverse=row at*
  have sr:∀x∈row,Sp u.en x /\ x.1∈u.kp:=λx m=>by
   rw[<-hrow] at m
   exact spl x (List.mem_reverse.mp ((jcd _ _ _).subset (List.mem_reverse.mp m)))
  obtain⟨y2,_,e3⟩:=jrd row U (some (.lst (row.map jaf))) none sr
  have rl:0<row.length:=by
   rw[<-hrow,List.length_reverse]
   exact List.length_pos_iff.mpr ne
  refine .inl ⟨togs u.gl row,U.put f2,λR A=>e2 R A.c A.p A.w,?_⟩
  have rl':(0:Int)<((row.map jaf).length:Int):=by rw[List.length_map];omega
  have hn:(h.set rg (some (Cell.dct (glD (togs u.gl row))))).length=h.length:=List.length_set
  generalize h.set rg (some (Cell.dct (glD (togs u.gl row))))=H2 at*
  generalize row.map jaf=L at*
  have rl2:0<L.length:=by omega
  simp[-jat,z_Qm,b_Qm,m2,e3,rl',rl2,hn]
 ·have q':u.pl&&&r=0:=by simpa using q
  have d:Shut u u.kp (stL u.en u.gl) r:=d.resolve_left q
  rw[jkr g q'] at m2
  refine .inr ⟨r,⟨g.closed hp,g.pw_,q'⟩,d,?_⟩
  simp[-jat,z_Qm,b_Qm,m2,jb1]
theorem Adm.put{R:Nat}{gl:List Stp}:Adm (u.put gl) R↔Adm u R:=⟨λa=>⟨a.c,a.p,a.w⟩,λa=>⟨a.c,a.p,a.w⟩⟩
theorem Gr.eq{ps:List Nat}{en st:Nat->Nat}{pw:Nat}{l:List Stp}{r:Nat}(g:Gr ps en st pw l r):r=Clo.all (l.map λx=>Clo.clo ps (2^x.2.2)) (2^pw):=by
 induction g with
 | nil=>rfl
 | snoc _ _ _ _ _ ih=>
  rw[List.map_append]
  unfold Clo.all at*
  rw[List.foldl_append,<-ih]
  rfl
end
theorem jag{a b:MS}{ρ ρ':Ro}{h h':MH}(e:a ρ h= .nx ρ' h'):sSeq a b ρ h=b ρ' h':=by simp only[sSeq,e]
theorem jup{a b:MS}{ρ:Ro}{d:D}{h h':MH}(e:a ρ h= .rt d h'):sSeq a b ρ h= .rt d h':=by simp only[sSeq,e]
theorem jez{np nn:Nat}{b:MS}{ds:List D}{h h':MH}{d:D}(hl:ds.length=np)(e:b (ds.map some++List.replicate (nn - ds.length) none) h= .rt d h')(hn:h'.length<=h.length):mFun np nn b ds h= .ok d h':=by
 unfold mFun
 rw[if_pos hl,e]
 show fin h.length d h'=_
 unfold fin
 rw[if_pos hn]
section
variable {u : Bu} {p rp rg : Nat} {h : MH}
theorem jr4(U:Us h p rp rg u):∀(es acc:List Stp) (x2 x3:Option D),(∀x∈acc++es,x∈u.gl)->((acc++es).map (·.1)).Nodup->
  ∃y2 y3,jb1 (gTup [2,3]) (jhx (mVar 1) (mVar 2) (mBin dAnd (mBin dIx (mFld jbn "pairs" (mVar 0)) (mVar 2)) (mUn dInv (mVar 3)))) ((glD es).map jhm) [some (.ref p),some (.ref h.length),x2,x3] (h.set rg none++[some (.dct (nD (acc.map λx=>(x.1,2^x.2.1))))])= .nx [some (.ref p),some (.ref h.length),y2,y3] (h.set rg none++[some (.dct (nD ((acc++es).map λx=>(x.1,2^x.2.1))))])
 | [],acc,x2,x3,_,_=>⟨x2,x3,by simp[glD,nD,jb1]⟩
 | x::es,acc,x2,x3,hx,nd=>by
  obtain⟨y2,y3,ih⟩:=jr4 U es (acc++[x]) (some (.int x.1)) (some (.int (2^x.2.2:Nat))) (λy m=>hx y (by simpa using m)) (by simpa using nd)
  refine⟨y2,y3,?_⟩
  have mx:=hx x (List.mem_append_right _ (List.mem_cons_self ..))
  have sx:=U.f.sp x mx
  have v1:=valF U.nk u.en (U.f.ks x mx)
  have b1:=jhc (u.en x.1) (2^x.2.2)
  rw[jlx sx] at b1
  have lg:=(List.getElem?_eq_some_iff.mp U.g).1
  have np:rg≠p:=λe=>by
   have o:h[p]?=some (some (.ins "Bundle" (u.f rp rg))):=U.o
   rw[<-e,U.g] at o;cases o
  have lt:∀{j:Nat} {y:Option Cell} (z:Option Cell),rg≠j->h[j]?=some y->(h.set rg none++[z])[j]?=some y:=fun{j y} z n e=>by
   rw[List.getElem?_append_left (by rw[List.length_set];exact(List.getElem?_eq_some_iff.mp e).1),List.getElem?_set_ne n];exact e
  have o1:∀z:Option Cell,(h.set rg none++[z])[p]?=some (some (.ins "Bundle" (u.f rp rg))):=λz=>lt z np U.o
  have ga1:=λz:Option Cell=>lt z (Ne.symm U.ne) U.a
  have gc:∀z:Option Cell,(h.set rg none++[z])[h.length]?=some z:=λz=>by
   have:h.length=(h.set rg none).length:=by rw[List.length_set]
   rw[this];simp
  have sc:∀z y:Option Cell,(h.set rg none++[z]).set h.length y=h.set rg none++[y]:=λz y=>by
   have:h.length=(h.set rg none).length:=by rw[List.length_set]
   rw[this];simp
  have pn:putK (nD (acc.map λx=>(x.1,2^x.2.1))) (.inl (x.1:Int)) (.int (2^x.2.1:Nat))=nD ((acc++[x]).map λx=>(x.1,2^x.2.1)):=by
   have:((nD (acc.map λx=>(x.1,2^x.2.1))).any λkv=>decide (kv.1= .inl (x.1:Int)))=false:=by
    rw[List.any_eq_false]
    intro kv hkv
    obtain⟨g,hg,rfl⟩:=List.mem_map.mp hkv
    obtain⟨y,hy,rfl⟩:=List.mem_map.mp hg
    have:y.1≠x.1:=λz=>by
     rw[List.map_append,List.nodup_append] at nd
     exact nd.2.2 y.1 (List.mem_map.mpr ⟨y,hy,rfl⟩) x.1 (by simp) z
    simp
    omega
   unfold putK
   rw[if_neg (by rw[this];simp)]
   simp[nD]
  have al:(nD (acc.map λx=>(x.1,2^x.2.1))).length<16777216:=by
   have h1:=jcw ((acc++x::es).map (·.1)) (u.gl.map (·.1)) nd (λe m=>by
    obtain⟨y,my,rfl⟩:=List.mem_map.mp m
    exact List.mem_map.mpr ⟨y,hx y my,rfl⟩)
   have:=ji2 U
   simp[nD] at h1 ⊢;omega
  have st:jhx (mVar 1) (mVar 2) (mBin dAnd (mBin dIx (mFld jbn "pairs" (mVar 0)) (mVar 2)) (mUn dInv (mVar 3))) [some (.ref p),some (.ref h.length),some (.int x.1),some (.int (2^x.2.2:Nat))] (h.set rg none++[some (.dct (nD (acc.map λx=>(x.1,2^x.2.1))))])= .nx [some (.ref p),some (.ref h.length),some (.int x.1),some (.int (2^x.2.2:Nat))] (h.set rg none++[some (.dct (nD ((acc++[x]).map λx=>(x.1,2^x.2.1))))]):=by
   generalize nD ((acc++[x]).map λx=>(x.1,2^x.2.1))=N2 at*
   generalize nD (acc.map λx=>(x.1,2^x.2.1))=N1 at*
   generalize (((2:Nat)^x.2.2:Nat):Int)=B at*
   generalize (((2:Nat)^x.2.1:Nat):Int)=S at*
   simp[o1,ga1,v1,b1,gc,al,pn,sc]
  have er:(gTup [2,3]) (jhm (.inl (x.1:Int),.int (2^x.2.2:Nat))) [some (.ref p),some (.ref h.length),x2,x3] (h.set rg none++[some (.dct (nD (acc.map λx=>(x.1,2^x.2.1))))])= .nx [some (.ref p),some (.ref h.length),some (.int x.1),some (.int (2^x.2.2:Nat))] (h.set rg none++[some (.dct (nD (acc.map λx=>(x.1,2^x.2.1))))]):=rfl
  show jb1 _ _ (jhm (.inl (x.1:Int),.int (2^x.2.2:Nat))::(glD es).map jhm) _ _=_
  unfold jb1
  rw[er]
  simp only[st]
  rw[show acc++x::es=acc++[x]++es by simp]
  exact ih
theorem stW_eq(U:Us h p rp rg u):nD (u.gl.map λx=>(x.1,2^x.2.1))=fD (u.gl.map (·.1)) (stW u.gl):=by
 unfold fD
 rw[List.map_map]
 congr 1
 refine List.map_congr_left λx m=> ?_
 simp only[Function.comp]
 unfold stW
 rw[jew U.f.nd m]
theorem jj0(U:Us h p rp rg u):∃(l:List Stp) (r:Nat),Gr u.ps u.en (stW u.gl) u.n l r /\ (u.pl&&&r≠0 \/ ∀x∈u.gl,(∀i,(u.en x.1).testBit i=true->r.testBit i=true) \/ stW u.gl x.1&&&r=0) /\ z_Q1 [.ref p] h= .ok (.lst ((pick u.ps u.pl l.reverse).reverse.map jaf)) h:=by
 have lg:=(List.getElem?_eq_some_iff.mp U.g).1
 have lt:∀{j:Nat} {y:Option Cell} (z:Option Cell),h[j]?=some y->(h++[z])[j]?=some y:=fun{j y} z e=>by rw[List.getElem?_append_left (List.getElem?_eq_some_iff.mp e).1];exact e
 have hb1:∀l,Hb (h++[some (.dct (nD l))]):=λl=>U.hb.snoc λk _=>jry l k
 have lp:=(List.getElem?_eq_some_iff.mp U.a).1
 obtain⟨l,r,g,kl,d,e⟩:=ji3 (q:=h.length) (ks:=u.gl.map (·.1)) U.ok U.nk U.f.nd (λe m=>by obtain⟨x,mx,rfl⟩:=List.mem_map.mp m;exact U.f.ks x mx) (st:=stW u.gl) (λe m=>by
  obtain⟨x,mx,rfl⟩:=List.mem_map.mp m
  unfold stW
  rw[jew U.f.nd mx]
  intro i hi
  rw[jak] at hi
  have:=of_decide_eq_true hi
  exact((U.f.sp x mx).bit i).mpr (.inl this.symm)) (by rw[List.length_map];exact ji2 U) (hb1 _) (h:=h++[some (.dct (fD (u.gl.map (·.1)) (stW u.gl)))]) ⟨lt _ U.o,lt _ U.a,by simp,by simp,by omega⟩
 have km:∀x∈l,x∈u.gl:=jqt U.f g
 have ll:l.length<=12:=by
  have:=jcw (l.map (·.1)) (u.gl.map (·.1)) g.nodup (λe m=>by obtain⟨x,mx,rfl⟩:=List.mem_map.mp m;exact kl x mx)
  rw[List.length_map,List.length_map] at this
  exact Nat.le_trans this (ji2 U)
 refine⟨l,r,g,d.imp id λs x m=>s x.1 (List.mem_map.mpr ⟨x,m,rfl⟩),?_⟩
 obtain⟨y2,y3,el⟩:=jr4 U u.gl [] none none (λx m=>by simpa using m) (by simpa using U.f.nd)
 rw[List.nil_append,stW_eq U] at el
 have er:=jld (h:=h++[some (.dct (fD (u.gl.map (·.1)) (stW u.gl)))]) U.ok U.nk (hb1 _) (lt _ U.o) (lt _ U.a) (l:=l) (λx m=>⟨(g.mem x m).1,U.f.ks x (km x m)⟩) (by omega)
 have m1:=jdk (h:=h++[some (.dct (fD (u.gl.map (·.1)) (stW u.gl)))]) (lt _ U.o) (tab:=jco) (f:="steps_by") (z:=z_Q9) (m:=mVar 0) (l:=ja2 (mVar 1) mNil) (ρ:=[some (.ref p),some (.ref h.length),y2,y3]) (ds:=[.ref h.length]) rfl (by decide+kernel) (by simp) (by simp)
 rw[e] at m1
 have m2:=jdk (h:=h++[some (.dct (fD (u.gl.map (·.1)) (stW u.gl)))]) (lt _ U.o) (tab:=jev) (f:="row_in") (z:=z_Qj) (m:=mVar 0) (l:=ja2 (jat jco "steps_by" (mVar 0) (ja2 (mVar 1) mNil)) mNil) (ρ:=[some (.ref p),some (.ref h.length),y2,y3]) (ds:=[.lst (l.map jaf)]) rfl (by decide+kernel) (by simp) (by simp only[ja2,m1,jcz,mNil])
 rw[er] at m2
 have o1:∀z:Option Cell,(h++[z])[p]?=some (some (.ins "Bundle" (u.f rp rg))):=λz=>lt z U.o
 have gg:∀z:Option Cell,(h++[z])[rg]?=some (some (.dct (glD u.gl))):=λz=>lt z U.g
 have sg:∀z y:Option Cell,(h++[z]).set rg y=h.set rg y++[z]:=λz y=>List.set_append_left _ _ lg
 have gn:∀z:Option Cell,(h.set rg none++[z])[rg]?=some none:=λz=>by rw[List.getElem?_append_left (by rw[List.length_set];exact lg),List.getElem?_set_self lg]
 have sb:∀z:Option Cell,(h.set rg none++[z]).set rg (some (.dct (glD u.gl)))=h++[z]:=λz=>by
  rw[List.set_append_left _ _ (by rw[List.length_set];exact lg),List.set_set,jey U.g]
 have el:jb1 (gTup [2,3]) (jhx (mVar 1) (mVar 2) (mBin dAnd (mBin dIx (mFld jbn "pairs" (mVar 0)) (mVar 2)) (mUn dInv (mVar 3)))) ((glD u.gl).map jhm) [some (.ref p),some (.ref h.length),none,none] (h.set rg none++[some (.dct [])])=_:=el
 have key:b_Q1 [some (.ref p),none,none,none] h= .rt (.lst ((pick u.ps u.pl l.reverse).reverse.map jaf)) (h++[some (.dct (fD (u.gl.map (·.1)) (stW u.gl)))]):=by
  generalize (pick u.ps u.pl l.reverse).reverse.map jaf=Q at*
  generalize fD (u.gl.map (·.1)) (stW u.gl)=S at*
  generalize glD u.gl=G at*
  unfold b_Q1
  refine(jag (ρ':=[some (.ref p),some (.ref h.length),none,none]) (h':=h++[some (.dct [])]) (by simp)).trans ?_
  have mf:mFld jcb "goals" (mVar 0) [some (.ref p),some (.ref h.length),none,none] (h++[some (.dct [])])= .ok (.ref rg) (h++[some (.dct [])]):=by simp[o1]
  refine(jag (ρ':=[some (.ref p),some (.ref h.length),y2,y3]) (h':=h++[some (.dct S)]) ?_).trans ?_
  ·simp only[jv0,mf,jc4,gg,sg,el,jq7,gn,sb]
  ·simp only[sRet,m2,jc4]
 refine jdl (b:=b_Q1) (np:=1) (nn:=4) (ds:=[.ref p]) (J:=[some (.dct (fD (u.gl.map λx:Stp=>x.1) (stW u.gl)))]) rfl key U.hb ?_
 simp only[D.bnd]
 exact jem λd m=>by
  obtain⟨x,_,rfl⟩:=List.mem_map.mp m
  simp[jaf,D.bnd,D.bnds]
end
theorem low_pw:∀n:Fin 11,2^n.val - (2^n.val&&&(2^n.val - 1))=2^n.val:=by decide+kernel
theorem jqr{n:Nat}(hn:n<=10)(h:MH):z_X5 [.int (2^n:Nat)] h= .ok (.int (2^n:Nat)) h:=by
 have e:=low_pw ⟨n,by omega⟩
 have e:2^n - (2^n&&&(2^n - 1))=2^n:=e
 have pos:0<2^n:=Nat.pow_pos (by decide)
 have e2:=jhc (2^n) (2^n - 1)
 rw[e] at e2
 generalize 2^n=x at*
 have e1:(-(x:Int))=Builtin.bitNot ((x - 1:Nat):Int):=by unfold Builtin.bitNot;omega
 simp[z_X5,b_X5,e1,e2]
theorem jt6(ok:jbi n sws)(st:Nat)(h:MH)(hb:Hb h):jji [yd n sws,.int st,.int (2^n:Nat),.int (2^n:Nat)] h= .ok (.ref (h.length+3)) (h++[none,some (.dct []),none]++[some (.lst [])]):=by
 have eb:jju=(sSeq (sAsg (jek "Net" z_Qo (ja2 (mVar 0) mNil)) (ja8 4))
   (sSeq (sAsg jif (ja8 5))
   (sSeq (sAsg (mVar 2) (ja8 6))
   (sSeq (sAsg (mVar 2) (ja8 7))
   (sSeq (jb7 whC whB)
   (sSeq (sIf (tNot (tTru (mVar 7)))
   (sRet (mC .non))
   jbq)
   (sRet (jbb z_Ql (ja2 (mVar 5) (ja2 (mVar 2) (ja2 (jbb z_X5 (ja2 (mBin dAnd (mVar 7) (mVar 3)) mNil)) mNil))))))))))):=rfl
 have e1:=jh1 (m:=mVar 0) (ρ:=[some (yd n sws),some (.int st),some (.int (2^n:Nat)),some (.int (2^n:Nat)),none,none,none,none,none]) (h:=h) n sws ok.2.2.1 hb (by simp)
 have pos:2^n≠0:=Nat.ne_of_gt (Nat.pow_pos (by decide))
 have hc:=jte (some (yd n sws)) (some (.int st)) (some (.int (2^n:Nat))) (some (netO sws)) (some (.ref (h.length+1))) (some (.int (2^n:Nat))) (2^n) (2^n) none (h++[none,some (.dct [])])
 have ha:2^n&&&2^n=2^n:=Nat.and_self _
 rw[ha,decide_eq_true pos] at hc
 have hw:=jd6 (b:=whB) hc
 obtain⟨ks,a,l5,_,_,e5⟩:=jgd (sws:=sws) (st:=st) (s:=2^n) (j:=0) (kvs:=[]) (λi hi=>absurd hi (Nat.not_lt_zero _)) n (by omega) (by show(2^n).testBit n=true;rw[jak];simp)
 have:ks=[]:=List.length_eq_zero_iff.mp l5
 subst this
 have e5:=e5 (h.length+1) (h++[none,some (.dct [])]) (by simp)
 have lo:=jqr ok.2.1 (h++[none,some (.dct [])])
 have ba:=band (2^n) (2^n)
 rw[ha] at ba
 have n0:=ne0 (2^n)
 rw[decide_eq_true pos] at n0
 generalize (((2:Nat)^n:Nat):Int)=P at*
 have key:jju [some (yd n sws),some (.int st),some (.int P),some (.int P),none,none,none,none,none] h= .rt (.ref (h.length+3)) (h++([none,some (.dct []),none]++[some (.lst [])])):=by
  rw[eb]
  refine(jag (ρ':=[some (yd n sws),some (.int st),some (.int P),some (.int P),some (netO sws),none,none,none,none]) (h':=h++[none]) (by rw[sAsg,e1];rfl)).trans ?_
  refine(jag (ρ':=[some (yd n sws),some (.int st),some (.int P),some (.int P),some (netO sws),some (.ref (h.length+1)),none,none,none]) (h':=h++[none,some (.dct [])]) (by simp)).trans ?_
  refine(jag (ρ':=[some (yd n sws),some (.int st),some (.int P),some (.int P),some (netO sws),some (.ref (h.length+1)),some (.int P),none,none]) (h':=h++[none,some (.dct [])]) (by simp)).trans ?_
  refine(jag (ρ':=[some (yd n sws),some (.int st),some (.int P),some (.int P),some (netO sws),some (.ref (h.length+1)),some (.int P),some (.int P),none]) (h':=h++[none,some (.dct [])]) (by simp)).trans ?_
  refine(jag hw).trans ?_
  refine(jag (ρ':=[some (yd n sws),some (.int st),some (.int P),some (.int P),some (netO sws),some (.ref (h.length+1)),some (.int P),some (.int P),none]) (h':=h++[none,some (.dct [])]) (by simp[n0])).trans ?_
  have ln:(h++[none,some (Cell.dct [])]:MH).length+1=h.length+3:=by simp
  rw[ln] at e5
  simp only[sRet,jbb,ja2,mNil,mBin,mVar,List.getElem?_cons_succ,List.getElem?_cons_zero,jcz,dAnd,dInt,ba,lo,e5,jc4]
  simp
 have e6:=jp9 (b:=jju) (np:=4) (nn:=9) (ds:=[yd n sws,.int st,.int P,.int P]) (h:=h) (J:=([none,some (Cell.dct []),none]++[some (Cell.lst [])]:MH)) rfl key (by simp[D.bnd])
 refine Eq.trans e6 ?_
 rw[List.append_assoc]
def jm4(n:Nat)(ps:List Nat)(s g:Nat):Prop:=(s<2^n /\ Clo.clo ps s&&&g≠0) \/ (s=2^n /\ g=2^n)
def fw(n:Nat)(ps:List Nat):Nat->List Stp->Nat->Prop
 | B,[],W=>jm4 n ps B W
 | B,x::l,W=>jm4 n ps B (2^x.2.1) /\ fw n ps (2^x.2.2) l W
theorem jtp{n:Nat}{ps:List Nat}{x:Stp}{W:Nat}(w:jm4 n ps (2^x.2.2) W):∀{l:List Stp} {B:Nat},fw n ps B l (2^x.2.1)->fw n ps B (l++[x]) W
 | [],B,h=>⟨h,w⟩
 | y::l,B,h=>⟨h.1,jtp w h.2⟩
theorem Ch.fw{n:Nat}{ps:List Nat}{W:Nat}{l:List Stp}(c:Ch ps n W l)(hl:∀x∈l,x.2.2<n):My.fw n ps (2^n) l.reverse W:=by
 have wk:∀{x:Stp} {W:Nat},x.2.2<n->Clo.clo ps (2^x.2.2)&&&W≠0->jm4 n ps (2^x.2.2) W:=fun{x W} h q=> .inl ⟨Nat.pow_lt_pow_right (by decide) h,q⟩
 induction c with
 | one h e=>exact⟨.inr ⟨rfl,by rw[e]⟩,wk (hl _ (List.mem_cons_self ..)) h⟩
 | cons h e c ih=>
  rw[List.reverse_cons]
  exact jtp (wk (hl _ (List.mem_cons_self ..)) h) (ih λx m=>hl x (List.mem_cons_of_mem _ m))
theorem jt1{w:Sw}{a b c d:Nat}(h:w.ends a b)(g:w.ends c d):(c=a /\ d=b) \/ (c=b /\ d=a):=by
 unfold Sw.ends at h g
 rcases h with h | h | h | h<;>rcases g with g | g | g | g<;>rw[h] at g<;>cases g<;>simp
theorem jhk{w:Sw}{a b:Nat}(h:w.ends a b)(i:Nat):w.pair.testBit i=true↔(i=a \/ i=b):=by
 unfold Sw.ends at h
 rcases h with h | h | h | h<;>rw[h]<;>simp only[Sw.pair,Nat.testBit_or,jak,Bool.or_eq_true,decide_eq_true_iff]<;>constructor<;>rintro(h | h)<;>simp[h]
section
variable {sws : List Sw} {st : Nat}
theorem jsi{k a b c d:Nat}(h:Good sws st k a b)(g:Good sws st k c d):(c=a /\ d=b) \/ (c=b /\ d=a):=by
 obtain⟨w,h1,_,h3⟩:=h
 obtain⟨w',g1,_,g3⟩:=g
 rw[h1] at g1;cases g1
 exact jt1 h3 g3
theorem jhu:∀{t1:List Nat} {k:Nat} {t2:List Nat} {a b:Nat},jcp sws st (t1++k::t2) a b->∃u v,jcp sws st t1 a u /\ Good sws st k u v /\ jcp sws st t2 v b
 | [],k,t2,a,b,⟨c,g,r⟩=>⟨a,c,rfl,g,r⟩
 | x::t1,k,t2,a,b,⟨c,g,r⟩=>by
  obtain⟨u,v,p,q,s⟩:=jhu (t1:=t1) r
  exact⟨u,v,⟨c,g,p⟩,q,s⟩
theorem jke:∀{t1 t2:List Nat} {a b c:Nat},jcp sws st t1 a b->jcp sws st t2 b c->jcp sws st (t1++t2) a c
 | [],t2,a,b,c,h,g=>by
  have h:a=b:=h
  rw[h];exact g
 | x::t1,t2,a,b,c,⟨d,g,r⟩,h=>⟨d,g,jke r h⟩
theorem jks:∀{ks:List Nat} {a b:Nat},jcp sws st ks a b->¬ks.Nodup->∃ks':List Nat,ks'.length<ks.length /\ jcp sws st ks' a b
 | [],a,b,_,h=>absurd List.nodup_nil h
 | k::t,a,b,⟨c,g,r⟩,h=>by
  by_cases m:k∈t
  ·obtain⟨t1,t2,e⟩:=List.append_of_mem m
   rw[e] at r
   obtain⟨u,v,p,q,s⟩:=jhu r
   rcases jsi g q with⟨e1,e2⟩ | ⟨e1,e2⟩
   ·rw[e1] at q
    exact⟨k::t2,by rw[e];simp;omega,⟨v,q,s⟩⟩
   ·rw[e2] at s
    exact⟨t2,by rw[e];simp;omega,s⟩
  ·have:¬t.Nodup:=λz=>h (List.nodup_cons.mpr ⟨m,z⟩)
   obtain⟨t',l,s⟩:=jks r this
   exact⟨k::t',by simp;omega,⟨c,g,s⟩⟩
theorem jne{s:Nat}:∀{ks:List Nat} {a b i:Nat},jcp sws st ks a b->(Rn (jal st sws) s i).testBit a=true->(Rn (jal st sws) s (i+ks.length)).testBit b=true
 | [],a,b,i,h,g=>by
  have h:a=b:=h
  rw[<-h];exact g
 | k::t,a,b,i,⟨c,⟨w,h1,h2,h3⟩,r⟩,g=>by
  have:=jne (i:=i+1) r (jf1.mpr (.inr ⟨w.pair,jhy h1 h2,Clo.and_ne.mpr ⟨a,g,(jhk h3 a).mpr (.inl rfl)⟩,(jhk h3 c).mpr (.inr rfl)⟩))
  rw[show i+(k::t).length=i+1+t.length by simp;omega]
  exact this
theorem jpr{s g j a b:Nat}{ks:List Nat}(h:∀i,i<j->Rn (jal st sws) s i&&&g=0)(hl:ks.length=j)(t:jcp sws st ks a b)(ha:s.testBit a=true)(hb:g.testBit b=true):ks.Nodup:=by
 refine Classical.byContradiction λz=> ?_
 obtain⟨ks',l,t'⟩:=jks t z
 have:=jne (i:=0) t' (show(Rn (jal st sws) s 0).testBit a=true from ha)
 rw[Nat.zero_add] at this
 exact absurd (h ks'.length (by omega)) (Clo.and_ne.mpr ⟨b,this,hb⟩)
theorem jn4(ok:jbi n sws):∀{ks:List Nat} {a b:Nat},jcp sws st ks a b->a<n->b<n
 | [],a,b,h,l=>by
  have h:a=b:=h
  omega
 | k::t,a,b,⟨c,⟨w,h1,h2,h3⟩,r⟩,l=>by
  refine jn4 ok r ?_
  have:=ok.2.2.2 w (List.mem_of_getElem? h1)
  unfold Sw.ends at h3
  rcases h3 with h3 | h3 | h3 | h3<;>rw[h3] at this
  ·exact this.2.1
  ·exact this.1
  ·exact this.2.1
  ·exact this.1
theorem jg8{st':Nat}(hs:∀k,st.testBit k=true->st'.testBit k=true):∀{ks:List Nat} {a b:Nat},jcp sws st ks a b->jcp sws st' ks a b
 | [],a,b,h=>h
 | k::t,a,b,⟨c,⟨w,h1,h2,h3⟩,r⟩=>⟨c,⟨w,h1,hs k h2,h3⟩,jg8 hs r⟩
theorem jh2:∀{ks:List Nat} {a b:Nat} {R:Nat},jcp sws st ks a b->Clo.closed (jal st sws) R->R.testBit a=true->∀k∈ks,st.testBit k=true /\ ∃w,sws[k]?=some w /\ Clo.sub w.pair R /\ w.pair≠0
 | [],a,b,R,h,c,ha=>λk m=>(nomatch m)
 | x::t,a,b,R,⟨c,⟨w,h1,h2,h3⟩,r⟩,cl,ha=>λk m=>by
  have sb:=cl _ (jhy h1 h2) (Clo.and_ne.mpr ⟨a,(jhk h3 a).mpr (.inl rfl),ha⟩)
  rcases List.mem_cons.mp m with rfl | m
  ·refine⟨h2,w,h1,sb,λz=> ?_⟩
   have:=(jhk h3 a).mpr (.inl rfl)
   rw[z] at this;simp at this
  ·exact jh2 r cl (sb c ((jhk h3 c).mpr (.inr rfl))) k m
end
theorem jsb(ok:jbi n sws){cm s g:Nat}(w:jm4 n (jal cm sws) s g):∃ks:List Nat,ks.length<=9 /\ ks.Nodup /\ ((s=2^n /\ g=2^n /\ ks=[]) \/ (s<2^n /\ ∃a b,jcp sws cm ks a b /\ s.testBit a=true /\ g.testBit b=true)) /\ ∀h:MH,Hb h->∃junk,Cl junk /\ jji [yd n sws,.int cm,.int s,.int g] h= .ok (.ref (h.length+junk.length)) (h++junk++[some (.lst (ks.map λk:Nat=>D.int k))]):=by
 rcases w with⟨hs,hc⟩ | ⟨rfl,rfl⟩
 ·rcases way_ok ok cm s g hs with⟨z,_⟩ | ⟨j,ks,a,b,r1,_,hj,hk,t,ha,hb,run⟩
  ·obtain⟨j,q⟩:=clo_ne.mpr hc
   exact absurd (z j) q
  ·exact⟨ks,by omega,jpr r1 hk t ha hb,.inr ⟨hs,a,b,t,ha,hb⟩,run⟩
 ·refine⟨[],by simp,List.nodup_nil,.inl ⟨rfl,rfl,rfl⟩,λh hb=>⟨[none,some (.dct []),none],?_,jt6 ok cm h hb⟩⟩
  intro c m
  simp only[List.mem_cons,List.not_mem_nil,or_false] at m
  rcases m with rfl | rfl | rfl<;>intro n<;>simp[Cell.bnd,D.bnds]
def nL(l:List Nat):List D:=l.map λk:Nat=>D.int k
theorem jtn(a b:List Nat):nL (a++b)=nL a++nL b:=List.map_append
theorem jj7(l:List Nat)(n:Nat):D.bnds n (nL l)=true:=jem λd m=>by
 obtain⟨k,_,rfl⟩:=List.mem_map.mp m
 simp[D.bnd]
section
variable {u : Bu} {p rp rg : Nat} {h : MH}
def Sg(u:Bu)(s g:Nat)(ks:List Nat):Prop:=ks.Nodup /\ ((s=2^u.n /\ g=2^u.n /\ ks=[]) \/ (s<2^u.n /\ ∃a b,jcp u.sws u.cm ks a b /\ s.testBit a=true /\ g.testBit b=true))
def Wr(u:Bu):Nat->List Stp->Nat->List Nat->Prop
 | B,[],W,ks=>Sg u B W ks
 | B,x::l,W,ks=>∃k1 k2,ks=k1++x.1::k2 /\ Sg u B (2^x.2.1) k1 /\ Wr u (2^x.2.2) l W k2
theorem ju7(U:Us h p rp rg u){s g:Nat}(w:jm4 u.n u.ps s g):∃ks:List Nat,ks.length<=9 /\ Sg u s g ks /\ ∀(acc:List Nat) (J:MH),Cl J->acc.length<10000->∃J',Cl J' /\ ∀(ρ:Ro) (ms mg:ME),ρ[0]?=some (some (.ref p))->ρ[2]?=some (some (.ref h.length))->(∀H:MH,Ob H p rp rg u->H[rp]?=some (some (.dct (fD u.kp u.en)))->ms ρ H= .ok (.int s) H /\ mg ρ H= .ok (.int g) H)->
  jjm (mVar 2) (jbb jji (ja2 (mFld jg6 "yard" (mVar 0)) (ja2 (mFld jct "common" (mVar 0)) (ja2 ms (ja2 mg mNil))))) ρ (h++[some (.lst (nL acc))]++J)= .nx ρ (h++[some (.lst (nL (acc++ks)))]++J'):=by
 obtain⟨ks,hk,nd,sg,run⟩:=jsb U.ok (cm:=u.cm) w
 refine⟨ks,hk,⟨nd,sg⟩,λacc J cj ha=> ?_⟩
 have hbJ:Hb (h++[some (.lst (nL acc))]++J):=(U.hb.snoc (c:=some (.lst (nL acc))) λk _=>jj7 acc k).app cj
 obtain⟨junk,ck,e⟩:=run _ hbJ
 refine⟨J++junk++[some (.lst (nL ks))],?_,λρ ms mg h0 h2 hm=> ?_⟩
 ·intro c m n
  rcases List.mem_append.mp m with m | m
  ·rcases List.mem_append.mp m with m | m
   ·exact cj c m n
   ·exact ck c m n
  ·rw[List.mem_singleton.mp m];exact jj7 ks n
 ·have lt:∀{j:Nat} {y:Option Cell} (K:MH),h[j]?=some y->(h++K)[j]?=some y:=fun{j y} K e=>by rw[List.getElem?_append_left (List.getElem?_eq_some_iff.mp e).1];exact e
  have o1:∀K:MH,(h++K)[p]?=some (some (.ins "Bundle" (u.f rp rg))):=λK=>lt K U.o
  obtain⟨m1,m2⟩:=hm (h++[some (.lst (nL acc))]++J) (by rw[List.append_assoc];exact lt _ U.o) (by rw[List.append_assoc];exact lt _ U.a)
  have oH:(h++[some (Cell.lst (nL acc))]++J)[p]?=some (some (.ins "Bundle" (u.f rp rg))):=by rw[List.append_assoc];exact o1 _
  have g1:(h++[some (Cell.lst (nL acc))]++J)[h.length]?=some (some (.lst (nL acc))):=by simp[List.getElem?_append]
  have g2:(h++[some (Cell.lst (nL acc))]++J++junk++[some (.lst (nL ks))])[h.length]?=some (some (.lst (nL acc))):=by simp[List.getElem?_append]
  have g3:(h++[some (Cell.lst (nL acc))]++J++junk++[some (.lst (nL ks))])[(h++[some (Cell.lst (nL acc))]++J).length+junk.length]?=some (some (.lst (nL ks))):=by
   have:(h++[some (Cell.lst (nL acc))]++J).length+junk.length=(h++[some (Cell.lst (nL acc))]++J++junk).length:=by simp only[List.length_append]
   rw[this];simp
  have s1:(h++[some (Cell.lst (nL acc))]++J++junk++[some (Cell.lst (nL ks))]:MH).set h.length (some (.lst (nL acc++nL ks)))=h++[some (.lst (nL (acc++ks)))]++(J++junk++[some (.lst (nL ks))]):=by
   rw[jtn]
   simp[List.set_append]
  have e:jji [yd u.n u.sws,.int u.cm,.int s,.int g] (h++[some (Cell.lst (nL acc))]++J)= .ok (.ref ((h++[some (Cell.lst (nL acc))]++J).length+junk.length)) (h++[some (Cell.lst (nL acc))]++J++junk++[some (.lst (nL ks))]):=e
  have l1:(nL acc).length+(nL ks).length<=16777216:=by unfold nL;rw[List.length_map,List.length_map];omega
  generalize h++[some (Cell.lst (nL acc))]++J++junk++[some (.lst (nL ks))]=H2 at*
  generalize h++[some (Cell.lst (nL acc))]++J=H1 at*
  generalize nL acc=A at*
  generalize nL ks=Bk at*
  simp[h0,h2,oH,g1,m1,m2,e,g2,g3,l1,s1]
theorem jom(U:Us h p rp rg u)(y1:Option D){W:Nat}:∀(row:List Stp) (B:Nat) (acc:List Nat) (J:MH) (x4:Option D),fw u.n u.ps B row W->(∀x∈row,Sp u.en x /\ x.1∈u.kp)->Cl J->acc.length+10*row.length<9000->
  ∃(B':Nat) (acc':List Nat) (J':MH) (z4:Option D),jm4 u.n u.ps B' W /\ Cl J' /\ acc'.length<=acc.length+10*row.length /\ (∀kz,Sg u B' W kz->∃kw,acc'++kz=acc++kw /\ Wr u B row W kw) /\ jb1 (ja8 4) jbp (row.map jaf) [some (.ref p),y1,some (.ref h.length),some (.int B),x4] (h++[some (.lst (nL acc))]++J)= .nx [some (.ref p),y1,some (.ref h.length),some (.int B'),z4] (h++[some (.lst (nL acc'))]++J')
 | [],B,acc,J,x4,w,_,cj,_=>⟨B,acc,J,x4,w,cj,by simp,λkz s=>⟨kz,rfl,s⟩,rfl⟩
 | x::row,B,acc,J,x4,w,hx,cj,hl=>by
  simp only[List.length_cons] at hl
  obtain⟨sx,kx⟩:=hx x (List.mem_cons_self ..)
  obtain⟨w1,w2⟩:=w
  obtain⟨ks,hk,sg,run⟩:=ju7 U w1
  obtain⟨J1,c1,e1⟩:=run acc J cj (by omega)
  have v1:=valF U.nk u.en kx
  have b1:=jhc (u.en x.1) (2^x.2.2)
  rw[jlx sx] at b1
  have i0:∀h:MH,dIx (jaf x) (.int 0) h= .ok (.int x.1) h:=λh=>by simp[jaf,atI,ixN]
  have i1:∀h:MH,dIx (jaf x) (.int 1) h= .ok (.int (2^x.2.2:Nat)) h:=λh=>by simp[jaf,atI,ixN]
  have e1:=e1 [some (.ref p),y1,some (.ref h.length),some (.int B),some (jaf x)] (mVar 3) (mBin dAnd (mBin dIx (mFld jbn "pairs" (mVar 0)) (mBin dIx (mVar 4) (mC (.int 0)))) (mUn dInv (mBin dIx (mVar 4) (mC (.int 1))))) rfl rfl (λH o ga=>by
   have o:H[p]?=some (some (.ins "Bundle" (u.f rp rg))):=o
   have ex:dIx (.ref rp) (.int x.1) H= .ok (.int (u.en x.1:Nat)) H:=by simp[ga,v1]
   refine⟨by simp,?_⟩
   generalize jaf x=sx at*
   generalize (((2:Nat)^x.2.2:Nat):Int)=Bx at*
   generalize (((2:Nat)^x.2.1:Nat):Int)=S at*
   simp[-dIx,o,i0,i1,ex,b1])
  have g1:(h++[some (Cell.lst (nL (acc++ks)))]++J1)[h.length]?=some (some (.lst (nL (acc++ks)))):=by simp[List.getElem?_append]
  have s1:(h++[some (Cell.lst (nL (acc++ks)))]++J1).set h.length (some (.lst (nL (acc++ks)++[.int x.1])))=h++[some (.lst (nL (acc++ks++[x.1])))]++J1:=by
   rw[jtn (acc++ks)]
   simp[List.set_append,nL]
  have l1:(nL (acc++ks)).length<16777216:=by unfold nL;rw[List.length_map,List.length_append];omega
  have st:jbp [some (.ref p),y1,some (.ref h.length),some (.int B),some (jaf x)] (h++[some (.lst (nL acc))]++J)= .nx [some (.ref p),y1,some (.ref h.length),some (.int (2^x.2.2:Nat)),some (jaf x)] (h++[some (.lst (nL (acc++ks++[x.1])))]++J1):=by
   unfold jbp
   refine(jag e1).trans ?_
   generalize jaf x=sx at*
   generalize (((2:Nat)^x.2.2:Nat):Int)=Bx at*
   generalize h++[some (Cell.lst (nL (acc++ks)))]++J1=H1 at*
   generalize h++[some (Cell.lst (nL (acc++ks++[x.1])))]++J1=H2 at*
   generalize nL (acc++ks)=A at*
   simp[-dIx,g1,i0,i1,l1,s1]
  obtain⟨B',acc',J',z4,w',c',n',wr,ih⟩:=jom U y1 row (2^x.2.2) (acc++ks++[x.1]) J1 (some (jaf x)) w2 (λy m=>hx y (List.mem_cons_of_mem _ m)) c1 (by simp only[List.length_append,List.length_singleton];omega)
  refine⟨B',acc',J',z4,w',c',by simp only[List.length_append,List.length_cons,List.length_nil] at n' ⊢;omega,λkz sz=> ?_,?_⟩
  ·obtain⟨kw,e,q⟩:=wr kz sz
   exact⟨ks++x.1::kw,by rw[e];simp,ks,kw,rfl,sg,q⟩
  rw[List.map_cons]
  unfold jb1
  simp only[ja8,List.set_cons_succ,List.set_cons_zero,st]
  exact ih
theorem jpk(U:Us h p rp rg u){row:List Stp}(w:fw u.n u.ps (2^u.n) row u.pl)(hr:∀x∈row,Sp u.en x /\ x.1∈u.kp)(hl:row.length<=12):∃ks:List Nat,Wr u (2^u.n) row u.pl ks /\ z_Qe [.ref p,.lst (row.map jaf)] h= .ok (.lst (nL ks)) h:=by
 obtain⟨B',acc',J',z4,w',c',n',wr,e⟩:=jom U (some (.lst (row.map jaf))) row (2^u.n) [] [] none w hr (λc m=>by cases m) (by simp;omega)
 obtain⟨ks,hk,sg,run⟩:=ju7 U w'
 obtain⟨J2,c2,e2⟩:=run acc' J' c' (by simp at n';omega)
 have e2:=e2 [some (.ref p),some (.lst (row.map jaf)),some (.ref h.length),some (.int B'),z4] (mVar 3) (mFld jdj "place" (mVar 0)) rfl rfl (λH o _=>by
  have o:H[p]?=some (some (.ins "Bundle" (u.f rp rg))):=o
  exact⟨by simp,by simp[o]⟩)
 refine⟨acc'++ks,by
  obtain⟨kw,e,q⟩:=wr ks sg
  rw[e];exact q,?_⟩
 have o1:∀z:Option Cell,(h++[z])[p]?=some (some (.ins "Bundle" (u.f rp rg))):=λz=>by rw[List.getElem?_append_left (List.getElem?_eq_some_iff.mp U.o).1];exact U.o
 have g1:(h++[some (Cell.lst (nL (acc'++ks)))]++J2)[h.length]?=some (some (.lst (nL (acc'++ks)))):=by simp[List.getElem?_append]
 have s1:(h++[some (Cell.lst (nL (acc'++ks)))]++J2).set h.length none=h++([none]++J2):=by simp[List.set_append]
 have up:=jjb u rp rg
 have key:b_Qe [some (.ref p),some (.lst (row.map jaf)),none,none,none] h= .rt (.lst (nL (acc'++ks))) (h++([none]++J2)):=by
  unfold b_Qe
  generalize (((2:Nat)^u.n:Nat):Int)=P at*
  generalize row.map jaf=L at*
  refine(jag (ρ':=[some (.ref p),some (.lst L),some (.ref h.length),none,none]) (h':=h++[some (.lst [])]) (by simp)).trans ?_
  refine(jag (ρ':=[some (.ref p),some (.lst L),some (.ref h.length),some (.int P),none]) (h':=h++[some (.lst [])]) (by simp[o1,up])).trans ?_
  have e:jb1 (ja8 4) jbp L [some (.ref p),some (.lst L),some (.ref h.length),some (.int P),none] (h++[some (.lst [])])= .nx [some (.ref p),some (.lst L),some (.ref h.length),some (.int B'),z4] (h++[some (.lst (nL acc'))]++J'):=by rw[<-List.append_nil (h++[some (Cell.lst [])])];exact e
  refine(jag (ρ':=[some (.ref p),some (.lst L),some (.ref h.length),some (.int B'),z4]) (h':=h++[some (.lst (nL acc'))]++J') (by simp only[jd3,lIt,mVar,List.getElem?_cons_succ,List.getElem?_cons_zero,jcz,jc4,jb5];exact e)).trans ?_
  refine(jag e2).trans ?_
  simp only[jdg,List.getElem?_cons_succ,List.getElem?_cons_zero,g1,List.set_cons_succ,List.set_cons_zero,s1,sRet,mVar,jc4]
 refine jdl (b:=b_Qe) (np:=2) (nn:=5) (ds:=[.ref p,.lst (row.map jaf)]) (J:=[none]++J2) rfl key U.hb ?_
 simp only[D.bnd]
 exact jj7 _ _
end
def wsD(ws:List (List Nat)):List D:=ws.map λw=>D.lst (nL w)
theorem juf(ws:List (List Nat))(n:Nat):D.bnds n (wsD ws)=true:=jem λd m=>by
 obtain⟨k,_,rfl⟩:=List.mem_map.mp m
 simp only[D.bnd]
 exact jj7 k n
section
variable {p rp rg : Nat}
theorem Us.setc{h:MH}{u:Bu}(U:Us h p rp rg u){c:Nat}{x:Option Cell}(c1:c≠p)(c2:c≠rp)(c3:c≠rg)(hx:∀n,Cell.bnd n x=true):Us (h.set c x) p rp rg u:=by
 refine⟨?_,?_,?_,?_,U.ok,U.nk,U.lk,U.ne,U.f⟩
 ·show(h.set c x)[p]?=_
  rw[List.getElem?_set_ne c1];exact U.o
 ·rw[List.getElem?_set_ne c2];exact U.a
 ·rw[List.getElem?_set_ne c3];exact U.g
 ·intro n hn
  rw[List.length_set] at hn
  have:=U.hb n hn
  rw[List.all_eq_true] at this ⊢
  intro y hy
  rcases List.mem_or_eq_of_mem_set hy with hy | rfl
  ·exact this y hy
  ·exact hx n
theorem joo:∀(row:List Stp) {h:MH} {u:Bu} (U:Us h p rp rg u) (y1 y2 x3:Option D),(∀x∈row,x∈u.gl)->(row.map (·.1)).Nodup->∃y3,jb1 (ja8 3) (jgv (jlr (mFld jcb "goals" (mVar 0)) (mBin dIx (mVar 3) (mC (.int 0))))) (row.map jaf) [some (.ref p),y1,y2,x3] h= .nx [some (.ref p),y1,y2,y3] (h.set rg (some (.dct (glD (dels u.gl row)))))
 | [],h,u,U,y1,y2,x3,_,_=>⟨x3,by
   show RS.nx _ h=_
   rw[show h.set rg (some (.dct (glD (dels u.gl []))))=h from jey U.g]⟩
 | x::row,h,u,U,y1,y2,x3,hx,nd=>by
  rw[List.map_cons] at nd
  obtain⟨n1,n2⟩:=List.nodup_cons.mp nd
  have mx:=hx x (List.mem_cons_self ..)
  obtain⟨y3,ih⟩:=joo row (U.put (U.f.del x.1)) y1 y2 (some (jaf x)) (λz m=>jea.mpr ⟨hx z (List.mem_cons_of_mem _ m),λe=>n1 (List.mem_map.mpr ⟨z,m,e⟩)⟩) n2
  refine⟨y3,?_⟩
  have o:h[p]?=some (some (.ins "Bundle" (u.f rp rg))):=U.o
  have gg:=U.g
  have hv:=jlv u.gl x.1
  rw[jh8.mpr ⟨x,mx,rfl⟩] at hv
  obtain⟨w,hw⟩:=Option.isSome_iff_exists.mp hv
  have dr:=jn2 u.gl x.1
  have i0:∀h:MH,dIx (jaf x) (.int 0) h= .ok (.int x.1) h:=λh=>by simp[jaf,atI,ixN]
  have st:jgv (jlr (mFld jcb "goals" (mVar 0)) (mBin dIx (mVar 3) (mC (.int 0)))) [some (.ref p),y1,y2,some (jaf x)] h= .nx [some (.ref p),y1,y2,some (jaf x)] (h.set rg (some (.dct (glD (delK u.gl x.1))))):=by
   generalize jaf x=sx at*
   simp[-dIx,i0,o,gg,hw,dr]
  have er:(ja8 3) (jaf x) [some (.ref p),y1,y2,x3] h= .nx [some (.ref p),y1,y2,some (jaf x)] h:=rfl
  rw[List.map_cons]
  unfold jb1
  rw[er]
  simp only[st]
  rw[List.set_set] at ih
  exact ih
theorem jwg{u:Bu}(ok:jbi u.n u.sws){x:Stp}(s:Sp u.en x):x.2.1<=u.n /\ x.2.2<=u.n:=by
 rcases jtl ok x.1 with z | ⟨a,b,ab,e,la,lb⟩
 ·have:(u.en x.1).testBit x.2.1=true:=(s.bit _).mpr (.inl rfl)
  rw[show u.en x.1=0 from z] at this;simp at this
 ·have bx:∀i,(u.en x.1).testBit i=true->i<=u.n:=λi hi=>by
   rw[show u.en x.1=2^a|||2^b from e,Nat.testBit_or,jak,jak,Bool.or_eq_true] at hi
   simp at hi
   omega
  exact⟨bx _ ((s.bit _).mpr (.inl rfl)),bx _ ((s.bit _).mpr (.inr rfl))⟩
structure RowOk (u:Bu) (row:List Stp):Prop where
 fw:fw u.n u.ps (2^u.n) row u.pl
 sp:∀x∈row,Sp u.en x /\ x.1∈u.kp /\ x.2.2≠u.n
 nd:(row.map (·.1)).Nodup
 ap:row.Pairwise λx y=>(Clo.clo u.ps (2^x.2.2)).testBit y.2.2=false
def Tk(u:Bu):List Stp->List (List Stp×List Nat)->Prop
 | _,[]=>True
 | gl,v::vs=>(∀x∈v.1,x∈gl) /\ RowOk u v.1 /\ Wr u (2^u.n) v.1 u.pl v.2 /\ Tk u (dels gl v.1) vs
theorem Tk.put{u:Bu}{g:List Stp}:∀{vs:List (List Stp×List Nat)} {gl:List Stp},Tk (u.put g) gl vs->Tk u gl vs
 | [],_,_=>trivial
 | v::vs,gl,⟨h1,h2,h3,h4⟩=>by
  have wr:∀(row:List Stp) (B W:Nat) (ks:List Nat),Wr (u.put g) B row W ks->Wr u B row W ks:=λrow=>by
   induction row with
   | nil=>exact λB W ks h=>h
   | cons x l ih=>exact λB W ks ⟨k1,k2,e,s,q⟩=>⟨k1,k2,e,s,ih _ _ _ q⟩
  exact⟨h1,⟨h2.fw,h2.sp,h2.nd,h2.ap⟩,wr _ _ _ _ h3,Tk.put h4⟩
theorem jqo:∀(row gl:List Stp),(dels gl row).length<=gl.length
 | [],gl=>Nat.le_refl _
 | x::row,gl=>Nat.le_trans (jqo row (delK gl x.1)) (List.length_filter_le _ _)
theorem jwe{x:Stp}{row gl:List Stp}(m:x∈gl):(dels gl (x::row)).length<gl.length:=by
 refine Nat.lt_of_le_of_lt (jqo row (delK gl x.1)) ?_
 refine Nat.lt_of_le_of_ne (List.length_filter_le _ _) λe=> ?_
 have:=(List.length_filter_eq_length_iff.mp e) x m
 simp at this
theorem Gr.sub{ps:List Nat}{en st:Nat->Nat}{pw:Nat}{l:List Stp}{r:Nat}(g:Gr ps en st pw l r):∀x∈l,Clo.sub (Clo.clo ps (2^x.2.2)) r:=by
 induction g with
 | nil=>exact λx m=>(nomatch m)
 | snoc g s1 s2 s3 s4 ih=>
  intro x m
  rcases List.mem_append.mp m with m | m
  ·exact(ih x m).trans (Clo.jd9 _ _)
  ·rw[List.mem_singleton.mp m]
   exact λi hi=>by rw[Nat.testBit_or,hi];simp
theorem Gr.apart{ps:List Nat}{en st:Nat->Nat}{pw:Nat}{l:List Stp}{r:Nat}(g:Gr ps en st pw l r):l.Pairwise λx y=>(Clo.clo ps (2^x.2.2)).testBit y.2.2=false:=by
 induction g with
 | nil=>exact .nil
 | snoc g s1 s2 s3 s4 ih=>
  refine List.pairwise_append.mpr ⟨ih,List.pairwise_singleton _ _,λx m y my=> ?_⟩
  rw[List.mem_singleton.mp my]
  cases q:(Clo.clo ps (2^x.2.2)).testBit _ with
  | false=>rfl
  | true=>
   have:=g.sub x m _ q
   rw[s3] at this;cases this
theorem jrg{c:Nat}:∀(N:Nat) (K:Int) {h:MH} {u:Bu} (U:Us h p rp rg u) (ws:List (List Nat)) (l:List Stp) (r:Nat) (x3:Option D),u.gl.length<=N->u.pl<2^u.n->c≠p->c≠rp->c≠rg->h[c]?=some (some (.lst (wsD ws)))->(∀R,Adm u R->fl R u.gl=K)->ws.length+N<1000->Gr u.ps u.en (stW u.gl) u.n l r->(u.pl&&&r≠0 \/ ∀x∈u.gl,(∀i,(u.en x.1).testBit i=true->r.testBit i=true) \/ stW u.gl x.1&&&r=0)->
  ∃(H:MH) (vs:List (List Stp×List Nat)) (y3:Option D) (K':Int) (gl':List Stp),H.length=h.length /\ (∀j,j≠c->j≠rg->H[j]?=h[j]?) /\ H[c]?=some (some (.lst (wsD (ws++vs.map (·.2))))) /\ (vs.length:Int)=K - K' /\ K'<=0 /\ (∀x∈gl',x∈u.gl) /\ (∀R,Adm u R->fl R gl'=K') /\ Tk u u.gl vs /\ Hb H /\ jb7 (tTru (mVar 2)) jbo [some (.ref p),some (.ref c),some (.lst ((pick u.ps u.pl l.reverse).reverse.map jaf)),x3] h= .nx [some (.ref p),some (.ref c),some (.lst []),y3] H
 | N,K,h,u,U,ws,l,r,x3,hN,hpl,c1,c2,c3,hc,hK,hl,g,d=>by
  have hp:∀p∈u.ps,p.testBit u.n=false:=ps_no U.ok u.cm
  have h2:u.pl.testBit u.n=false:=Nat.testBit_lt_two_pow hpl
  by_cases q:u.pl&&&r≠0
  ·obtain⟨ch,sb,f2,s2,e2⟩:=juh hp U.f g q h2
   have sr:∀x∈(pick u.ps u.pl l.reverse).reverse,x∈u.gl:=λx m=>sb x (List.mem_reverse.mp m)
   have sg:∀x∈(pick u.ps u.pl l.reverse).reverse,x.2.2≠u.n:=λx m=>(g.mem x (List.mem_reverse.mp ((jcd _ _ _).subset (List.mem_reverse.mp m)))).2.2.2.2
   have nd:((pick u.ps u.pl l.reverse).reverse.map (·.1)).Nodup:=by
    rw[List.map_reverse]
    refine jj1 (List.Sublist.nodup (List.Sublist.map _ (jcd _ _ _)) ?_)
    rw[List.map_reverse]
    exact jj1 g.nodup
   have ap:(pick u.ps u.pl l.reverse).reverse.Pairwise λx y=>(Clo.clo u.ps (2^x.2.2)).testBit y.2.2=false:=by
    have s:=(jcd u.ps u.pl l.reverse).reverse
    rw[List.reverse_reverse] at s
    exact g.apart.sublist s
   have fwd:=ch.fw (n:=u.n) (λx m=>by
    have:=(jwg U.ok (U.f.sp x (sb x m))).2
    have:=(g.mem x (List.mem_reverse.mp ((jcd _ _ _).subset m))).2.2.2.2
    omega)
   have ne:(pick u.ps u.pl l.reverse).reverse≠[]:=λz=>by
    have:pick u.ps u.pl l.reverse=[]:=by simpa using z
    rw[this] at ch;cases ch
   generalize (pick u.ps u.pl l.reverse).reverse=row at*
   have rl:row.length<=12:=by
    have:=jcw (row.map (·.1)) (u.gl.map (·.1)) nd (λe m=>by obtain⟨x,mx,rfl⟩:=List.mem_map.mp m;exact List.mem_map.mpr ⟨x,sr x mx,rfl⟩)
    rw[List.length_map,List.length_map] at this
    exact Nat.le_trans this (ji2 U)
   have dlt:(dels u.gl row).length<u.gl.length:=by
    cases row with
    | nil=>exact absurd rfl ne
    | cons x row=>exact jwe (sr x (List.mem_cons_self ..))
   cases N with
   | zero=>omega
   | succ N=>
    obtain⟨ks,wr,ew⟩:=jpk U fwd (λx m=>⟨U.f.sp x (sr x m),U.f.ks x (sr x m)⟩) rl
    have lc:=(List.getElem?_eq_some_iff.mp hc).1
    have U1:Us (h.set c (some (.lst (wsD (ws++[ks]))))) p rp rg u:=U.setc c1 c2 c3 λn=>juf _ n
    obtain⟨y3,ep⟩:=joo row U1 (some (.ref c)) (some (.lst (row.map jaf))) x3 sr nd
    have U2:=U1.put f2
    obtain⟨l',r',g',d',er⟩:=jj0 U2
    obtain⟨H,vs,z3,K',gl',hL,hj,hc',hw,k0,sg',hK',tk,hB,ih⟩:=jrg N (K - 1) U2 (ws++[ks]) l' r' y3 (by show(dels u.gl row).length<=N;omega) hpl c1 c2 c3 (by rw[List.getElem?_set_ne (Ne.symm c3),List.getElem?_set_self lc]) (λR a=>by
     have a:=Adm.put.mp a
     show fl R (dels u.gl row)=K - 1
     rw[e2 R a.c a.p a.w,hK R a]) (by simp only[List.length_append,List.length_cons,List.length_nil];omega) g' d'
    refine⟨H,(row,ks)::vs,z3,K',gl',by rw[hL,List.length_set,List.length_set],λj j1 j2=> ?_,by rw[hc'];simp,by rw[List.length_cons];omega,k0,λx m=>s2 x (sg' x m),λR a=>hK' R (Adm.put.mpr a),⟨sr,⟨fwd,λx m=>⟨U.f.sp x (sr x m),U.f.ks x (sr x m),sg x m⟩,nd,ap⟩,wr,tk.put⟩,hB,?_⟩
    ·rw[hj j j1 j2,List.getElem?_set_ne (Ne.symm j2),List.getElem?_set_ne (Ne.symm j1)]
    ·have mw:=jdk U.o (tab:=jhj) (f:="way_by") (z:=z_Qe) (m:=mVar 0) (l:=ja2 (mVar 2) mNil) (ρ:=[some (.ref p),some (.ref c),some (.lst (row.map jaf)),x3]) (ds:=[.lst (row.map jaf)]) rfl (by decide+kernel) (by simp) (by simp)
     rw[ew] at mw
     have mr:=jdk U2.o (tab:=jc0) (f:="row_of_a_way") (z:=z_Q1) (m:=mVar 0) (l:=mNil) (ρ:=[some (.ref p),some (.ref c),some (.lst (row.map jaf)),y3]) (ds:=[]) rfl (by decide+kernel) (by simp) (by simp)
     rw[er] at mr
     have wa:wsD ws++[.lst (nL ks)]=wsD (ws++[ks]):=by simp[wsD]
     have wl:(wsD ws).length<16777216:=by unfold wsD;rw[List.length_map];omega
     have cd:tTru (mVar 2) [some (.ref p),some (.ref c),some (.lst (row.map jaf)),x3] h= .ok true h:=by
      cases row with
      | nil=>exact absurd rfl ne
      | cons a b=>simp
     have bd:jbo [some (.ref p),some (.ref c),some (.lst (row.map jaf)),x3] h= .nx [some (.ref p),some (.ref c),some (.lst ((pick (u.put (dels u.gl row)).ps (u.put (dels u.gl row)).pl l'.reverse).reverse.map jaf)),y3] ((h.set c (some (.lst (wsD (ws++[ks]))))).set rg (some (.dct (glD (dels u.gl row))))):=by
      unfold jbo
      refine(jag (ρ':=[some (.ref p),some (.ref c),some (.lst (row.map jaf)),x3]) (h':=h.set c (some (.lst (wsD (ws++[ks]))))) ?_).trans ?_
      ·generalize row.map jaf=L at*
       generalize wsD ws=A1 at*
       generalize wsD (ws++[ks])=A2 at*
       simp[-jat,hc,mw,wl,wa]
      ·refine(jag (ρ':=[some (.ref p),some (.ref c),some (.lst (row.map jaf)),y3]) (h':=(h.set c (some (.lst (wsD (ws++[ks]))))).set rg (some (.dct (glD (dels u.gl row))))) (by simp only[jd3,lIt,mVar,List.getElem?_cons_succ,List.getElem?_cons_zero,jcz,jc4,jb5];exact ep)).trans ?_
       simp only[sAsg,mr,jc4,ja8,List.set_cons_succ,List.set_cons_zero]
     rw[jdp cd bd]
     exact ih
  ·have q':u.pl&&&r=0:=by simpa using q
   have te:=jrv U.f (d.resolve_left q)
   have:=hK r ⟨g.closed hp,g.pw_,q'⟩
   rw[jkr g q']
   exact⟨h,[],x3,K,u.gl,rfl,λ_ _ _=>rfl,by simpa using hc,by simp,by omega,λx m=>m,hK,trivial,U.hb,jd6 (by simp)⟩
end
section
variable {p rp rg : Nat} {h : MH} {u : Bu}
theorem Us.app(U:Us h p rp rg u){x:Option Cell}(hx:∀n,Cell.bnd n x=true):Us (h++[x]) p rp rg u:=by
 have lt:∀{j:Nat} {y:Option Cell},h[j]?=some y->(h++[x])[j]?=some y:=fun{j y} e=>by rw[List.getElem?_append_left (List.getElem?_eq_some_iff.mp e).1];exact e
 exact⟨lt U.o,lt U.a,lt U.g,U.hb.snoc λn _=>hx n,U.ok,U.nk,U.lk,U.ne,U.f⟩
theorem jlp(U:Us h p rp rg u)(hpl:u.pl<2^u.n){K:Int}(hK:∀R,Adm u R->fl R u.gl=K):∃(H:MH) (vs:List (List Stp×List Nat)) (K':Int) (gl':List Stp),H.length=h.length+1 /\ (∀j,j<h.length->j≠rg->H[j]?=h[j]?) /\ H[h.length]?=some (some (.lst (wsD (vs.map (·.2))))) /\ (vs.length:Int)=K - K' /\ K'<=0 /\ (∀x∈gl',x∈u.gl) /\ (∀R,Adm u R->fl R gl'=K') /\ Tk u u.gl vs /\ Hb H /\ z_Q5 [.ref p] h= .ok (.ref h.length) H:=by
 have lp:=(List.getElem?_eq_some_iff.mp U.o).1
 have la:=(List.getElem?_eq_some_iff.mp U.a).1
 have lg:=(List.getElem?_eq_some_iff.mp U.g).1
 have U1:Us (h++[some (.lst [])]) p rp rg u:=U.app λn=>by simp[Cell.bnd,D.bnds]
 obtain⟨l,r1,g,d,er⟩:=jj0 U1
 obtain⟨H,vs,y3,K',gl',hL,hj,hc,hw,k0,sg,hK',tk,hB,e⟩:=jrg (c:=h.length) 12 K U1 [] l r1 none (ji2 U) hpl (by omega) (by omega) (by omega) (by simp[wsD]) hK (by simp) g d
 refine⟨H,vs,K',gl',by rw[hL];simp,λj j1 j2=> ?_,hc,hw,k0,sg,hK',tk,hB,?_⟩
 ·rw[hj j (by omega) j2,List.getElem?_append_left j1]
 ·have mr:=jdk U1.o (tab:=jc0) (f:="row_of_a_way") (z:=z_Q1) (m:=mVar 0) (l:=mNil) (ρ:=[some (.ref p),some (.ref h.length),none,none]) (ds:=[]) rfl (by decide+kernel) (by simp) (by simp)
  rw[er] at mr
  have key:b_Q5 [some (.ref p),none,none,none] h= .rt (.ref h.length) H:=by
   unfold b_Q5
   refine(jag (ρ':=[some (.ref p),some (.ref h.length),none,none]) (h':=h++[some (.lst [])]) (by simp)).trans ?_
   refine(jag (ρ':=[some (.ref p),some (.ref h.length),some (.lst ((pick u.ps u.pl l.reverse).reverse.map jaf)),none]) (h':=h++[some (.lst [])]) (by simp only[sAsg,mr,jc4,ja8,List.set_cons_succ,List.set_cons_zero])).trans ?_
   refine(jag e).trans ?_
   simp
  unfold z_Q5 mFun
  rw[if_pos (show[D.ref p].length=1 from rfl)]
  have k2:b_Q5 ([D.ref p].map some++List.replicate (4 - [D.ref p].length) none) h= .rt (.ref h.length) H:=key
  rw[k2]
  show fin _ _ _=_
  unfold fin
  rw[if_neg (by rw[hL];simp),if_neg (by simp[D.bnd])]
end
theorem uq01:¬(Str.ofString "yard"=Str.ofString "net"):=by decide+kernel
theorem uq02:¬(Str.ofString "yard"=Str.ofString "common"):=by decide+kernel
theorem uq12:¬(Str.ofString "net"=Str.ofString "common"):=by decide+kernel
theorem uq03:¬(Str.ofString "yard"=Str.ofString "place"):=by decide+kernel
theorem uq13:¬(Str.ofString "net"=Str.ofString "place"):=by decide+kernel
theorem uq23:¬(Str.ofString "common"=Str.ofString "place"):=by decide+kernel
theorem uq04:¬(Str.ofString "yard"=Str.ofString "power"):=by decide+kernel
theorem uq14:¬(Str.ofString "net"=Str.ofString "power"):=by decide+kernel
theorem uq24:¬(Str.ofString "common"=Str.ofString "power"):=by decide+kernel
theorem uq34:¬(Str.ofString "place"=Str.ofString "power"):=by decide+kernel
theorem uq05:¬(Str.ofString "yard"=Str.ofString "pairs"):=by decide+kernel
theorem uq15:¬(Str.ofString "net"=Str.ofString "pairs"):=by decide+kernel
theorem uq25:¬(Str.ofString "common"=Str.ofString "pairs"):=by decide+kernel
theorem uq35:¬(Str.ofString "place"=Str.ofString "pairs"):=by decide+kernel
theorem uq45:¬(Str.ofString "power"=Str.ofString "pairs"):=by decide+kernel
theorem uq06:¬(Str.ofString "yard"=Str.ofString "goals"):=by decide+kernel
theorem uq16:¬(Str.ofString "net"=Str.ofString "goals"):=by decide+kernel
theorem uq26:¬(Str.ofString "common"=Str.ofString "goals"):=by decide+kernel
theorem uq36:¬(Str.ofString "place"=Str.ofString "goals"):=by decide+kernel
theorem uq46:¬(Str.ofString "power"=Str.ofString "goals"):=by decide+kernel
theorem uq56:¬(Str.ofString "pairs"=Str.ofString "goals"):=by decide+kernel
theorem job{H:MH}{p rp rg:Nat}{u:Bu}(o:Ob H p rp rg u)(ok:jbi u.n u.sws){e:Nat}{w:Sw}(hw:u.sws[e]?=some w):z_Qd [.ref p,w.o] H= .ok (.int (u.en e:Nat)) H:=by
 have o:H[p]?=some (some (.ins "Bundle" (u.f rp rg))):=o
 have wok:=ok.2.2.2 w (List.mem_of_getElem? hw)
 have e1:=feeds w ok.2.1 wok (m:=mVar 1) (ρ:=[some (.ref p),some w.o]) (h:=H) (by simp)
 have e2:=joinsG w ok.2.1 wok (m:=mVar 1) (ρ:=[some (.ref p),some w.o]) (h:=H) (by simp)
 have n1:=ne0 w.fed
 have bo:=bor w.fed (2^u.n)
 have up:=jjb u rp rg
 unfold Bu.en prS
 rw[hw]
 simp only
 by_cases c:w.fed≠0
 ·rw[if_pos c]
  rw[decide_eq_true c] at n1
  generalize (((2:Nat)^u.n:Nat):Int)=P at*
  simp[-jat,z_Qd,b_Qd,e1,n1,o,up,bo]
 ·rw[if_neg c]
  rw[decide_eq_false c] at n1
  simp[-jat,z_Qd,b_Qd,e1,n1,e2]
section
variable {h : MH} {u : Bu}
def Hn(h:MH)(u:Bu)(acc:List Nat):MH:=h++[some (.ins "Bundle" (u.f (h.length+2) (h.length+3))),none,some (.dct (fD acc u.en)),some (.dct [])]
theorem jpx(h:MH)(u:Bu)(acc:List Nat):(Hn h u acc)[h.length]?=some (some (.ins "Bundle" (u.f (h.length+2) (h.length+3)))) /\ (Hn h u acc)[h.length+2]?=some (some (.dct (fD acc u.en))) /\ (Hn h u acc)[h.length+3]?=some (some (.dct [])) /\ ∀acc',(Hn h u acc).set (h.length+2) (some (.dct (fD acc' u.en)))=Hn h u acc':=by
 unfold Hn
 refine⟨by simp,by simp,by simp,λacc'=>by simp[List.set_append]⟩
theorem jot(ok:jbi u.n u.sws)(y1 y2 y3 y4:Option D):∀(es acc:List Nat) (x5:Option D),(∀e∈es,e<u.sws.length)->(acc++es).Nodup->acc.length+es.length<1000->
  ∃z5,jb1 (ja8 5) (jhx (mFld jbn "pairs" (mVar 0)) (mVar 5) (jat je1 "pair_of" (mVar 0) (ja2 (mBin dIx (mFld jaz "switches" (mFld jfa "net" (mVar 0))) (mVar 5)) mNil))) (es.map λe:Nat=>D.int e) [some (.ref h.length),y1,y2,y3,y4,x5] (Hn h u acc)= .nx [some (.ref h.length),y1,y2,y3,y4,z5] (Hn h u (acc++es))
 | [],acc,x5,_,_,_=>⟨x5,by simp[jb1]⟩
 | e::es,acc,x5,he,nd,hl=>by
  simp only[List.length_cons] at hl
  obtain⟨z5,ih⟩:=jot ok y1 y2 y3 y4 es (acc++[e]) (some (.int e)) (λa m=>he a (List.mem_cons_of_mem _ m)) (by simpa using nd) (by simp;omega)
  refine⟨z5,?_⟩
  obtain⟨g1,g2,g3,g4⟩:=jpx h u acc
  have he1:e<u.sws.length:=he e (List.mem_cons_self ..)
  have hw:u.sws[e]?=some u.sws[e]:=List.getElem?_eq_getElem he1
  have po:=job (H:=Hn h u acc) (p:=h.length) (rp:=h.length+2) (rg:=h.length+3) g1 ok hw
  have sw:=sw_at hw (m:=mFld jfa "net" (mVar 0)) (l:=mVar 5) (ρ:=[some (.ref h.length),y1,y2,y3,y4,some (.int e)]) (h:=Hn h u acc) (by simp[g1]) (by simp)
  have mp:=jdk (h:=Hn h u acc) (p:=h.length) (rp:=h.length+2) (rg:=h.length+3) (u:=u) g1 (tab:=je1) (f:="pair_of") (z:=z_Qd) (m:=mVar 0) (l:=ja2 (mBin dIx (mFld jaz "switches" (mFld jfa "net" (mVar 0))) (mVar 5)) mNil) (ρ:=[some (.ref h.length),y1,y2,y3,y4,some (.int e)]) (ds:=[u.sws[e].o]) rfl (by decide+kernel) (by simp) (by simp only[ja2,sw,jcz,mNil])
  rw[po] at mp
  have pn:putK (fD acc u.en) (.inl (e:Int)) (.int (u.en e:Nat))=fD (acc++[e]) u.en:=by
   have:((fD acc u.en).any λkv=>decide (kv.1= .inl (e:Int)))=false:=by
    rw[List.any_eq_false]
    intro kv hkv
    obtain⟨g,hg,rfl⟩:=List.mem_map.mp hkv
    obtain⟨y,hy,rfl⟩:=List.mem_map.mp hg
    have:y≠e:=λz=>by
     rw[List.nodup_append] at nd
     exact nd.2.2 y hy e (List.mem_cons_self ..) z
    simp
    omega
   unfold putK
   rw[if_neg (by rw[this];simp)]
   simp[fD,nD]
  have al:(fD acc u.en).length<16777216:=by simp[fD,nD];omega
  have st:jhx (mFld jbn "pairs" (mVar 0)) (mVar 5) (jat je1 "pair_of" (mVar 0) (ja2 (mBin dIx (mFld jaz "switches" (mFld jfa "net" (mVar 0))) (mVar 5)) mNil)) [some (.ref h.length),y1,y2,y3,y4,some (.int e)] (Hn h u acc)= .nx [some (.ref h.length),y1,y2,y3,y4,some (.int e)] (Hn h u (acc++[e])):=by
   have g4:=g4 (acc++[e])
   generalize Hn h u (acc++[e])=H2 at*
   generalize Hn h u acc=H1 at*
   generalize fD (acc++[e]) u.en=F2 at*
   generalize fD acc u.en=F1 at*
   simp[-jat,mp,g1,g2,al,pn,g4]
  have er:(ja8 5) (D.int (e:Int)) [some (.ref h.length),y1,y2,y3,y4,x5] (Hn h u acc)= .nx [some (.ref h.length),y1,y2,y3,y4,some (.int e)] (Hn h u acc):=rfl
  rw[List.map_cons]
  unfold jb1
  rw[er]
  simp only[st]
  rw[show acc++e::es=acc++[e]++es by simp]
  exact ih
end
theorem yd_cl(n:Nat)(sws:List Sw)(m:Nat):(yd n sws).bnd m=true:=by
 simp only[yd,D.bnd,D.bnds,Bool.true_and,Bool.and_true]
 exact jem λd hd=>by
  obtain⟨s,_,rfl⟩:=List.mem_map.mp hd
  cases s<;>simp[Sw.d,D.bnd,D.bnds]
theorem net_cl(sws:List Sw)(m:Nat):(netO sws).bnd m=true:=by
 have:D.bnds m (sws.map Sw.o)=true:=jem λd hd=>by
  obtain⟨s,_,rfl⟩:=List.mem_map.mp hd
  cases s<;>simp[Sw.o,D.bnd,D.bnds,D.bndf]
 simp[netO,D.bnd,D.bnds,D.bndf,this]
def Bu.new(n:Nat)(sws:List Sw)(st cm pl:Nat):Bu:=⟨n,sws,cm,pl,jbu (st - (st&&&cm)),[]⟩
theorem jo5(ok:jbi n sws){st cm pl:Nat}(hst:st<2^sws.length){h:MH}(hb:Hb h):z_Q8 [.ref h.length,yd n sws,.int st,.int cm,.int pl] (h++[some (.ins "Bundle" [])])= .ok .non (Hn h (Bu.new n sws st cm pl) (Bu.new n sws st cm pl).kp):=by
 have hl:=ok.2.2.1
 have hs:st - (st&&&cm)<2^sws.length:=Nat.lt_of_le_of_lt (Nat.sub_le _ _) hst
 have h12:st - (st&&&cm)<2^12:=Nat.lt_of_lt_of_le hs (Nat.pow_le_pow_right (by decide) hl)
 have bl:(jbu (st - (st&&&cm))).length<=12:=by
  unfold jbu
  exact Nat.le_trans (List.length_filter_le _ _) (by rw[List.length_range];exact jfn h12)
 have nd:(jbu (st - (st&&&cm))).Nodup:=List.Pairwise.filter _ List.nodup_range
 have lt:∀e∈jbu (st - (st&&&cm)),e<sws.length:=λe m=>by
  have h1:=jf3.mp m
  refine Nat.lt_of_not_le λq=> ?_
  have:st - (st&&&cm)<2^e:=Nat.lt_of_lt_of_le hs (Nat.pow_le_pow_right (by decide) q)
  rw[Nat.testBit_lt_two_pow this] at h1
  cases h1
 obtain⟨z5,el⟩:=jot (h:=h) (u:=Bu.new n sws st cm pl) ok (some (yd n sws)) (some (.int st)) (some (.int cm)) (some (.int pl)) (Bu.new n sws st cm pl).kp [] none lt (by rw[List.nil_append];exact nd) (by simp;exact Nat.lt_of_le_of_lt bl (by decide))
 rw[List.nil_append] at el
 have b1:=jhc st cm
 have ni:=λH=>jg1 (st - (st&&&cm)) h12 H
 have ix0:∀H:MH,dIx (yd n sws) (.int 0) H= .ok (.int n) H:=λH=>by simp[yd]
 have o1:=okp (show n<=100 by have:=ok.2.1;omega)
 have hb1:Hb (h++[some (Cell.ins "Bundle" [(Str.ofString "yard",yd n sws)])]):=hb.snoc λk hk=>by
  simp[Cell.bnd,D.bnds,yd_cl n sws k]
 have e1:=jh1 (m:=mVar 1) (ρ:=[some (.ref h.length),some (yd n sws),some (.int st),some (.int cm),some (.int pl),none]) (h:=h++[some (Cell.ins "Bundle" [(Str.ofString "yard",yd n sws)])]) n sws ok.2.2.1 hb1 (by simp)
 have hn0:h++[some (Cell.ins "Bundle" [(Str.ofString "yard",yd n sws),(Str.ofString "net",netO sws),(Str.ofString "common",.int cm),(Str.ofString "place",.int pl),(Str.ofString "power",.int (2^n:Nat)),(Str.ofString "pairs",.ref (h.length+2)),(Str.ofString "goals",.ref (h.length+3))]),none,some (.dct []),some (.dct [])]=Hn h (Bu.new n sws st cm pl) []:=rfl
 have eb:b_Q8 [some (.ref h.length),some (yd n sws),some (.int st),some (.int cm),some (.int pl),none] (h++[some (.ins "Bundle" [])])= .nx [some (.ref h.length),some (yd n sws),some (.int st),some (.int cm),some (.int pl),z5] (Hn h (Bu.new n sws st cm pl) (Bu.new n sws st cm pl).kp):=by
  unfold b_Q8
  refine(jag (ρ':=[some (.ref h.length),some (yd n sws),some (.int st),some (.int cm),some (.int pl),none]) (h':=h++[some (Cell.ins "Bundle" [(Str.ofString "yard",yd n sws)])]) (by simp[-jek, -dIx,putF,List.set_append,uq01,uq02,uq12,uq03,uq13,uq23,uq04,uq14,uq24,uq34,uq05,uq15,uq25,uq35,uq45,uq06,uq16,uq26,uq36,uq46,uq56])).trans ?_
  refine(jag (ρ':=[some (.ref h.length),some (yd n sws),some (.int st),some (.int cm),some (.int pl),none]) (h':=h++[some (Cell.ins "Bundle" [(Str.ofString "yard",yd n sws),(Str.ofString "net",netO sws)]),none]) (by simp[-jek, -dIx,e1,putF,List.set_append,uq01,uq02,uq12,uq03,uq13,uq23,uq04,uq14,uq24,uq34,uq05,uq15,uq25,uq35,uq45,uq06,uq16,uq26,uq36,uq46,uq56])).trans ?_
  refine(jag (ρ':=[some (.ref h.length),some (yd n sws),some (.int st),some (.int cm),some (.int pl),none]) (h':=h++[some (Cell.ins "Bundle" [(Str.ofString "yard",yd n sws),(Str.ofString "net",netO sws),(Str.ofString "common",.int cm)]),none]) (by simp[-jek, -dIx,putF,List.set_append,uq01,uq02,uq12,uq03,uq13,uq23,uq04,uq14,uq24,uq34,uq05,uq15,uq25,uq35,uq45,uq06,uq16,uq26,uq36,uq46,uq56])).trans ?_
  refine(jag (ρ':=[some (.ref h.length),some (yd n sws),some (.int st),some (.int cm),some (.int pl),none]) (h':=h++[some (Cell.ins "Bundle" [(Str.ofString "yard",yd n sws),(Str.ofString "net",netO sws),(Str.ofString "common",.int cm),(Str.ofString "place",.int pl)]),none]) (by simp[-jek, -dIx,putF,List.set_append,uq01,uq02,uq12,uq03,uq13,uq23,uq04,uq14,uq24,uq34,uq05,uq15,uq25,uq35,uq45,uq06,uq16,uq26,uq36,uq46,uq56])).trans ?_
  refine(jag (ρ':=[some (.ref h.length),some (yd n sws),some (.int st),some (.int cm),some (.int pl),none]) (h':=h++[some (Cell.ins "Bundle" [(Str.ofString "yard",yd n sws),(Str.ofString "net",netO sws),(Str.ofString "common",.int cm),(Str.ofString "place",.int pl),(Str.ofString "power",.int (2^n:Nat))]),none]) (by simp[-jek, -dIx,ix0,o1,putF,List.set_append,uq01,uq02,uq12,uq03,uq13,uq23,uq04,uq14,uq24,uq34,uq05,uq15,uq25,uq35,uq45,uq06,uq16,uq26,uq36,uq46,uq56])).trans ?_
  refine(jag (ρ':=[some (.ref h.length),some (yd n sws),some (.int st),some (.int cm),some (.int pl),none]) (h':=h++[some (Cell.ins "Bundle" [(Str.ofString "yard",yd n sws),(Str.ofString "net",netO sws),(Str.ofString "common",.int cm),(Str.ofString "place",.int pl),(Str.ofString "power",.int (2^n:Nat)),(Str.ofString "pairs",.ref (h.length+2))]),none,some (.dct [])]) (by simp[-jek, -dIx,putF,List.set_append,uq01,uq02,uq12,uq03,uq13,uq23,uq04,uq14,uq24,uq34,uq05,uq15,uq25,uq35,uq45,uq06,uq16,uq26,uq36,uq46,uq56])).trans ?_
  refine(jag (ρ':=[some (.ref h.length),some (yd n sws),some (.int st),some (.int cm),some (.int pl),none]) (h':=h++[some (Cell.ins "Bundle" [(Str.ofString "yard",yd n sws),(Str.ofString "net",netO sws),(Str.ofString "common",.int cm),(Str.ofString "place",.int pl),(Str.ofString "power",.int (2^n:Nat)),(Str.ofString "pairs",.ref (h.length+2)),(Str.ofString "goals",.ref (h.length+3))]),none,some (.dct []),some (.dct [])]) (by simp[-jek, -dIx,putF,List.set_append,uq01,uq02,uq12,uq03,uq13,uq23,uq04,uq14,uq24,uq34,uq05,uq15,uq25,uq35,uq45,uq06,uq16,uq26,uq36,uq46,uq56])).trans ?_
  rw[hn0]
  have kl:(Bu.new n sws st cm pl).kp=jbu (st - (st&&&cm)):=rfl
  rw[kl] at el ⊢
  simp only[jd3,lIt,jbb,ja2,mNil,mBin,mUn,mVar,List.getElem?_cons_succ,List.getElem?_cons_zero,jcz,dAnd,dInt,dInv,b1,ni,jc4,jb5]
  exact el
 unfold z_Q8 mFun
 rw[if_pos (show[D.ref h.length,yd n sws,.int st,.int cm,.int pl].length=5 from rfl)]
 have e2:b_Q8 ([D.ref h.length,yd n sws,.int st,.int cm,.int pl].map some++List.replicate (6 - [D.ref h.length,yd n sws,.int st,.int cm,.int pl].length) none) (h++[some (.ins "Bundle" [])])= .nx [some (.ref h.length),some (yd n sws),some (.int st),some (.int cm),some (.int pl),z5] (Hn h (Bu.new n sws st cm pl) (Bu.new n sws st cm pl).kp):=eb
 rw[e2]
 generalize (Bu.new n sws st cm pl).kp=kk at*
 have hbn:(h++[some (Cell.ins "Bundle" [])]).length=h.length+1:=by simp
 have hbm:(Hn h (Bu.new n sws st cm pl) kk).length=h.length+4:=by simp[Hn]
 show fin _ _ _=_
 unfold fin
 rw[hbn,if_neg (by rw[hbm];omega),if_neg]
 intro z
 have z2:=(Bool.and_eq_true_iff.mp z).2
 have mem:some (Cell.ins "Bundle" ((Bu.new n sws st cm pl).f (h.length+2) (h.length+3)))∈(Hn h (Bu.new n sws st cm pl) kk).take (h.length+1):=
  List.mem_of_getElem? (i:=h.length) (by rw[List.getElem?_take_of_lt (by omega)];exact(jpx h _ kk).1)
 have:=List.all_eq_true.mp z2 _ mem
 simp[Bu.f,Cell.bnd,D.bnds,D.bnd] at this
theorem ju4:∀(ps:List Nat) (s i:Nat),(Clo.all ps s).testBit i=true↔(s.testBit i=true \/ ∃p∈ps,p.testBit i=true)
 | [],s,i=>by simp[Clo.all]
 | p::ps,s,i=>by
  have:=ju4 ps (s|||p) i
  show(Clo.all ps (s|||p)).testBit i=true↔_
  rw[this,Nat.testBit_or,Bool.or_eq_true]
  simp only[List.mem_cons,exists_eq_or_imp]
  rw[or_assoc]
theorem fed_tb(st:Nat)(sws:List Sw)(b:Nat):(jfg st sws).testBit b=true↔∃k,st.testBit k=true /\ sws[k]?=some (.feed b):=by
 unfold jfg
 rw[ju4]
 constructor
 ·rintro(h | ⟨p,hp,hb⟩)
  ·simp at h
  ·obtain⟨⟨w,k⟩,hq,rfl⟩:=List.mem_map.mp hp
   unfold jel at hq
   obtain⟨h1,h2⟩:=List.mem_filter.mp hq
   have h3:=jho h1
   cases w with
   | feed a=>
    have hb:(2^a).testBit b=true:=hb
    rw[jak] at hb
    have:a=b:=by simpa using hb
    subst this
    exact⟨k,h2,h3⟩
   | earth a=>simp[Sw.fed] at hb
   | breaker a c=>simp[Sw.fed] at hb
   | splitter a c=>simp[Sw.fed] at hb
 ·rintro⟨k,h1,h2⟩
  refine .inr ⟨2^b,List.mem_map.mpr ⟨(.feed b,k),?_,rfl⟩,by rw[jak];simp⟩
  unfold jel
  refine List.mem_filter.mpr ⟨?_,h1⟩
  rw[List.mem_zipIdx_iff_getElem?]
  exact h2
theorem jme{n:Nat}{sws:List Sw}{e a:Nat}(hw:sws[e]?=some (.feed a)):prS n sws e=2^a|||2^n:=by
 unfold prS
 rw[hw]
 have:2^a≠0:=Nat.ne_of_gt (Nat.pow_pos (by decide))
 simp[Sw.fed,this]
theorem jhf{n:Nat}{sws:List Sw}{e:Nat}{w:Sw}(hw:sws[e]?=some w)(hf:w.fed=0):prS n sws e=w.pair:=by
 unfold prS
 rw[hw]
 simp[hf]
theorem us_new(ok:jbi n sws){st cm pl:Nat}(hst:st<2^sws.length){h:MH}(hb:Hb h):Us (Hn h (Bu.new n sws st cm pl) (Bu.new n sws st cm pl).kp) h.length (h.length+2) (h.length+3) (Bu.new n sws st cm pl):=by
 have hl:=ok.2.2.1
 have hs:st - (st&&&cm)<2^sws.length:=Nat.lt_of_le_of_lt (Nat.sub_le _ _) hst
 have h12:st - (st&&&cm)<2^12:=Nat.lt_of_lt_of_le hs (Nat.pow_le_pow_right (by decide) hl)
 have bl:(jbu (st - (st&&&cm))).length<=12:=by
  unfold jbu
  exact Nat.le_trans (List.length_filter_le _ _) (by rw[List.length_range];exact jfn h12)
 obtain⟨g1,g2,g3,_⟩:=jpx h (Bu.new n sws st cm pl) (Bu.new n sws st cm pl).kp
 refine⟨g1,g2,g3,?_,ok,List.Pairwise.filter _ List.nodup_range,bl,by omega,⟨.nil,λx m=>(nomatch m),λx m=>(nomatch m)⟩⟩
 intro k hk
 have hbm:(Hn h (Bu.new n sws st cm pl) (Bu.new n sws st cm pl).kp).length=h.length+4:=by simp[Hn]
 rw[hbm] at hk
 have h1:=yd_cl n sws k
 have h2:=net_cl sws k
 have h3:=jry ((Bu.new n sws st cm pl).kp.map λe=>(e,(Bu.new n sws st cm pl).en e)) k
 show(h++[_,_,_,_]).all _=true
 rw[List.all_append,hb k (by omega)]
 have h3:Cell.bnd k (some (Cell.dct (fD (Bu.new n sws st cm pl).kp (Bu.new n sws st cm pl).en)))=true:=h3
 simp only[List.all_cons,List.all_nil,h3,Bool.and_true,Bool.true_and]
 simp[Bu.f,Bu.new,Cell.bnd,D.bnds,D.bnd,h1,h2]
 omega
def Wp(sws:List Sw)(st pl:Nat)(ks:List Nat):Prop:=ks.Nodup /\ ∃f t a b,ks=f::t /\ sws[f]?=some (.feed a) /\ st.testBit f=true /\ jcp sws st t a b /\ pl.testBit b=true
section
variable {u : Bu} {st : Nat}
theorem pw_ne{a n:Nat}(h:a<n):2^a≠2^n:=Nat.ne_of_lt (Nat.pow_lt_pow_right (by decide) h)
theorem Sg.bar{a g:Nat}{ks:List Nat}(s:Sg u (2^a) g ks)(h:a<u.n):∃b,jcp u.sws u.cm ks a b /\ g.testBit b=true:=by
 rcases s.2 with⟨e,_⟩ | ⟨_,a',b,t,ha,hb⟩
 ·exact absurd e (pw_ne h)
 ·rw[jak] at ha
  rw[<-of_decide_eq_true ha] at t
  exact⟨b,t,hb⟩
theorem jr1(ok:jbi u.n u.sws){x:Stp}(s:Sp u.en x)(h1:x.2.1≠u.n)(h2:x.2.2≠u.n)(hs:st.testBit x.1=true):Good u.sws st x.1 x.2.1 x.2.2:=by
 have b1:=(s.bit x.2.1).mpr (.inl rfl)
 have b2:=(s.bit x.2.2).mpr (.inr rfl)
 have bn:(u.en x.1).testBit u.n=false:=by
  cases q:(u.en x.1).testBit u.n with
  | false=>rfl
  | true=>
   rcases(s.bit u.n).mp q with e | e
   ·exact absurd e.symm h1
   ·exact absurd e.symm h2
 have ee:u.en x.1=prS u.n u.sws x.1:=rfl
 cases hw:u.sws[x.1]? with
 | none=>
  have:prS u.n u.sws x.1=0:=by unfold prS;rw[hw]
  rw[ee,this] at b1;simp at b1
 | some w=>
  cases w with
  | feed c=>
   rw[ee,jme hw,Nat.testBit_or,jak,jak] at bn
   simp at bn
  | earth c=>
   rw[ee,jhf hw rfl] at b1
   simp[Sw.pair] at b1
  | breaker c d=>
   rw[ee,jhf hw rfl] at b1 b2
   simp only[Sw.pair,Nat.testBit_or,jak,Bool.or_eq_true,decide_eq_true_iff] at b1 b2
   refine⟨_,hw,hs,?_⟩
   have:=s.1
   rcases b1 with b1 | b1<;>rcases b2 with b2 | b2
   ·exact absurd (b1.symm.trans b2) this
   ·rw[b1,b2];exact .inl rfl
   ·rw[b1,b2];exact .inr (.inl rfl)
   ·exact absurd (b1.symm.trans b2) this
  | splitter c d=>
   rw[ee,jhf hw rfl] at b1 b2
   simp only[Sw.pair,Nat.testBit_or,jak,Bool.or_eq_true,decide_eq_true_iff] at b1 b2
   refine⟨_,hw,hs,?_⟩
   have:=s.1
   rcases b1 with b1 | b1<;>rcases b2 with b2 | b2
   ·exact absurd (b1.symm.trans b2) this
   ·rw[b1,b2];exact .inr (.inr (.inl rfl))
   ·rw[b1,b2];exact .inr (.inr (.inr rfl))
   ·exact absurd (b1.symm.trans b2) this
theorem jo8(ok:jbi u.n u.sws){x:Stp}(s:Sp u.en x)(h1:x.2.1=u.n):u.sws[x.1]?=some (.feed x.2.2) /\ x.2.2<u.n:=by
 have b1:=(s.bit x.2.1).mpr (.inl rfl)
 have b2:=(s.bit x.2.2).mpr (.inr rfl)
 have ne:=s.1
 have ee:u.en x.1=prS u.n u.sws x.1:=rfl
 cases hw:u.sws[x.1]? with
 | none=>
  have:prS u.n u.sws x.1=0:=by unfold prS;rw[hw]
  rw[ee,this] at b1;simp at b1
 | some w=>
  have wok:=ok.2.2.2 w (List.mem_of_getElem? hw)
  by_cases hf:w.fed=0
  ·rw[ee,jhf hw hf,h1,Nat.testBit_lt_two_pow (jhl wok)] at b1;cases b1
  ·cases w with
   | feed c=>
    rw[ee,jme hw,Nat.testBit_or,jak,jak,Bool.or_eq_true,decide_eq_true_iff,decide_eq_true_iff] at b2
    rcases b2 with b2 | b2
    ·rw[b2] at wok ⊢;exact⟨rfl,wok⟩
    ·exact absurd (h1.trans b2) ne
   | earth c=>exact absurd rfl hf
   | breaker c d=>exact absurd rfl hf
   | splitter c d=>exact absurd rfl hf
theorem jq3(ok:jbi u.n u.sws)(hcm:∀k,u.cm.testBit k=true->st.testBit k=true)(hkp:∀k∈u.kp,st.testBit k=true){W:Nat}:∀{row:List Stp} {a:Nat} {ks:List Nat},a<u.n->Wr u (2^a) row W ks->(∀x∈row,Sp u.en x /\ x.1∈u.kp /\ x.2.2≠u.n)->∃b,jcp u.sws st ks a b /\ W.testBit b=true
 | [],a,ks,ha,w,_=>by
  obtain⟨b,t,hb⟩:=Sg.bar w ha
  exact⟨b,jg8 hcm t,hb⟩
 | x::row,a,ks,ha,⟨k1,k2,e,s,q⟩,hx=>by
  obtain⟨sx,kx,nx⟩:=hx x (List.mem_cons_self ..)
  obtain⟨b',t,hb'⟩:=s.bar ha
  rw[jak] at hb'
  rw[<-of_decide_eq_true hb'] at t
  have l1:x.2.1<u.n:=jn4 ok t ha
  have l2:x.2.2<u.n:=by have:=(jwg ok sx).2;omega
  obtain⟨b,t2,hb⟩:=jq3 ok hcm hkp l2 q λy m=>hx y (List.mem_cons_of_mem _ m)
  rw[e]
  exact⟨b,jke (jg8 hcm t) ⟨x.2.2,jr1 ok sx (by omega) nx (hkp _ kx),t2⟩,hb⟩
theorem jq5{W:Nat}:∀{row:List Stp} {a:Nat} {ks:List Nat},a<u.n->Wr u (2^a) row W ks->(∀x∈row,x.2.2<u.n)->∀k∈ks,(∃x∈row,x.1=k) \/ (u.cm.testBit k=true /\ ∃w e,u.sws[k]?=some w /\ w.pair≠0 /\ (e=a \/ ∃x∈row,e=x.2.2) /\ Clo.sub w.pair (Clo.clo u.ps (2^e)))
 | [],a,ks,ha,w,_=>λk m=>by
  obtain⟨b,t,hb⟩:=Sg.bar w ha
  obtain⟨h1,w,h2,h3,h4⟩:=jh2 t (Clo.is (jal u.cm u.sws) (2^a)).cl (jlm _ a) k m
  exact .inr ⟨h1,w,a,h2,h4,.inl rfl,h3⟩
 | x::row,a,ks,ha,⟨k1,k2,e,s,q⟩,hx=>λk m=>by
  rw[e] at m
  rcases List.mem_append.mp m with m | m
  ·obtain⟨b,t,hb⟩:=s.bar ha
   obtain⟨h1,w,h2,h3,h4⟩:=jh2 t (Clo.is (jal u.cm u.sws) (2^a)).cl (jlm _ a) k m
   exact .inr ⟨h1,w,a,h2,h4,.inl rfl,h3⟩
  ·rcases List.mem_cons.mp m with rfl | m
   ·exact .inl ⟨x,List.mem_cons_self ..,rfl⟩
   ·rcases jq5 (hx x (List.mem_cons_self ..)) q (λy my=>hx y (List.mem_cons_of_mem _ my)) k m with⟨y,my,e⟩ | ⟨h1,w,e,h2,h3,h4,h5⟩
    ·exact .inl ⟨y,List.mem_cons_of_mem _ my,e⟩
    ·refine .inr ⟨h1,w,e,h2,h3,.inr ?_,h5⟩
     rcases h4 with h4 | ⟨y,my,h4⟩
     ·exact⟨x,List.mem_cons_self ..,h4⟩
     ·exact⟨y,List.mem_cons_of_mem _ my,h4⟩
theorem jmy(hdis:∀k∈u.kp,u.cm.testBit k=false){W:Nat}:∀{row:List Stp} {a:Nat} {ks:List Nat},a<u.n->Wr u (2^a) row W ks->(∀x∈row,x.2.2<u.n /\ x.1∈u.kp)->(row.map (·.1)).Nodup->(∀x∈row,(Clo.clo u.ps (2^a)).testBit x.2.2=false)->row.Pairwise (λx y=>(Clo.clo u.ps (2^x.2.2)).testBit y.2.2=false)->ks.Nodup
 | [],a,ks,ha,w,_,_,_,_=>w.1
 | x::row,a,ks,ha,⟨k1,k2,e,s,q⟩,hx,nd,ha2,pw=>by
  rw[List.map_cons] at nd
  obtain⟨n1,n2⟩:=List.nodup_cons.mp nd
  obtain⟨p1,p2⟩:=List.pairwise_cons.mp pw
  obtain⟨lx,kx⟩:=hx x (List.mem_cons_self ..)
  have i2:=jmy hdis lx q (λy m=>hx y (List.mem_cons_of_mem _ m)) n2 p1 p2
  have mem2:=jq5 lx q (λy m=>(hx y (List.mem_cons_of_mem _ m)).1)
  obtain⟨b,t,hb⟩:=s.bar ha
  have mem1:=jh2 t (Clo.is (jal u.cm u.sws) (2^a)).cl (jlm _ a)
  rw[e]
  refine List.nodup_append.mpr ⟨s.1,List.nodup_cons.mpr ⟨λm=> ?_,i2⟩,λk m1 k' m2 ek=> ?_⟩
  ·rcases mem2 x.1 m with⟨y,my,ey⟩ | ⟨h1,_⟩
   ·exact n1 (List.mem_map.mpr ⟨y,my,ey⟩)
   ·rw[hdis _ kx] at h1;cases h1
  ·subst ek
   obtain⟨c1,w,h2,h3,h4⟩:=mem1 k m1
   rcases List.mem_cons.mp m2 with rfl | m2
   ·rw[hdis _ kx] at c1;cases c1
   ·rcases mem2 k m2 with⟨y,my,ey⟩ | ⟨_,w',e',g2,g3,g4,g5⟩
    ·rw[<-ey,hdis _ (hx y (List.mem_cons_of_mem _ my)).2] at c1;cases c1
    ·rw[h2] at g2;cases g2
     obtain⟨i,hi⟩:∃i,w.pair.testBit i=true:=by
      refine Classical.byContradiction λz=>h4 (Nat.eq_of_testBit_eq λi=> ?_)
      rw[Nat.zero_testBit]
      cases q:w.pair.testBit i with
      | false=>rfl
      | true=>exact absurd ⟨i,q⟩ z
     have t1:(Clo.clo u.ps (2^a)).testBit i=true:=h3 i hi
     have t2:=g5 i hi
     have je:=J_eq (R:=Clo.clo u.ps (2^a)) (Clo.is u.ps (2^a)).cl t2
     rw[t1] at je
     rcases g4 with rfl | ⟨y,my,rfl⟩
     ·rw[ha2 x (List.mem_cons_self ..)] at je;cases je
     ·rw[ha2 y (List.mem_cons_of_mem _ my)] at je;cases je
theorem wr_way(ok:jbi u.n u.sws)(hcm:∀k,u.cm.testBit k=true->st.testBit k=true)(hkp:∀k∈u.kp,st.testBit k=true)(hdis:∀k∈u.kp,u.cm.testBit k=false)(hpl:u.pl<2^u.n){row:List Stp}{ks:List Nat}(r:RowOk u row)(w:Wr u (2^u.n) row u.pl ks):Wp u.sws st u.pl ks /\ ∀k∈ks,k∈u.kp->∃x∈row,x.1=k:=by
 have nlt:¬2^u.n<2^u.n:=Nat.lt_irrefl _
 cases row with
 | nil=>
  rcases w.2 with⟨_,e,_⟩ | ⟨e,_⟩
  ·omega
  ·exact absurd e nlt
 | cons x row=>
  obtain⟨k1,k2,e,s,q⟩:=w
  rcases s.2 with⟨_,e1,rfl⟩ | ⟨e1,_⟩
  ·have e1:x.2.1=u.n:=by
    have:=jak x.2.1 u.n
    rw[e1,jak] at this
    simpa using this.symm
   obtain⟨sx,kx,nx⟩:=r.sp x (List.mem_cons_self ..)
   obtain⟨ff,l2⟩:=jo8 ok sx e1
   have hlt:∀y∈x::row,y.2.2<u.n:=λy m=>by
    obtain⟨s1,_,n1⟩:=r.sp y m
    have:=(jwg ok s1).2
    omega
   have nd:=r.nd
   rw[List.map_cons] at nd
   obtain⟨n1,n2⟩:=List.nodup_cons.mp nd
   obtain⟨p1,p2⟩:=List.pairwise_cons.mp r.ap
   obtain⟨b,t,hb⟩:=jq3 ok hcm hkp l2 q λy m=>r.sp y (List.mem_cons_of_mem _ m)
   have i2:=jmy hdis l2 q (λy m=>⟨hlt y (List.mem_cons_of_mem _ m),(r.sp y (List.mem_cons_of_mem _ m)).2.1⟩) n2 p1 p2
   have mem2:=jq5 l2 q (λy m=>hlt y (List.mem_cons_of_mem _ m))
   rw[List.nil_append] at e
   rw[e]
   refine⟨⟨List.nodup_cons.mpr ⟨λm=> ?_,i2⟩,x.1,k2,x.2.2,b,rfl,ff,hkp _ kx,t,hb⟩,λk m mk=> ?_⟩
   ·rcases mem2 x.1 m with⟨y,my,ey⟩ | ⟨h1,_⟩
    ·exact n1 (List.mem_map.mpr ⟨y,my,ey⟩)
    ·rw[hdis _ kx] at h1;cases h1
   ·rcases List.mem_cons.mp m with rfl | m
    ·exact⟨x,List.mem_cons_self ..,rfl⟩
    ·rcases mem2 k m with⟨y,my,ey⟩ | ⟨h1,_⟩
     ·exact⟨y,List.mem_cons_of_mem _ my,ey⟩
     ·rw[hdis _ mk] at h1;cases h1
  ·exact absurd e1 nlt
theorem jjp:∀{row gl:List Stp} {y:Stp},y∈dels gl row->y∈gl /\ ∀x∈row,y.1≠x.1
 | [],gl,y,m=>⟨m,λx mx=>(nomatch mx)⟩
 | z::row,gl,y,m=>by
  obtain⟨h1,h2⟩:=jjp (row:=row) (gl:=delK gl z.1) m
  obtain⟨h3,h4⟩:=jea.mp h1
  refine⟨h3,λx mx=> ?_⟩
  rcases List.mem_cons.mp mx with rfl | mx
  ·exact h4
  ·exact h2 x mx
theorem Tk.ways(ok:jbi u.n u.sws)(hcm:∀k,u.cm.testBit k=true->st.testBit k=true)(hkp:∀k∈u.kp,st.testBit k=true)(hdis:∀k∈u.kp,u.cm.testBit k=false)(hpl:u.pl<2^u.n):∀{vs:List (List Stp×List Nat)} {gl:List Stp},Tk u gl vs->(∀v∈vs,Wp u.sws st u.pl v.2 /\ ∀k∈v.2,k∈u.kp->∃x∈gl,x.1=k) /\ vs.Pairwise (λv v'=>∀k∈v.2,k∈v'.2->k∉u.kp)
 | [],gl,_=>⟨λv m=>(nomatch m),.nil⟩
 | v::vs,gl,⟨h1,h2,h3,h4⟩=>by
  obtain⟨w1,w2⟩:=wr_way ok hcm hkp hdis hpl h2 h3
  obtain⟨i1,i2⟩:=Tk.ways ok hcm hkp hdis hpl h4
  refine⟨λv' m=> ?_,List.pairwise_cons.mpr ⟨λv' m k mk mk' kk=> ?_,i2⟩⟩
  ·rcases List.mem_cons.mp m with rfl | m
   ·exact⟨w1,λk mk kk=>by
     obtain⟨x,mx,e⟩:=w2 k mk kk
     exact⟨x,h1 x mx,e⟩⟩
   ·refine⟨(i1 v' m).1,λk mk kk=> ?_⟩
    obtain⟨x,mx,e⟩:=(i1 v' m).2 k mk kk
    exact⟨x,(jjp mx).1,e⟩
  ·obtain⟨x,mx,e⟩:=w2 k mk kk
   obtain⟨y,my,e'⟩:=(i1 v' m).2 k mk' kk
   exact(jjp my).2 x mx (e'.trans e.symm)
end
theorem jun(l:List Nat)(b:Nat)(neg:Bool)(h:MH):dIn neg (.int (b:Nat)) (.lst (nL l)) h= .ok (.bl (if neg then !decide (b∈l) else decide (b∈l))) h:=by
 have f:(nL l).all flat=true:=by
  rw[List.all_eq_true]
  intro d m
  obtain⟨k,_,rfl⟩:=List.mem_map.mp m
  rfl
 have a:((nL l).any λy=>eqF y (.int (b:Nat)))=decide (b∈l):=by
  rw[Bool.eq_iff_iff,List.any_eq_true,decide_eq_true_iff]
  constructor
  ·rintro⟨d,m,e⟩
   obtain⟨k,mk,rfl⟩:=List.mem_map.mp m
   have:(k:Int)=b:=by simpa [eqF] using e
   have:k=b:=by omega
   exact this▸mk
  ·intro m
   exact⟨.int (b:Nat),List.mem_map.mpr ⟨b,m,rfl⟩,by simp[eqF]⟩
 have f0:flat (.int (b:Nat))=true:=rfl
 generalize nL l=T at*
 cases neg<;>simp[f,a,f0]
def jiz(sws:List Sw)(st b:Nat):List Nat:=(jbu st).filter λk=>decide (jci (st - (st&&&2^k)) sws&&&2^b=0)
theorem jvv(ok:jbi n sws)(st:Nat):jci st sws<2^12:=by
 have h1:jci st sws<2^n:=clo_lt ok st (by
  unfold jfg
  refine jqu _ _ (λq hq=> ?_) (Nat.pow_pos (by decide))
  obtain⟨p,hp,rfl⟩:=List.mem_map.mp hq
  have wok:=ok.2.2.2 _ (jjd hp)
  obtain⟨w,k⟩:=p
  cases w with
  | feed a=>exact Nat.pow_lt_pow_right (by decide) wok
  | _=>exact Nat.pow_pos (by decide))
 exact Nat.lt_of_lt_of_le h1 (Nat.pow_le_pow_right (by decide) (by have:=ok.2.1;omega))
theorem jnw(ok:jbi n sws){st b:Nat}(hst:st<2^12)(h:MH):compLoop (ja8 0) (tNot (tTru (mBin dAnd (jat jch "live_bars" (mVar 2) (ja2 (mBin dAnd (mVar 3) (mUn dInv (mBin dShl (mC (.int 1)) (mVar 0)))) mNil)) (mVar 1)))) (mVar 0) [none,some (.int ((2^b:Nat):Int)),some (netO sws),some (.int (st:Nat))] (nL (jbu st)) h= .ok (nL (jiz sws st b)) h:=by
 refine jcv (g:=ja8 0) (λk:Nat=>D.int k) (λk:Nat=>[some (.int (k:Nat)),some (.int ((2^b:Nat):Int)),some (netO sws),some (.int (st:Nat))]) (λk=>decide (jci (st - (st&&&2^k)) sws&&&2^b=0)) (λk:Nat=>D.int k) (jbu st) λk m=>⟨by simp,?_,by simp⟩
 have lk:k<12:=by
  refine Classical.byContradiction λq=> ?_
  have:=jf3.mp m
  rw[Nat.testBit_lt_two_pow (Nat.lt_of_lt_of_le hst (Nat.pow_le_pow_right (by decide) (by omega)))] at this
  cases this
 have o1:=okp (show k<=100 by omega)
 have d1:=jhc st (2^k)
 simp only[Int.natCast_pow,Int.cast_ofNat_Int] at d1
 have lv:=jrc ok (st - (st&&&2^k)) h (h0:=h) (m:=mVar 2) (l:=mBin dAnd (mVar 3) (mUn dInv (mBin dShl (mC (.int 1)) (mVar 0)))) (ρ:=[some (.int (k:Nat)),some (.int ((2^b:Nat):Int)),some (netO sws),some (.int (st:Nat))]) (by simp) (by
  generalize (((2^b:Nat):Int))=B at*
  simp[o1,d1])
 have d2:=band (jci (st - (st&&&2^k)) sws) (2^b)
 generalize jci (st - (st&&&2^k)) sws&&&2^b=U at*
 generalize jci (st - (st&&&2^k)) sws=L at*
 generalize (((2^b:Nat):Int))=B at*
 have d3:dAnd (.int (L:Nat)) (.int B) h= .ok (.int (U:Nat)) h:=by simp[d2]
 by_cases q:U=0
 ·subst q
  simp[-jat, -dAnd, -dShl,lv,d3]
 ·have q':¬((U:Nat):Int)=0:=by omega
  simp[-jat, -dAnd, -dShl,lv,d3,q]
theorem jgy{sws:List Sw}{st:Nat}:∀{ks:List Nat} {a b:Nat},jcp sws st ks a b->∀k∈ks,∃w,sws[k]?=some w /\ (∃c d,w.ends c d) /\ st.testBit k=true
 | [],a,b,_=>λk m=>(nomatch m)
 | x::t,a,b,⟨c,⟨w,h1,h2,h3⟩,r⟩=>λk m=>by
  rcases List.mem_cons.mp m with rfl | m
  ·exact⟨w,h1,⟨a,c,h3⟩,h2⟩
  ·exact jgy r k m
theorem jnj{n:Nat}{sws:List Sw}{st pl r st':Nat}(A:Adm (Bu.new n sws st 0 pl) r)(hs:∀k,st'.testBit k=true->rimB (prS n sws) r k=false):jci st' sws&&&pl=0:=by
 have sub:Clo.sub (jci st' sws) r:=by
  refine(Clo.is (jal st' sws) (jfg st' sws)).le r (λb hb=> ?_) λp hp hn=> ?_
  ·obtain⟨k,h1,h2⟩:=(fed_tb st' sws b).mp hb
   have nr:=hs k h1
   cases q:r.testBit b with
   | true=>rfl
   | false=>
    have e:=jme (n:=n) h2
    have:rimB (prS n sws) r k=true:=je3.mpr ⟨⟨n,by rw[e,Nat.testBit_or,jak,jak];simp,A.p⟩,b,by rw[e,Nat.testBit_or,jak];simp,q⟩
    rw[nr] at this;cases this
  ·obtain⟨k,w,h1,h2,rfl⟩:=jf2 hp
   have nr:=hs k h2
   have hf:w.fed=0:=by
    cases w with
    | feed a=>simp[Sw.pair] at hn
    | _=>rfl
   have e:=jhf (n:=n) h1 hf
   intro i hi
   cases q:r.testBit i with
   | true=>rfl
   | false=>
    have:rimB (prS n sws) r k=true:=je3.mpr ⟨by rw[e];exact Clo.and_ne.mp hn,i,by rw[e];exact hi,q⟩
    rw[nr] at this;cases this
 refine Classical.byContradiction λz=> ?_
 obtain⟨i,h1,h2⟩:=Clo.and_ne.mp z
 exact absurd A.w (Clo.and_ne.mpr ⟨i,h2,sub i h1⟩)
theorem jl5{n:Nat}{sws:List Sw}{st pl k:Nat}:k∈(Bu.new n sws st 0 pl).kp↔st.testBit k=true:=by
 show k∈jbu (st - (st&&&0))↔_
 rw[jf3]
 simp
theorem jvh{h H:MH}(hl:h.length<=H.length)(he:∀j,j<h.length->H[j]?=h[j]?):H=h++H.drop h.length:=by
 refine List.ext_getElem? λi=> ?_
 by_cases z:i<h.length
 ·rw[List.getElem?_append_left z,he i z]
 ·rw[List.getElem?_append_right (by omega),List.getElem?_drop]
  congr 1
  omega
theorem jt0(ok:jbi n sws){st b:Nat}(hst:st<2^sws.length)(hbn:b<n)(h:MH)(hb:Hb h)(hn:(jci st sws).testBit b=true)(ha:jiz sws st b=[]):∃v0 v1:List Nat,Wp sws st (2^b) v0 /\ Wp sws st (2^b) v1 /\ (∀k∈v0,k∉v1) /\ z_X3 [yd n sws,.int (st:Nat),.int (b:Nat)] h= .ok (.tup [.str "two",.lst (nL v0),.lst (nL v1)]) h:=by
 have hl:=ok.2.2.1
 have hst12:st<2^12:=Nat.lt_of_lt_of_le hst (Nat.pow_le_pow_right (by decide) hl)
 have hpl:2^b<2^n:=Nat.pow_lt_pow_right (by decide) hbn
 have hb1:Hb (h++[none]):=hb.snoc λk _=>rfl
 have nw:=jo5 ok hst (cm:=0) (pl:=2^b) hb1
 have U:=us_new ok hst (cm:=0) (pl:=2^b) hb1
 have live:jci st sws&&&2^b≠0:=(jf4 _ _).mpr hn
 have ln:(h++[none]:MH).length=h.length+1:=by simp
 obtain⟨gl1,U1,f1,e1⟩:∃gl',Us ((Hn (h++[none]) (Bu.new n sws st 0 (2^b)) (Bu.new n sws st 0 (2^b)).kp).set ((h++[none]:MH).length+3) (some (.dct (glD gl')))) (h++[none]:MH).length ((h++[none]:MH).length+2) ((h++[none]:MH).length+3) ((Bu.new n sws st 0 (2^b)).put gl') /\ (∀R,Adm (Bu.new n sws st 0 (2^b)) R->fl R gl'=1) /\ z_Qm [.ref (h++[none]:MH).length] (Hn (h++[none]) (Bu.new n sws st 0 (2^b)) (Bu.new n sws st 0 (2^b)).kp)= .ok (.bl true) ((Hn (h++[none]) (Bu.new n sws st 0 (2^b)) (Bu.new n sws st 0 (2^b)).kp).set ((h++[none]:MH).length+3) (some (.dct (glD gl')))):=by
  rcases jqy U hpl with⟨gl1,U1,f1,e1⟩ | ⟨r,A,F,_⟩
  ·exact⟨gl1,U1,λR A=>by rw[f1 R A];rfl,e1⟩
  ·exfalso
   have rc:=jle U.f U.nk F
   have rc:((0:Nat):Int)=(((Bu.new n sws st 0 (2^b)).kp.filter λe=>rimB (Bu.new n sws st 0 (2^b)).en r e).length:Nat):=rc
   have z:=List.length_eq_zero_iff.mp (by omega:((Bu.new n sws st 0 (2^b)).kp.filter λe=>rimB (Bu.new n sws st 0 (2^b)).en r e).length=0)
   refine live (jnj A λk hk=> ?_)
   cases q:rimB (prS n sws) r k with
   | false=>rfl
   | true=>
    have:k∈(Bu.new n sws st 0 (2^b)).kp.filter λe=>rimB (Bu.new n sws st 0 (2^b)).en r e:=List.mem_filter.mpr ⟨jl5.mpr hk,q⟩
    rw[z] at this;cases this
 obtain⟨gl2,U2,f2,e2⟩:∃gl',Us ((Hn (h++[none]) (Bu.new n sws st 0 (2^b)) (Bu.new n sws st 0 (2^b)).kp).set ((h++[none]:MH).length+3) (some (.dct (glD gl')))) (h++[none]:MH).length ((h++[none]:MH).length+2) ((h++[none]:MH).length+3) ((Bu.new n sws st 0 (2^b)).put gl') /\ (∀R,Adm (Bu.new n sws st 0 (2^b)) R->fl R gl'=2) /\ z_Qm [.ref (h++[none]:MH).length] ((Hn (h++[none]) (Bu.new n sws st 0 (2^b)) (Bu.new n sws st 0 (2^b)).kp).set ((h++[none]:MH).length+3) (some (.dct (glD gl1))))= .ok (.bl true) ((Hn (h++[none]) (Bu.new n sws st 0 (2^b)) (Bu.new n sws st 0 (2^b)).kp).set ((h++[none]:MH).length+3) (some (.dct (glD gl')))):=by
  rcases jqy U1 hpl with⟨gl2,U2,f2,e2⟩ | ⟨r,A,F,_⟩
  ·rw[List.set_set] at U2 e2
   exact⟨gl2,U2,λR A=>by rw[f2 R (Adm.put.mpr A)];show fl R gl1+1=2;rw[f1 R A];rfl,e2⟩
  ·exfalso
   have rc:=jle U1.f U1.nk F
   have A:=Adm.put.mp A
   have rc:fl r gl1=(((Bu.new n sws st 0 (2^b)).kp.filter λe=>rimB (Bu.new n sws st 0 (2^b)).en r e).length:Nat):=rc
   rw[f1 r A] at rc
   obtain⟨e,z⟩:=List.length_eq_one_iff.mp (by omega:((Bu.new n sws st 0 (2^b)).kp.filter λe=>rimB (Bu.new n sws st 0 (2^b)).en r e).length=1)
   have me:e∈(Bu.new n sws st 0 (2^b)).kp.filter λe=>rimB (Bu.new n sws st 0 (2^b)).en r e:=by rw[z];simp
   have dead:=jnj (st':=st - (st&&&2^e)) A λk hk=>by
    rw[jbz,jak,Bool.and_eq_true] at hk
    cases q:rimB (prS n sws) r k with
    | false=>rfl
    | true=>
     have:k∈(Bu.new n sws st 0 (2^b)).kp.filter λe=>rimB (Bu.new n sws st 0 (2^b)).en r e:=List.mem_filter.mpr ⟨jl5.mpr hk.1,q⟩
     rw[z] at this
     have:k=e:=List.mem_singleton.mp this
     subst this
     simp at hk
   have:e∈jiz sws st b:=List.mem_filter.mpr ⟨jf3.mpr (jl5.mp (List.mem_filter.mp me).1),decide_eq_true dead⟩
   rw[ha] at this;cases this
 obtain⟨H,vs,K',gl',hL,hj,hc,hw,k0,sgl,hK',tk,hB,et⟩:=jlp U2 hpl (K:=2) (λR a=>f2 R (Adm.put.mp a))
 have tk:Tk (Bu.new n sws st 0 (2^b)) gl2 vs:=tk.put
 obtain⟨w1,w2⟩:=tk.ways (st:=st) ok (λk hk=>by
  have hk:(0:Nat).testBit k=true:=hk
  simp at hk) (λk hk=>jl5.mp hk) (λk hk=>by show(0:Nat).testBit k=false;simp) hpl
 have v2:2<=vs.length:=by omega
 obtain⟨a0,a1,vr,ev⟩:∃a0 a1 vr,vs=a0::a1::vr:=by
  cases vs with
  | nil=>simp at v2
  | cons a0 vs=>
   cases vs with
   | nil=>simp at v2
   | cons a1 vr=>exact⟨a0,a1,vr,rfl⟩
 subst ev
 have wp0:Wp sws st (2^b) a0.2:=(w1 a0 (by simp)).1
 have wp1:Wp sws st (2^b) a1.2:=(w1 a1 (by simp)).1
 have inst:∀{ks:List Nat},Wp sws st (2^b) ks->∀k∈ks,st.testBit k=true:=fun{ks} wp k m=>by
  obtain⟨nd,f,t,a,c,rfl,hf,hs,tr,hb⟩:=wp
  rcases List.mem_cons.mp m with rfl | m
  ·exact hs
  ·obtain⟨_,_,_,hs⟩:=jgy tr k m
   exact hs
 refine⟨a0.2,a1.2,wp0,wp1,λk m m'=> ?_,?_⟩
 ·exact(List.pairwise_cons.mp w2).1 a1 (by simp) k m m' (jl5.mpr (inst wp0 k m))
 ·have hn4:((Hn (h++[none]) (Bu.new n sws st 0 (2^b)) (Bu.new n sws st 0 (2^b)).kp).set ((h++[none]:MH).length+3) (some (.dct (glD gl2)))).length=h.length+5:=by rw[List.length_set];simp[Hn]
  have eH:H=h++H.drop h.length:=jvh (by rw[hL,hn4];omega) λj lt=>by
   rw[hj j (by rw[hn4];omega) (by rw[ln];omega),List.getElem?_set_ne (by rw[ln];omega)]
   show(h++[none]++_)[j]?=_
   rw[List.append_assoc,List.getElem?_append_left lt]
  have e0:=jh1 (m:=mVar 0) (ρ:=[some (yd n sws),some (.int (st:Nat)),some (.int (b:Nat)),none,none,none,none,none]) (h:=h) n sws ok.2.2.1 hb (by simp)
  have lv:=jrc ok st (h++[none]) (h0:=h++[none]) (m:=mVar 3) (l:=mVar 1) (ρ:=[some (yd n sws),some (.int (st:Nat)),some (.int (b:Nat)),some (netO sws),none,none,none,none]) (by simp) (by simp)
  have ni:z_Qx [.int (jci st sws:Nat)] (h++[none])= .ok (.lst (nL (jbu (jci st sws)))) (h++[none]):=jg1 (jci st sws) (jvv ok st) (h++[none])
  have di:=jun (jbu (jci st sws)) b true (h++[none])
  rw[decide_eq_true (jf3.mpr hn)] at di
  have n2:z_Qx [.int (st:Nat)] (h++[none])= .ok (.lst (nL (jbu st))) (h++[none]):=jg1 st hst12 (h++[none])
  have cm:=jnw ok (b:=b) hst12 (h++[none])
  rw[ha] at cm
  have lb:(nL (jbu st)).length<16777216:=by
   unfold nL jbu
   rw[List.length_map]
   have:=jfn hst12
   exact Nat.lt_of_le_of_lt (List.length_filter_le _ _) (by rw[List.length_range];omega)
  have o1:=okp (show b<=100 by have:=ok.2.1;omega)
  have q1:=jdk U.o (tab:=jfo) (f:="widen") (z:=z_Qm) (m:=mVar 6) (l:=mNil) (ρ:=[some (yd n sws),some (.int (st:Nat)),some (.int (b:Nat)),some (netO sws),some (.int ((2^b:Nat):Int)),some (.lst []),some (.ref (h++[none]:MH).length),none]) (ds:=[]) rfl (by decide+kernel) (by simp) (by simp)
  have q1:=q1.trans e1
  have q2:=jdk U1.o (tab:=jfo) (f:="widen") (z:=z_Qm) (m:=mVar 6) (l:=mNil) (ρ:=[some (yd n sws),some (.int (st:Nat)),some (.int (b:Nat)),some (netO sws),some (.int ((2^b:Nat):Int)),some (.lst []),some (.ref (h++[none]:MH).length),none]) (ds:=[]) rfl (by decide+kernel) (by simp) (by simp)
  have q2:=q2.trans e2
  have q3:=jdk U2.o (tab:=jes) (f:="take_ways") (z:=z_Q5) (m:=mVar 6) (l:=mNil) (ρ:=[some (yd n sws),some (.int (st:Nat)),some (.int (b:Nat)),some (netO sws),some (.int ((2^b:Nat):Int)),some (.lst []),some (.ref (h++[none]:MH).length),none]) (ds:=[]) rfl (by decide+kernel) (by simp) (by simp)
  have q3:=q3.trans et
  refine jdl (b:=b_X3) (np:=3) (nn:=8) (ds:=[yd n sws,.int (st:Nat),.int (b:Nat)]) (J:=H.drop h.length) rfl ?_ hb (by
   have z0:=jj7 a0.2 h.length
   have z1:=jj7 a1.2 h.length
   simp[D.bnd,D.bnds,z0,z1])
  rw[<-eH]
  show b_X3 [some (yd n sws),some (.int (st:Nat)),some (.int (b:Nat)),none,none,none,none,none] h=_
  unfold b_X3
  refine(jag (ρ':=[some (yd n sws),some (.int (st:Nat)),some (.int (b:Nat)),some (netO sws),none,none,none,none]) (h':=h++[none]) (by simp only[sAsg,e0,jc4,ja8,List.set_cons_succ,List.set_cons_zero])).trans ?_
  refine(jag (ρ':=[some (yd n sws),some (.int (st:Nat)),some (.int (b:Nat)),some (netO sws),none,none,none,none]) (h':=h++[none]) ?_).trans ?_
  ·generalize nL (jbu (jci st sws))=T at*
   generalize jci st sws=L at*
   generalize netO sws=N at*
   generalize yd n sws=Y at*
   simp[-dIn, -jat,lv,ni,di]
  refine(jag (ρ':=[some (yd n sws),some (.int (st:Nat)),some (.int (b:Nat)),some (netO sws),some (.int ((2^b:Nat):Int)),none,none,none]) (h':=h++[none]) (by
   generalize netO sws=N at*
   generalize yd n sws=Y at*
   simp[o1])).trans ?_
  refine(jag (ρ':=[some (yd n sws),some (.int (st:Nat)),some (.int (b:Nat)),some (netO sws),some (.int ((2^b:Nat):Int)),some (.lst []),none,none]) (h':=h++[none]) (by
   have cm:compLoop _ _ _ _ _ _= .ok [] (h++[none]):=cm
   clear q1 q2 q3 et e1 e2 U U1 U2 nw f1 f2 tk w1 w2 hK' hj hc
   generalize (((2^b:Nat):Int))=B at*
   generalize nL (jbu st)=T at*
   generalize netO sws=N at*
   generalize yd n sws=Y at*
   simp[-jat, -tNot, -tTru, -mBin, -dAnd, -dShl, -dInv,n2,lb,cm])).trans ?_
  refine(jag (ρ':=[some (yd n sws),some (.int (st:Nat)),some (.int (b:Nat)),some (netO sws),some (.int ((2^b:Nat):Int)),some (.lst []),none,none]) (h':=h++[none]) (by simp)).trans ?_
  refine(jag (ρ':=[some (yd n sws),some (.int (st:Nat)),some (.int (b:Nat)),some (netO sws),some (.int ((2^b:Nat):Int)),some (.lst []),some (.ref (h++[none]:MH).length),none]) (h':=Hn (h++[none]) (Bu.new n sws st 0 (2^b)) (Bu.new n sws st 0 (2^b)).kp) ?_).trans ?_
  ·have nw:z_Q8 [.ref (h++[none]:MH).length,yd n sws,.int (st:Nat),.int 0,.int ((2^b:Nat):Int)] (h++[none]++[some (.ins "Bundle" [])])= .ok .non (Hn (h++[none]) (Bu.new n sws st 0 (2^b)) (Bu.new n sws st 0 (2^b)).kp):=nw
   simp only[sAsg,jqi,ja2,mNil,mVar,mC,List.getElem?_cons_succ,List.getElem?_cons_zero,jcz,nw,jc4,ja8,List.set_cons_succ,List.set_cons_zero]
  refine(jag (by simp only[jgv,q1,jc4];rfl)).trans ?_
  refine(jag (by simp only[jgv,q2,jc4];rfl)).trans ?_
  refine(jag (by simp only[sAsg,q3,jc4,ja8,List.set_cons_succ,List.set_cons_zero];rfl)).trans ?_
  obtain⟨rr,hrr⟩:∃rr,((Hn (h++[none]) (Bu.new n sws st 0 (2^b)) (Bu.new n sws st 0 (2^b)).kp).set ((h++[none]:MH).length+3) (some (.dct (glD gl2)))).length=rr:=⟨_,rfl⟩
  rw[hrr] at hc ⊢
  have ew:wsD ((a0::a1::vr).map (·.2))= .lst (nL a0.2):: .lst (nL a1.2)::wsD (vr.map (·.2)):=rfl
  rw[ew] at hc
  have x0:dIx (.ref rr) (.int 0) H= .ok (.lst (nL a0.2)) H:=by simp[hc]
  have x1:dIx (.ref rr) (.int 1) H= .ok (.lst (nL a1.2)) H:=by simp[hc]
  simp[-dIx,x0,x1]
theorem jlz(ns:List Int)(k:Nat)(h:MH):z_Qp [.arg ns,.int k] h= .ok (.int (ns.getD k 0)) h:=by
 by_cases hk:k<ns.length
 ·simp[z_Qp,b_Qp,hk,atI,ixN]
 ·simp[z_Qp,b_Qp,hk]
theorem jqd{α β:Type}(f:α->β)(xs:List α)(lo hi:Option Int):cut (xs.map f) lo hi=(cut xs lo hi).map f:=by simp[cut,List.map_drop,List.map_take]
theorem jm8{x:Int}(h:0<=x):∃a:Nat,x=a:=⟨x.toNat,(Int.toNat_of_nonneg h).symm⟩
theorem jt2{x y n:Int}(hx:0<=x)(hx2:x<n)(hy:0<=y)(hy2:y<n - 1):(x+1+y) % n≠x:=by
 intro e
 by_cases z:x+1+y<n
 ·rw[Int.emod_eq_of_lt (by omega) z] at e;omega
 ·have:(x+1+y) % n=x+1+y - n:=by rw[<-Int.sub_emod_right,Int.emod_eq_of_lt (by omega) (by omega)]
  omega
theorem jfk(c:Int)(n:Nat)(h1:1<=n)(h2:n<=10)(h:MH):∃s:Sw,s.ok n /\ z_Qc [.int c,.int n] h= .ok s.d h:=by
 have hn:0<n:=by omega
 obtain⟨a,ea⟩:=jm8 (x:=c / 8 % (n:Int)) (Int.emod_nonneg _ (by omega))
 have la:a<n:=by have:=Int.emod_lt_of_pos (c / 8) (b:=(n:Int)) (by omega);omega
 have m2:c % 8 % 2=0 \/ c % 8 % 2=1:=by omega
 by_cases q0:c % 8<2
 ·exact⟨.feed a,la,by simp[z_Qc,b_Qc,Sw.d,q0,ea,hn]⟩
 ·by_cases q1:n=1
  ·subst q1
   by_cases q2:c % 8<6
   ·exact⟨.feed a,la,by simp[z_Qc,b_Qc,Sw.d,q0,q2] at ea ⊢;omega⟩
   ·exact⟨.earth a,la,by
     have:¬c % 8=2:=by omega
     simp[z_Qc,b_Qc,Sw.d,q0,q2,this] at ea ⊢;omega⟩
  ·have q1':¬(n:Int)=1:=by omega
   have hn1:(1:Int)<(n:Int):=by omega
   have hn9:(n:Int)<1073741824:=by omega
   obtain⟨b,eb⟩:=jm8 (x:=((a:Int)+1+c / 8 / (n:Int) % ((n:Int) - 1)) % (n:Int)) (Int.emod_nonneg _ (by omega))
   have lb:b<n:=by have:=Int.emod_lt_of_pos ((a:Int)+1+c / 8 / (n:Int) % ((n:Int) - 1)) (b:=(n:Int)) (by omega);omega
   have ab:a≠b:=λz=>by
    have:=jt2 (x:=a) (y:=c / 8 / (n:Int) % ((n:Int) - 1)) (n:=n) (by omega) (by omega) (Int.emod_nonneg _ (by omega)) (Int.emod_lt_of_pos _ (by omega))
    omega
   by_cases q3:c % 8=2
   ·exact⟨.earth a,la,by simp[z_Qc,b_Qc,Sw.d,q3,q1,q1',ea,hn]⟩
   ·rcases m2 with m2 | m2
    ·exact⟨.breaker a b,⟨la,lb,ab⟩,by simp[-Int.emod_emod_of_dvd,z_Qc,b_Qc,Sw.d,q0,q3,q1,q1',ea,eb,hn,hn1,hn9,m2]⟩
    ·exact⟨.splitter a b,⟨la,lb,ab⟩,by simp[-Int.emod_emod_of_dvd,z_Qc,b_Qc,Sw.d,q0,q3,q1,q1',ea,eb,hn,hn1,hn9,m2]⟩
theorem jwk{α:Type}(xs:List α)(a b:Nat):(cut xs (some (a:Int)) (some ((a:Int)+b))).length<=b:=by
 unfold cut sIx
 simp only[List.length_take,List.length_drop]
 rw[if_neg (by omega),if_neg (by omega)]
 omega
def eB:MS:=(sIf (tAnd (tB (mBin dEq (mBin dAnd (mBin dShr (mVar 1) (mVar 3)) (mC (.int 1))) (mC (.int 1)))) (tB (mBin dEq (mFn fLen (ja2 (mVar 4) mNil)) (mC (.int 3)))))
      (sSeq (sAsg (mBin dOr (mBin dShl (mC (.int 1)) (mBin dIx (mVar 4) (mC (.int 1)))) (mBin dShl (mC (.int 1)) (mBin dIx (mVar 4) (mC (.int 2))))) (ja8 6))
      (sIf (tAnd (tB (mBin dNe (mBin dAnd (mVar 2) (mVar 6)) (mC (.int 0)))) (tB (mBin dNe (mBin dAnd (mVar 2) (mVar 6)) (mVar 6))))
      (sSeq (sAsg (mBin dOr (mVar 2) (mVar 6)) (ja8 2))
      (sAsg (mC (.bl true)) (ja8 5)))
      jbq))
      jbq)
def grow(r p:Nat):Nat:=if p&&&r≠0 then r|||p else r
theorem jqp(p:Nat)(ps:List Nat)(r:Nat):Clo.pass (p::ps) r=Clo.pass ps (grow r p):=rfl
theorem js7(r p:Nat):Clo.sub r (grow r p):=by
 unfold grow
 split
 ·exact Clo.jd9 _ _
 ·exact Clo.sub.refl _
theorem eB_ok{n:Nat}(hn:n<=10)(a:Option D)(st r k:Nat)(g:Bool)(w:Sw)(wok:w.ok n)(x:Option D)(h:MH):
  ∃x',eB [a,some (.int st),some (.int r),some (.int k),some w.d,some (.bl g),x] h= .nx [a,some (.int st),some (.int (if st.testBit k then grow r w.pair else r:Nat)),some (.int k),some w.d,some (.bl (g||decide ((if st.testBit k then grow r w.pair else r)≠r))),x'] h:=by
 have hb:=bitk st k
 have key:∀a' b':Nat,a'<n->b'<n->(w.d= .tup [.str "breaker",.int a',.int b'] \/ w.d= .tup [.str "splitter",.int a',.int b'])->w.pair=2^a'|||2^b'->∃x',eB [a,some (.int st),some (.int r),some (.int k),some w.d,some (.bl g),x] h= .nx [a,some (.int st),some (.int (if st.testBit k then grow r w.pair else r:Nat)),some (.int k),some w.d,some (.bl (g||decide ((if st.testBit k then grow r w.pair else r)≠r))),x'] h:=by
  intro a' b' ha hb' hd hp
  rw[hp]
  have e1:=bor (2^a') (2^b')
  simp at e1
  cases q:st.testBit k with
  | false=>
   refine⟨x,?_⟩
   simp[q] at hb
   rcases hd with hd | hd<;>simp[eB,hd,hb]
  | true=>
   simp[q] at hb
   generalize hpp:2^a'|||2^b'=p at e1 ⊢
   have e2:=band r p
   have e3:=bor r p
   refine⟨some (.int (p:Nat)),?_⟩
   have cm:p&&&r=r&&&p:=Nat.and_comm _ _
   by_cases q2:r&&&p=0
   ·have hg:grow r p=r:=by unfold grow;rw[cm,if_neg (by simp[q2])]
    rcases hd with hd | hd<;>simp[eB,hd,hb,q2,e1,e2,hg,okp (show a'<=100 by omega),okp (show b'<=100 by omega)]
   ·have hg:grow r p=r|||p:=by unfold grow;rw[cm,if_pos q2]
    by_cases q3:r&&&p=p
    ·have hs:r|||p=r:=Nat.eq_of_testBit_eq λi=>by
      rw[Nat.testBit_or]
      have:=congrArg (λz=>Nat.testBit z i) q3
      simp only[Nat.testBit_and] at this
      cases x1:r.testBit i<;>cases x2:p.testBit i<;>simp_all
     have q3':((r&&&p:Nat):Int)=(p:Int):=by rw[q3]
     rw[hs] at hg
     rcases hd with hd | hd<;>simp[eB,hd,hb,q2,q3,e1,e2,hg,okp (show a'<=100 by omega),okp (show b'<=100 by omega)]
    ·have hs:r|||p≠r:=λz=>q3 (Nat.eq_of_testBit_eq λi=>by
      rw[Nat.testBit_and]
      have:=congrArg (λz=>Nat.testBit z i) z
      simp only[Nat.testBit_or] at this
      cases x1:r.testBit i<;>cases x2:p.testBit i<;>simp_all)
     have q3':¬((r&&&p:Nat):Int)=(p:Int):=by omega
     rcases hd with hd | hd<;>simp[eB,hd,hb,q2,q3,q3',e1,e2,e3,hg,hs,okp (show a'<=100 by omega),okp (show b'<=100 by omega)]
 cases w with
 | feed b=>
  refine⟨x,?_⟩
  have g0:grow r 0=r:=by simp[grow]
  cases q:st.testBit k<;>simp[q] at hb<;>simp[eB,Sw.d,Sw.pair,hb,g0]
 | earth b=>
  refine⟨x,?_⟩
  have g0:grow r 0=r:=by simp[grow]
  cases q:st.testBit k<;>simp[q] at hb<;>simp[eB,Sw.d,Sw.pair,hb,g0]
 | breaker a' b'=>exact key a' b' wok.1 wok.2.1 (.inl rfl) rfl
 | splitter a' b'=>exact key a' b' wok.1 wok.2.1 (.inr rfl) rfl
theorem jj2{n:Nat}(hn:n<=10)(a:Option D)(st:Nat)(h:MH):∀(ps:List (Sw×Nat)) (r:Nat) (g:Bool) (x y z:Option D),(∀p∈ps,p.1.ok n)->
  ∃x' y' z',jb1 (gTup [3,4]) eB (ps.map λp=>D.tup [.int (p.2:Int),p.1.d]) [a,some (.int st),some (.int r),x,y,some (.bl g),z] h= .nx [a,some (.int st),some (.int (Clo.pass ((ps.filter λp=>st.testBit p.2).map λp=>p.1.pair) r:Nat)),x',y',some (.bl (g||decide (Clo.pass ((ps.filter λp=>st.testBit p.2).map λp=>p.1.pair) r≠r))),z'] h
 | [],r,g,x,y,z,_=>⟨x,y,z,by simp[jb1,Clo.pass]⟩
 | p::ps,r,g,x,y,z,hp=>by
  obtain⟨z1,e1⟩:=eB_ok hn a st r p.2 g p.1 (hp p (List.mem_cons_self ..)) z h
  obtain⟨x',y',z',ih⟩:=jj2 hn a st h ps (if st.testBit p.2 then grow r p.1.pair else r) (g||decide ((if st.testBit p.2 then grow r p.1.pair else r)≠r)) (some (.int p.2)) (some p.1.d) z1 λq m=>hp q (List.mem_cons_of_mem _ m)
  refine⟨x',y',z',?_⟩
  rw[List.map_cons]
  unfold jb1
  have e0:gTup [3,4] (D.tup [.int (p.2:Int),p.1.d]) [a,some (.int st),some (.int r),x,y,some (.bl g),z] h= .nx [a,some (.int st),some (.int r),some (.int p.2),some p.1.d,some (.bl g),z] h:=rfl
  rw[e0]
  simp only[e1,ih]
  cases q:st.testBit p.2 with
  | false=>simp[q,List.filter_cons]
  | true=>
   simp only[q,List.filter_cons,if_true,List.map_cons,jqp]
   have m1:=js7 r p.1.pair
   have m2:=Clo.jk4 ((ps.filter λp=>st.testBit p.2).map λp=>p.1.pair) (grow r p.1.pair)
   generalize Clo.pass ((ps.filter λp=>st.testBit p.2).map λp=>p.1.pair) (grow r p.1.pair)=u at m2 ⊢
   generalize grow r p.1.pair=v at m1 m2 ⊢
   congr 8
   rw[Bool.or_assoc]
   congr 1
   by_cases e:v=r
   ·subst e;simp
   ·have:u≠r:=λz=>e (Clo.sub.antisymm (by rw[<-z];exact m2) m1)
    simp[e,this]
def gW:MS:=(sSeq (sAsg (mC (.bl false)) (ja8 5)) (sFor (jiq (ja2 (mBin dIx (mVar 0) (mC (.int 1))) mNil)) (gTup [3,4]) eB))
theorem gW_ok(ok:jbi n sws)(st r:Nat)(g x y z:Option D)(h:MH):∃x' y' z',gW [some (yd n sws),some (.int st),some (.int r),x,y,g,z] h= .nx [some (yd n sws),some (.int st),some (.int (Clo.pass (jal st sws) r:Nat)),x',y',some (.bl (decide (Clo.pass (jal st sws) r≠r))),z'] h:=by
 obtain⟨x',y',z',e⟩:=jj2 ok.2.1 (some (yd n sws)) st h sws.zipIdx r false x y z λp hp=>ok.2.2.2 _ (jmo hp)
 rw[<-jh6] at e
 refine⟨x',y',z',?_⟩
 simp only[Bool.false_or] at e
 have:(sws.zipIdx.filter λp=>st.testBit p.2).map (λp=>p.1.pair)=jal st sws:=rfl
 rw[this] at e
 unfold yd at e ⊢
 simp[-List.map_map,gW,e]
def fP:MS:=(sIf (tAnd (tB (mBin dEq (mBin dAnd (mBin dShr (mVar 1) (mVar 3)) (mC (.int 1))) (mC (.int 1)))) (tB (mBin dEq (mBin dIx (mVar 4) (mC (.int 0))) (mC (.str "feed")))))
      (sAsg (mBin dOr (mVar 2) (mBin dShl (mC (.int 1)) (mBin dIx (mVar 4) (mC (.int 1))))) (ja8 2))
      jbq)
theorem fP_ok{n:Nat}(hn:n<=10)(a x5 x6:Option D)(st f k:Nat)(w:Sw)(wok:w.ok n)(h:MH):
  fP [a,some (.int st),some (.int f),some (.int k),some w.d,x5,x6] h= .nx [a,some (.int st),some (.int (if st.testBit k=true then f|||w.fed else f:Nat)),some (.int k),some w.d,x5,x6] h:=by
 have hb:=bitk st k
 cases q:st.testBit k with
 | false=>
  simp[q] at hb
  cases w<;>simp[fP,Sw.d,hb]
 | true=>
  simp[q] at hb
  cases w with
  | feed b=>
   have:b<n:=wok
   have e:=bor f (2^b)
   simp at e
   simp[fP,Sw.d,hb,Sw.fed,e,okp (show b<=100 by omega)]
  | earth b=>simp[fP,Sw.d,hb,Sw.fed,k_fe]
  | breaker a b=>simp[fP,Sw.d,hb,Sw.fed,k_bf]
  | splitter a b=>simp[fP,Sw.d,hb,Sw.fed,k_sf]
theorem jn0{n:Nat}(hn:n<=10)(a x5 x6:Option D)(st:Nat)(h:MH):∀(ps:List (Sw×Nat)) (f:Nat) (x y:Option D),(∀p∈ps,p.1.ok n)->
  ∃x' y',jb1 (gTup [3,4]) fP (ps.map λp=>D.tup [.int (p.2:Int),p.1.d]) [a,some (.int st),some (.int f),x,y,x5,x6] h= .nx [a,some (.int st),some (.int (Clo.all ((ps.filter λp=>st.testBit p.2).map λp=>p.1.fed) f:Nat)),x',y',x5,x6] h
 | [],f,x,y,_=>⟨x,y,rfl⟩
 | p::ps,f,x,y,hp=>by
  have e1:=fP_ok hn a x5 x6 st f p.2 p.1 (hp p (List.mem_cons_self ..)) h
  obtain⟨x',y',ih⟩:=jn0 hn a x5 x6 st h ps (if st.testBit p.2=true then f|||p.1.fed else f) (some (.int p.2)) (some p.1.d) λq m=>hp q (List.mem_cons_of_mem _ m)
  refine⟨x',y',?_⟩
  rw[List.map_cons]
  unfold jb1
  have e0:gTup [3,4] (D.tup [.int (p.2:Int),p.1.d]) [a,some (.int st),some (.int f),x,y,x5,x6] h= .nx [a,some (.int st),some (.int f),some (.int p.2),some p.1.d,x5,x6] h:=rfl
  rw[e0]
  simp only[e1,ih]
  congr 6
  cases q:st.testBit p.2 with
  | false=>simp[q,List.filter_cons]
  | true=>simp[q,List.filter_cons,Clo.all]
theorem jmp(ok:jbi n sws)(st:Nat)(h:MH):z_Qv [yd n sws,.int st] h= .ok (.int (jci st sws:Nat)) h:=by
 obtain⟨x0,y0,e0⟩:=jn0 ok.2.1 (some (yd n sws)) none none st h sws.zipIdx 0 none none λp hp=>ok.2.2.2 _ (jmo hp)
 rw[<-jh6] at e0
 have es:Clo.all ((sws.zipIdx.filter λp=>st.testBit p.2).map λp=>p.1.fed) 0=jfg st sws:=rfl
 rw[es] at e0
 unfold jci
 generalize jfg st sws=s at e0 ⊢
 have W:∀x y z,∃x' y' z',jb7 (tTru (mVar 5)) gW [some (yd n sws),some (.int st),some (.int s),x,y,some (.bl true),z] h= .nx [some (yd n sws),some (.int st),some (.int (Clo.clo (jal st sws) s:Nat)),x',y',some (.bl false),z'] h:=by
  refine Clo.walk (P:=λr=>∀x y z,∃x' y' z',jb7 (tTru (mVar 5)) gW [some (yd n sws),some (.int st),some (.int r),x,y,some (.bl true),z] h= .nx [some (yd n sws),some (.int st),some (.int (Clo.clo (jal st sws) s:Nat)),x',y',some (.bl false),z'] h) (Clo.jdd (jal st sws)) ?_ ?_ _ s (Clo.Mid.start _ s) (Nat.lt_succ_self _)
  ·intro r m e x y z
   have er:=(m.fin (Clo.jdd _) e).eq
   obtain⟨x',y',z',e1⟩:=gW_ok ok st r (some (.bl true)) x y z h
   rw[e] at e1
   simp only[ne_eq,not_true_eq_false,decide_false] at e1
   refine⟨x',y',z',?_⟩
   rw[jdp (h1:=h) (by simp) e1,jd6 (h1:=h) (by simp),er]
  ·intro r m ne ih x y z
   obtain⟨x',y',z',e1⟩:=gW_ok ok st r (some (.bl true)) x y z h
   simp only[ne,ne_eq,not_false_eq_true,decide_true] at e1
   obtain⟨x2,y2,z2,e2⟩:=ih x' y' z'
   exact⟨x2,y2,z2,by rw[jdp (h1:=h) (by simp) e1,e2]⟩
 obtain⟨x',y',z',e⟩:=W x0 y0 none
 have eb:b_Qv=(sSeq (sAsg (mC (.int 0)) (ja8 2)) (sSeq (sFor (jiq (ja2 (mBin dIx (mVar 0) (mC (.int 1))) mNil)) (gTup [3,4]) fP) (sSeq (sAsg (mC (.bl true)) (ja8 5)) (sSeq (jb7 (tTru (mVar 5)) gW) (sRet (mVar 2)))))):=rfl
 unfold yd at e0 e ⊢
 simp at e0
 simp[-List.map_map, -tTru,z_Qv,eb,e0,e]
theorem ix2'(a b:D)(h:MH):dIx (.tup [a,b]) (.int 0) h= .ok a h /\ dIx (.tup [a,b]) (.int 1) h= .ok b h:=by
 refine⟨?_,?_⟩<;>simp[atI,ixN]
theorem jt8{a b:Nat}(ha:a<8)(hb:b<8)(ab:a≠b)(c:Nat):(a+c) % 8≠(b+c) % 8:=by omega
theorem jq0{h:MH}(y0 y1 y7:Option D)(c:Nat)(ws:List Str)(hw:∀w∈ws,w=Str.ofString "breaker" \/ w=Str.ofString "splitter"):∀(ps:List (Nat×Nat×Nat)) (acc:List Sw) (x5 x6:Option D),(∀q∈ps,q.1<ws.length /\ q.2.1<8 /\ q.2.2<8 /\ q.2.1≠q.2.2)->(∀s∈acc,s.ok 8)->acc.length+ps.length<1000->
  ∃(sws:List Sw) (z5 z6:Option D),sws.length=acc.length+ps.length /\ (∀s∈sws,s.ok 8) /\ jb1 (gTup [5,6]) jc2 (ps.map λq=>D.tup [.int q.1,.tup [.int q.2.1,.int q.2.2]]) [y0,y1,some (.int c),some (.lst (ws.map D.str)),some (.ref h.length),x5,x6,y7] (h++[some (.lst (acc.map Sw.d))])= .nx [y0,y1,some (.int c),some (.lst (ws.map D.str)),some (.ref h.length),z5,z6,y7] (h++[some (.lst (sws.map Sw.d))])
 | [],acc,x5,x6,_,ha,_=>⟨acc,x5,x6,by simp,ha,rfl⟩
 | q::ps,acc,x5,x6,hq,ha,hl=>by
  simp only[List.length_cons] at hl
  obtain⟨q1,q2,q3,q4⟩:=hq q (List.mem_cons_self ..)
  have wk:=hw ws[q.1] (List.getElem_mem q1)
  have at1:atI (ws.map D.str) (q.1:Int)=some (.str ws[q.1]):=jg4 (by rw[List.getElem?_map,List.getElem?_eq_getElem q1];rfl)
  obtain⟨s,so,es⟩:∃s:Sw,s.ok 8 /\ s.d= .tup [.str ws[q.1],.int (((q.2.1+c) % 8:Nat):Int),.int (((q.2.2+c) % 8:Nat):Int)]:=by
   have h1:(q.2.1+c) % 8<8:=Nat.mod_lt _ (by decide)
   have h2:(q.2.2+c) % 8<8:=Nat.mod_lt _ (by decide)
   have h3:=jt8 q2 q3 q4 c
   rcases wk with e | e
   ·exact⟨.breaker _ _,⟨h1,h2,h3⟩,by rw[e];rfl⟩
   ·exact⟨.splitter _ _,⟨h1,h2,h3⟩,by rw[e];rfl⟩
  obtain⟨sws,z5,z6,p1,p2,ih⟩:=jq0 (h:=h) y0 y1 y7 c ws hw ps (acc++[s]) (some (.int q.1)) (some (.tup [.int q.2.1,.int q.2.2])) (λa m=>hq a (List.mem_cons_of_mem _ m)) (λw m=>by
   rcases List.mem_append.mp m with m | m
   ·exact ha w m
   ·rw[List.mem_singleton.mp m];exact so) (by simp;omega)
  refine⟨sws,z5,z6,by rw[p1];simp;omega,p2,?_⟩
  have e1:((q.2.1:Int)+c) % 8=(((q.2.1+c) % 8:Nat):Int):=by omega
  have e2:((q.2.2:Int)+c) % 8=(((q.2.2+c) % 8:Nat):Int):=by omega
  have ix:=ix2' (.int (q.2.1:Int)) (.int (q.2.2:Int))
  have lx:(acc.map Sw.d).length<16777216:=by rw[List.length_map];omega
  have am:acc.map Sw.d++[.tup [.str ws[q.1],.int (((q.2.1+c) % 8:Nat):Int),.int (((q.2.2+c) % 8:Nat):Int)]]=(acc++[s]).map Sw.d:=by rw[List.map_append,<-es];rfl
  have wi:∀H:MH,dIx (.lst (ws.map D.str)) (.int q.1) H= .ok (.str ws[q.1]) H:=λH=>by simp[-List.map_map,at1]
  have gc:∀z:Option Cell,(h++[z])[h.length]?=some z:=λz=>by simp
  have sc:∀z y:Option Cell,(h++[z]).set h.length y=h++[y]:=λz y=>by simp
  have st:jc2 [y0,y1,some (.int c),some (.lst (ws.map D.str)),some (.ref h.length),some (.int q.1),some (.tup [.int q.2.1,.int q.2.2]),y7] (h++[some (.lst (acc.map Sw.d))])= .nx [y0,y1,some (.int c),some (.lst (ws.map D.str)),some (.ref h.length),some (.int q.1),some (.tup [.int q.2.1,.int q.2.2]),y7] (h++[some (.lst ((acc++[s]).map Sw.d))]):=by
   generalize (q.2.1+c) % 8=m1 at*
   generalize (q.2.2+c) % 8=m2 at*
   generalize (acc++[s]).map Sw.d=A2 at*
   generalize acc.map Sw.d=A1 at*
   generalize ws.map D.str=WS at*
   simp[-dIx,jc2,gc,wi,ix,e1,e2,lx,am,sc]
  have er:(gTup [5,6]) (D.tup [.int q.1,.tup [.int q.2.1,.int q.2.2]]) [y0,y1,some (.int c),some (.lst (ws.map D.str)),some (.ref h.length),x5,x6,y7] (h++[some (.lst (acc.map Sw.d))])= .nx [y0,y1,some (.int c),some (.lst (ws.map D.str)),some (.ref h.length),some (.int q.1),some (.tup [.int q.2.1,.int q.2.2]),y7] (h++[some (.lst (acc.map Sw.d))]):=rfl
  rw[List.map_cons]
  unfold jb1
  rw[er]
  simp only[st]
  exact ih
def crP:List (Nat×Nat×Nat):=[(0,0,1),(1,1,2),(2,2,7),(3,0,3),(4,3,4),(5,4,2),(6,1,5),(7,5,6),(8,6,7)]
theorem jsu(c:Int)(h:MH):∃ws:List Str,(∀w∈ws,w=Str.ofString "breaker" \/ w=Str.ofString "splitter") /\ ws.length=9 /\ compLoop (ja8 0) tYes (mBin dIx (jcx (jds (ja2 (mC (.str "breaker")) (ja2 (mC (.str "splitter")) mNil)))) (mBin dMod (mBin dDiv (mBin dDiv (mVar 1) (mC (.int 216))) (mBin dShl (mC (.int 1)) (mVar 0))) (mC (.int 2)))) [none,some (.int c)] (rng 0 9) h= .ok (ws.map D.str) h:=by
 refine⟨(List.range 9).map λk=>if c / 216 / 2^k % 2=0 then Str.ofString "breaker" else Str.ofString "splitter",λw m=> ?_,by simp,?_⟩
 ·obtain⟨k,_,rfl⟩:=List.mem_map.mp m
  by_cases q:c / 216 / 2^k % 2=0
  ·rw[if_pos q];exact .inl rfl
  ·rw[if_neg q];exact .inr rfl
 ·rw[jk0,List.map_map]
  refine jcj (λk:Nat=>D.int k) (λk:Nat=>[some (.int (k:Nat)),some (.int c)]) (λk:Nat=>D.str (if c / 216 / 2^k % 2=0 then Str.ofString "breaker" else Str.ofString "splitter")) (List.range 9) λk m=>⟨by simp,by simp,?_⟩
  have lk:=List.mem_range.mp m
  have o1:=okp (show k<=100 by omega)
  have p1:(0:Int)<2^k:=Int.pow_pos (by decide)
  have p2:(2:Int)^k<1073741824:=by
   have:2^k<2^30:=Nat.pow_lt_pow_right (by decide) (by omega)
   have h2:((2^k:Nat):Int)<((2^30:Nat):Int):=by omega
   simpa using h2
  have m2:c / 216 / 2^k % 2=0 \/ c / 216 / 2^k % 2=1:=by omega
  skip
  rcases m2 with m2 | m2<;>simp[o1,p1,p2,m2]
theorem jmc(c m:Int)(h:MH)(hb:Hb h):∃sws:List Sw,sws.length=12 /\ (∀s∈sws,s.ok 8) /\ z_Qi [.int c,.int m] h= .ok (.lst (sws.map Sw.d)) h:=by
 obtain⟨a,ea⟩:=jm8 (x:=c % 8) (Int.emod_nonneg _ (by decide))
 have la:a<8:=by have:=Int.emod_lt_of_pos c (b:=8) (by decide);omega
 obtain⟨f,ef⟩:=jm8 (x:=c / 8 % 11) (Int.emod_nonneg _ (by decide))
 have lf:f<11:=by have:=Int.emod_lt_of_pos (c / 8) (b:=11) (by decide);omega
 obtain⟨ws,hw,hl,e2⟩:=jsu c h
 obtain⟨sws,z5,z6,p1,p2,el⟩:=jq0 (h:=h) (some (.int c)) (some (.int m)) none a ws hw crP [.feed a,.feed a] none none (λq mq=>by
  rw[hl]
  simp only[crP,List.mem_cons,List.not_mem_nil,or_false] at mq
  rcases mq with rfl | rfl | rfl | rfl | rfl | rfl | rfl | rfl | rfl<;>decide) (λs ms=>by
  simp at ms
  rw[ms];exact la) (by simp[crP])
 have p1:sws.length=11:=p1
 obtain⟨s,so,es⟩:=jfk m 8 (by omega) (by omega) (h++[none])
 refine⟨sws.drop f++sws.take f++[s],by simp;omega,λw mw=> ?_,?_⟩
 ·rcases List.mem_append.mp mw with mw | mw
  ·rcases List.mem_append.mp mw with mw | mw
   ·exact p2 w (List.mem_of_mem_drop mw)
   ·exact p2 w (List.mem_of_mem_take mw)
  ·rw[List.mem_singleton.mp mw];exact so
 ·have c1:cut (sws.map Sw.d) (some (f:Int)) none=(sws.drop f).map Sw.d:=by
   unfold cut
   have h1:sIx (sws.map Sw.d).length 0 (some (f:Int))=f:=by
    simp only[sIx]
    rw[if_neg (show ¬((f:Int)<0) by omega),List.length_map,Int.toNat_natCast];omega
   rw[h1,<-List.map_drop]
   refine List.take_of_length_le ?_
   show _<=(sws.map Sw.d).length - f
   simp
  have c2:cut (sws.map Sw.d) none (some (f:Int))=(sws.take f).map Sw.d:=by
   unfold cut
   have h1:sIx (sws.map Sw.d).length (sws.map Sw.d).length (some (f:Int))=f:=by
    simp only[sIx]
    rw[if_neg (show ¬((f:Int)<0) by omega),List.length_map,Int.toNat_natCast];omega
   rw[h1]
   show((sws.map Sw.d).drop 0).take (f - 0)=_
   simp[List.map_take]
  have key:b_Qi [some (.int c),some (.int m),none,none,none,none,none,none] h= .rt (.lst ((sws.drop f++sws.take f++[s]).map Sw.d)) (h++[none]):=by
   unfold b_Qi
   refine(jag (ρ':=[some (.int c),some (.int m),some (.int a),none,none,none,none,none]) (h':=h) (by simp[ea])).trans ?_
   refine(jag (ρ':=[some (.int c),some (.int m),some (.int a),some (.lst (ws.map D.str)),none,none,none,none]) (h':=h) (by
    have l9:(rng 0 9).length<16777216:=by simp[rng]
    have lr:jjf (ja2 (mC (.int 9)) mNil) [some (.int c),some (.int m),some (.int a),none,none,none,none,none] h= .ok (none,rng 0 9) h:=by simp
    generalize ws.map D.str=WS at*
    generalize rng 0 9=RR at*
    simp[-mBin, -jjf, -dMod, -dDiv, -dShl,lr,l9,e2])).trans ?_
   refine(jag (ρ':=[some (.int c),some (.int m),some (.int a),some (.lst (ws.map D.str)),some (.ref h.length),none,none,none]) (h':=h++[some (.lst [(Sw.feed a).d,(Sw.feed a).d])]) (by simp[-List.map_map,Sw.d])).trans ?_
   refine(jag (ρ':=[some (.int c),some (.int m),some (.int a),some (.lst (ws.map D.str)),some (.ref h.length),z5,z6,none]) (h':=h++[some (.lst (sws.map Sw.d))]) ?_).trans ?_
   ·have en:jgp [D.tup [.int 0,.int 1],.tup [.int 1,.int 2],.tup [.int 2,.int 7],.tup [.int 0,.int 3],.tup [.int 3,.int 4],.tup [.int 4,.int 2],.tup [.int 1,.int 5],.tup [.int 5,.int 6],.tup [.int 6,.int 7]]=crP.map λq=>D.tup [.int q.1,.tup [.int q.2.1,.int q.2.2]]:=rfl
    have le:(jiq (ja2 (jcx (jds (ja2 (mTup (ja2 (mC (.int 0)) (ja2 (mC (.int 1)) mNil))) (ja2 (mTup (ja2 (mC (.int 1)) (ja2 (mC (.int 2)) mNil))) (ja2 (mTup (ja2 (mC (.int 2)) (ja2 (mC (.int 7)) mNil))) (ja2 (mTup (ja2 (mC (.int 0)) (ja2 (mC (.int 3)) mNil))) (ja2 (mTup (ja2 (mC (.int 3)) (ja2 (mC (.int 4)) mNil))) (ja2 (mTup (ja2 (mC (.int 4)) (ja2 (mC (.int 2)) mNil))) (ja2 (mTup (ja2 (mC (.int 1)) (ja2 (mC (.int 5)) mNil))) (ja2 (mTup (ja2 (mC (.int 5)) (ja2 (mC (.int 6)) mNil))) (ja2 (mTup (ja2 (mC (.int 6)) (ja2 (mC (.int 7)) mNil))) mNil))))))))))) mNil)) [some (.int c),some (.int m),some (.int a),some (.lst (ws.map D.str)),some (.ref h.length),none,none,none] (h++[some (.lst [(Sw.feed a).d,(Sw.feed a).d])])= .ok (none,crP.map λq=>D.tup [.int q.1,.tup [.int q.2.1,.int q.2.2]]) (h++[some (.lst [(Sw.feed a).d,(Sw.feed a).d])]):=by
     rw[<-en]
     simp
    rw[jd3,le]
    simp only[jc4,jb5]
    exact el
   refine(jag (ρ':=[some (.int c),some (.int m),some (.int a),some (.lst (ws.map D.str)),some (.ref h.length),z5,z6,some (.int f)]) (h':=h++[some (.lst (sws.map Sw.d))]) (by simp[-List.map_map,ef])).trans ?_
   have g1:(h++[some (Cell.lst (sws.map Sw.d))])[h.length]?=some (some (.lst (sws.map Sw.d))):=by simp
   have s1:(h++[some (Cell.lst (sws.map Sw.d))]).set h.length none=h++[none]:=by simp[List.set_append]
   simp only[jdg,List.getElem?_cons_succ,List.getElem?_cons_zero,g1,s1,List.set_cons_succ,List.set_cons_zero]
   have lm:(sws.drop f).length+(sws.take f).length<=11:=by simp;omega
   have es:z_Qc [.int m,.int 8] (h++[none])= .ok s.d (h++[none]):=es
   have q1:((sws.drop f).map Sw.d).length+((sws.take f).map Sw.d).length<=16777216:=by rw[List.length_map,List.length_map];omega
   have q2:((sws.drop f).map Sw.d).length+((sws.take f).map Sw.d).length<=16777215:=by rw[List.length_map,List.length_map];omega
   rw[List.map_append,List.map_append]
   generalize (sws.drop f).map Sw.d=D1 at*
   generalize (sws.take f).map Sw.d=D2 at*
   generalize sws.map Sw.d=D0 at*
   simp[es,c1,c2,q1,q2]
  exact jdl (b:=b_Qi) (np:=2) (nn:=8) (ds:=[.int c,.int m]) (J:=[none]) rfl key hb (by
   simp only[D.bnd]
   exact jem λd md=>by
    obtain⟨w,_,rfl⟩:=List.mem_map.mp md
    cases w<;>simp[Sw.d,D.bnd,D.bnds])
theorem jvz(ns:List Int)(h:MH)(hb:Hb h):∃n sws,jbi n sws /\ (ns.getD 0 0 % 3=2->n=8) /\ z_Qn [.arg ns] h= .ok (yd n sws) h:=by
 have e0:=jlz ns 0 h
 have e2:=jlz ns 2 h
 generalize ns.getD 0 0=c0 at e0
 generalize ns.getD 2 0=c2 at e2
 simp at e0 e2
 by_cases q3:c0 % 3=2
 ·obtain⟨sws,h1,h2,e⟩:=jmc (c0 / 3) c2 h hb
  refine⟨8,sws,⟨by omega,by omega,by omega,h2⟩,λ_=>rfl,?_⟩
  have e8:yd 8 sws= .tup [.int 8,.lst (sws.map Sw.d)]:=rfl
  rw[e8]
  generalize sws.map Sw.d=ds at*
  simp[z_Qn,b_Qn,e0,e2,q3,e]
 obtain⟨c,hc⟩:∃c,c0 / 3=c:=⟨_,rfl⟩
 obtain⟨n,hn,hb⟩:∃n:Nat,(1<=n /\ n<=10) /\ (n:Int)=if c / 4 % 4=1 then 1+c / 16 % 10 else 2+c % 4:=by
  by_cases q:c / 4 % 4=1
  ·exact⟨(1+c / 16 % 10).toNat,by omega,by rw[if_pos q];omega⟩
  ·exact⟨(2+c % 4).toNat,by omega,by rw[if_neg q];omega⟩
 let cs:=cut ns (some 2) (some 14)
 have hl:cs.length<=12:=jwk ns 2 12
 let f:Int->Sw:=λc=>(jfk c n hn.1 hn.2 h).choose
 have comp:compLoop (ja8 0) tYes (jbb z_Qc (ja2 (mVar 0) (ja2 (mVar 1) mNil))) [none,some (.int n)] (cs.map D.int) h= .ok ((cs.map f).map Sw.d) h:=by
  rw[List.map_map]
  refine jcj (λc:Int=>D.int c) (λc=>[some (.int c),some (.int n)]) (λc=>(f c).d) cs (λc _=>⟨by simp,by simp,?_⟩)
  have this:z_Qc [.int c,.int n] h= .ok (f c).d h:=(jfk c n hn.1 hn.2 h).choose_spec.2
  show jbb z_Qc (ja2 (mVar 0) (ja2 (mVar 1) mNil)) [some (.int c),some (.int n)] h= .ok (f c).d h
  generalize f c=s at this ⊢
  simp[this]
 refine⟨n,cs.map f,⟨hn.1,hn.2,by simp;omega,λs hs=> ?_⟩,λz=>absurd z q3,?_⟩
 ·obtain⟨c,_,rfl⟩:=List.mem_map.mp hs
  exact(jfk c n hn.1 hn.2 h).choose_spec.1
 ·have ec:cut (ns.map D.int) (some 2) (some 14)=cs.map D.int:=jqd D.int ns _ _
  have hl2:cs.length<16777216:=by omega
  clear_value cs f
  by_cases q:c / 4 % 4=1
  ·rw[if_pos q] at hb
   simp[-List.map_map,z_Qn,b_Qn,e0,q3,hc,q,ec,<-hb,comp,hl2,yd]
  ·rw[if_neg q] at hb
   simp[-List.map_map,z_Qn,b_Qn,e0,q3,hc,q,ec,<-hb,comp,hl2,yd]
def Sw.kd:Sw->Str
 | .feed _=>"feed" | .earth _=>"earth" | .breaker _ _=>"breaker" | .splitter _ _=>"splitter"
theorem jnx{st L:Nat}(hs:st<2^L):(List.range L).filter (λk=>st.testBit k)=jbu st:=by
 have hl:=jfn hs
 unfold jbu
 obtain⟨d,rfl⟩:∃d,L=Builtin.Int.intBits (st:Int)+d:=⟨L - Builtin.Int.intBits (st:Int),by omega⟩
 rw[List.range_add,List.filter_append]
 have:((List.range d).map (Builtin.Int.intBits (st:Int)+·)).filter (λk=>st.testBit k)=[]:=by
  rw[List.filter_eq_nil_iff]
  intro k m z
  obtain⟨j,_,rfl⟩:=List.mem_map.mp m
  have:=List.mem_range.mp (List.mem_filter.mp (jf3.mpr z)).1
  omega
 rw[this,List.append_nil]
theorem jv5{l:List Nat}(nd:l.Nodup){i k:Nat}(h:l[i]?=some k):k∉l.take i:=λm=>by
 obtain⟨j,hj,e⟩:=List.mem_iff_getElem.mp m
 obtain⟨hi,e2⟩:=List.getElem?_eq_some_iff.mp h
 rw[List.length_take] at hj
 rw[List.getElem_take] at e
 have:=List.pairwise_iff_getElem.mp nd j i (by omega) hi (by omega)
 exact this (e.trans e2.symm)
theorem jwn{w:Sw}(h:∃c d,w.ends c d):w.kd="breaker" \/ w.kd="splitter":=by
 obtain⟨c,d,h⟩:=h
 unfold Sw.ends at h
 rcases h with h | h | h | h<;>rw[h]<;>simp[Sw.kd]
theorem juj{n:Nat}{sws:List Sw}{st k a c:Nat}(g:Good sws st k a c)(y1 y2 y3 y4 x7:Option D)(h:MH):∃z6,jc3 [some (yd n sws),y1,y2,y3,y4,some (.int (a:Nat)),some (.int (k:Nat)),x7] h= .nx [some (yd n sws),y1,y2,y3,y4,some (.int (c:Nat)),some (.int (k:Nat)),z6] h:=by
 obtain⟨w,hw,_,en⟩:=g
 have i1:dIx (yd n sws) (.int 1) h= .ok (.lst (sws.map Sw.d)) h:=rfl
 have i2:dIx (.lst (sws.map Sw.d)) (.int (k:Nat)) h= .ok w.d h:=by
  have:atI (sws.map Sw.d) (k:Int)=some w.d:=jg4 (by simp[hw])
  simp[-List.map_map,this]
 refine⟨some w.d,?_⟩
 have key:∀(s:Str) (x y:Nat),(x=a /\ y=c) \/ (x=c /\ y=a)->w.d= .tup [.str s,.int (x:Nat),.int (y:Nat)]->jc3 [some (yd n sws),y1,y2,y3,y4,some (.int (a:Nat)),some (.int (k:Nat)),x7] h= .nx [some (yd n sws),y1,y2,y3,y4,some (.int (c:Nat)),some (.int (k:Nat)),some w.d] h:=λs x y hxy ed=>by
  have q1:(x:Int)+y - a=c:=by rcases hxy with⟨rfl,rfl⟩ | ⟨rfl,rfl⟩<;>omega
  have sx:¬(sIx 3 0 (some 1)=0 /\ sIx 3 3 none=3):=by decide
  have di:dIn true (.int (a:Nat)) (.tup [.int (x:Nat),.int (y:Nat)]) h= .ok (.bl false) h:=by
   rcases hxy with⟨rfl,rfl⟩ | ⟨rfl,rfl⟩<;>simp[eqF]
  have sl:mSl (mVar 7) (oSo (mC (.int 1))) oNo [some (yd n sws),y1,y2,y3,y4,some (.int (a:Nat)),some (.int (k:Nat)),some (.tup [.str s,.int (x:Nat),.int (y:Nat)])] h= .ok (.tup [.int (x:Nat),.int (y:Nat)]) h:=by
   simp[sx]
  unfold jc3
  refine(jag (ρ':=[some (yd n sws),y1,y2,y3,y4,some (.int (a:Nat)),some (.int (k:Nat)),some w.d]) (h':=h) (by simp[-dIx,i1,i2])).trans ?_
  rw[ed]
  refine(jag (ρ':=[some (yd n sws),y1,y2,y3,y4,some (.int (a:Nat)),some (.int (k:Nat)),some (.tup [.str s,.int (x:Nat),.int (y:Nat)])]) (h':=h) (by simp[-mSl, -dIn,sl,di])).trans ?_
  simp[q1]
 unfold Sw.ends at en
 rcases en with e | e | e | e
 ·exact key "breaker" a c (.inl ⟨rfl,rfl⟩) (by rw[e];rfl)
 ·exact key "breaker" c a (.inr ⟨rfl,rfl⟩) (by rw[e];rfl)
 ·exact key "splitter" a c (.inl ⟨rfl,rfl⟩) (by rw[e];rfl)
 ·exact key "splitter" c a (.inr ⟨rfl,rfl⟩) (by rw[e];rfl)
theorem jqh{n:Nat}{sws:List Sw}{st:Nat}(y1 y2 y3 y4:Option D)(h:MH):∀{t:List Nat} {a b:Nat} (x6 x7:Option D),jcp sws st t a b->∃z5 z6,jb1 (ja8 6) jc3 (nL t) [some (yd n sws),y1,y2,y3,y4,some (.int (a:Nat)),x6,x7] h= .nx [some (yd n sws),y1,y2,y3,y4,some (.int (b:Nat)),z5,z6] h
 | [],a,b,x6,x7,tr=>by
  have e:a=b:=tr
  subst e
  exact⟨x6,x7,rfl⟩
 | k::t,a,b,x6,x7,⟨c,g,r⟩=>by
  obtain⟨z6,st1⟩:=juj (n:=n) g y1 y2 y3 y4 x7 h
  obtain⟨w5,w6,ih⟩:=jqh y1 y2 y3 y4 h (some (.int (k:Nat))) z6 r
  refine⟨w5,w6,?_⟩
  show jb1 (ja8 6) jc3 (.int (k:Nat)::nL t) _ _=_
  unfold jb1
  simp only[ja8,List.set_cons_succ,List.set_cons_zero,st1]
  exact ih
theorem nL_dat(ks:List Nat):(D.lst (nL ks)).py.isSome=true /\ (D.lst (nL ks)).deep<=1:=jv2 λd hd=>by
 obtain⟨k,_,rfl⟩:=List.mem_map.mp hd
 exact jut _ _
theorem jto(ks:List Nat)(h:MH):dEq (.lst (nL ks)) (.lst []) h= .ok (.bl (decide (ks=[]))) h:=by
 have d1:(D.lst (nL ks)).dat=true:=dat_of (nL_dat ks) (by omega)
 have d2:(D.lst []).dat=true:=by decide+kernel
 cases ks with
 | nil=>simp[nL,D.eq,D.eqs,d2]
 | cons k ks=>
  have e:(D.lst (nL (k::ks))).eq (.lst [])=false:=rfl
  generalize nL (k::ks)=l at*
  simp[d1,d2,e]
theorem cut_to{α:Type}(l:List α)(f:Nat)(hf:f<=l.length):cut l none (some (f:Int))=l.take f:=by
 unfold cut
 have h1:sIx l.length l.length (some (f:Int))=f:=by
  simp only[sIx]
  rw[if_neg (show ¬((f:Int)<0) by omega),Int.toNat_natCast];omega
 rw[h1]
 show(l.drop 0).take (f - 0)=_
 simp
theorem juw{n:Nat}{sws:List Sw}{ks:List Nat}(nd:ks.Nodup){st i k:Nat}{w:Sw}(hs:st.testBit k=true)(hk:ks[i]?=some k)(hw:sws[k]?=some w)(hf:(w.kd="feed")↔i=0)(y3 x5 x6 x7:Option D)(h:MH):jd5 [some (yd n sws),some (.int (st:Nat)),some (.lst (nL ks)),y3,some (.int (i:Nat)),x5,x6,x7] h= .nx [some (yd n sws),some (.int (st:Nat)),some (.lst (nL ks)),y3,some (.int (i:Nat)),x5,x6,x7] h:=by
 have lk:k<sws.length:=(List.getElem?_eq_some_iff.mp hw).1
 have li:i<ks.length:=(List.getElem?_eq_some_iff.mp hk).1
 have ix:dIx (.lst (nL ks)) (.int (i:Nat)) h= .ok (.int (k:Nat)) h:=by
  have:atI (nL ks) (i:Int)=some (.int k):=jg4 (by simp[nL,hk])
  simp[this]
 have i1:dIx (yd n sws) (.int 1) h= .ok (.lst (sws.map Sw.d)) h:=rfl
 have i2:dIx (.lst (sws.map Sw.d)) (.int (k:Nat)) h= .ok w.d h:=by
  have:atI (sws.map Sw.d) (k:Int)=some w.d:=jg4 (by simp[hw])
  simp[-List.map_map,this]
 have i0:dIx w.d (.int 0) h= .ok (.str w.kd) h:=by cases w<;>rfl
 have wh:z_Qt [.int (k:Nat)] h= .ok (.bl true) h:=by simp[z_Qt,b_Qt]
 have bt:=bitk st k
 rw[hs] at bt
 simp at bt
 have n0:¬(k:Int)<0:=by omega
 have c1:cut (nL ks) none (some (i:Int))=nL (ks.take i):=by
  rw[cut_to _ _ (by simp[nL];omega)];simp[nL,List.map_take]
 have di:=jun (ks.take i) k false h
 rw[decide_eq_false (jv5 nd hk)] at di
 have q1:dEq (.str w.kd) (.str "feed") h= .ok (.bl (decide (i=0))) h:=by
  by_cases z:i=0
  ·have:=hf.mpr z
   simp[this,z]
  ·have:¬w.kd="feed":=λe=>z (hf.mp e)
   simp[this,z]
 have q2:dEq (.int (i:Nat)) (.int 0) h= .ok (.bl (decide (i=0))) h:=by
  by_cases z:i=0<;>simp[z]
 have q3:dNe (.bl (decide (i=0))) (.bl (decide (i=0))) h= .ok (.bl false) h:=by simp
 generalize decide (i=0)=b at*
 generalize nL (ks.take i)=T1 at*
 generalize nL ks=T at*
 unfold jd5
 refine(jag (ρ':=[some (yd n sws),some (.int (st:Nat)),some (.lst T),y3,some (.int (i:Nat)),x5,x6,x7]) (h':=h) (by simp[-dIx,ix,wh,n0,bt])).trans ?_
 simp[-dIx, -dIn, -dEq, -dNe,ix,c1,di,i1,i2,i0,q1,q2,q3]
theorem jql{n:Nat}{sws:List Sw}{st g:Nat}{ks:List Nat}(wp:Wp sws st (2^g) ks)(hl:ks.length<=100)(h:MH):z_Qy [yd n sws,.int (st:Nat),.lst (nL ks),.int (g:Nat)] h= .ok (.bl true) h:=by
 obtain⟨nd,f,t,a,b,rfl,hf,hsf,tr,hb⟩:=wp
 have ne:=jto (f::t) h
 rw[decide_eq_false (by simp)] at ne
 have hsw:∀i k,(f::t)[i]?=some k->∃w:Sw,sws[k]?=some w /\ st.testBit k=true /\ (w.kd=Str.ofString "feed"↔i=0):=λi k hk=>by
  cases i with
  | zero=>
   have:f=k:=by simpa using hk
   subst this
   exact⟨_,hf,hsf,by simp[Sw.kd]⟩
  | succ i=>
   obtain⟨w,hw,en,hsk⟩:=jgy tr k (List.mem_of_getElem? (by simpa using hk))
   refine⟨w,hw,hsk,?_⟩
   rcases jwn en with e | e
   ·rw[e];simp[k_bf]
   ·rw[e];simp[k_sf]
 obtain⟨ρ',⟨y4,rfl⟩,l0⟩:=jhe (g:=ja8 4) (b:=jd5) (h:=h) (λρ=>∃x4,ρ=[some (yd n sws),some (.int (st:Nat)),some (.lst (nL (f::t))),some (.int (g:Nat)),x4,none,none,none]) (rng 0 (f::t).length) [some (yd n sws),some (.int (st:Nat)),some (.lst (nL (f::t))),some (.int (g:Nat)),none,none,none,none] ⟨none,rfl⟩ (λd m ρ ⟨x4,hr⟩=>by
  subst hr
  rw[jk0] at m
  obtain⟨i,mi,rfl⟩:=List.mem_map.mp m
  have li:=List.mem_range.mp mi
  obtain⟨w,hw,hsk,e⟩:=hsw i _ (List.getElem?_eq_getElem li)
  exact⟨_,rfl,_,juw (n:=n) nd hsk (List.getElem?_eq_getElem li) hw e (some (.int (g:Nat))) none none none h,_,rfl⟩)
 obtain⟨z6,z7,l1⟩:=jqh (n:=n) (some (.int (st:Nat))) (some (.lst (nL (f::t)))) (some (.int (g:Nat))) y4 h none none tr
 have lf:=(List.getElem?_eq_some_iff.mp hf).1
 have i1:dIx (yd n sws) (.int 1) h= .ok (.lst (sws.map Sw.d)) h:=rfl
 have i2:dIx (.lst (sws.map Sw.d)) (.int (f:Nat)) h= .ok (Sw.feed a).d h:=by
  have:atI (sws.map Sw.d) (f:Int)=some (Sw.feed a).d:=jg4 (by simp[hf])
  simp[-List.map_map,this]
 have ix:dIx (.lst (nL (f::t))) (.int 0) h= .ok (.int (f:Nat)) h:=by
  show oR (atI (.int (f:Nat)::nL t) 0) h=_
  simp
 have f0:dIx (Sw.feed a).d (.int 0) h= .ok (.str "feed") h:=rfl
 have f1:dIx (Sw.feed a).d (.int 1) h= .ok (.int (a:Nat)) h:=rfl
 rw[jak] at hb
 have hb:=of_decide_eq_true hb
 have sl:cut (nL (f::t)) (some 1) none=nL t:=by
  show cut (.int (f:Nat)::nL t) (some 1) none=_
  simp
 have ll:(nL (f::t)).length=(f::t).length:=by simp[nL]
 refine jez (np:=4) (nn:=8) rfl ?_ (Nat.le_refl _)
 show b_Qy [some (yd n sws),some (.int (st:Nat)),some (.lst (nL (f::t))),some (.int (g:Nat)),none,none,none,none] h=_
 have lr:jjf (ja2 (mFn fLen (ja2 (mVar 2) mNil)) mNil) [some (yd n sws),some (.int (st:Nat)),some (.lst (nL (f::t))),some (.int (g:Nat)),none,none,none,none] h= .ok (none,rng 0 (f::t).length) h:=by
  have:(f::t).length<4611686018427387904:=by omega
  generalize nL (f::t)=T at*
  generalize (f::t).length=L at*
  simp[ll,this]
 generalize nL (f::t)=T at*
 generalize (f::t).length=L at*
 unfold b_Qy
 refine(jag (ρ':=[some (yd n sws),some (.int (st:Nat)),some (.lst T),some (.int (g:Nat)),none,none,none,none]) (h':=h) (by simp[-dEq,ne])).trans ?_
 refine(jag (ρ':=[some (yd n sws),some (.int (st:Nat)),some (.lst T),some (.int (g:Nat)),y4,none,none,none]) (h':=h) ?_).trans ?_
 ·rw[jd3,lr]
  simp only[jc4,jb5]
  exact l0
 refine(jag (ρ':=[some (yd n sws),some (.int (st:Nat)),some (.lst T),some (.int (g:Nat)),y4,some (.int (a:Nat)),none,none]) (h':=h) (by
  generalize (Sw.feed a).d=F at*
  simp[-dIx,ix,i1,i2,f1])).trans ?_
 refine(jag (ρ':=[some (yd n sws),some (.int (st:Nat)),some (.lst T),some (.int (g:Nat)),y4,some (.int (b:Nat)),z6,z7]) (h':=h) ?_).trans ?_
 ·have li:lIt (mSl (mVar 2) (oSo (mC (.int 1))) oNo) [some (yd n sws),some (.int (st:Nat)),some (.lst T),some (.int (g:Nat)),y4,some (.int (a:Nat)),none,none] h= .ok (none,nL t) h:=by simp[sl]
  rw[jd3,li]
  simp only[jc4,jb5]
  exact l1
 ·simp[hb]
def alC(sws:List Sw)(st b k:Nat):Bool:=decide (jci (st - (st&&&2^k)) sws&&&2^b=0)&&st.testBit k
theorem two_ok{n:Nat}{sws:List Sw}{st b:Nat}{v0 v1:List Nat}(w0:Wp sws st (2^b) v0)(w1:Wp sws st (2^b) v1)(l0:v0.length<=100)(l1:v1.length<=100)(dj:∀k∈v0,k∉v1)(h:MH):z_X1 [yd n sws,.int (st:Nat),.int (b:Nat),.tup [.str "two",.lst (nL v0),.lst (nL v1)]] h= .ok (.bl true) h:=by
 have g0:=jql (n:=n) w0 l0 h
 have g1:=jql (n:=n) w1 l1 h
 have f0:dIx (.tup [.str "two",.lst (nL v0),.lst (nL v1)]) (.int 0) h= .ok (.str "two") h:=rfl
 have f1:dIx (.tup [.str "two",.lst (nL v0),.lst (nL v1)]) (.int 1) h= .ok (.lst (nL v0)) h:=rfl
 have f2:dIx (.tup [.str "two",.lst (nL v0),.lst (nL v1)]) (.int 2) h= .ok (.lst (nL v1)) h:=rfl
 have cm:compLoop (ja8 0) (tB (mBin (dIn false) (mVar 0) (mBin dIx (mVar 1) (mC (.int 2))))) (mVar 0) [none,some (.tup [.str "two",.lst (nL v0),.lst (nL v1)])] (nL v0) h= .ok [] h:=by
  have:=jcv (g:=ja8 0) (t:=tB (mBin (dIn false) (mVar 0) (mBin dIx (mVar 1) (mC (.int 2))))) (m:=mVar 0) (ρ0:=[none,some (.tup [.str "two",.lst (nL v0),.lst (nL v1)])]) (h:=h) (λk:Nat=>D.int k) (λk:Nat=>[some (.int (k:Nat)),some (.tup [.str "two",.lst (nL v0),.lst (nL v1)])]) (λk=>decide (k∈v1)) (λk:Nat=>D.int k) v0 (λk m=>⟨by simp,by
   have di:=jun v1 k false h
   generalize nL v0=T0 at*
   generalize nL v1=T1 at*
   simp[-dIx, -dIn,f2,di],by simp⟩)
  have e:(v0.filter λk=>decide (k∈v1))=[]:=List.filter_eq_nil_iff.mpr λk m=>by simpa using dj k m
  rw[e] at this
  exact this
 have ne:dEq (.lst []) (.lst []) h= .ok (.bl true) h:=jto [] h
 have ln:(nL v0).length<16777216:=by simp[nL];omega
 refine jez (np:=4) (nn:=4) rfl ?_ (Nat.le_refl _)
 show b_X1 [some (yd n sws),some (.int (st:Nat)),some (.int (b:Nat)),some (.tup [.str "two",.lst (nL v0),.lst (nL v1)])] h=_
 unfold b_X1
 generalize yd n sws=Y at*
 generalize nL v0=T0 at*
 generalize nL v1=T1 at*
 refine(jag (ρ':=[some Y,some (.int (st:Nat)),some (.int (b:Nat)),some (.tup [.str "two",.lst T0,.lst T1])]) (h':=h) (by simp[-dIx,f0])).trans ?_
 refine(jag (ρ':=[some Y,some (.int (st:Nat)),some (.int (b:Nat)),some (.tup [.str "two",.lst T0,.lst T1])]) (h':=h) (by simp[-dIx,f1,f2,g0,g1])).trans ?_
 have li:lIt (mBin dIx (mVar 3) (mC (.int 1))) [some Y,some (.int (st:Nat)),some (.int (b:Nat)),some (.tup [.str "two",.lst T0,.lst T1])] h= .ok (none,T0) h:=by simp[-dIx,f1]
 have lc:jcx (jgw 1 [3] (lIt (mBin dIx (mVar 3) (mC (.int 1)))) (ja8 0) (tB (mBin (dIn false) (mVar 0) (mBin dIx (mVar 1) (mC (.int 2))))) (mVar 0)) [some Y,some (.int (st:Nat)),some (.int (b:Nat)),some (.tup [.str "two",.lst T0,.lst T1])] h= .ok (.lst []) h:=by simp[-tB, -mBin, -lIt, -dIn, -dIx,li,ln,cm]
 have l2:jcx (jds mNil) [some Y,some (.int (st:Nat)),some (.int (b:Nat)),some (.tup [.str "two",.lst T0,.lst T1])] h= .ok (.lst []) h:=by simp
 have mb:∀(f:B2) (a b:ME) (ρ:Ro) (x y:D),a ρ h= .ok x h->b ρ h= .ok y h->mBin f a b ρ h=f x y h:=λf a b ρ x y e1 e2=>by simp only[mBin,e1,e2,jcz]
 show(mBin _ _ _ _ _).toS .rt=_
 rw[mb _ _ _ _ _ _ lc l2,ne,jc4]
theorem jqq(ok:jbi n sws)(st b:Nat)(h:MH):∀(ks:List Nat) (x3:Option D),(∀k∈ks,k<=100)->(ks.filter (alC sws st b)=[] /\ ∃y3,jb1 (ja8 3) jaq (nL ks) [some (yd n sws),some (.int (st:Nat)),some (.int (b:Nat)),x3] h= .nx [some (yd n sws),some (.int (st:Nat)),some (.int (b:Nat)),y3] h) \/ (ks.filter (alC sws st b)≠[] /\ jb1 (ja8 3) jaq (nL ks) [some (yd n sws),some (.int (st:Nat)),some (.int (b:Nat)),x3] h= .rt (.bl true) h)
 | [],x3,_=> .inl ⟨rfl,x3,rfl⟩
 | k::ks,x3,hk=>by
  have b1:=bitk st k
  have o1:=okp (hk k (List.mem_cons_self ..))
  have d1:=jhc st (2^k)
  have pw:=jmp ok (st - (st&&&2^k)) h
  have b2:=bitk (jci (st - (st&&&2^k)) sws) b
  have ih:=jqq ok st b h ks (some (.int (k:Nat))) λj m=>hk j (List.mem_cons_of_mem _ m)
  simp only[Int.natCast_pow,Int.cast_ofNat_Int] at d1
  have go:alC sws st b k=false->jaq [some (yd n sws),some (.int (st:Nat)),some (.int (b:Nat)),some (.int (k:Nat))] h= .nx [some (yd n sws),some (.int (st:Nat)),some (.int (b:Nat)),some (.int (k:Nat))] h:=λq=>by
   unfold alC at q
   cases q1:st.testBit k with
   | false=>
    rw[q1] at b1
    simp at b1
    simp[jaq,b1]
   | true=>
    rw[q1,Bool.and_true] at q
    have z:=of_decide_eq_false q
    rw[(jf4 _ _).mp z] at b2
    rw[q1] at b1
    simp at b1 b2
    simp[jaq,b1,o1,d1,pw,b2]
  have sp:alC sws st b k=true->jaq [some (yd n sws),some (.int (st:Nat)),some (.int (b:Nat)),some (.int (k:Nat))] h= .rt (.bl true) h:=λq=>by
   unfold alC at q
   obtain⟨q2,q1⟩:=Bool.and_eq_true_iff.mp q
   have z:=of_decide_eq_true q2
   have:(jci (st - (st&&&2^k)) sws).testBit b=false:=by
    cases y:(jci (st - (st&&&2^k)) sws).testBit b with
    | false=>rfl
    | true=>exact absurd z ((jf4 _ _).mpr y)
   rw[this] at b2
   rw[q1] at b1
   simp at b1 b2
   simp[jaq,b1,o1,d1,pw,b2]
  have un:∀r,jaq [some (yd n sws),some (.int (st:Nat)),some (.int (b:Nat)),some (.int (k:Nat))] h=r->jb1 (ja8 3) jaq (nL (k::ks)) [some (yd n sws),some (.int (st:Nat)),some (.int (b:Nat)),x3] h=(match r with
   | .nx ρ2 h2=>jb1 (ja8 3) jaq (nL ks) ρ2 h2
   | .ct ρ2 h2=>jb1 (ja8 3) jaq (nL ks) ρ2 h2
   | .bk ρ2 h2=> .nx ρ2 h2
   | r=>r):=λr e=>by
   show jb1 (ja8 3) jaq (.int (k:Nat)::nL ks) _ _=_
   rw[jb1]
   simp only[ja8,List.set_cons_succ,List.set_cons_zero,e]
   all_goals (cases r<;>rfl)
  cases q:alC sws st b k with
  | false=>
   rw[List.filter_cons_of_neg (by rw[q];simp),un _ (go q)]
   exact ih
  | true=>
   refine .inr ⟨by rw[List.filter_cons_of_pos q];simp,?_⟩
   rw[un _ (sp q)]
theorem jsl(ok:jbi n sws){st b:Nat}(hst:st<2^sws.length)(h:MH):∃r:Bool,(r=false->(jci st sws).testBit b=true /\ jiz sws st b=[]) /\ z_Qu [yd n sws,.int (st:Nat),.int (b:Nat)] h= .ok (.bl r) h:=by
 have hl:=ok.2.2.1
 have pw:=jmp ok st h
 have bt:=bitk (jci st sws) b
 have ef:(List.range sws.length).filter (alC sws st b)=jiz sws st b:=by
  unfold jiz
  rw[<-jnx hst,List.filter_filter]
  rfl
 have er:nL (List.range sws.length)=rng 0 sws.length:=(jk0 _).symm
 have i1:dIx (yd n sws) (.int 1) h= .ok (.lst (sws.map Sw.d)) h:=rfl
 have lr:jjf (ja2 (mFn fLen (ja2 (mBin dIx (mVar 0) (mC (.int 1))) mNil)) mNil) [some (yd n sws),some (.int (st:Nat)),some (.int (b:Nat)),none] h= .ok (none,rng 0 sws.length) h:=by
  have:sws.length<4611686018427387904:=by omega
  simp[-dIx, -List.map_map,i1,this]
 have lp:=jqq ok st b h (List.range sws.length) none λk m=>by have:=List.mem_range.mp m;omega
 rw[ef,er] at lp
 cases q:(jci st sws).testBit b with
 | false=>
  rw[q] at bt
  simp at bt
  refine⟨true,λz=>(by cases z),jez (np:=3) (nn:=4) rfl (show b_Qu [some (yd n sws),some (.int (st:Nat)),some (.int (b:Nat)),none] h=_ from ?_) (Nat.le_refl _)⟩
  simp[b_Qu,pw,bt]
 | true=>
  rw[q] at bt
  simp at bt
  have s1:∀B,sSeq (sIf (tB (mBin dEq (mBin dAnd (mBin dShr (jbb z_Qv (ja2 (mVar 0) (ja2 (mVar 1) mNil))) (mVar 2)) (mC (.int 1))) (mC (.int 0)))) (sRet (mC (.bl true))) jbq) B [some (yd n sws),some (.int (st:Nat)),some (.int (b:Nat)),none] h=B [some (yd n sws),some (.int (st:Nat)),some (.int (b:Nat)),none] h:=λB=>jag (by simp[pw,bt])
  rcases lp with⟨z,y3,e⟩ | ⟨z,e⟩
  ·refine⟨false,λ_=>⟨rfl,z⟩,jez (np:=3) (nn:=4) rfl (show b_Qu [some (yd n sws),some (.int (st:Nat)),some (.int (b:Nat)),none] h=_ from ?_) (Nat.le_refl _)⟩
   unfold b_Qu
   rw[s1]
   refine(jag (ρ':=[some (yd n sws),some (.int (st:Nat)),some (.int (b:Nat)),y3]) (h':=h) (by rw[jd3,lr];simp only[jc4,jb5];exact e)).trans ?_
   simp
  ·refine⟨true,λz=>(by cases z),jez (np:=3) (nn:=4) rfl (show b_Qu [some (yd n sws),some (.int (st:Nat)),some (.int (b:Nat)),none] h=_ from ?_) (Nat.le_refl _)⟩
   unfold b_Qu
   rw[s1]
   exact jup (by rw[jd3,lr];simp only[jc4,jb5];exact e)
theorem jm3{m:Nat}(hm:m<=12)(c:Int)(h:MH):∃st:Nat,st<2^m /\ z_Q4 [.int c,.int (m:Nat)] h= .ok (.int (st:Nat)) h:=by
 have o1:=okp (show m<=100 by omega)
 have pp:(0:Int)<2^m:=Int.pow_pos (by decide)
 have p0:0<2^m:=Nat.pow_pos (by decide)
 have ev:(2:Int)^m - 1=((2^m - 1:Nat):Int):=by rw[Int.ofNat_sub (by omega)];simp
 by_cases q:c % 4=0
 ·obtain⟨a,ea⟩:=jm8 (x:=c / 4 % 2^m) (Int.emod_nonneg _ (by omega))
  have la:(a:Int)<2^m:=by have:=Int.emod_lt_of_pos (c / 4) (b:=(2:Int)^m) pp;omega
  have h2:((2^m:Nat):Int)=2^m:=by simp
  exact⟨a,by omega,by simp[z_Q4,b_Q4,q,o1,pp,ea]⟩
 ·by_cases hq:c % 4=1 /\ 0<m
  ·obtain⟨q1,hm0⟩:=hq
   have m1:(0:Int)<(m:Int):=by omega
   obtain⟨a,ea⟩:=jm8 (x:=c / 4 % (m:Int)) (Int.emod_nonneg _ (by omega))
   have la:a<m:=by have:=Int.emod_lt_of_pos (c / 4) (b:=(m:Int)) m1;omega
   have oa:=okp (show a<=100 by omega)
   have d2:=jhc (2^m - 1) (2^a)
   refine⟨(2^m - 1) - ((2^m - 1)&&&2^a),Nat.lt_of_le_of_lt (Nat.sub_le _ _) (Nat.sub_lt p0 (by decide)),?_⟩
   generalize (2^m - 1) - ((2^m - 1)&&&2^a)=st at*
   generalize (2^m - 1:Nat)=evn at*
   simp at d2
   simp[z_Q4,b_Q4,q1,hm0,m1,ea,oa,o1,ev,d2]
  ·refine⟨2^m - 1,Nat.sub_lt p0 (by decide),?_⟩
   generalize (2^m - 1:Nat)=evn at*
   by_cases q1:c % 4=1
   ·have nm:¬0<m:=λz=>hq ⟨q1,z⟩
    simp[z_Q4,b_Q4,q1,nm,o1,ev]
   ·simp[z_Q4,b_Q4,q,q1,o1,ev]
theorem ju1(ok:jbi n sws){st pl:Nat}{ks:List Nat}(wp:Wp sws st pl ks):ks.length<=12:=by
 have:=jcw ks (List.range sws.length) wp.1 λk m=>by
  obtain⟨nd,f,t,a,b,rfl,hf,_,tr,hb⟩:=wp
  rcases List.mem_cons.mp m with rfl | m
  ·exact List.mem_range.mpr (List.getElem?_eq_some_iff.mp hf).1
  ·obtain⟨w,hw,_⟩:=jgy tr k m
   exact List.mem_range.mpr (List.getElem?_eq_some_iff.mp hw).1
 rw[List.length_range] at this
 have:=ok.2.2.1
 omega
theorem q0_ok(ok:jbi n sws)(ns:List Int)(v:Int)(x3 x4:Option D){h:MH}(hb:Hb h):∃y3 y4,jjv [some (.arg ns),some (yd n sws),some (.int v),x3,x4] h= .nx [some (.arg ns),some (yd n sws),some (.int v),y3,y4] h:=by
 obtain⟨st,hst,es⟩:=jm3 ok.2.2.1 (v / 16) h
 have hn0:=ok.1
 obtain⟨b,eb⟩:=jm8 (x:=v % 16 % (n:Int)) (Int.emod_nonneg _ (by omega))
 have lb:b<n:=by have:=Int.emod_lt_of_pos (v % 16) (b:=(n:Int)) (by omega);omega
 obtain⟨r,hr,eg⟩:=jsl ok (b:=b) hst h
 have i0:dIx (yd n sws) (.int 0) h= .ok (.int (n:Nat)) h:=rfl
 have i1:dIx (yd n sws) (.int 1) h= .ok (.lst (sws.map Sw.d)) h:=rfl
 have hn1:(0:Int)<(n:Int):=by omega
 have hn2:0<n:=by omega
 refine⟨some (.int (st:Nat)),some (.int (b:Nat)),?_⟩
 unfold jjv
 refine(jag (ρ':=[some (.arg ns),some (yd n sws),some (.int v),some (.int (st:Nat)),x4]) (h':=h) (by simp[-dIx, -List.map_map,i1,es])).trans ?_
 refine(jag (ρ':=[some (.arg ns),some (yd n sws),some (.int v),some (.int (st:Nat)),some (.int (b:Nat))]) (h':=h) (by simp[-dIx,i0,hn1,hn2,eb])).trans ?_
 cases r with
 | true=>simp[eg]
 | false=>
  obtain⟨h1,h2⟩:=hr rfl
  obtain⟨v0,v1,w0,w1,dj,eh⟩:=jt0 ok hst lb h hb h1 h2
  have et:=two_ok (n:=n) w0 w1 (by have:=ju1 ok w0;omega) (by have:=ju1 ok w1;omega) dj h
  have eh:z_X3 [.tup [.int (n:Nat),.lst (sws.map Sw.d)],.int (st:Nat),.int (b:Nat)] h=_:=eh
  generalize nL v0=T0 at*
  generalize nL v1=T1 at*
  simp[-dIx, -List.map_map,eg,i0,i1,eh,et]
theorem law_true(ns:List Int)(hns:ns.length<=63):∃h,z_law [.arg ns] []= .ok (.bl true) h:=by
 obtain⟨n,sws,ok,_,ey⟩:=jvz ns [] Hb.nil
 have c1:=jlz ns 1 []
 generalize ns.getD 1 0=v1 at*
 simp at c1
 obtain⟨ρ',⟨x2,x3,x4,rfl⟩,lp⟩:=jhe (g:=ja8 2) (b:=jjv) (h:=[]) (λρ=>∃x2 x3 x4,ρ=[some (.arg ns),some (yd n sws),x2,x3,x4]) (D.int v1::cut (ns.map D.int) (some 12) (some 63)) [some (.arg ns),some (yd n sws),none,none,none] ⟨_,_,_,rfl⟩ (λd m ρ ⟨x2,x3,x4,hr⟩=>by
  obtain⟨v,rfl⟩:∃v,d=D.int v:=by
   rcases List.mem_cons.mp m with rfl | m
   ·exact⟨_,rfl⟩
   ·rw[jqd] at m
    obtain⟨v,_,rfl⟩:=List.mem_map.mp m
    exact⟨v,rfl⟩
  subst hr
  obtain⟨y3,y4,e⟩:=q0_ok ok ns v x3 x4 Hb.nil
  exact⟨_,rfl,_,e,_,_,_,rfl⟩)
 have key:jr7 ([D.arg ns].map some++List.replicate (5 - [D.arg ns].length) none) []= .rt (.bl true) []:=by
  show jr7 [some (.arg ns),none,none,none,none] []=_
  unfold jr7
  refine(jag (ρ':=[some (.arg ns),some (yd n sws),none,none,none]) (h':=[]) (by simp[ey])).trans ?_
  refine(jag (ρ':=[some (.arg ns),some (yd n sws),x2,x3,x4]) (h':=[]) ?_).trans ?_
  ·have hc:(cut (ns.map D.int) (some 12) (some 63)).length<=16777215:=by
    unfold cut
    simp only[List.length_take]
    refine Nat.le_trans (Nat.min_le_left _ _) ?_
    have:sIx (ns.map D.int).length (ns.map D.int).length (some 63)<=63:=by unfold sIx;simp;omega
    omega
   have hc2:1+(cut (ns.map D.int) (some 12) (some 63)).length<=16777216:=by omega
   have li:lIt (mBin dAdd (jcx (jds (ja2 (jbb z_Qp (ja2 (mVar 0) (ja2 (mC (.int 1)) mNil))) mNil))) (mSl (mVar 0) (oSo (mC (.int 12))) (oSo (mC (.int 63))))) [some (.arg ns),some (yd n sws),none,none,none] []= .ok (none,D.int v1::cut (ns.map D.int) (some 12) (some 63)) []:=by
    simp[c1,hc2]
   rw[jd3,li]
   simp only[jc4,jb5]
   exact lp
  ·simp
 exact⟨[],jez (np:=1) (nn:=5) rfl key (Nat.le_refl _)⟩
end My
namespace My
open PySem L2
def top(i:Nat):Stmt:=PySem.Challenge.pw_earthward_k28_two_ways.main.body.getD i (.Pass ⟨0,0,0,0⟩)
abbrev s_Qr:Stmt:=jbc (top 2) 0
abbrev s_Qq:Stmt:=jbc (top 2) 2
abbrev s_Qh:Stmt:=jbc (top 3) 0
abbrev s_Qw:Stmt:=jbc (top 3) 1
abbrev s_Qa:Stmt:=jbc (top 4) 0
abbrev s_Q6:Stmt:=jbc (top 5) 0
abbrev s_Qf:Stmt:=jbc (top 5) 1
abbrev s_Q3:Stmt:=jbc (top 6) 0
abbrev s_Qb:Stmt:=jbc (top 6) 1
abbrev s_Qz:Stmt:=top 7
abbrev s_has:Stmt:=top 9
abbrev s_Qo:Stmt:=jbc (top 10) 0
abbrev s_Qk:Stmt:=jbc (top 10) 1
abbrev s_Q7:Stmt:=jbc (top 10) 2
abbrev s_Qg:Stmt:=jbc (top 10) 3
abbrev s_X5:Stmt:=top 11
abbrev s_Qx:Stmt:=top 12
abbrev s_Qs:Stmt:=top 13
abbrev s_Ql:Stmt:=top 14
abbrev s_way:Stmt:=top 15
abbrev s_Q8:Stmt:=jbc (top 17) 0
abbrev s_Qd:Stmt:=jbc (top 17) 1
abbrev s_Q0:Stmt:=jbc (top 17) 2
abbrev s_Q9:Stmt:=jbc (top 17) 3
abbrev s_Qj:Stmt:=jbc (top 17) 4
abbrev s_Q2:Stmt:=jbc (top 17) 5
abbrev s_Qm:Stmt:=jbc (top 17) 6
abbrev s_Q1:Stmt:=jbc (top 17) 8
abbrev s_Qe:Stmt:=jbc (top 17) 9
abbrev s_Q5:Stmt:=jbc (top 17) 10
abbrev s_X3:Stmt:=top 18
abbrev s_Qp:Stmt:=top 20
abbrev s_Qt:Stmt:=top 21
abbrev s_Qc:Stmt:=top 22
abbrev s_Qi:Stmt:=top 23
abbrev s_Qn:Stmt:=top 24
abbrev s_Qv:Stmt:=top 25
abbrev s_Q4:Stmt:=top 26
abbrev s_Qu:Stmt:=top 27
abbrev s_Qy:Stmt:=top 28
abbrev s_X1:Stmt:=top 29
abbrev s_law:Stmt:=top 30
theorem sc_Qr:FnScope ["self"] ["self"] (jac s_Qr):=scof
theorem sc_Qq:FnScope ["self"] ["self"] (jac s_Qq):=scof
theorem sc_Qh:FnScope ["self","bar"] ["self","bar"] (jac s_Qh):=scof
theorem sc_Qw:FnScope ["self"] ["self"] (jac s_Qw):=scof
theorem sc_Qa:FnScope ["self","bar"] ["self","bar"] (jac s_Qa):=scof
theorem sc_Q6:FnScope ["self","one","other"] ["self","one","other"] (jac s_Q6):=scof
theorem sc_Qf:FnScope ["self"] ["self"] (jac s_Qf):=scof
theorem sc_Q3:FnScope ["self","one","other"] ["self","one","other"] (jac s_Q3):=scof
theorem sc_Qb:FnScope ["self"] ["self"] (jac s_Qb):=scof
theorem sc_Qz:FnScope ["switch","kind"] ["switch"] (jac s_Qz):=scof
theorem sc_has:FnScope ["some","number"] ["some","number"] (jac s_has):=scof
theorem sc_Qo:FnScope ["self","yard"] ["self","yard"] (jac s_Qo):=scof
theorem sc_Qk:FnScope ["self","standing"] ["self","standing"] (jac s_Qk):=scof
theorem jly:FnScope ["self","standing","some","pairs","reached","ahead","pair"] ["self","standing","some"] (jac s_Q7):=scof
theorem jrq:FnScope ["self","standing","fed","switch"] ["self","standing"] (jac s_Qg):=scof
theorem sc_X5:FnScope ["some"] ["some"] (jac s_X5):=scof
theorem sc_Qx:FnScope ["some"] ["some"] (jac s_Qx):=scof
theorem joz:FnScope ["net","standing","front","reached","steps","number","switch","pair"] ["net","standing","front","reached"] (jac s_Qs):=scof
theorem jsz:FnScope ["steps","some","bar","numbers","step"] ["steps","some","bar"] (jac s_Ql):=scof
theorem jgk:FnScope ["yard","standing","some","goals","net","steps","reached","front","found"] ["yard","standing","some","goals"] (jac s_way):=scof
theorem sc_Q8:FnScope ["self","yard","standing","common","place","number"] ["self","yard","standing","common","place"] (jac s_Q8):=scof
theorem sc_Qd:FnScope ["self","switch"] ["self","switch"] (jac s_Qd):=scof
theorem sc_Q0:FnScope ["self","some"] ["self","some"] (jac s_Q0):=scof
theorem jkj:FnScope ["self","starts","steps","reached","ahead","number","bar"] ["self","starts"] (jac s_Q9):=scof
theorem jpf:FnScope ["self","steps","row","wanted","step"] ["self","steps"] (jac s_Qj):=scof
theorem sc_Q2:FnScope ["self","starts"] ["self"] (jac s_Q2):=scof
theorem jvi:FnScope ["self","row","step"] ["self"] (jac s_Qm):=scof
theorem jt4:FnScope ["self","starts","number","bar"] ["self"] (jac s_Q1):=scof
theorem jod:FnScope ["self","row","numbers","bar","step"] ["self","row"] (jac s_Qe):=scof
theorem jov:FnScope ["self","taken","row","step"] ["self"] (jac s_Q5):=scof
theorem jnu:FnScope ["yard","standing","bar","net","goal","alone","bundle","ways"] ["yard","standing","bar"] (jac s_X3):=scof
theorem sc_Qp:FnScope ["script","k"] ["script","k"] (jac s_Qp):=scof
theorem sc_Qt:FnScope ["found"] ["found"] (jac s_Qt):=scof
theorem jt3:FnScope ["cell","bars","kind","one","other"] ["cell","bars"] (jac s_Qc):=scof
theorem jma:FnScope ["cell","more","at","words","switches","k","pair","first"] ["cell","more"] (jac s_Qi):=scof
theorem jqj:FnScope ["script","first","bars"] ["script"] (jac s_Qn):=scof
theorem jgq:FnScope ["yard","standing","some","k","switch","grown","both"] ["yard","standing"] (jac s_Qv):=scof
theorem sc_Q4:FnScope ["cell","many","every"] ["cell","many"] (jac s_Q4):=scof
theorem sc_Qu:FnScope ["yard","standing","bar","k"] ["yard","standing","bar"] (jac s_Qu):=scof
theorem jno:FnScope ["yard","standing","numbers","goal","k","bar","number","switch"] ["yard","standing","numbers","goal"] (jac s_Qy):=scof
theorem sc_X1:FnScope ["yard","standing","bar","found"] ["yard","standing","bar","found"] (jac s_X1):=scof
theorem jkk:FnScope ["script","yard","cell","standing","bar"] ["script"] (jac s_law):=scof
set_option genInjectivity false in
structure Txt (P:Program) (w:World) (K:W.Frag) (mg:Str->Option Value) where
 c_X6:Addr
 C_X6:ClsT K mg "Switch" c_X6
 f_Qr:Addr
 fd_Qr:FuncData
 mt_Qr:Meth K c_X6 "feeds" f_Qr
 H_Qr:FnM K "feeds" "Switch.feeds" s_Qr f_Qr fd_Qr ["self"]
 f_Qq:Addr
 fd_Qq:FuncData
 mt_Qq:Meth K c_X6 "joins" f_Qq
 H_Qq:FnM K "joins" "Switch.joins" s_Qq f_Qq fd_Qq ["self"]
 c_X8:Addr
 C_X8:ClsT K mg "Feed" c_X8
 f_Qh:Addr
 fd_Qh:FuncData
 mt_Qh:Meth K c_X8 "__init__" f_Qh
 H_Qh:FnM K "__init__" "Feed.__init__" s_Qh f_Qh fd_Qh ["self","bar"]
 f_Qw:Addr
 fd_Qw:FuncData
 mt_Qw:Meth K c_X8 "feeds" f_Qw
 H_Qw:FnM K "feeds" "Feed.feeds" s_Qw f_Qw fd_Qw ["self"]
 mt_Feed_joins:Meth K c_X8 "joins" f_Qq
 na_Feed_bar:jbw K c_X8 "bar"
 c_X7:Addr
 C_X7:ClsT K mg "Earth" c_X7
 f_Qa:Addr
 fd_Qa:FuncData
 mt_Qa:Meth K c_X7 "__init__" f_Qa
 H_Qa:FnM K "__init__" "Earth.__init__" s_Qa f_Qa fd_Qa ["self","bar"]
 mt_Earth_feeds:Meth K c_X7 "feeds" f_Qr
 mt_Earth_joins:Meth K c_X7 "joins" f_Qq
 na_Earth_bar:jbw K c_X7 "bar"
 c_X2:Addr
 C_X2:ClsT K mg "Breaker" c_X2
 f_Q6:Addr
 fd_Q6:FuncData
 mt_Q6:Meth K c_X2 "__init__" f_Q6
 H_Q6:FnM K "__init__" "Breaker.__init__" s_Q6 f_Q6 fd_Q6 ["self","one","other"]
 f_Qf:Addr
 fd_Qf:FuncData
 mt_Qf:Meth K c_X2 "joins" f_Qf
 H_Qf:FnM K "joins" "Breaker.joins" s_Qf f_Qf fd_Qf ["self"]
 mt_Breaker_feeds:Meth K c_X2 "feeds" f_Qr
 na_Breaker_one:jbw K c_X2 "one"
 na_Breaker_other:jbw K c_X2 "other"
 c_X0:Addr
 C_X0:ClsT K mg "Splitter" c_X0
 f_Q3:Addr
 fd_Q3:FuncData
 mt_Q3:Meth K c_X0 "__init__" f_Q3
 H_Q3:FnM K "__init__" "Splitter.__init__" s_Q3 f_Q3 fd_Q3 ["self","one","other"]
 f_Qb:Addr
 fd_Qb:FuncData
 mt_Qb:Meth K c_X0 "joins" f_Qb
 H_Qb:FnM K "joins" "Splitter.joins" s_Qb f_Qb fd_Qb ["self"]
 mt_Splitter_feeds:Meth K c_X0 "feeds" f_Qr
 na_Splitter_one:jbw K c_X0 "one"
 na_Splitter_other:jbw K c_X0 "other"
 c_Net:Addr
 C_Net:ClsT K mg "Net" c_Net
 f_Qo:Addr
 fd_Qo:FuncData
 mt_Qo:Meth K c_Net "__init__" f_Qo
 H_Qo:FnM K "__init__" "Net.__init__" s_Qo f_Qo fd_Qo ["self","yard"]
 f_Qk:Addr
 fd_Qk:FuncData
 mt_Qk:Meth K c_Net "shut_ones" f_Qk
 H_Qk:FnM K "shut_ones" "Net.shut_ones" s_Qk f_Qk fd_Qk ["self","standing"]
 f_Q7:Addr
 fd_Q7:FuncData
 mt_Q7:Meth K c_Net "joined_bars" f_Q7
 H_Q7:FnM K "joined_bars" "Net.joined_bars" s_Q7 f_Q7 fd_Q7 ["self","standing","some"]
 f_Qg:Addr
 fd_Qg:FuncData
 mt_Qg:Meth K c_Net "live_bars" f_Qg
 H_Qg:FnM K "live_bars" "Net.live_bars" s_Qg f_Qg fd_Qg ["self","standing"]
 na_Net_switches:jbw K c_Net "switches"
 c_X4:Addr
 C_X4:ClsT K mg "Bundle" c_X4
 f_Q8:Addr
 fd_Q8:FuncData
 mt_Q8:Meth K c_X4 "__init__" f_Q8
 H_Q8:FnM K "__init__" "Bundle.__init__" s_Q8 f_Q8 fd_Q8 ["self","yard","standing","common","place"]
 f_Qd:Addr
 fd_Qd:FuncData
 mt_Qd:Meth K c_X4 "pair_of" f_Qd
 H_Qd:FnM K "pair_of" "Bundle.pair_of" s_Qd f_Qd fd_Qd ["self","switch"]
 f_Q0:Addr
 fd_Q0:FuncData
 mt_Q0:Meth K c_X4 "joined_in_common" f_Q0
 H_Q0:FnM K "joined_in_common" "Bundle.joined_in_common" s_Q0 f_Q0 fd_Q0 ["self","some"]
 f_Q9:Addr
 fd_Q9:FuncData
 mt_Q9:Meth K c_X4 "steps_by" f_Q9
 H_Q9:FnM K "steps_by" "Bundle.steps_by" s_Q9 f_Q9 fd_Q9 ["self","starts"]
 f_Qj:Addr
 fd_Qj:FuncData
 mt_Qj:Meth K c_X4 "row_in" f_Qj
 H_Qj:FnM K "row_in" "Bundle.row_in" s_Qj f_Qj fd_Qj ["self","steps"]
 f_Q2:Addr
 fd_Q2:FuncData
 mt_Q2:Meth K c_X4 "steps_left" f_Q2
 H_Q2:FnM K "steps_left" "Bundle.steps_left" s_Q2 f_Q2 fd_Q2 ["self"]
 f_Qm:Addr
 fd_Qm:FuncData
 mt_Qm:Meth K c_X4 "widen" f_Qm
 H_Qm:FnM K "widen" "Bundle.widen" s_Qm f_Qm fd_Qm ["self"]
 f_Q1:Addr
 fd_Q1:FuncData
 mt_Q1:Meth K c_X4 "row_of_a_way" f_Q1
 H_Q1:FnM K "row_of_a_way" "Bundle.row_of_a_way" s_Q1 f_Q1 fd_Q1 ["self"]
 f_Qe:Addr
 fd_Qe:FuncData
 mt_Qe:Meth K c_X4 "way_by" f_Qe
 H_Qe:FnM K "way_by" "Bundle.way_by" s_Qe f_Qe fd_Qe ["self","row"]
 f_Q5:Addr
 fd_Q5:FuncData
 mt_Q5:Meth K c_X4 "take_ways" f_Q5
 H_Q5:FnM K "take_ways" "Bundle.take_ways" s_Q5 f_Q5 fd_Q5 ["self"]
 na_Bundle_common:jbw K c_X4 "common"
 na_Bundle_goals:jbw K c_X4 "goals"
 na_Bundle_net:jbw K c_X4 "net"
 na_Bundle_pairs:jbw K c_X4 "pairs"
 na_Bundle_place:jbw K c_X4 "place"
 na_Bundle_power:jbw K c_X4 "power"
 na_Bundle_yard:jbw K c_X4 "yard"
 f_Qz:Addr
 fd_Qz:FuncData
 H_Qz:FnT K mg "switch_of" "switch_of" s_Qz f_Qz fd_Qz ["switch"]
 f_has:Addr
 fd_has:FuncData
 H_has:FnT K mg "has" "has" s_has f_has fd_has ["some","number"]
 f_X5:Addr
 fd_X5:FuncData
 H_X5:FnT K mg "lowest" "lowest" s_X5 f_X5 fd_X5 ["some"]
 f_Qx:Addr
 fd_Qx:FuncData
 H_Qx:FnT K mg "numbers_in" "numbers_in" s_Qx f_Qx fd_Qx ["some"]
 f_Qs:Addr
 fd_Qs:FuncData
 H_Qs:FnT K mg "steps_from" "steps_from" s_Qs f_Qs fd_Qs ["net","standing","front","reached"]
 f_Ql:Addr
 fd_Ql:FuncData
 H_Ql:FnT K mg "numbers_back" "numbers_back" s_Ql f_Ql fd_Ql ["steps","some","bar"]
 f_way:Addr
 fd_way:FuncData
 H_way:FnT K mg "way" "way" s_way f_way fd_way ["yard","standing","some","goals"]
 f_X3:Addr
 fd_X3:FuncData
 H_X3:FnT K mg "hanging" "hanging" s_X3 f_X3 fd_X3 ["yard","standing","bar"]
 f_Qp:Addr
 fd_Qp:FuncData
 H_Qp:FnT K mg "_law_cell_at" "_law_cell_at" s_Qp f_Qp fd_Qp ["script","k"]
 f_Qt:Addr
 fd_Qt:FuncData
 H_Qt:FnT K mg "_law_whole" "_law_whole" s_Qt f_Qt fd_Qt ["found"]
 f_Qc:Addr
 fd_Qc:FuncData
 H_Qc:FnT K mg "_law_switch_by" "_law_switch_by" s_Qc f_Qc fd_Qc ["cell","bars"]
 f_Qi:Addr
 fd_Qi:FuncData
 H_Qi:FnT K mg "_law_crossing" "_law_crossing" s_Qi f_Qi fd_Qi ["cell","more"]
 f_Qn:Addr
 fd_Qn:FuncData
 H_Qn:FnT K mg "_law_yard_by" "_law_yard_by" s_Qn f_Qn fd_Qn ["script"]
 f_Qv:Addr
 fd_Qv:FuncData
 H_Qv:FnT K mg "_law_power" "_law_power" s_Qv f_Qv fd_Qv ["yard","standing"]
 f_Q4:Addr
 fd_Q4:FuncData
 H_Q4:FnT K mg "_law_standing_by" "_law_standing_by" s_Q4 f_Q4 fd_Q4 ["cell","many"]
 f_Qu:Addr
 fd_Qu:FuncData
 H_Qu:FnT K mg "_law_hangs" "_law_hangs" s_Qu f_Qu fd_Qu ["yard","standing","bar"]
 f_Qy:Addr
 fd_Qy:FuncData
 H_Qy:FnT K mg "_law_goes" "_law_goes" s_Qy f_Qy fd_Qy ["yard","standing","numbers","goal"]
 f_X1:Addr
 fd_X1:FuncData
 H_X1:FnT K mg "_law_two" "_law_two" s_X1 f_X1 fd_X1 ["yard","standing","bar","found"]
 f_law:Addr
 fd_law:FuncData
 H_law:FnT K mg "law" "law" s_law f_law fd_law ["script"]
 b_len:mg "len"=none
 b_sum:mg "sum"=none
 b_isinstance:mg "isinstance"=none
 b_int:mg "int"=none
 b_bool:mg "bool"=none
 b_list:mg "list"=none
 b_tuple:mg "tuple"=none
 b_range:mg "range"=none
 b_reversed:mg "reversed"=none
 b_enumerate:mg "enumerate"=none
 b_dict:mg "dict"=none
 Bl:∀(s:Shared) (u:Value),BindsTo s fd_law ⟨[u],[]⟩ [("script",u)]
section
variable {P : Program} {w : World} {K : W.Frag} {mg : Str -> Option Value} (T : Txt P w K mg)
theorem Txt.k_X8:GV mg "Feed" (.ref T.c_X8):=T.C_X8.k
theorem Txt.k_X7:GV mg "Earth" (.ref T.c_X7):=T.C_X7.k
theorem Txt.k_X2:GV mg "Breaker" (.ref T.c_X2):=T.C_X2.k
theorem Txt.k_X0:GV mg "Splitter" (.ref T.c_X0):=T.C_X0.k
theorem Txt.k_Net:GV mg "Net" (.ref T.c_Net):=T.C_Net.k
theorem Txt.k_X4:GV mg "Bundle" (.ref T.c_X4):=T.C_X4.k
end
def cmOf{P:Program}{w:World}{K:W.Frag}{mg:Str->Option Value}(T:Txt P w K mg)(n:String):Addr:=
 if n="Switch" then T.c_X6 else
 if n="Feed" then T.c_X8 else
 if n="Earth" then T.c_X7 else
 if n="Breaker" then T.c_X2 else
 if n="Splitter" then T.c_X0 else
 if n="Net" then T.c_Net else
 if n="Bundle" then T.c_X4 else
 0
abbrev ct{P:Program}{w:World}{K:W.Frag}{mg:Str->Option Value}(T:Txt P w K mg):Ct:=⟨P,w,K,cmOf T⟩
section
variable {P : Program} {w : World} {K : W.Frag} {mg : Str -> Option Value} {base : Heap} (T : Txt P w K mg)
theorem cm_X6:cmOf T "Switch"=T.c_X6:=by simp[cmOf]
theorem jsw:cmOf T "Feed"=T.c_X8:=by simp[cmOf]
theorem jso:cmOf T "Earth"=T.c_X7:=by simp[cmOf]
theorem jqx:cmOf T "Breaker"=T.c_X2:=by simp[cmOf]
theorem jpn:cmOf T "Splitter"=T.c_X0:=by simp[cmOf]
theorem jhs:cmOf T "Net"=T.c_Net:=by simp[cmOf]
theorem jer:cmOf T "Bundle"=T.c_X4:=by simp[cmOf]
theorem jpo:jej (ct T) "bar" jj5:=(fldc (jsw T) T.C_X8.cl T.na_Feed_bar (fldc (jso T) T.C_X7.cl T.na_Earth_bar jda))
theorem jfm:jej (ct T) "common" jct:=(fldc (jer T) T.C_X4.cl T.na_Bundle_common jda)
theorem je4:jej (ct T) "goals" jcb:=(fldc (jer T) T.C_X4.cl T.na_Bundle_goals jda)
theorem jpc:jej (ct T) "net" jfa:=(fldc (jer T) T.C_X4.cl T.na_Bundle_net jda)
theorem jnc:jej (ct T) "one" jgi:=(fldc (jqx T) T.C_X2.cl T.na_Breaker_one (fldc (jpn T) T.C_X0.cl T.na_Splitter_one jda))
theorem jh4:jej (ct T) "other" jdm:=(fldc (jqx T) T.C_X2.cl T.na_Breaker_other (fldc (jpn T) T.C_X0.cl T.na_Splitter_other jda))
theorem je7:jej (ct T) "pairs" jbn:=(fldc (jer T) T.C_X4.cl T.na_Bundle_pairs jda)
theorem jh5:jej (ct T) "place" jdj:=(fldc (jer T) T.C_X4.cl T.na_Bundle_place jda)
theorem jgz:jej (ct T) "power" jed:=(fldc (jer T) T.C_X4.cl T.na_Bundle_power jda)
theorem je6:jej (ct T) "switches" jaz:=(fldc (jhs T) T.C_Net.cl T.na_Net_switches jda)
theorem jmd:jej (ct T) "yard" jg6:=(fldc (jer T) T.C_X4.cl T.na_Bundle_yard jda)
seal PE PA PS PSs
local macro_rules | `(tactic| trivial) => `(tactic| first | exact Or.inl rfl | exact Or.inr rfl)
theorem jui:FnOk P w K mg base (CXE P w) 1 T.f_Qp T.fd_Qp ["script","k"] (spZ (ct T) z_Qp):=by
 refine okZ2 (b:=b_Qp) T.H_Qp.F sc_Qp λcdv A outer s H E hr=> ?_
 have hu:=hr.units
 refine⟨_,(ja3 (jc8 (jar (jsy) (pv 1) (jc1 (jcs (P:=P) (w:=w) (K:=K) rfl rfl rfl) (by rfl) T.b_len jge (ja0 (pv 0) ja7)) (jb0 _)) (ja6 (jan (ixq P w K hu (pv 0) (pv 1)))) jaw)
   (ja6 (jan ja5))),?_⟩
 exact(ja9 (jc9 (jas (s_op jru ja1 (s_cb jgl (ja4 ja1 jae)))) (jam (s_ix ja1 ja1)) jax)
   (jam jab))
theorem ok_Qc:FnOk P w K mg base (CXE P w) 1 T.f_Qc T.fd_Qc ["cell","bars"] (spZ (ct T) z_Qc):=by
 refine okZ2 (b:=b_Qc) T.H_Qc.F jt3 λcdv A outer s H E hr=> ?_
 have hu:=hr.units
 refine⟨_,(ja3 (jaj (i:=2) jt3.nd rfl (by trivial) (jah jcf (pv 0) ja5))
   (ja3 (jaj (i:=3) jt3.nd rfl (by trivial) (jah jcf (jah jcn (pv 0) ja5) (pv 1)))
   (ja3 (jc8 (PW.pt (jij (jar (jsy) (pv 2) ja5 (jb0 _)) (jgh (PW.pt (jep (jar (jbx hu) (pv 1) ja5 (jb0 _)) (jdr (jar (jsy) (pv 2) ja5 (jb0 _)))))))) (ja6 (jan (jc5 (ja0 jd1 (ja0 (pv 3) ja7))))) jaw)
   (ja3 (jc8 (PW.pt (jij (jar (jbx hu) (pv 2) ja5 (jb0 _)) (jgh (jar (jbx hu) (pv 1) ja5 (jb0 _))))) (ja6 (jan (jc5 (ja0 jd1 (ja0 (pv 3) ja7))))) jaw)
   (ja3 (jaj (i:=4) jt3.nd rfl (by trivial) (jah jcf (jah (jdq (K:=K) rfl) (jah (jdq (K:=K) rfl) (pv 3) ja5) (jah jcf (jah jcn (jah jcn (pv 0) ja5) (pv 1)) (jah jpa (pv 1) ja5))) (pv 1)))
   (ja6 (jan (jc5 (ja0 (ixq P w K hu (jdy (ja0 jd1 (ja0 jd1 ja7))) (jah jcf (pv 2) ja5)) (ja0 (pv 3) (ja0 (pv 4) ja7))))))))))),?_⟩
 exact(ja9 (jai (s_op jcg ja1 jab) jaa)
   (ja9 (jai (s_op jcg (s_op je2 ja1 jab) ja1) jaa)
   (ja9 (jc9 (jir (jas (s_op jru ja1 jab)) (jeo (jas (s_op jd7 ja1 jab)) (jas (s_op jru ja1 jab)))) (jam (jdh (ja4 jf6 (ja4 ja1 jae)))) jax)
   (ja9 (jc9 (jir (jas (s_op jd7 ja1 jab)) (jas (s_op jd7 ja1 jab))) (jam (jdh (ja4 jf6 (ja4 ja1 jae)))) jax)
   (ja9 (jai (s_op jcg (s_op jff (s_op jff ja1 jab) (s_op jcg (s_op je2 (s_op je2 ja1 jab) ja1) (s_op jor ja1 jab))) ja1) jaa)
   (jam (jdh (ja4 (s_ix (jcu (jdt (ja4 jf6 (ja4 jf6 jae)))) (s_op jcg ja1 jab)) (ja4 ja1 (ja4 ja1 jae))))))))))
theorem ok_Qi:FnOk P w K mg base (CXE P w) 2 T.f_Qi T.fd_Qi ["cell","more"] (spZ (ct T) z_Qi):=by
 refine okZ2 (b:=b_Qi) T.H_Qi.F jma λcdv A outer s H E hr=> ?_
 have hu:=hr.units
 refine⟨_,(ja3 (jaj (i:=2) jma.nd rfl (by trivial) (jah jcf (pv 0) ja5))
   (ja3 (jjx (i:=3) jma.nd rfl (by trivial) (CompOk.mk (tgs:=["k"]) (cap:=["cell"]) (idx:=[0]) rfl rfl (by decide+kernel) (by decide+kernel) (List.forall_mem_cons.mpr ⟨rfl,(List.forall_mem_nil _)⟩) rfl (.cons rfl (by trivial) (by trivial) rfl rfl .nil)) rfl (jfl rfl T.b_range (ja0 ja5 ja7)) (jec (by decide)) (λ_ _ _ _=>(jav (i:=0) (show List.Nodup (α:=PySem.Str) ["k","cell"] by decide+kernel) rfl (by trivial))) (λ_ _ _ _=>jnb) (λ_ _ _ _=>(ixq P w K hu (jdy (ja0 jd1 (ja0 jd1 ja7))) (jah jcf (jah jcn (jah jcn (pv 1) ja5) (jah jd2 ja5 (pv 0))) ja5))))
   (ja3 (jaj (i:=4) jma.nd rfl (by trivial) (jdy (ja0 (jc5 (ja0 jd1 (ja0 (pv 2) ja7))) (ja0 (jc5 (ja0 jd1 (ja0 (pv 2) ja7))) ja7))))
   (ja3 (jcr ownE rfl (jfy (K:=K) rfl (jhp rfl T.b_enumerate (ja0 (jdy (ja0 (jc5 (ja0 ja5 (ja0 ja5 ja7))) (ja0 (jc5 (ja0 ja5 (ja0 ja5 ja7))) (ja0 (jc5 (ja0 ja5 (ja0 ja5 ja7))) (ja0 (jc5 (ja0 ja5 (ja0 ja5 ja7))) (ja0 (jc5 (ja0 ja5 (ja0 ja5 ja7))) (ja0 (jc5 (ja0 ja5 (ja0 ja5 ja7))) (ja0 (jc5 (ja0 ja5 (ja0 ja5 ja7))) (ja0 (jc5 (ja0 ja5 (ja0 ja5 ja7))) (ja0 (jc5 (ja0 ja5 (ja0 ja5 ja7))) ja7)))))))))) ja7))) (jgc (K:=K) rfl (jj3 (n:=2) rfl (jcc (jav (i:=5) jma.nd rfl (by trivial)) (jcc (jav (i:=6) jma.nd rfl (by trivial)) jg5)))) (ja6 (jcl (jfe (K:=K) rfl (jii PySem.F.plainAttrs_list PySem.F.slot_list_append PySem.F.type_list_append jde (pv 4) (ja0 (jc5 (ja0 (ixq P w K hu (pv 3) (pv 5)) (ja0 (jah jcf (jah (jdq (K:=K) rfl) (ixq P w K hu (pv 6) ja5) (pv 2)) ja5) (ja0 (jah jcf (jah (jdq (K:=K) rfl) (ixq P w K hu (pv 6) ja5) (pv 2)) ja5) ja7)))) ja7))))))
   (ja3 (jaj (i:=7) jma.nd rfl (by trivial) (jah jcf (jah jcn (pv 0) ja5) ja5))
   (ja6 (jan (jah (jdq (K:=K) rfl) (jah (jdq (K:=K) rfl) (je9 (sl_K (K:=K) rfl) (pv 4) (je5 (pv 7)) jht) (je9 (sl_K (K:=K) rfl) (pv 4) jht (je5 (pv 7)))) (jdy (ja0 (pe_g (gOf T.H_Qc (ok_Qc T)) (hm hr) jb2 (ja0 (pv 1) (ja0 ja5 ja7))) ja7)))))))))),?_⟩
 exact(ja9 (jai (s_op jcg ja1 jab) jaa)
   (ja9 (jr8 (jcu (jgg (jk8 (ja4 jab jae)) jaa jro (s_ix (jcu (jdt (ja4 jf6 (ja4 jf6 jae)))) (s_op jcg (s_op je2 (s_op je2 ja1 jab) (s_op jd0 jab ja1)) jab)))))
   (ja9 (jai (jia (jdt (ja4 (jdh (ja4 jf6 (ja4 ja1 jae))) (ja4 (jdh (ja4 jf6 (ja4 ja1 jae))) jae)))) jaa)
   (ja9 (jdf (jib (ja4 (jcu (jdt (ja4 (jdh (ja4 jab (ja4 jab jae))) (ja4 (jdh (ja4 jab (ja4 jab jae))) (ja4 (jdh (ja4 jab (ja4 jab jae))) (ja4 (jdh (ja4 jab (ja4 jab jae))) (ja4 (jdh (ja4 jab (ja4 jab jae))) (ja4 (jdh (ja4 jab (ja4 jab jae))) (ja4 (jdh (ja4 jab (ja4 jab jae))) (ja4 (jdh (ja4 jab (ja4 jab jae))) (ja4 (jdh (ja4 jab (ja4 jab jae))) jae))))))))))) jae)) (jix rfl (jce (jce jg2))) (je0 ja1 (jdh (ja4 (s_ix ja1 ja1) (ja4 (s_op jcg (s_op jff (s_ix ja1 jab) ja1) jab) (ja4 (s_op jcg (s_op jff (s_ix ja1 jab) ja1) jab) jae))))))
   (ja9 (jai (s_op jcg (s_op je2 ja1 jab) jab) jaa)
   (jet (i:=4) (jam (s_op jff (s_op jff (s_sl ja1 (jk9 ja1) jpd) (s_sl ja1 jpd (jk9 ja1))) (jcu (jdt (ja4 (jbm (ja4 ja1 (ja4 jab jae))) jae)))))))))))
theorem ok_Qn:FnOk P w K mg base (CXE P w) 3 T.f_Qn T.fd_Qn ["script"] (spZ (ct T) z_Qn):=by
 refine okZ2 (b:=b_Qn) T.H_Qn.F jqj λcdv A outer s H E hr=> ?_
 have hu:=hr.units
 refine⟨_,(ja3 (jaj (i:=1) jqj.nd rfl (by trivial) (pe_g (gOf T.H_Qp (jui T)) (hm hr) jb2 (ja0 (pv 0) (ja0 ja5 ja7))))
   (ja3 (jc8 (jar (jbx hu) (jah jcf (pv 1) ja5) ja5 (jb0 _)) (ja6 (jan (jc5 (ja0 ja5 (ja0 (pe_g (gOf T.H_Qi (ok_Qi T)) (hm hr) jb2 (ja0 (jah jcn (pv 1) ja5) (ja0 (pe_g (gOf T.H_Qp (jui T)) (hm hr) jb2 (ja0 (pv 0) (ja0 ja5 ja7))) ja7))) ja7))))) jaw)
   (ja3 (jaj (i:=1) jqj.nd rfl (by trivial) (jah jcn (pv 1) ja5))
   (ja3 (jaj (i:=2) jqj.nd rfl (by trivial) (jah (jdq (K:=K) rfl) ja5 (jah jcf (pv 1) ja5)))
   (ja3 (jc8 (jar (jbx hu) (jah jcf (jah jcn (pv 1) ja5) ja5) ja5 (jb0 _)) (ja6 (jaj (i:=2) jqj.nd rfl (by trivial) (jah (jdq (K:=K) rfl) ja5 (jah jcf (jah jcn (pv 1) ja5) ja5)))) jaw)
   (ja6 (jan (jc5 (ja0 (pv 2) (ja0 (jp3 (CompOk.mk (tgs:=["cell"]) (cap:=["bars"]) (idx:=[2]) rfl rfl (by decide+kernel) (by decide+kernel) (List.forall_mem_cons.mpr ⟨rfl,(List.forall_mem_nil _)⟩) rfl (.cons rfl (by trivial) (by trivial) rfl rfl .nil)) rfl (pi_K (K:=K) rfl (je9 (sl_K (K:=K) rfl) (pv 0) (je5 ja5) (je5 ja5))) (jec (by decide)) (λ_ _ _ _=>(jav (i:=0) (show List.Nodup (α:=PySem.Str) ["cell","bars"] by decide+kernel) rfl (by trivial))) (λ_ _ _ _=>jnb) (λ_ _ _ _=>(pe_g (gOf T.H_Qc (ok_Qc T)) (hm hr) jiu (ja0 (pv 0) (ja0 (pv 1) ja7))))) ja7)))))))))),?_⟩
 exact(ja9 (jai (jbm (ja4 ja1 (ja4 jab jae))) jaa)
   (ja9 (jc9 (jas (s_op jd7 (s_op jcg ja1 jab) jab)) (jam (jdh (ja4 jab (ja4 (jbm (ja4 (s_op je2 ja1 jab) (ja4 (jbm (ja4 ja1 (ja4 jab jae))) jae))) jae)))) jax)
   (ja9 (jai (s_op je2 ja1 jab) jaa)
   (ja9 (jai (s_op jff jab (s_op jcg ja1 jab)) jaa)
   (ja9 (jc9 (jas (s_op jd7 (s_op jcg (s_op je2 ja1 jab) jab) jab)) (jai (s_op jff jab (s_op jcg (s_op je2 ja1 jab) jab)) jaa) jax)
   (jam (jdh (ja4 ja1 (ja4 (jcu (jgg (si_V (s_sl ja1 (jk9 jab) (jk9 jab))) jaa jro (jbm (ja4 ja1 (ja4 ja1 jae))))) jae)))))))))
theorem ok_Q4:FnOk P w K mg base (CXE P w) 1 T.f_Q4 T.fd_Q4 ["cell","many"] (spZ (ct T) z_Q4):=by
 refine okZ2 (b:=b_Q4) T.H_Q4.F sc_Q4 λcdv A outer s H E hr=> ?_
 have hu:=hr.units
 refine⟨_,(ja3 (jaj (i:=2) sc_Q4.nd rfl (by trivial) (jah jpa (jah jd2 ja5 (pv 1)) ja5))
   (ja3 (jc8 (jar (jbx hu) (jah jcf (pv 0) ja5) ja5 (jb0 _)) (ja6 (jan (jah jcf (jah jcn (pv 0) ja5) (jah jd2 ja5 (pv 1))))) jaw)
   (ja3 (jc8 (PW.pt (jep (jar (jbx hu) (jah jcf (pv 0) ja5) ja5 (jb0 _)) (jdr (jar (op_gt) (pv 1) ja5 (jb0 _))))) (ja6 (jan (jah jbh (pv 2) (ji0 jfb (jah jd2 ja5 (jah jcf (jah jcn (pv 0) ja5) (pv 1))))))) jaw)
   (ja6 (jan (pv 2)))))),?_⟩
 exact(ja9 (jai (s_op jor (s_op jd0 jab ja1) jab) jaa)
   (ja9 (jc9 (jas (s_op jd7 (s_op jcg ja1 jab) jab)) (jam (s_op jcg (s_op je2 ja1 jab) (s_op jd0 jab ja1))) jax)
   (ja9 (jc9 (jeo (jas (s_op jd7 (s_op jcg ja1 jab) jab)) (jas (s_op s2_gt ja1 jab))) (jam (s_op jbg ja1 (s_un jf8 (s_op jd0 jab (s_op jcg (s_op je2 ja1 jab) ja1))))) jax)
   (jam ja1))))
theorem ok_Qv:FnOk P w K mg base (CXE P w) 1 T.f_Qv T.fd_Qv ["yard","standing"] (spZ (ct T) z_Qv):=by
 refine okZ2 (b:=b_Qv) T.H_Qv.F jgq λcdv A outer s H E hr=> ?_
 have hu:=hr.units
 refine⟨_,(ja3 (jaj (i:=2) jgq.nd rfl (by trivial) ja5)
   (ja3 (jcr ownE rfl (jfy (K:=K) rfl (jhp rfl T.b_enumerate (ja0 (ixq P w K hu (pv 0) ja5) ja7))) (jgc (K:=K) rfl (jj3 (n:=2) rfl (jcc (jav (i:=3) jgq.nd rfl (by trivial)) (jcc (jav (i:=4) jgq.nd rfl (by trivial)) jg5)))) (ja6 (jc8 (PW.pt (jep (jar (jbx hu) (jah jbh (jah jhg (pv 1) (pv 3)) ja5) ja5 (jb0 _)) (jdr (jar (jbx hu) (ixq P w K hu (pv 4) ja5) jd1 (jb0 _))))) (ja6 (jaj (i:=2) jgq.nd rfl (by trivial) (jah jip (pv 2) (jah jd2 ja5 (ixq P w K hu (pv 4) ja5))))) jaw)))
   (ja3 (jaj (i:=5) jgq.nd rfl (by trivial) jfs)
   (ja3 (jex ownE (jao (K:=K) rfl (pv 5) (λ_=>rfl)) (ja3 (jaj (i:=5) jgq.nd rfl (by trivial) jfs)
   (ja6 (jcr ownE rfl (jfy (K:=K) rfl (jhp rfl T.b_enumerate (ja0 (ixq P w K hu (pv 0) ja5) ja7))) (jgc (K:=K) rfl (jj3 (n:=2) rfl (jcc (jav (i:=3) jgq.nd rfl (by trivial)) (jcc (jav (i:=4) jgq.nd rfl (by trivial)) jg5)))) (ja6 (jc8 (PW.pt (jep (jar (jbx hu) (jah jbh (jah jhg (pv 1) (pv 3)) ja5) ja5 (jb0 _)) (jdr (jar (jbx hu) (jc1 (jcs (P:=P) (w:=w) (K:=K) rfl rfl rfl) (by rfl) T.b_len jge (ja0 (pv 4) ja7)) ja5 (jb0 _))))) (ja3 (jaj (i:=6) jgq.nd rfl (by trivial) (jah jip (jah jd2 ja5 (ixq P w K hu (pv 4) ja5)) (jah jd2 ja5 (ixq P w K hu (pv 4) ja5))))
   (ja6 (jc8 (PW.pt (jep (jar (jgn hu) (jah jbh (pv 2) (pv 6)) ja5 (jb0 _)) (jdr (jar (jgn hu) (jah jbh (pv 2) (pv 6)) (pv 6) (jb0 _))))) (ja3 (jaj (i:=2) jgq.nd rfl (by trivial) (jah jip (pv 2) (pv 6)))
   (ja6 (jaj (i:=5) jgq.nd rfl (by trivial) jfs))) jaw))) jaw))))))
   (ja6 (jan (pv 2))))))),?_⟩
 exact(ja9 (jai jab jaa)
   (ja9 (jdf (jib (ja4 (s_ix ja1 jab) jae)) (jix rfl (jce (jce jg2))) (jc9 (jeo (jas (s_op jd7 (s_op jbg (s_op jie ja1 ja1) jab) jab)) (jas (s_op jd7 (s_ix ja1 jab) jf6))) (jai (s_op jim ja1 (s_op jd0 jab (s_ix ja1 jab))) jaa) jax))
   (ja9 (jai s_bl jaa)
   (ja9 (jf0 (jb8 ja1) (ja9 (jai s_bl jaa)
   (jdf (jib (ja4 (s_ix ja1 jab) jae)) (jix rfl (jce (jce jg2))) (jc9 (jeo (jas (s_op jd7 (s_op jbg (s_op jie ja1 ja1) jab) jab)) (jas (s_op jd7 (s_cb jgl (ja4 ja1 jae)) jab))) (ja9 (jai (s_op jim (s_op jd0 jab (s_ix ja1 jab)) (s_op jd0 jab (s_ix ja1 jab))) jaa)
   (jc9 (jeo (jas (s_op jky (s_op jbg ja1 ja1) jab)) (jas (s_op jky (s_op jbg ja1 ja1) ja1))) (ja9 (jai (s_op jim ja1 ja1) jaa)
   (jai s_bl jaa)) jax)) jax))))
   (jam ja1)))))
theorem ok_Qu:FnOk P w K mg base (CXE P w) 2 T.f_Qu T.fd_Qu ["yard","standing","bar"] (spZ (ct T) z_Qu):=by
 refine okZ2 (b:=b_Qu) T.H_Qu.F sc_Qu λcdv A outer s H E hr=> ?_
 have hu:=hr.units
 refine⟨_,(ja3 (jc8 (jar (jbx hu) (jah jbh (jah jhg (pe_g (gOf T.H_Qv (ok_Qv T)) (hm hr) jb2 (ja0 (pv 0) (ja0 (pv 1) ja7))) (pv 2)) ja5) ja5 (jb0 _)) (ja6 (jan jfs)) jaw)
   (ja3 (jcr ownE rfl (jfl rfl T.b_range (ja0 (jc1 (jcs (P:=P) (w:=w) (K:=K) rfl rfl rfl) (by rfl) T.b_len jge (ja0 (ixq P w K hu (pv 0) ja5) ja7)) ja7)) (jav (i:=3) sc_Qu.nd rfl (by trivial)) (ja6 (jc8 (PW.pt (jep (jar (jbx hu) (jah jbh (jah jhg (pv 1) (pv 3)) ja5) ja5 (jb0 _)) (jdr (jar (jbx hu) (jah jbh (jah jhg (pe_g (gOf T.H_Qv (ok_Qv T)) (hm hr) jb2 (ja0 (pv 0) (ja0 (jah jbh (pv 1) (ji0 jfb (jah jd2 ja5 (pv 3)))) ja7))) (pv 2)) ja5) ja5 (jb0 _))))) (ja6 (jan jfs)) jaw)))
   (ja6 (jan jfs)))),?_⟩
 exact(ja9 (jc9 (jas (s_op jd7 (s_op jbg (s_op jie (jbm (ja4 ja1 (ja4 ja1 jae))) ja1) jab) jab)) (jam s_bl) jax)
   (ja9 (jdf (jk8 (ja4 (s_cb jgl (ja4 (s_ix ja1 jab) jae)) jae)) jaa (jc9 (jeo (jas (s_op jd7 (s_op jbg (s_op jie ja1 ja1) jab) jab)) (jas (s_op jd7 (s_op jbg (s_op jie (jbm (ja4 ja1 (ja4 (s_op jbg ja1 (s_un jf8 (s_op jd0 jab ja1))) jae))) ja1) jab) jab))) (jam s_bl) jax))
   (jam s_bl)))
theorem ok_Qt:FnOk P w K mg base (CXE P w) 1 T.f_Qt T.fd_Qt ["found"] (spZ (ct T) z_Qt):=by
 refine okZ2 (b:=b_Qt) T.H_Qt.F sc_Qt λcdv A outer s H E hr=> ?_
 have hu:=hr.units
 refine⟨_,(ja6 (jan (pe_and (jc1 (jfw (K:=K) rfl) (by rfl) T.b_isinstance jd4 (ja0 (pv 0) (ja0 (jrz T.b_int bt_int) ja7))) (pe_one (jw8 (K:=K) rfl (jc1 (jfw (K:=K) rfl) (by rfl) T.b_isinstance jd4 (ja0 (pv 0) (ja0 (jrz T.b_bool jus) ja7)))))))),?_⟩
 exact(jam (s_andV (s_cb jna (ja4 ja1 (ja4 s_ty jae))) (s_notT (s_cb jna (ja4 ja1 (ja4 s_ty jae))))))
theorem ok_Qy:FnOk P w K mg base (CXE P w) 2 T.f_Qy T.fd_Qy ["yard","standing","numbers","goal"] (spZ (ct T) z_Qy):=by
 refine okZ2 (b:=b_Qy) T.H_Qy.F jno λcdv A outer s H E hr=> ?_
 have hu:=hr.units
 refine⟨_,(ja3 (jc8 (PW.pt (jij (jef (jao (K:=K) rfl (jc1 (jfw (K:=K) rfl) (by rfl) T.b_isinstance jd4 (ja0 (pv 2) (ja0 (jrz T.b_list jmg) ja7))) (λ_=>rfl))) (jgh (jar (jbx hu) (pv 2) (jdy ja7) (jb0 _))))) (ja6 (jan jfs)) jaw)
   (ja3 (jcr ownE rfl (jfl rfl T.b_range (ja0 (jc1 (jcs (P:=P) (w:=w) (K:=K) rfl rfl rfl) (by rfl) T.b_len jge (ja0 (pv 2) ja7)) ja7)) (jav (i:=4) jno.nd rfl (by trivial)) (ja3 (jc8 (PW.pt (jij (jef (jao (K:=K) rfl (pe_g (gOf T.H_Qt (ok_Qt T)) (hm hr) jb2 (ja0 (ixq P w K hu (pv 2) (pv 4)) ja7)) (λ_=>rfl))) (jij (jar (jsy) (ixq P w K hu (pv 2) (pv 4)) ja5 (jb0 _)) (jgh (jar (jbx hu) (jah jbh (jah jhg (pv 1) (ixq P w K hu (pv 2) (pv 4))) ja5) ja5 (jb0 _)))))) (ja6 (jan jfs)) jaw)
   (ja6 (jc8 (PW.pt (jij (jar (jpv (P:=P) (w:=w) (K:=K) rfl rfl rfl hu) (ixq P w K hu (pv 2) (pv 4)) (je9 (sl_K (K:=K) rfl) (pv 2) jht (je5 (pv 4))) (by with_unfolding_all rfl)) (jgh (jar (jgn hu) (jg3 (jbx hu) (ixq P w K hu (ixq P w K hu (ixq P w K hu (pv 0) ja5) (ixq P w K hu (pv 2) (pv 4))) ja5) jd1 (jb0 _)) (jg3 (jbx hu) (pv 4) ja5 (jb0 _)) (jb0 _))))) (ja6 (jan jfs)) jaw))))
   (ja3 (jaj (i:=5) jno.nd rfl (by trivial) (ixq P w K hu (ixq P w K hu (ixq P w K hu (pv 0) ja5) (ixq P w K hu (pv 2) ja5)) ja5))
   (ja3 (jcr ownE rfl (pi_K (K:=K) rfl (je9 (sl_K (K:=K) rfl) (pv 2) (je5 ja5) jht)) (jav (i:=6) jno.nd rfl (by trivial)) (ja3 (jaj (i:=7) jno.nd rfl (by trivial) (ixq P w K hu (ixq P w K hu (pv 0) ja5) (pv 6)))
   (ja3 (jc8 (PW.pt (jij (jar (jgn hu) (jc1 (jcs (P:=P) (w:=w) (K:=K) rfl rfl rfl) (by rfl) T.b_len jge (ja0 (pv 7) ja7)) ja5 (jb0 _)) (jgh (jar (jlt (P:=P) (w:=w) (K:=K) rfl rfl rfl hu) (pv 5) (je9 (sl_K (K:=K) rfl) (pv 7) (je5 ja5) jht) (by with_unfolding_all rfl))))) (ja6 (jan jfs)) jaw)
   (ja6 (jaj (i:=5) jno.nd rfl (by trivial) (jah jpa (jah (jdq (K:=K) rfl) (ixq P w K hu (pv 7) ja5) (ixq P w K hu (pv 7) ja5)) (pv 5)))))))
   (ja6 (jan (jg3 (jbx hu) (pv 5) (pv 3) (jb0 _)))))))),?_⟩
 exact(ja9 (jc9 (jir (jeh (jb8 (s_cb jna (ja4 ja1 (ja4 s_ty jae))))) (jas (s_op jd7 ja1 (jcu (jdt jae))))) (jam s_bl) jax)
   (ja9 (jdf (jk8 (ja4 (s_cb jgl (ja4 ja1 jae)) jae)) jaa (ja9 (jc9 (jir (jeh (jb8 (jbm (ja4 (s_ix ja1 ja1) jae)))) (jir (jas (s_op jru (s_ix ja1 ja1) jab)) (jas (s_op jd7 (s_op jbg (s_op jie ja1 (s_ix ja1 ja1)) jab) jab)))) (jam s_bl) jax)
   (jc9 (jir (jas (s_op jon (s_ix ja1 ja1) (s_sl ja1 jpd (jk9 ja1)))) (jas (s_op jky (s_op jd7 (s_ix (s_ix (s_ix ja1 jab) (s_ix ja1 ja1)) jab) jf6) (s_op jd7 ja1 jab)))) (jam s_bl) jax)))
   (ja9 (jai (s_ix (s_ix (s_ix ja1 jab) (s_ix ja1 jab)) jab) jaa)
   (ja9 (jdf (si_V (s_sl ja1 (jk9 jab) jpd)) jaa (ja9 (jai (s_ix (s_ix ja1 jab) ja1) jaa)
   (ja9 (jc9 (jir (jas (s_op jky (s_cb jgl (ja4 ja1 jae)) jab)) (jas (s_op jon ja1 (s_sl ja1 (jk9 jab) jpd)))) (jam s_bl) jax)
   (jai (s_op jor (s_op jff (s_ix ja1 jab) (s_ix ja1 jab)) ja1) jaa))))
   (jam (s_op jd7 ja1 ja1))))))
theorem ok_X1:FnOk P w K mg base (CXE P w) 3 T.f_X1 T.fd_X1 ["yard","standing","bar","found"] (spZ (ct T) z_X1):=by
 refine okZ2 (b:=b_X1) T.H_X1.F sc_X1 λcdv A outer s H E hr=> ?_
 have hu:=hr.units
 refine⟨_,(ja3 (jc8 (PW.pt (jij (jef (jao (K:=K) rfl (jc1 (jfw (K:=K) rfl) (by rfl) T.b_isinstance jd4 (ja0 (pv 3) (ja0 (jrz T.b_tuple jtd) ja7))) (λ_=>rfl))) (jij (jar (jgn hu) (jc1 (jcs (P:=P) (w:=w) (K:=K) rfl rfl rfl) (by rfl) T.b_len jge (ja0 (pv 3) ja7)) ja5 (jb0 _)) (jgh (jar (jgn hu) (ixq P w K hu (pv 3) ja5) jd1 (jb0 _)))))) (ja6 (jan jfs)) jaw)
   (ja3 (jc8 (PW.pt (jij (jef (jao (K:=K) rfl (pe_g (gOf T.H_Qy (ok_Qy T)) (hm hr) jb2 (ja0 (pv 0) (ja0 (pv 1) (ja0 (ixq P w K hu (pv 3) ja5) (ja0 (pv 2) ja7))))) (λ_=>rfl))) (jgh (jef (jao (K:=K) rfl (pe_g (gOf T.H_Qy (ok_Qy T)) (hm hr) jb2 (ja0 (pv 0) (ja0 (pv 1) (ja0 (ixq P w K hu (pv 3) ja5) (ja0 (pv 2) ja7))))) (λ_=>rfl)))))) (ja6 (jan jfs)) jaw)
   (ja6 (jan (jg3 (jbx hu) (jp3 (CompOk.mk (tgs:=["number"]) (cap:=["found"]) (idx:=[3]) rfl rfl (by decide+kernel) (by decide+kernel) (List.forall_mem_cons.mpr ⟨rfl,(List.forall_mem_nil _)⟩) rfl (.cons rfl (by trivial) (by trivial) rfl rfl .nil)) rfl (pi_K (K:=K) rfl (ixq P w K hu (pv 3) ja5)) (jec (by decide)) (λ_ _ _ _=>(jav (i:=0) (show List.Nodup (α:=PySem.Str) ["number","found"] by decide+kernel) rfl (by trivial))) (λ_ _ _ _=>(jn6 (jar (jpv (P:=P) (w:=w) (K:=K) rfl rfl rfl hu) (pv 0) (ixq P w K hu (pv 1) ja5) (by with_unfolding_all rfl)))) (λ_ _ _ _=>(pv 0))) (jdy ja7) (jb0 _)))))),?_⟩
 exact(ja9 (jc9 (jir (jeh (jb8 (s_cb jna (ja4 ja1 (ja4 s_ty jae))))) (jir (jas (s_op jky (s_cb jgl (ja4 ja1 jae)) jab)) (jas (s_op jky (s_ix ja1 jab) jf6)))) (jam s_bl) jax)
   (ja9 (jc9 (jir (jeh (jb8 (jbm (ja4 ja1 (ja4 ja1 (ja4 (s_ix ja1 jab) (ja4 ja1 jae))))))) (jeh (jb8 (jbm (ja4 ja1 (ja4 ja1 (ja4 (s_ix ja1 jab) (ja4 ja1 jae)))))))) (jam s_bl) jax)
   (jam (s_op jd7 (jcu (jgg (si_V (s_ix ja1 jab)) jaa (jas (s_op jon ja1 (s_ix ja1 jab))) ja1)) (jcu (jdt jae))))))
theorem jqc:FnOk P w K mg base (CXE P w) 1 T.f_has T.fd_has ["some","number"] (spZ (ct T) jio):=by
 refine okZ2 (b:=jud) T.H_has.F sc_has λcdv A outer s H E hr=> ?_
 have hu:=hr.units
 refine⟨_,(ja6 (jan (jg3 (jbx hu) (jah jbh (jah jhg (pv 0) (pv 1)) ja5) ja5 (jb0 _)))),?_⟩
 exact(jam (s_op jd7 (s_op jbg (s_op jie ja1 ja1) jab) jab))
theorem jvj:FnOk P w K mg base (CXE P w) 2 T.f_Qx T.fd_Qx ["some"] (spZ (ct T) z_Qx):=by
 refine okZ2 (b:=b_Qx) T.H_Qx.F sc_Qx λcdv A outer s H E hr=> ?_
 have hu:=hr.units
 refine⟨_,(ja6 (jan (jp3 (CompOk.mk (tgs:=["number"]) (cap:=["some"]) (idx:=[0]) rfl rfl (by decide+kernel) (by decide+kernel) (List.forall_mem_cons.mpr ⟨rfl,(List.forall_mem_nil _)⟩) rfl (.cons rfl (by trivial) (by trivial) rfl rfl .nil)) rfl (jfl rfl T.b_range (ja0 (jul (K:=K) rfl (pe_bm0 PySem.F.plainAttrs_int PySem.F.slot_int_bit_length PySem.F.type_int_bit_length jua (pv 0))) ja7)) (jec (by decide)) (λ_ _ _ _=>(jav (i:=0) (show List.Nodup (α:=PySem.Str) ["number","some"] by decide+kernel) rfl (by trivial))) (λ_ _ _ _=>(jn6 (jao (K:=K) rfl (pe_g (gOf T.H_has (jqc T)) (hm hr) jiu (ja0 (pv 1) (ja0 (pv 0) ja7))) (λ_=>rfl)))) (λ_ _ _ _=>(pv 0))))),?_⟩
 exact(jam (jcu (jgg (jk8 (ja4 (s_bits ja1) jae)) jaa (jb8 (jbm (ja4 ja1 (ja4 ja1 jae)))) ja1)))
theorem ok_Q6:FnOk P w K mg base (CXE P w) 1 T.f_Q6 T.fd_Q6 ["self","one","other"] (spZ (ct T) z_Q6):=by
 refine okZ2 (b:=b_Q6) T.H_Q6.F sc_Q6 λcdv A outer s H E hr=> ?_
 have hu:=hr.units
 refine⟨_,(ja3 (jck (K:=K) rfl (jdi (pv 0) (pv 1) rfl))
   (ja6 (jck (K:=K) rfl (jdi (pv 0) (pv 2) rfl)))),?_⟩
 exact(ja9 (jdn (jnc T) ja1 ja1)
   (jdn (jh4 T) ja1 ja1))
theorem ok_Qa:FnOk P w K mg base (CXE P w) 1 T.f_Qa T.fd_Qa ["self","bar"] (spZ (ct T) z_Qa):=by
 refine okZ2 (b:=b_Qa) T.H_Qa.F sc_Qa λcdv A outer s H E hr=> ?_
 have hu:=hr.units
 refine⟨_,(ja6 (jck (K:=K) rfl (jdi (pv 0) (pv 1) rfl))),?_⟩
 exact(jdn (jpo T) ja1 ja1)
theorem ok_Qh:FnOk P w K mg base (CXE P w) 1 T.f_Qh T.fd_Qh ["self","bar"] (spZ (ct T) z_Qh):=by
 refine okZ2 (b:=b_Qh) T.H_Qh.F sc_Qh λcdv A outer s H E hr=> ?_
 have hu:=hr.units
 refine⟨_,(ja6 (jck (K:=K) rfl (jdi (pv 0) (pv 1) rfl))),?_⟩
 exact(jdn (jpo T) ja1 ja1)
theorem ok_Q3:FnOk P w K mg base (CXE P w) 1 T.f_Q3 T.fd_Q3 ["self","one","other"] (spZ (ct T) z_Q3):=by
 refine okZ2 (b:=b_Q3) T.H_Q3.F sc_Q3 λcdv A outer s H E hr=> ?_
 have hu:=hr.units
 refine⟨_,(ja3 (jck (K:=K) rfl (jdi (pv 0) (pv 1) rfl))
   (ja6 (jck (K:=K) rfl (jdi (pv 0) (pv 2) rfl)))),?_⟩
 exact(ja9 (jdn (jnc T) ja1 ja1)
   (jdn (jh4 T) ja1 ja1))
theorem ok_Qz:FnOk P w K mg base (CXE P w) 3 T.f_Qz T.fd_Qz ["switch"] (spZ (ct T) z_Qz):=by
 refine okZ2 (b:=b_Qz) T.H_Qz.F sc_Qz λcdv A outer s H E hr=> ?_
 have hu:=hr.units
 refine⟨_,(ja3 (jaj (i:=1) sc_Qz.nd rfl (by trivial) (ixq P w K hu (pv 0) ja5))
   (ja3 (jc8 (jar (jbx hu) (pv 1) jd1 (jb0 _)) (ja6 (jan (jlf (mOf T.C_X8 T.mt_Qh T.H_Qh (ok_Qh T)) (hm hr) jb2 (ja0 (ixq P w K hu (pv 0) ja5) ja7)))) jaw)
   (ja3 (jc8 (jar (jbx hu) (pv 1) jd1 (jb0 _)) (ja6 (jan (jlf (mOf T.C_X7 T.mt_Qa T.H_Qa (ok_Qa T)) (hm hr) jb2 (ja0 (ixq P w K hu (pv 0) ja5) ja7)))) jaw)
   (ja3 (jc8 (jar (jbx hu) (pv 1) jd1 (jb0 _)) (ja6 (jan (jlf (mOf T.C_X2 T.mt_Q6 T.H_Q6 (ok_Q6 T)) (hm hr) jb2 (ja0 (ixq P w K hu (pv 0) ja5) (ja0 (ixq P w K hu (pv 0) ja5) ja7))))) jaw)
   (ja6 (jan (jlf (mOf T.C_X0 T.mt_Q3 T.H_Q3 (ok_Q3 T)) (hm hr) jb2 (ja0 (ixq P w K hu (pv 0) ja5) (ja0 (ixq P w K hu (pv 0) ja5) ja7))))))))),?_⟩
 exact(ja9 (jai (s_ix ja1 jab) jaa)
   (ja9 (jc9 (jas (s_op jd7 ja1 jf6)) (jam (jhv (jsw T) (ja4 (s_ix ja1 jab) jae))) jax)
   (ja9 (jc9 (jas (s_op jd7 ja1 jf6)) (jam (jhv (jso T) (ja4 (s_ix ja1 jab) jae))) jax)
   (ja9 (jc9 (jas (s_op jd7 ja1 jf6)) (jam (jhv (jqx T) (ja4 (s_ix ja1 jab) (ja4 (s_ix ja1 jab) jae)))) jax)
   (jam (jhv (jpn T) (ja4 (s_ix ja1 jab) (ja4 (s_ix ja1 jab) jae))))))))
theorem jvq:FnOk P w K mg base (CXE P w) 4 T.f_Qo T.fd_Qo ["self","yard"] (spZ (ct T) z_Qo):=by
 refine okZ2 (b:=b_Qo) T.H_Qo.F sc_Qo λcdv A outer s H E hr=> ?_
 have hu:=hr.units
 refine⟨_,(ja6 (jck (K:=K) rfl (jdi (pv 0) (jp3 (CompOk.mk (tgs:=["switch"]) (cap:=[]) (idx:=[]) rfl rfl (by decide+kernel) (by decide+kernel) (List.forall_mem_nil _) rfl .nil) rfl (pi_K (K:=K) rfl (ixq P w K hu (pv 1) ja5)) (jec (by decide)) (λ_ _ _ _=>(jav (i:=0) (show List.Nodup (α:=PySem.Str) ["switch"] by decide+kernel) rfl (by trivial))) (λ_ _ _ _=>jnb) (λ_ _ _ _=>(pe_g (gOf T.H_Qz (ok_Qz T)) (hm hr) jiu (ja0 (pv 0) ja7)))) rfl))),?_⟩
 exact(jdn (je6 T) ja1 (jcu (jgg (si_V (s_ix ja1 jab)) jaa jro (jbm (ja4 ja1 jae)))))
theorem jst:FnOk P w K mg base (CXE P w) 1 T.f_Qr T.fd_Qr ["self"] (spZ (ct T) z_Qr):=by
 refine okZ2 (b:=b_Qr) T.H_Qr.F sc_Qr λcdv A outer s H E hr=> ?_
 have hu:=hr.units
 refine⟨_,(ja6 (jan ja5)),?_⟩
 exact(jam jab)
theorem ok_Qw:FnOk P w K mg base (CXE P w) 1 T.f_Qw T.fd_Qw ["self"] (spZ (ct T) z_Qw):=by
 refine okZ2 (b:=b_Qw) T.H_Qw.F sc_Qw λcdv A outer s H E hr=> ?_
 have hu:=hr.units
 refine⟨_,(ja6 (jan (jah jd2 ja5 (jau (K:=K) rfl (jb9 (pv 0) rfl))))),?_⟩
 exact(jam (s_op jd0 jab (jc7 (jpo T) ja1)))
theorem jv6:FnOk P w K mg base (CXE P w) 1 T.f_Qq T.fd_Qq ["self"] (spZ (ct T) z_Qq):=by
 refine okZ2 (b:=b_Qq) T.H_Qq.F sc_Qq λcdv A outer s H E hr=> ?_
 have hu:=hr.units
 refine⟨_,(ja6 (jan ja5)),?_⟩
 exact(jam jab)
theorem ok_Qf:FnOk P w K mg base (CXE P w) 1 T.f_Qf T.fd_Qf ["self"] (spZ (ct T) z_Qf):=by
 refine okZ2 (b:=b_Qf) T.H_Qf.F sc_Qf λcdv A outer s H E hr=> ?_
 have hu:=hr.units
 refine⟨_,(ja6 (jan (jah jip (jah jd2 ja5 (jau (K:=K) rfl (jb9 (pv 0) rfl))) (jah jd2 ja5 (jau (K:=K) rfl (jb9 (pv 0) rfl)))))),?_⟩
 exact(jam (s_op jim (s_op jd0 jab (jc7 (jnc T) ja1)) (s_op jd0 jab (jc7 (jh4 T) ja1))))
theorem ok_Qb:FnOk P w K mg base (CXE P w) 1 T.f_Qb T.fd_Qb ["self"] (spZ (ct T) z_Qb):=by
 refine okZ2 (b:=b_Qb) T.H_Qb.F sc_Qb λcdv A outer s H E hr=> ?_
 have hu:=hr.units
 refine⟨_,(ja6 (jan (jah jip (jah jd2 ja5 (jau (K:=K) rfl (jb9 (pv 0) rfl))) (jah jd2 ja5 (jau (K:=K) rfl (jb9 (pv 0) rfl)))))),?_⟩
 exact(jam (s_op jim (s_op jd0 jab (jc7 (jnc T) ja1)) (s_op jd0 jab (jc7 (jh4 T) ja1))))
theorem jjy:jdu (ct T) mg base 1 "feeds" jcq:=by
 exact(mtc (cm_X6 T) T.C_X6.cl T.mt_Qr (jst T) (by decide) T.H_Qr.B (mtc (jsw T) T.C_X8.cl T.mt_Qw (ok_Qw T) (by decide) T.H_Qw.B (mtc (jso T) T.C_X7.cl T.mt_Earth_feeds (jst T) (by decide) T.H_Qr.B (mtc (jqx T) T.C_X2.cl T.mt_Breaker_feeds (jst T) (by decide) T.H_Qr.B (mtc (jpn T) T.C_X0.cl T.mt_Splitter_feeds (jst T) (by decide) T.H_Qr.B jdo)))))
theorem jkb:jdu (ct T) mg base 1 "joins" jbt:=by
 exact(mtc (cm_X6 T) T.C_X6.cl T.mt_Qq (jv6 T) (by decide) T.H_Qq.B (mtc (jsw T) T.C_X8.cl T.mt_Feed_joins (jv6 T) (by decide) T.H_Qq.B (mtc (jso T) T.C_X7.cl T.mt_Earth_joins (jv6 T) (by decide) T.H_Qq.B (mtc (jqx T) T.C_X2.cl T.mt_Qf (ok_Qf T) (by decide) T.H_Qf.B (mtc (jpn T) T.C_X0.cl T.mt_Qb (ok_Qb T) (by decide) T.H_Qb.B jdo)))))
theorem ok_Qd:FnOk P w K mg base (CXE P w) 2 T.f_Qd T.fd_Qd ["self","switch"] (spZ (ct T) z_Qd):=by
 refine okZ2 (b:=b_Qd) T.H_Qd.F sc_Qd λcdv A outer s H E hr=> ?_
 have hu:=hr.units
 refine⟨_,(ja3 (jc8 (jao (K:=K) rfl (mdq P w K mg base 1 (jeg (pv 1) (hm hr) jb2)) (λ_=>rfl)) (ja6 (jan (jah jip (mdq P w K mg base 1 (jeg (pv 1) (hm hr) jb2)) (jau (K:=K) rfl (jb9 (pv 0) rfl))))) jaw)
   (ja6 (jan (mdq P w K mg base 1 (jeg (pv 1) (hm hr) jb2))))),?_⟩
 exact(ja9 (jc9 (jb8 (jbs (jjy T) ja1 jae)) (jam (s_op jim (jbs (jjy T) ja1 jae) (jc7 (jgz T) ja1))) jax)
   (jam (jbs (jkb T) ja1 jae)))
theorem jnq:jdu (ct T) mg base 2 "pair_of" je1:=by
 exact(mtc (jer T) T.C_X4.cl T.mt_Qd (ok_Qd T) (by decide) T.H_Qd.B jdo)
theorem ok_Q8:FnOk P w K mg base (CXE P w) 6 T.f_Q8 T.fd_Q8 ["self","yard","standing","common","place"] (spZ (ct T) z_Q8):=by
 refine okZ2 (b:=b_Q8) T.H_Q8.F sc_Q8 λcdv A outer s H E hr=> ?_
 have hu:=hr.units
 refine⟨_,(ja3 (jck (K:=K) rfl (jdi (pv 0) (pv 1) rfl))
   (ja3 (jck (K:=K) rfl (jdi (pv 0) (jlf (mOf T.C_Net T.mt_Qo T.H_Qo (jvq T)) (hm hr) jb2 (ja0 (pv 1) ja7)) rfl))
   (ja3 (jck (K:=K) rfl (jdi (pv 0) (pv 3) rfl))
   (ja3 (jck (K:=K) rfl (jdi (pv 0) (pv 4) rfl))
   (ja3 (jck (K:=K) rfl (jdi (pv 0) (jah jd2 ja5 (ixq P w K hu (pv 1) ja5)) rfl))
   (ja3 (jck (K:=K) rfl (jdi (pv 0) jfu rfl))
   (ja3 (jck (K:=K) rfl (jdi (pv 0) jfu rfl))
   (ja6 (jcr ownE rfl (pi_K (K:=K) rfl (pe_g (gOf T.H_Qx (jvj T)) (hm hr) jb2 (ja0 (jah jbh (pv 2) (ji0 jfb (pv 3))) ja7))) (jav (i:=5) sc_Q8.nd rfl (by trivial)) (ja6 (jjg (hu_of hr) (jau (K:=K) rfl (jb9 (pv 0) rfl)) (pv 5) (mdq P w K mg base 2 (jfz (pv 0) (hm hr) jb2 (ja0 (ixq P w K hu (jau (K:=K) rfl (jb9 (jau (K:=K) rfl (jb9 (pv 0) rfl)) rfl)) (pv 5)) ja7))) rfl))))))))))),?_⟩
 exact(ja9 (jdn (jmd T) ja1 ja1)
   (ja9 (jdn (jpc T) ja1 (jhv (jhs T) (ja4 ja1 jae)))
   (ja9 (jdn (jfm T) ja1 ja1)
   (ja9 (jdn (jh5 T) ja1 ja1)
   (ja9 (jdn (jgz T) ja1 (s_op jd0 jab (s_ix ja1 jab)))
   (ja9 (jdn (je7 T) ja1 jki)
   (ja9 (jdn (je4 T) ja1 jki)
   (jdf (si_V (jbm (ja4 (s_op jbg ja1 (s_un jf8 ja1)) jae))) jaa (jjz (jc7 (je7 T) ja1) ja1 (jbs (jnq T) ja1 (ja4 (s_ix (jc7 (je6 T) (jc7 (jpc T) ja1)) ja1) jae)))))))))))
theorem ok_Qk:FnOk P w K mg base (CXE P w) 2 T.f_Qk T.fd_Qk ["self","standing"] (spZ (ct T) z_Qk):=by
 refine okZ2 (b:=b_Qk) T.H_Qk.F sc_Qk λcdv A outer s H E hr=> ?_
 have hu:=hr.units
 refine⟨_,(ja6 (jan (jp3 (CompOk.mk (tgs:=["number","switch"]) (cap:=["standing"]) (idx:=[1]) rfl rfl (by decide+kernel) (by decide+kernel) (List.forall_mem_cons.mpr ⟨rfl,(List.forall_mem_nil _)⟩) rfl (.cons rfl (by trivial) (by trivial) rfl rfl .nil)) rfl (jfy (K:=K) rfl (jhp rfl T.b_enumerate (ja0 (jau (K:=K) rfl (jb9 (pv 0) rfl)) ja7))) (juq (jll (by decide) (jll (by decide) js6))) (λ_ _ _ _=>(jgc (K:=K) rfl (jj3 (n:=2) rfl (jcc (jav (i:=0) (show List.Nodup (α:=PySem.Str) ["number","switch","standing"] by decide+kernel) rfl (by trivial)) (jcc (jav (i:=1) (show List.Nodup (α:=PySem.Str) ["number","switch","standing"] by decide+kernel) rfl (by trivial)) jg5))))) (λ_ _ _ _=>(jn6 (jao (K:=K) rfl (pe_g (gOf T.H_has (jqc T)) (hm hr) jiu (ja0 (pv 2) (ja0 (pv 0) ja7))) (λ_=>rfl)))) (λ_ _ _ _=>(pv 1))))),?_⟩
 exact(jam (jcu (jgg (jib (ja4 (jc7 (je6 T) ja1) jae)) (jix rfl (jce (jce jg2))) (jb8 (jbm (ja4 ja1 (ja4 ja1 jae)))) ja1)))
theorem jgf:jdu (ct T) mg base 2 "shut_ones" jbr:=by
 exact(mtc (jhs T) T.C_Net.cl T.mt_Qk (ok_Qk T) (by decide) T.H_Qk.B jdo)
theorem ok_Q7:FnOk P w K mg base (CXE P w) 3 T.f_Q7 T.fd_Q7 ["self","standing","some"] (spZ (ct T) z_Q7):=by
 refine okZ2 (b:=b_Q7) T.H_Q7.F jly λcdv A outer s H E hr=> ?_
 have hu:=hr.units
 refine⟨_,(ja3 (jjx (i:=3) jly.nd rfl (by trivial) (CompOk.mk (tgs:=["switch"]) (cap:=[]) (idx:=[]) rfl rfl (by decide+kernel) (by decide+kernel) (List.forall_mem_nil _) rfl .nil) rfl (pi_K (K:=K) rfl (mdq P w K mg base 2 (jfz (pv 0) (hm hr) jb2 (ja0 (pv 1) ja7)))) (jec (by decide)) (λ_ _ _ _=>(jav (i:=0) (show List.Nodup (α:=PySem.Str) ["switch"] by decide+kernel) rfl (by trivial))) (λ_ _ _ _=>jnb) (λ_ _ _ _=>(mdq P w K mg base 1 (jeg (pv 0) (hm hr) jiu))))
   (ja3 (jaj (i:=4) jly.nd rfl (by trivial) (pv 2))
   (ja3 (jaj (i:=5) jly.nd rfl (by trivial) jnh)
   (ja3 (jex ownE (jar (jgn hu) (pv 4) (pv 5) (jb0 _)) (ja3 (jaj (i:=5) jly.nd rfl (by trivial) (pv 4))
   (ja6 (jcr ownE rfl (pi_K (K:=K) rfl (pv 3)) (jav (i:=6) jly.nd rfl (by trivial)) (ja6 (jc8 (jao (K:=K) rfl (jah jbh (pv 6) (pv 4)) (λ_=>rfl)) (ja6 (jaj (i:=4) jly.nd rfl (by trivial) (jah jip (pv 4) (pv 6)))) jaw))))))
   (ja6 (jan (pv 4))))))),?_⟩
 exact(ja9 (jr8 (jcu (jgg (si_V (jbs (jgf T) ja1 (ja4 ja1 jae))) jaa jro (jbs (jkb T) ja1 jae))))
   (ja9 (jai ja1 jaa)
   (ja9 (jai js8 jaa)
   (ja9 (jf0 (jas (s_op jky ja1 ja1)) (ja9 (jai ja1 jaa)
   (jdf (si_V ja1) jaa (jc9 (jb8 (s_op jbg ja1 ja1)) (jai (s_op jim ja1 ja1) jaa) jax))))
   (jam ja1)))))
theorem jfd:jdu (ct T) mg base 3 "joined_bars" jca:=by
 exact(mtc (jhs T) T.C_Net.cl T.mt_Q7 (ok_Q7 T) (by decide) T.H_Q7.B jdo)
theorem ok_Qg:FnOk P w K mg base (CXE P w) 4 T.f_Qg T.fd_Qg ["self","standing"] (spZ (ct T) z_Qg):=by
 refine okZ2 (b:=b_Qg) T.H_Qg.F jrq λcdv A outer s H E hr=> ?_
 have hu:=hr.units
 refine⟨_,(ja3 (jaj (i:=2) jrq.nd rfl (by trivial) ja5)
   (ja3 (jcr ownE rfl (pi_K (K:=K) rfl (mdq P w K mg base 2 (jfz (pv 0) (hm hr) jb2 (ja0 (pv 1) ja7)))) (jav (i:=3) jrq.nd rfl (by trivial)) (ja6 (jaj (i:=2) jrq.nd rfl (by trivial) (jah jip (pv 2) (mdq P w K mg base 1 (jeg (pv 3) (hm hr) jb2))))))
   (ja6 (jan (mdq P w K mg base 3 (jfz (pv 0) (hm hr) jb2 (ja0 (pv 1) (ja0 (pv 2) ja7)))))))),?_⟩
 exact(ja9 (jai jab jaa)
   (ja9 (jdf (si_V (jbs (jgf T) ja1 (ja4 ja1 jae))) jaa (jai (s_op jim ja1 (jbs (jjy T) ja1 jae)) jaa))
   (jam (jbs (jfd T) ja1 (ja4 ja1 (ja4 ja1 jae))))))
theorem ok_Q0:FnOk P w K mg base (CXE P w) 4 T.f_Q0 T.fd_Q0 ["self","some"] (spZ (ct T) z_Q0):=by
 refine okZ2 (b:=b_Q0) T.H_Q0.F sc_Q0 λcdv A outer s H E hr=> ?_
 have hu:=hr.units
 refine⟨_,(ja6 (jan (mdq P w K mg base 3 (jfz (jau (K:=K) rfl (jb9 (pv 0) rfl)) (hm hr) jb2 (ja0 (jau (K:=K) rfl (jb9 (pv 0) rfl)) (ja0 (pv 1) ja7)))))),?_⟩
 exact(jam (jbs (jfd T) (jc7 (jpc T) ja1) (ja4 (jc7 (jfm T) ja1) (ja4 ja1 jae))))
theorem jdb:jdu (ct T) mg base 4 "joined_in_common" jbe:=by
 exact(mtc (jer T) T.C_X4.cl T.mt_Q0 (ok_Q0 T) (by decide) T.H_Q0.B jdo)
theorem ok_Qj:FnOk P w K mg base (CXE P w) 5 T.f_Qj T.fd_Qj ["self","steps"] (spZ (ct T) z_Qj):=by
 refine okZ2 (b:=b_Qj) T.H_Qj.F jpf λcdv A outer s H E hr=> ?_
 have hu:=hr.units
 refine⟨_,(ja3 (jaj (i:=2) jpf.nd rfl (by trivial) (jdy ja7))
   (ja3 (jaj (i:=3) jpf.nd rfl (by trivial) (jau (K:=K) rfl (jb9 (pv 0) rfl)))
   (ja3 (jcr ownE rfl (jw9 (K:=K) rfl (pi_rev rfl T.b_reversed (ja0 (pv 1) ja7))) (jav (i:=4) jpf.nd rfl (by trivial)) (ja6 (jc8 (jao (K:=K) rfl (jah jbh (mdq P w K mg base 4 (jfz (pv 0) (hm hr) jb2 (ja0 (ixq P w K hu (pv 4) ja5) ja7))) (pv 3)) (λ_=>rfl)) (ja3 (jcl (jfe (K:=K) rfl (jii PySem.F.plainAttrs_list PySem.F.slot_list_append PySem.F.type_list_append jde (pv 2) (ja0 (pv 4) ja7))))
   (ja6 (jaj (i:=3) jpf.nd rfl (by trivial) (jah jbh (ixq P w K hu (jau (K:=K) rfl (jb9 (pv 0) rfl)) (ixq P w K hu (pv 4) ja5)) (ji0 jfb (ixq P w K hu (pv 4) ja5)))))) jaw)))
   (ja6 (jan (jtm (K:=K) rfl (jiv rfl (by rfl) T.b_list (by rfl) T.b_reversed (ja0 (pv 2) ja7)))))))),?_⟩
 exact(ja9 (jai (jia (jdt jae)) jaa)
   (ja9 (jai (jc7 (jh5 T) ja1) jaa)
   (ja9 (jdf (si_rev (ja4 ja1 jae)) jaa (jc9 (jb8 (s_op jbg (jbs (jdb T) ja1 (ja4 (s_ix ja1 jab) jae)) ja1)) (ja9 (je0 ja1 ja1)
   (jai (s_op jbg (s_ix (jc7 (je7 T) ja1) (s_ix ja1 jab)) (s_un jf8 (s_ix ja1 jab))) jaa)) jax))
   (jet (i:=2) (jam (jcu (jkd (ja4 ja1 jae))))))))
theorem ok_Q9:FnOk P w K mg base (CXE P w) 5 T.f_Q9 T.fd_Q9 ["self","starts"] (spZ (ct T) z_Q9):=by
 refine okZ2 (b:=b_Q9) T.H_Q9.F jkj λcdv A outer s H E hr=> ?_
 have hu:=hr.units
 refine⟨_,(ja3 (jaj (i:=2) jkj.nd rfl (by trivial) (jdy ja7))
   (ja3 (jaj (i:=3) jkj.nd rfl (by trivial) (jau (K:=K) rfl (jb9 (pv 0) rfl)))
   (ja3 (jaj (i:=4) jkj.nd rfl (by trivial) jnh)
   (ja3 (jex ownE (PW.pt (jep (jar (jgn hu) (pv 3) (pv 4) (jb0 _)) (jdr (jef (jao (K:=K) rfl (jah jbh (pv 3) (jau (K:=K) rfl (jb9 (pv 0) rfl))) (λ_=>rfl)))))) (ja3 (jaj (i:=4) jkj.nd rfl (by trivial) (pv 3))
   (ja6 (jvn ownE rfl (pv 1) (jav (i:=5) jkj.nd rfl (by trivial)) (ja3 (jaj (i:=6) jkj.nd rfl (by trivial) (jah jbh (ixq P w K hu (jau (K:=K) rfl (jb9 (pv 0) rfl)) (pv 5)) (ji0 jfb (pv 3))))
   (ja6 (jc8 (PW.pt (jep (jao (K:=K) rfl (pv 6) (λ_=>rfl)) (jdr (jao (K:=K) rfl (jah jbh (ixq P w K hu (pv 1) (pv 5)) (pv 3)) (λ_=>rfl))))) (ja3 (jcl (jfe (K:=K) rfl (jii PySem.F.plainAttrs_list PySem.F.slot_list_append PySem.F.type_list_append jde (pv 2) (ja0 (jc5 (ja0 (pv 5) (ja0 (pv 6) ja7))) ja7))))
   (ja6 (jaj (i:=3) jkj.nd rfl (by trivial) (jah jip (pv 3) (mdq P w K mg base 4 (jfz (pv 0) (hm hr) jb2 (ja0 (pv 6) ja7))))))) jaw)))))))
   (ja6 (jan (pv 2))))))),?_⟩
 exact(ja9 (jai (jia (jdt jae)) jaa)
   (ja9 (jai (jc7 (jgz T) ja1) jaa)
   (ja9 (jai js8 jaa)
   (ja9 (jf0 (jeo (jas (s_op jky ja1 ja1)) (jeh (jb8 (s_op jbg ja1 (jc7 (jh5 T) ja1))))) (ja9 (jai ja1 jaa)
   (jwa ja1 jaa (ja9 (jai (s_op jbg (s_ix (jc7 (je7 T) ja1) ja1) (s_un jf8 ja1)) jaa)
   (jc9 (jeo (jb8 ja1) (jb8 (s_op jbg (s_ix ja1 ja1) ja1))) (ja9 (je0 ja1 (jdh (ja4 ja1 (ja4 ja1 jae))))
   (jai (s_op jim ja1 (jbs (jdb T) ja1 (ja4 ja1 jae))) jaa)) jax)))))
   (jet (i:=2) (jam ja1))))))
theorem jla:jdu (ct T) mg base 5 "row_in" jev:=by
 exact(mtc (jer T) T.C_X4.cl T.mt_Qj (ok_Qj T) (by decide) T.H_Qj.B jdo)
theorem jhn:jdu (ct T) mg base 5 "steps_by" jco:=by
 exact(mtc (jer T) T.C_X4.cl T.mt_Q9 (ok_Q9 T) (by decide) T.H_Q9.B jdo)
theorem ok_Q1:FnOk P w K mg base (CXE P w) 6 T.f_Q1 T.fd_Q1 ["self"] (spZ (ct T) z_Q1):=by
 refine okZ2 (b:=b_Q1) T.H_Q1.F jt4 λcdv A outer s H E hr=> ?_
 have hu:=hr.units
 refine⟨_,(ja3 (jaj (i:=1) jt4.nd rfl (by trivial) jfu)
   (ja3 (jvp ownE rfl (jau (K:=K) rfl (jb9 (pv 0) rfl)) (jgc (K:=K) rfl (jj3 (n:=2) rfl (jcc (jav (i:=2) jt4.nd rfl (by trivial)) (jcc (jav (i:=3) jt4.nd rfl (by trivial)) jg5)))) (ja6 (jjg (hu_of hr) (pv 1) (pv 2) (jah jbh (ixq P w K hu (jau (K:=K) rfl (jb9 (pv 0) rfl)) (pv 2)) (ji0 jfb (pv 3))) rfl)))
   (ja6 (jan (mdq P w K mg base 5 (jfz (pv 0) (hm hr) jb2 (ja0 (mdq P w K mg base 5 (jfz (pv 0) (hm hr) jb2 (ja0 (pv 1) ja7))) ja7))))))),?_⟩
 exact(ja9 (jai jki jaa)
   (ja9 (jw5 (jc7 (je4 T) ja1) (jix rfl (jce (jce jg2))) (jjz ja1 ja1 (s_op jbg (s_ix (jc7 (je7 T) ja1) ja1) (s_un jf8 ja1))))
   (jam (jbs (jla T) ja1 (ja4 (jbs (jhn T) ja1 (ja4 ja1 jae)) jae)))))
theorem ok_Ql:FnOk P w K mg base (CXE P w) 1 T.f_Ql T.fd_Ql ["steps","some","bar"] (spZ (ct T) z_Ql):=by
 refine okZ2 (b:=b_Ql) T.H_Ql.F jsz λcdv A outer s H E hr=> ?_
 have hu:=hr.units
 refine⟨_,(ja3 (jaj (i:=3) jsz.nd rfl (by trivial) (jdy ja7))
   (ja3 (jex ownE (jef (jao (K:=K) rfl (jah jbh (pv 2) (pv 1)) (λ_=>rfl))) (ja3 (jaj (i:=4) jsz.nd rfl (by trivial) (ixq P w K hu (pv 0) (pv 2)))
   (ja3 (jcl (jfe (K:=K) rfl (jii PySem.F.plainAttrs_list PySem.F.slot_list_append PySem.F.type_list_append jde (pv 3) (ja0 (ixq P w K hu (pv 4) ja5) ja7))))
   (ja6 (jaj (i:=2) jsz.nd rfl (by trivial) (ixq P w K hu (pv 4) ja5))))))
   (ja6 (jan (jtm (K:=K) rfl (jiv rfl (by rfl) T.b_list (by rfl) T.b_reversed (ja0 (pv 3) ja7))))))),?_⟩
 exact(ja9 (jai (jia (jdt jae)) jaa)
   (ja9 (jf0 (jeh (jb8 (s_op jbg ja1 ja1))) (ja9 (jai (s_ix ja1 ja1) jaa)
   (ja9 (je0 ja1 (s_ix ja1 jab))
   (jai (s_ix ja1 jab) jaa))))
   (jet (i:=3) (jam (jia (jkd (ja4 ja1 jae)))))))
theorem ok_Qs:FnOk P w K mg base (CXE P w) 2 T.f_Qs T.fd_Qs ["net","standing","front","reached"] (spZ (ct T) z_Qs):=by
 refine okZ2 (b:=b_Qs) T.H_Qs.F joz λcdv A outer s H E hr=> ?_
 have hu:=hr.units
 refine⟨_,(ja3 (jaj (i:=4) joz.nd rfl (by trivial) jfu)
   (ja3 (jcr ownE rfl (jfy (K:=K) rfl (jhp rfl T.b_enumerate (ja0 (jau (K:=K) rfl (jb9 (pv 0) rfl)) ja7))) (jgc (K:=K) rfl (jj3 (n:=2) rfl (jcc (jav (i:=5) joz.nd rfl (by trivial)) (jcc (jav (i:=6) joz.nd rfl (by trivial)) jg5)))) (ja3 (jaj (i:=7) joz.nd rfl (by trivial) (mdq P w K mg base 1 (jeg (pv 6) (hm hr) jb2)))
   (ja6 (jc8 (PW.pt (jep (jao (K:=K) rfl (pe_g (gOf T.H_has (jqc T)) (hm hr) jb2 (ja0 (pv 1) (ja0 (pv 5) ja7))) (λ_=>rfl)) (jep (jao (K:=K) rfl (jah jbh (pv 7) (pv 2)) (λ_=>rfl)) (jdr (jao (K:=K) rfl (jah jbh (pv 7) (ji0 jfb (pv 3))) (λ_=>rfl)))))) (ja6 (jjg (hu_of hr) (pv 4) (jah jbh (pv 7) (ji0 jfb (pv 3))) (jc5 (ja0 (pv 5) (ja0 (jah jbh (pv 7) (pv 2)) ja7))) rfl)) jaw))))
   (ja6 (jan (pv 4))))),?_⟩
 exact(ja9 (jai jki jaa)
   (ja9 (jdf (jib (ja4 (jc7 (je6 T) ja1) jae)) (jix rfl (jce (jce jg2))) (ja9 (jai (jbs (jkb T) ja1 jae) jaa)
   (jc9 (jeo (jb8 (jbm (ja4 ja1 (ja4 ja1 jae)))) (jeo (jb8 (s_op jbg ja1 ja1)) (jb8 (s_op jbg ja1 (s_un jf8 ja1))))) (jjz ja1 (s_op jbg ja1 (s_un jf8 ja1)) (jdh (ja4 ja1 (ja4 (s_op jbg ja1 ja1) jae)))) jax)))
   (jam ja1)))
theorem ok_X5:FnOk P w K mg base (CXE P w) 1 T.f_X5 T.fd_X5 ["some"] (spZ (ct T) z_X5):=by
 refine okZ2 (b:=b_X5) T.H_X5.F sc_X5 λcdv A outer s H E hr=> ?_
 have hu:=hr.units
 refine⟨_,(ja6 (jan (jah jbh (pv 0) (ji0 un_neg (pv 0))))),?_⟩
 exact(jam (s_op jbg ja1 (s_un s1_neg ja1)))
theorem jtr:FnOk P w K mg base (CXE P w) 6 T.f_way T.fd_way ["yard","standing","some","goals"] (spZ (ct T) jji):=by
 refine okZ2 (b:=jju) T.H_way.F jgk λcdv A outer s H E hr=> ?_
 have hu:=hr.units
 refine⟨_,(ja3 (jaj (i:=4) jgk.nd rfl (by trivial) (jlf (mOf T.C_Net T.mt_Qo T.H_Qo (jvq T)) (hm hr) jb2 (ja0 (pv 0) ja7)))
   (ja3 (jaj (i:=5) jgk.nd rfl (by trivial) jfu)
   (ja3 (jaj (i:=6) jgk.nd rfl (by trivial) (pv 2))
   (ja3 (jaj (i:=7) jgk.nd rfl (by trivial) (pv 2))
   (ja3 (jex ownE (PW.pt (jep (jao (K:=K) rfl (pv 7) (λ_=>rfl)) (jdr (jef (jao (K:=K) rfl (jah jbh (pv 7) (pv 3)) (λ_=>rfl)))))) (ja3 (jaj (i:=8) jgk.nd rfl (by trivial) (pe_g (gOf T.H_Qs (ok_Qs T)) (hm hr) jb2 (ja0 (pv 4) (ja0 (pv 1) (ja0 (pv 7) (ja0 (pv 6) ja7))))))
   (ja3 (jcl (jfe (K:=K) rfl (jii PySem.F.plainAttrs_dict PySem.F.slot_dict_update PySem.F.type_dict_update jkq (pv 5) (ja0 (pv 8) ja7))))
   (ja3 (jaj (i:=7) jgk.nd rfl (by trivial) (jc1 (joy rfl) (by rfl) T.b_sum bt_sum (ja0 (pv 8) ja7)))
   (ja6 (jaj (i:=6) jgk.nd rfl (by trivial) (jah jip (pv 6) (pv 7))))))))
   (ja3 (jc8 (jef (jao (K:=K) rfl (pv 7) (λ_=>rfl))) (ja6 (jan jnh)) jaw)
   (ja6 (jan (pe_g (gOf T.H_Ql (ok_Ql T)) (hm hr) jb2 (ja0 (pv 5) (ja0 (pv 2) (ja0 (pe_g (gOf T.H_X5 (ok_X5 T)) (hm hr) jb2 (ja0 (jah jbh (pv 7) (pv 3)) ja7)) ja7)))))))))))),?_⟩
 exact(ja9 (jai (jhv (jhs T) (ja4 ja1 jae)) jaa)
   (ja9 (jai jki jaa)
   (ja9 (jai ja1 jaa)
   (ja9 (jai ja1 jaa)
   (ja9 (jf0 (jeo (jb8 ja1) (jeh (jb8 (s_op jbg ja1 ja1)))) (ja9 (jai (jbm (ja4 ja1 (ja4 ja1 (ja4 ja1 (ja4 ja1 jae))))) jaa)
   (ja9 (jga (s_upd ja1 (ja4 ja1 jae)))
   (ja9 (jai (s_cb jvt (ja4 ja1 jae)) jaa)
   (jai (s_op jim ja1 ja1) jaa)))))
   (ja9 (jc9 (jeh (jb8 ja1)) (jam js8) jax)
   (jam (jbm (ja4 ja1 (ja4 ja1 (ja4 (jbm (ja4 (s_op jbg ja1 ja1) jae)) jae)))))))))))
theorem ok_Qe:FnOk P w K mg base (CXE P w) 7 T.f_Qe T.fd_Qe ["self","row"] (spZ (ct T) z_Qe):=by
 refine okZ2 (b:=b_Qe) T.H_Qe.F jod λcdv A outer s H E hr=> ?_
 have hu:=hr.units
 refine⟨_,(ja3 (jaj (i:=2) jod.nd rfl (by trivial) (jdy ja7))
   (ja3 (jaj (i:=3) jod.nd rfl (by trivial) (jau (K:=K) rfl (jb9 (pv 0) rfl)))
   (ja3 (jcr ownE rfl (pi_K (K:=K) rfl (pv 1)) (jav (i:=4) jod.nd rfl (by trivial)) (ja3 (jcl (jfe (K:=K) rfl (jii PySem.F.plainAttrs_list PySem.F.slot_list_extend PySem.F.type_list_extend jkn (pv 2) (ja0 (pe_g (gOf T.H_way (jtr T)) (hm hr) jb2 (ja0 (jau (K:=K) rfl (jb9 (pv 0) rfl)) (ja0 (jau (K:=K) rfl (jb9 (pv 0) rfl)) (ja0 (pv 3) (ja0 (jah jbh (ixq P w K hu (jau (K:=K) rfl (jb9 (pv 0) rfl)) (ixq P w K hu (pv 4) ja5)) (ji0 jfb (ixq P w K hu (pv 4) ja5))) ja7))))) ja7))))
   (ja3 (jcl (jfe (K:=K) rfl (jii PySem.F.plainAttrs_list PySem.F.slot_list_append PySem.F.type_list_append jde (pv 2) (ja0 (ixq P w K hu (pv 4) ja5) ja7))))
   (ja6 (jaj (i:=3) jod.nd rfl (by trivial) (ixq P w K hu (pv 4) ja5))))))
   (ja3 (jcl (jfe (K:=K) rfl (jii PySem.F.plainAttrs_list PySem.F.slot_list_extend PySem.F.type_list_extend jkn (pv 2) (ja0 (pe_g (gOf T.H_way (jtr T)) (hm hr) jb2 (ja0 (jau (K:=K) rfl (jb9 (pv 0) rfl)) (ja0 (jau (K:=K) rfl (jb9 (pv 0) rfl)) (ja0 (pv 3) (ja0 (jau (K:=K) rfl (jb9 (pv 0) rfl)) ja7))))) ja7))))
   (ja6 (jan (pv 2))))))),?_⟩
 exact(ja9 (jai (jia (jdt jae)) jaa)
   (ja9 (jai (jc7 (jgz T) ja1) jaa)
   (ja9 (jdf (si_V ja1) jaa (ja9 (jlq ja1 (jbm (ja4 (jc7 (jmd T) ja1) (ja4 (jc7 (jfm T) ja1) (ja4 ja1 (ja4 (s_op jbg (s_ix (jc7 (je7 T) ja1) (s_ix ja1 jab)) (s_un jf8 (s_ix ja1 jab))) jae))))))
   (ja9 (je0 ja1 (s_ix ja1 jab))
   (jai (s_ix ja1 jab) jaa))))
   (ja9 (jlq ja1 (jbm (ja4 (jc7 (jmd T) ja1) (ja4 (jc7 (jfm T) ja1) (ja4 ja1 (ja4 (jc7 (jh5 T) ja1) jae))))))
   (jet (i:=2) (jam ja1))))))
theorem jeu:jdu (ct T) mg base 6 "row_of_a_way" jc0:=by
 exact(mtc (jer T) T.C_X4.cl T.mt_Q1 (ok_Q1 T) (by decide) T.H_Q1.B jdo)
theorem jqa:jdu (ct T) mg base 7 "way_by" jhj:=by
 exact(mtc (jer T) T.C_X4.cl T.mt_Qe (ok_Qe T) (by decide) T.H_Qe.B jdo)
theorem ok_Q5:FnOk P w K mg base (CXE P w) 8 T.f_Q5 T.fd_Q5 ["self"] (spZ (ct T) z_Q5):=by
 refine okZ2 (b:=b_Q5) T.H_Q5.F jov λcdv A outer s H E hr=> ?_
 have hu:=hr.units
 refine⟨_,(ja3 (jaj (i:=1) jov.nd rfl (by trivial) (jdy ja7))
   (ja3 (jaj (i:=2) jov.nd rfl (by trivial) (mdq P w K mg base 6 (jeg (pv 0) (hm hr) jb2)))
   (ja3 (jex ownE (jao (K:=K) rfl (pv 2) (λ_=>rfl)) (ja3 (jcl (jfe (K:=K) rfl (jii PySem.F.plainAttrs_list PySem.F.slot_list_append PySem.F.type_list_append jde (pv 1) (ja0 (mdq P w K mg base 7 (jfz (pv 0) (hm hr) jb2 (ja0 (pv 2) ja7))) ja7))))
   (ja3 (jcr ownE rfl (pi_K (K:=K) rfl (pv 2)) (jav (i:=3) jov.nd rfl (by trivial)) (ja6 (jcl (jmv (jau (K:=K) rfl (jb9 (pv 0) rfl)) (ixq P w K hu (pv 3) ja5) ⟨rfl,rfl,rfl,rfl⟩))))
   (ja6 (jaj (i:=2) jov.nd rfl (by trivial) (mdq P w K mg base 6 (jeg (pv 0) (hm hr) jb2)))))))
   (ja6 (jan (pv 1)))))),?_⟩
 exact(ja9 (jai (jia (jdt jae)) jaa)
   (ja9 (jai (jbs (jeu T) ja1 jae) jaa)
   (ja9 (jf0 (jb8 ja1) (ja9 (je0 ja1 (jbs (jqa T) ja1 (ja4 ja1 jae)))
   (ja9 (jdf (si_V ja1) jaa (jga (jqb (jc7 (je4 T) ja1) (s_ix ja1 jab))))
   (jai (jbs (jeu T) ja1 jae) jaa))))
   (jam ja1))))
theorem ok_Q2:FnOk P w K mg base (CXE P w) 6 T.f_Q2 T.fd_Q2 ["self"] (spZ (ct T) z_Q2):=by
 refine okZ2 (b:=b_Q2) T.H_Q2.F sc_Q2 λcdv A outer s H E hr=> ?_
 have hu:=hr.units
 refine⟨_,(ja3 (jaj (i:=1) sc_Q2.nd rfl (by trivial) (jlh jo7 (by rfl) T.b_dict jvo (ja0 (jau (K:=K) rfl (jb9 (pv 0) rfl)) ja7)))
   (ja3 (jcl (jfe (K:=K) rfl (jii PySem.F.plainAttrs_dict PySem.F.slot_dict_update PySem.F.type_dict_update jkq (pv 1) (ja0 (jau (K:=K) rfl (jb9 (pv 0) rfl)) ja7))))
   (ja6 (jan (mdq P w K mg base 5 (jfz (pv 0) (hm hr) jb2 (ja0 (pv 1) ja7))))))),?_⟩
 exact(ja9 (jai (jwi (ja4 (jc7 (je7 T) ja1) jae)) jaa)
   (ja9 (jga (s_upd ja1 (ja4 (jc7 (je4 T) ja1) jae)))
   (jam (jbs (jhn T) ja1 (ja4 ja1 jae)))))
theorem jk7:jdu (ct T) mg base 6 "steps_left" jd8:=by
 exact(mtc (jer T) T.C_X4.cl T.mt_Q2 (ok_Q2 T) (by decide) T.H_Q2.B jdo)
theorem ok_Qm:FnOk P w K mg base (CXE P w) 7 T.f_Qm T.fd_Qm ["self"] (spZ (ct T) z_Qm):=by
 refine okZ2 (b:=b_Qm) T.H_Qm.F jvi λcdv A outer s H E hr=> ?_
 have hu:=hr.units
 refine⟨_,(ja3 (jaj (i:=1) jvi.nd rfl (by trivial) (mdq P w K mg base 5 (jfz (pv 0) (hm hr) jb2 (ja0 (mdq P w K mg base 6 (jeg (pv 0) (hm hr) jb2)) ja7))))
   (ja3 (jcr ownE rfl (pi_K (K:=K) rfl (pv 1)) (jav (i:=2) jvi.nd rfl (by trivial)) (ja6 (jc8 (jar (jpv (P:=P) (w:=w) (K:=K) rfl rfl rfl hu) (ixq P w K hu (pv 2) ja5) (jau (K:=K) rfl (jb9 (pv 0) rfl)) (by with_unfolding_all rfl)) (ja6 (jcl (jmv (jau (K:=K) rfl (jb9 (pv 0) rfl)) (ixq P w K hu (pv 2) ja5) ⟨rfl,rfl,rfl,rfl⟩))) (ja6 (jjg (hu_of hr) (jau (K:=K) rfl (jb9 (pv 0) rfl)) (ixq P w K hu (pv 2) ja5) (ixq P w K hu (pv 2) ja5) rfl)))))
   (ja6 (jan (jg3 (op_gt) (jc1 (jcs (P:=P) (w:=w) (K:=K) rfl rfl rfl) (by rfl) T.b_len jge (ja0 (pv 1) ja7)) ja5 (jb0 _)))))),?_⟩
 exact(ja9 (jai (jbs (jla T) ja1 (ja4 (jbs (jk7 T) ja1 jae) jae)) jaa)
   (ja9 (jdf (si_V ja1) jaa (jc9 (jas (s_op jon (s_ix ja1 jab) (jc7 (je4 T) ja1))) (jga (jqb (jc7 (je4 T) ja1) (s_ix ja1 jab))) (jjz (jc7 (je4 T) ja1) (s_ix ja1 jab) (s_ix ja1 jab))))
   (jam (s_op s2_gt (s_cb jgl (ja4 ja1 jae)) jab))))
theorem jgm:jdu (ct T) mg base 4 "live_bars" jch:=by
 exact(mtc (jhs T) T.C_Net.cl T.mt_Qg (ok_Qg T) (by decide) T.H_Qg.B jdo)
theorem jkt:jdu (ct T) mg base 8 "take_ways" jes:=by
 exact(mtc (jer T) T.C_X4.cl T.mt_Q5 (ok_Q5 T) (by decide) T.H_Q5.B jdo)
theorem jng:jdu (ct T) mg base 7 "widen" jfo:=by
 exact(mtc (jer T) T.C_X4.cl T.mt_Qm (ok_Qm T) (by decide) T.H_Qm.B jdo)
theorem ok_X3:FnOk P w K mg base (CXE P w) 9 T.f_X3 T.fd_X3 ["yard","standing","bar"] (spZ (ct T) z_X3):=by
 refine okZ2 (b:=b_X3) T.H_X3.F jnu λcdv A outer s H E hr=> ?_
 have hu:=hr.units
 refine⟨_,(ja3 (jaj (i:=3) jnu.nd rfl (by trivial) (jlf (mOf T.C_Net T.mt_Qo T.H_Qo (jvq T)) (hm hr) jb2 (ja0 (pv 0) ja7)))
   (ja3 (jc8 (jar (jlt (P:=P) (w:=w) (K:=K) rfl rfl rfl hu) (pv 2) (pe_g (gOf T.H_Qx (jvj T)) (hm hr) jb2 (ja0 (mdq P w K mg base 4 (jfz (pv 3) (hm hr) jb2 (ja0 (pv 1) ja7))) ja7)) (by with_unfolding_all rfl)) (ja6 (jan jnh)) jaw)
   (ja3 (jaj (i:=4) jnu.nd rfl (by trivial) (jah jd2 ja5 (pv 2)))
   (ja3 (jjx (i:=5) jnu.nd rfl (by trivial) (CompOk.mk (tgs:=["number"]) (cap:=["goal","net","standing"]) (idx:=[4,3,1]) rfl rfl (by decide+kernel) (by decide+kernel) (List.forall_mem_cons.mpr ⟨rfl,(List.forall_mem_cons.mpr ⟨rfl,(List.forall_mem_cons.mpr ⟨rfl,(List.forall_mem_nil _)⟩)⟩)⟩) rfl (.cons rfl (by trivial) (by trivial) rfl rfl (.cons rfl (by trivial) (by trivial) rfl rfl (.cons rfl (by trivial) (by trivial) rfl rfl .nil)))) rfl (pi_K (K:=K) rfl (pe_g (gOf T.H_Qx (jvj T)) (hm hr) jb2 (ja0 (pv 1) ja7))) (jec (by decide)) (λ_ _ _ _=>(jav (i:=0) (show List.Nodup (α:=PySem.Str) ["number","goal","net","standing"] by decide+kernel) rfl (by trivial))) (λ_ _ _ _=>(jn6 (jef (jao (K:=K) rfl (jah jbh (mdq P w K mg base 4 (jfz (pv 2) (hm hr) jiu (ja0 (jah jbh (pv 3) (ji0 jfb (jah jd2 ja5 (pv 0)))) ja7))) (pv 1)) (λ_=>rfl))))) (λ_ _ _ _=>(pv 0)))
   (ja3 (jc8 (jao (K:=K) rfl (pv 5) (λ_=>rfl)) (ja6 (jan (jc5 (ja0 jd1 (ja0 (pv 5) ja7))))) jaw)
   (ja3 (jaj (i:=6) jnu.nd rfl (by trivial) (jlf (mOf T.C_X4 T.mt_Q8 T.H_Q8 (ok_Q8 T)) (hm hr) jb2 (ja0 (pv 0) (ja0 (pv 1) (ja0 ja5 (ja0 (pv 4) ja7))))))
   (ja3 (jcl (mdq P w K mg base 7 (jeg (pv 6) (hm hr) jb2)))
   (ja3 (jcl (mdq P w K mg base 7 (jeg (pv 6) (hm hr) jb2)))
   (ja3 (jaj (i:=7) jnu.nd rfl (by trivial) (mdq P w K mg base 8 (jeg (pv 6) (hm hr) jb2)))
   (ja6 (jan (jc5 (ja0 jd1 (ja0 (ixq P w K hu (pv 7) ja5) (ja0 (ixq P w K hu (pv 7) ja5) ja7))))))))))))))),?_⟩
 exact(ja9 (jai (jhv (jhs T) (ja4 ja1 jae)) jaa)
   (ja9 (jc9 (jas (s_op jon ja1 (jbm (ja4 (jbs (jgm T) ja1 (ja4 ja1 jae)) jae)))) (jam js8) jax)
   (ja9 (jai (s_op jd0 jab ja1) jaa)
   (ja9 (jr8 (jcu (jgg (si_V (jbm (ja4 ja1 jae))) jaa (jeh (jb8 (s_op jbg (jbs (jgm T) ja1 (ja4 (s_op jbg ja1 (s_un jf8 (s_op jd0 jab ja1))) jae)) ja1))) ja1)))
   (ja9 (jc9 (jb8 ja1) (jam (jdh (ja4 jf6 (ja4 ja1 jae)))) jax)
   (ja9 (jai (jv8 (jer T) (ja4 ja1 (ja4 ja1 (ja4 jab (ja4 ja1 jae))))) jaa)
   (ja9 (jga (jbs (jng T) ja1 jae))
   (ja9 (jga (jbs (jng T) ja1 jae))
   (ja9 (jai (jbs (jkt T) ja1 jae) jaa)
   (jam (jdh (ja4 jf6 (ja4 (s_ix ja1 jab) (ja4 (s_ix ja1 jab) jae))))))))))))))
theorem ok_law:FnOk P w K mg base (CXE P w) 10 T.f_law T.fd_law ["script"] (spZ (ct T) z_law):=by
 refine okZ2 (b:=jr7) T.H_law.F jkk λcdv A outer s H E hr=> ?_
 have hu:=hr.units
 refine⟨_,(ja3 (jaj (i:=1) jkk.nd rfl (by trivial) (pe_g (gOf T.H_Qn (ok_Qn T)) (hm hr) jb2 (ja0 (pv 0) ja7)))
   (ja3 (jcr ownE rfl (pi_K (K:=K) rfl (jah (jdq (K:=K) rfl) (jdy (ja0 (pe_g (gOf T.H_Qp (jui T)) (hm hr) jb2 (ja0 (pv 0) (ja0 ja5 ja7))) ja7)) (je9 (sl_K (K:=K) rfl) (pv 0) (je5 ja5) (je5 ja5)))) (jav (i:=2) jkk.nd rfl (by trivial)) (ja3 (jaj (i:=3) jkk.nd rfl (by trivial) (pe_g (gOf T.H_Q4 (ok_Q4 T)) (hm hr) jb2 (ja0 (jah jcn (pv 2) ja5) (ja0 (jc1 (jcs (P:=P) (w:=w) (K:=K) rfl rfl rfl) (by rfl) T.b_len jge (ja0 (ixq P w K hu (pv 1) ja5) ja7)) ja7))))
   (ja3 (jaj (i:=4) jkk.nd rfl (by trivial) (jah jcf (jah jcf (pv 2) ja5) (ixq P w K hu (pv 1) ja5)))
   (ja6 (jc8 (jef (jao (K:=K) rfl (pe_g (gOf T.H_Qu (ok_Qu T)) (hm hr) jb2 (ja0 (pv 1) (ja0 (pv 3) (ja0 (pv 4) ja7)))) (λ_=>rfl))) (ja6 (jc8 (jef (jao (K:=K) rfl (pe_g (gOf T.H_X1 (ok_X1 T)) (hm hr) jb2 (ja0 (pv 1) (ja0 (pv 3) (ja0 (pv 4) (ja0 (pe_g (gOf T.H_X3 (ok_X3 T)) (hm hr) jb2 (ja0 (jc5 (ja0 (ixq P w K hu (pv 1) ja5) (ja0 (jlh (jnn (K:=K) rfl) (by rfl) T.b_list jmg (ja0 (ixq P w K hu (pv 1) ja5) ja7)) ja7))) (ja0 (pv 3) (ja0 (pv 4) ja7)))) ja7))))) (λ_=>rfl))) (ja6 (jan jfs)) jaw)) jaw)))))
   (ja6 (jan jfs)))),?_⟩
 exact(ja9 (jai (jbm (ja4 ja1 jae)) jaa)
   (ja9 (jdf (si_V (s_op jff (jcu (jdt (ja4 (jbm (ja4 ja1 (ja4 jab jae))) jae))) (s_sl ja1 (jk9 jab) (jk9 jab)))) jaa (ja9 (jai (jbm (ja4 (s_op je2 ja1 jab) (ja4 (s_cb jgl (ja4 (s_ix ja1 jab) jae)) jae))) jaa)
   (ja9 (jai (s_op jcg (s_op jcg ja1 jab) (s_ix ja1 jab)) jaa)
   (jc9 (jeh (jb8 (jbm (ja4 ja1 (ja4 ja1 (ja4 ja1 jae)))))) (jc9 (jeh (jb8 (jbm (ja4 ja1 (ja4 ja1 (ja4 ja1 (ja4 (jbm (ja4 (jdh (ja4 (s_ix ja1 jab) (ja4 (jcu (n_list (ja4 (s_ix ja1 jab) jae))) jae))) (ja4 ja1 (ja4 ja1 jae)))) jae))))))) (jam s_bl) jax) jax))))
   (jam s_bl)))
end
end My
local macro_rules | `(tactic| k_head) => do
 let hw:=Lean.mkIdent `hw
 let hc:=Lean.mkIdent `hc
 `(tactic| refine PySem.W.holds_open (q:=My.vw) (loose:=[]) (Xt:=(λs=>PySem.W.xlAt My.vw [] s&&PySem.W.recOk (PySem.Challenge.rw_earthward_k28_two_ways).row.records s)) (XP:=PySem.W.XL My.vw []) (Yf:=PySem.W.Hook.obs (PySem.W.kHook My.pre.heap_39 My.kL (λ_=>by kernel_rfl))) (Ya:=PySem.W.Hook.val (PySem.W.kHook My.pre.heap_39 My.kL (λ_=>by kernel_rfl))) (YP:=PySem.W.Hook.says (PySem.W.kHook My.pre.heap_39 My.kL (λ_=>by kernel_rfl))) (N:=4185) My.left (PySem.W.Hook.of (PySem.W.kHook My.pre.heap_39 My.kL (λ_=>by kernel_rfl))) (PySem.W.Hook.keeps (PySem.W.kHook My.pre.heap_39 My.kL (λ_=>by kernel_rfl))) (λs e=>PySem.W.xl_of s (Bool.and_eq_true_iff.mp e).1) PySem.W.XL.keeps (by rfl) (by rfl) (by rfl) (λs e=>PySem.W.recFacts_of (Bool.and_eq_true_iff.mp e).2) (by rfl) (by first | assumption | decide+kernel) (by decide+kernel) ⟨rfl,rfl,rfl,rfl,rfl,by decide+kernel⟩ ?$hw ?$hc)
set_option maxRecDepth 100000 in
set_option maxHeartbeats 0 in
theorem PySem.Challenge.cw_earthward_k28_two_ways_holds : PySem.Challenge.rw_earthward_k28_two_ways.Holds := by
 w_on;o_law;k_head;(case hw=>w_witness2)
 k_fill
 refine L2.walk_ofE (l:=PySem.Challenge.rw_earthward_k28_two_ways) (n:=63) (k:=10) (x:="script") (CX:=λw=>L2.CXE (PySem.Challenge.rw_earthward_k28_two_ways).prog w) (sp:=L2.spL) rfl (by decide) rfl ⟨rfl,by decide,by decide⟩ (λw h Y=>PySem.W.kIn_of Y) ?F ?S ?C
 case F=>
  intro w mg fa h KX G hmg
  have T:Nonempty (My.Txt (PySem.Challenge.rw_earthward_k28_two_ways).prog w (L2.KOf KX) mg):=by
   dsimp only[L2.KOf]
   open L2 in refine' ⟨⟨_,clm KX G ?_ ?_ ?_ ?_ ?_ ?_ ?_,_,_,⟨?_,?_,?_⟩,fnm ?_ ?_ ?_,_,_,⟨?_,?_,?_⟩,fnm ?_ ?_ ?_,_,clm KX G ?_ ?_ ?_ ?_ ?_ ?_ ?_,_,_,⟨?_,?_,?_⟩,fnm ?_ ?_ ?_,_,_,⟨?_,?_,?_⟩,fnm ?_ ?_ ?_,⟨?_,?_,?_⟩,naOf ?_,_,clm KX G ?_ ?_ ?_ ?_ ?_ ?_ ?_,_,_,⟨?_,?_,?_⟩,fnm ?_ ?_ ?_,⟨?_,?_,?_⟩,⟨?_,?_,?_⟩,naOf ?_,_,clm KX G ?_ ?_ ?_ ?_ ?_ ?_ ?_,_,_,⟨?_,?_,?_⟩,fnm ?_ ?_ ?_,_,_,⟨?_,?_,?_⟩,fnm ?_ ?_ ?_,⟨?_,?_,?_⟩,naOf ?_,naOf ?_,_,clm KX G ?_ ?_ ?_ ?_ ?_ ?_ ?_,_,_,⟨?_,?_,?_⟩,fnm ?_ ?_ ?_,_,_,⟨?_,?_,?_⟩,fnm ?_ ?_ ?_,⟨?_,?_,?_⟩,naOf ?_,naOf ?_,_,clm KX G ?_ ?_ ?_ ?_ ?_ ?_ ?_,_,_,⟨?_,?_,?_⟩,fnm ?_ ?_ ?_,_,_,⟨?_,?_,?_⟩,fnm ?_ ?_ ?_,_,_,⟨?_,?_,?_⟩,fnm ?_ ?_ ?_,_,_,⟨?_,?_,?_⟩,fnm ?_ ?_ ?_,naOf ?_,_,clm KX G ?_ ?_ ?_ ?_ ?_ ?_ ?_,_,_,⟨?_,?_,?_⟩,fnm ?_ ?_ ?_,_,_,⟨?_,?_,?_⟩,fnm ?_ ?_ ?_,_,_,⟨?_,?_,?_⟩,fnm ?_ ?_ ?_,_,_,⟨?_,?_,?_⟩,fnm ?_ ?_ ?_,_,_,⟨?_,?_,?_⟩,fnm ?_ ?_ ?_,_,_,⟨?_,?_,?_⟩,fnm ?_ ?_ ?_,_,_,⟨?_,?_,?_⟩,fnm ?_ ?_ ?_,_,_,⟨?_,?_,?_⟩,fnm ?_ ?_ ?_,_,_,⟨?_,?_,?_⟩,fnm ?_ ?_ ?_,_,_,⟨?_,?_,?_⟩,fnm ?_ ?_ ?_,naOf ?_,naOf ?_,naOf ?_,naOf ?_,naOf ?_,naOf ?_,naOf ?_,_,_,fnt KX G ?_ (fnm ?_ ?_ ?_),_,_,fnt KX G ?_ (fnm ?_ ?_ ?_),_,_,fnt KX G ?_ (fnm ?_ ?_ ?_),_,_,fnt KX G ?_ (fnm ?_ ?_ ?_),_,_,fnt KX G ?_ (fnm ?_ ?_ ?_),_,_,fnt KX G ?_ (fnm ?_ ?_ ?_),_,_,fnt KX G ?_ (fnm ?_ ?_ ?_),_,_,fnt KX G ?_ (fnm ?_ ?_ ?_),_,_,fnt KX G ?_ (fnm ?_ ?_ ?_),_,_,fnt KX G ?_ (fnm ?_ ?_ ?_),_,_,fnt KX G ?_ (fnm ?_ ?_ ?_),_,_,fnt KX G ?_ (fnm ?_ ?_ ?_),_,_,fnt KX G ?_ (fnm ?_ ?_ ?_),_,_,fnt KX G ?_ (fnm ?_ ?_ ?_),_,_,fnt KX G ?_ (fnm ?_ ?_ ?_),_,_,fnt KX G ?_ (fnm ?_ ?_ ?_),_,_,fnt KX G ?_ (fnm ?_ ?_ ?_),_,_,fnt KX G ?_ (fnm ?_ ?_ ?_),_,_,fnt KX G ?_ (fnm ?_ ?_ ?_),PySem.W.mg_none_of KX G ?_,PySem.W.mg_none_of KX G ?_,PySem.W.mg_none_of KX G ?_,PySem.W.mg_none_of KX G ?_,PySem.W.mg_none_of KX G ?_,PySem.W.mg_none_of KX G ?_,PySem.W.mg_none_of KX G ?_,PySem.W.mg_none_of KX G ?_,PySem.W.mg_none_of KX G ?_,PySem.W.mg_none_of KX G ?_,PySem.W.mg_none_of KX G ?_,?_⟩⟩
   all_goals try first | k_is | exact λs u=> .of_eq rfl
  obtain⟨T⟩:=T
  have e0:=hmg.symm.trans T.H_law.m
  cases e0
  exact⟨_,T.Bl,λbase kb nb=>L2.law_ok (C:=My.ct T) (My.ok_law T) My.law_true⟩
 case S=>exact L2.spL_of
 case C=>exact λ_ _ _ _ _ z=>L2.cxe_out z
#print axioms PySem.Challenge.cw_earthward_k28_two_ways_holds
