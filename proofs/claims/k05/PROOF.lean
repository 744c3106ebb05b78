import PyProof.Rows.All
import Wide.All
import OpenK.AllK
import Wide.FinOn
import Lean
import PyProof.EqAt
import PyProof.EqKinds
import PyProof.TupleCall
import PyProof.StrBlockL
import PyProof.Lay0
import KE.IntText
import PyProof.SliceList
import PyProof.StrLawsReplace
import PyProof.StrLawsIn
import KE.IntTextLaws
import KE.KIntText
import PyProof.Rows.StrMul
import PyProof.Rows.BitMore
import PySem.Challenge.RW_earthward_k05_two_faults
set_option Elab.async false
set_option linter.all false
set_option maxRecDepth 100000
set_option genSizeOf false
set_option maxHeartbeats 4000000
section
local macro_rules | `(tactic| o_head $H) => `(tactic| exact False.elim (by assumption))
set_option maxHeartbeats 0 in
theorem My.pre (hF : False) : PySem.Challenge.rw_earthward_k05_two_faults.Holds := by
  w_on; o_law; k_head
end
namespace My
section
open PySem PySem.W
theorem left_boot {p q : Program} {loose : List Str} {Xt : Shared → Bool} {α : Type} {Yf : Shared → α} {Ya : World → α} {N : Nat} {g0 : Bool} (e : opening p = plainProg p.main.scope.names) (hN : Nat.ble 600 N = true) (f : ∀ s, fenceModules? p s = some s)
    (h : ∀ (w : World) (os : OsState), (topFrom treeTable p w N ⟨boot_heap w.params, Array.mk [], boot_drawn, boot_toks, os⟩).map (fun s => (openSeen q loose (importedModules p.main.body) Xt g0 s, Yf s)) = some (openGood q loose, Ya w)) : LeftO p q loose Xt Yf Ya N g0 := fun w => by
  obtain ⟨⟨hh, gs, d, k, os⟩, e1, e2⟩ := Option.map_eq_some_iff.mp (boot_open e hN f w)
  simp only [Prod.mk.injEq] at e2
  obtain ⟨rfl, rfl, rfl, rfl⟩ := e2
  unfold openEnds
  rw [e1]
  exact h w os
theorem left_split {p q : Program} {loose : List Str} {Xt : Shared → Bool} {α : Type} {Yf : Shared → α} {Ya : World → α} {N : Nat} {g0 : Bool} (row : String) (e : opening p = plainProg p.main.scope.names) (hN : Nat.ble 600 N = true) (f : ∀ s, fenceModules? p s = some s)
    (h1 : ∀ (w : World) (os : OsState), (topFrom treeTable p (w.withFollow row false) N ⟨boot_heap (w.withFollow row false).params, Array.mk [], boot_drawn, boot_toks, os⟩).map (fun s => (openSeen q loose (importedModules p.main.body) Xt g0 s, Yf s)) = some (openGood q loose, Ya (w.withFollow row false)))
    (h2 : ∀ (w : World) (os : OsState), (topFrom treeTable p (w.withFollow row true) N ⟨boot_heap (w.withFollow row true).params, Array.mk [], boot_drawn, boot_toks, os⟩).map (fun s => (openSeen q loose (importedModules p.main.body) Xt g0 s, Yf s)) = some (openGood q loose, Ya (w.withFollow row true))) : LeftO p q loose Xt Yf Ya N g0 := by
  refine LeftO.of_split row fun w => ?_
  obtain ⟨⟨hh, gs, d, k, os⟩, e1, e2⟩ := Option.map_eq_some_iff.mp (boot_open e hN f w)
  simp only [Prod.mk.injEq] at e2
  obtain ⟨rfl, rfl, rfl, rfl⟩ := e2
  rw [e1]
  exact congrArg some (Prod.ext (h1 w os) (h2 w os))
noncomputable abbrev RunOk (p q : Program) (loose : List Str) (Xt : Shared → Bool) {α : Type} (Yf : Shared → α) (Ya : World → α) (g0 : Bool) (w : World) (m₀ : Nat) (ann : Option Value) (env : Env) (qp pb pf : Pos) (n3 n4 : Nat) (Sb : SharedT) : Prop :=
    (segRunT treeTable p w m₀ ann 1 n3 Sb (piecesOf (behindTheImports p) env (.body (behindTheImports p) env) pb [topFrame qp])).bind (fun r => (topRun treeTable p w m₀ ann n4 r.2.1.abs ⟨doneF .next, .body (behindTheImports p) env, pf, [topFrame qp]⟩).bind fun s₁ =>
        some ((r.1, r.2.2.1, r.2.2.2), (staticsOk (importedModules p.main.body) (boot_heap w.params) s₁.heap && namesBound p s₁.heap && gensDone s₁ && laidKept (boot_heap w.params) s₁.heap), openSeen q loose (importedModules p.main.body) Xt g0 s₁, Yf s₁)) = some ((.next, .body (behindTheImports p) env, pf), true, openGood q loose, Ya w)
theorem top_tree {p q : Program} {loose : List Str} {Xt : Shared → Bool} {α : Type} {Yf : Shared → α} {Ya : World → α} {N : Nat} {g0 : Bool} {w : World} {os : OsState} {m₀ : Nat} {ann : Option Value} {env : Env} {qp pp pb pf : Pos} {n1 n2 n3 n4 : Nat} {Sa : Shared} {Sb : SharedT}
    (size : ((boot_heap w.params).isNs mainGlobals && (Array.mk [] : Array GenState).size == 0, (boot_heap w.params).objs.size, (boot_heap w.params).nsMap mainGlobals "__annotations__") = (true, m₀, ann))
    (pre : topGo treeTable p w m₀ ann n1 ⟨boot_heap w.params, Array.mk [], boot_drawn, boot_toks, os⟩ (topStub p) = some (Sa, ⟨denote treeTable (.body (behindTheImports p) env), .body (behindTheImports p) env, pp, [topFrame qp]⟩))
    (block : segRun treeTable p w m₀ ann 1 n2 Sa (blockOf (behindTheImports p) env (.body (behindTheImports p) env) pp [topFrame qp]) = some (.next, Sb.abs, .body (behindTheImports p) env, pb))
    (run : RunOk p q loose Xt Yf Ya g0 w m₀ ann env qp pb pf n3 n4 Sb)
    (le : Nat.ble (n1 + (n2 + (n3 + n4))) N = true) :
    (topFrom treeTable p w N ⟨boot_heap w.params, Array.mk [], boot_drawn, boot_toks, os⟩).map (fun s => (openSeen q loose (importedModules p.main.body) Xt g0 s, Yf s)) = some (openGood q loose, Ya w) := by
  obtain ⟨⟨f, s2, c2, p2⟩, hr, h⟩ := Option.bind_eq_some_iff.mp run
  obtain ⟨s₁, hs, h⟩ := Option.bind_eq_some_iff.mp h
  simp only [Option.some.injEq, Prod.mk.injEq] at h
  obtain ⟨⟨rfl, rfl, rfl⟩, l1, l2, l3⟩ := h
  have k3 := piece_app (rest := []) (segRun_of hr) (piece_nil hs)
  rw [List.append_nil] at k3
  have k1 := go_top pre (piece_block block k3)
  have r := topRun_mono (N - (n1 + (n2 + (n3 + n4)))) _ _ _ _ k1
  rw [show n1 + (n2 + (n3 + n4)) + (N - (n1 + (n2 + (n3 + n4)))) = N by have := Nat.le_of_ble_eq_true le; omega] at r
  obtain ⟨z1, z2, z3⟩ : _ ∧ _ ∧ _ := by simpa only [Prod.mk.injEq] using size
  have t : topFrom treeTable p w N ⟨boot_heap w.params, Array.mk [], boot_drawn, boot_toks, os⟩ = some s₁ := by
    unfold topFrom
    dsimp only
    rw [z1, z2, z3, r]
    show (match staticsOk (importedModules p.main.body) (boot_heap w.params) s₁.heap && namesBound p s₁.heap && gensDone s₁ && laidKept (boot_heap w.params) s₁.heap with | true => _ | false => _) = _
    rw [l1]
  rw [t]
  exact congrArg some (Prod.ext l2 l3)
end
noncomputable def o0 := PySem.W.boot_o_0
noncomputable def o1 := PySem.W.boot_o_1
noncomputable def o2 := PySem.W.boot_o_2
noncomputable def o3 := PySem.W.boot_o_3
noncomputable def o4 := PySem.W.boot_o_4
noncomputable def o5 := PySem.W.boot_o_5
noncomputable def o6 := PySem.W.boot_o_6
noncomputable def o7 := PySem.W.boot_o_7
noncomputable def o8 := PySem.W.boot_o_8
noncomputable def o9 := PySem.W.boot_o_9
noncomputable def o10 := PySem.W.boot_o_10
noncomputable def o11 (_ : PySem.Params) : PySem.Obj := .mk (.type "tuple") none (.seq #[]) #[]
noncomputable def o12 (_ : PySem.Params) : PySem.Obj := .mk .none none (.fields #[]) #[]
noncomputable def o13 (_ : PySem.Params) : PySem.Obj := .mk (.type "code") none (.fields #[.str (PySem.Str.ofString "<module>") 182, .str (PySem.Str.ofString "<module>") 183, .str (PySem.Str.ofString "/claim/cut.py") 184, .int 1 0, .int 0 0, .int 0 0, .int 0 0, .int 0 0, .ref 11, .bool false, .int 181 0, .ref 12, .none, .none, .none, .none, .int 185 0, .int 1 0, .str (PySem.Str.ofString "/claim/cut.py") 186]) #[]
noncomputable def o14 (_ : PySem.Params) : PySem.Obj := .mk (.type "frame") none .plain #[some (.ref 13), some (.ref 3), some (.ref 3), none, some (.str (PySem.Str.ofString "__main__") 164), none, some (.ref 0)]
noncomputable def Sa (w : PySem.World) (os : PySem.OsState) : PySem.Shared := let P := w.params; ⟨⟨⟨[o0 P, o1 P, o2 P, o3 P, o4 P, o5 P, o6 P, o7 P, o8 P, o9 P, o10 P, o11 P, o12 P, o13 P, o14 P]⟩, {}⟩, Array.mk [], {}, 187, os⟩
noncomputable def bt (P : PySem.Params) : PySem.W.BT := (.node (o0 P) (.node (o1 P) (.node (o3 P) (.node (o7 P) .nil .nil) (.node (o11 P) .nil .nil)) (.node (o5 P) (.node (o9 P) .nil .nil) (.node (o13 P) .nil .nil))) (.node (o2 P) (.node (o4 P) (.node (o8 P) .nil .nil) (.node (o12 P) .nil .nil)) (.node (o6 P) (.node (o10 P) .nil .nil) (.node (o14 P) .nil .nil))))
noncomputable def Sb (w : PySem.World) (os : PySem.OsState) : PySem.W.SharedT := ⟨bt w.params, 15, {}, Array.mk [], {}, 187, os⟩
noncomputable def tenv : PySem.Env := { scope := PySem.Challenge.pw_earthward_k05_two_faults.main.scope, locals := PySem.mainNs, globals := PySem.mainNs, cells := [], code := .ref 13, frame := some 14 }
noncomputable def vw : PySem.Program := { PySem.Challenge.pw_earthward_k05_two_faults with main := { PySem.Challenge.pw_earthward_k05_two_faults.main with body := [1, 2, 3, 4, 5, 6, 7, 8, 9, 10, 11, 12, 13, 14, 15, 16, 18, 19, 20, 21, 22, 23, 24, 25, 26, 27, 28, 30, 31, 32, 33, 34, 35, 36, 37, 38, 39, 40].filterMap fun i => PySem.Challenge.pw_earthward_k05_two_faults.main.body[i]? } }
end My
set_option maxRecDepth 100000
set_option maxHeartbeats 0
namespace My
theorem run0 (w : PySem.World) (os : PySem.OsState) : RunOk PySem.Challenge.pw_earthward_k05_two_faults My.vw [(PySem.Str.ofString "NUMBERS_BEHIND")] (fun s => PySem.W.xlAt My.vw [] s && PySem.W.recOk (PySem.Challenge.rw_earthward_k05_two_faults).row.records s) (PySem.W.Hook.obs (PySem.W.kHook My.pre.heap_39 [2, 3, 15, 22, 23, 24, 25, 28, 35, 36, 37, 40, 47, 48, 49, 52, 59, 60, 61, 64, 71, 72, 73, 76, 83, 84, 85, 88, 95, 96, 97, 100, 107, 108, 109, 112, 119, 120, 121, 124, 131, 132, 133, 136, 143, 144, 145, 148, 155, 156, 157, 160, 167, 168, 169, 172, 179, 180, 181, 184, 191, 192, 193, 196, 203, 204, 205, 208, 209, 212, 213, 214, 217, 218, 219, 221, 222, 224, 225, 226, 228, 229, 231, 232, 233, 235, 236, 238, 239, 240, 242, 243, 245, 246, 247, 249, 250, 252, 253, 254, 256, 257, 259, 260, 261, 264, 265, 266, 268, 269, 271, 272, 273, 275, 276, 278, 279, 280, 282, 283, 285, 286, 287, 289, 290, 292, 293, 294, 296, 297, 299, 300, 301, 304, 305, 306, 309, 310, 311, 314, 315] (fun _ => by kernel_rfl))) (PySem.W.Hook.val (PySem.W.kHook My.pre.heap_39 [2, 3, 15, 22, 23, 24, 25, 28, 35, 36, 37, 40, 47, 48, 49, 52, 59, 60, 61, 64, 71, 72, 73, 76, 83, 84, 85, 88, 95, 96, 97, 100, 107, 108, 109, 112, 119, 120, 121, 124, 131, 132, 133, 136, 143, 144, 145, 148, 155, 156, 157, 160, 167, 168, 169, 172, 179, 180, 181, 184, 191, 192, 193, 196, 203, 204, 205, 208, 209, 212, 213, 214, 217, 218, 219, 221, 222, 224, 225, 226, 228, 229, 231, 232, 233, 235, 236, 238, 239, 240, 242, 243, 245, 246, 247, 249, 250, 252, 253, 254, 256, 257, 259, 260, 261, 264, 265, 266, 268, 269, 271, 272, 273, 275, 276, 278, 279, 280, 282, 283, 285, 286, 287, 289, 290, 292, 293, 294, 296, 297, 299, 300, 301, 304, 305, 306, 309, 310, 311, 314, 315] (fun _ => by kernel_rfl))) true (PySem.World.withFollow w "special-get-raises" false) 11 (some (.ref 6)) My.tenv ⟨0, 0, 0, 0⟩ ⟨0, 0, 0, 0⟩ ⟨163, 0, 192, 62⟩ 4455 5 (My.Sb (PySem.World.withFollow w "special-get-raises" false) os) := by kernel_rfl
theorem run1 (w : PySem.World) (os : PySem.OsState) : RunOk PySem.Challenge.pw_earthward_k05_two_faults My.vw [(PySem.Str.ofString "NUMBERS_BEHIND")] (fun s => PySem.W.xlAt My.vw [] s && PySem.W.recOk (PySem.Challenge.rw_earthward_k05_two_faults).row.records s) (PySem.W.Hook.obs (PySem.W.kHook My.pre.heap_39 [2, 3, 15, 22, 23, 24, 25, 28, 35, 36, 37, 40, 47, 48, 49, 52, 59, 60, 61, 64, 71, 72, 73, 76, 83, 84, 85, 88, 95, 96, 97, 100, 107, 108, 109, 112, 119, 120, 121, 124, 131, 132, 133, 136, 143, 144, 145, 148, 155, 156, 157, 160, 167, 168, 169, 172, 179, 180, 181, 184, 191, 192, 193, 196, 203, 204, 205, 208, 209, 212, 213, 214, 217, 218, 219, 221, 222, 224, 225, 226, 228, 229, 231, 232, 233, 235, 236, 238, 239, 240, 242, 243, 245, 246, 247, 249, 250, 252, 253, 254, 256, 257, 259, 260, 261, 264, 265, 266, 268, 269, 271, 272, 273, 275, 276, 278, 279, 280, 282, 283, 285, 286, 287, 289, 290, 292, 293, 294, 296, 297, 299, 300, 301, 304, 305, 306, 309, 310, 311, 314, 315] (fun _ => by kernel_rfl))) (PySem.W.Hook.val (PySem.W.kHook My.pre.heap_39 [2, 3, 15, 22, 23, 24, 25, 28, 35, 36, 37, 40, 47, 48, 49, 52, 59, 60, 61, 64, 71, 72, 73, 76, 83, 84, 85, 88, 95, 96, 97, 100, 107, 108, 109, 112, 119, 120, 121, 124, 131, 132, 133, 136, 143, 144, 145, 148, 155, 156, 157, 160, 167, 168, 169, 172, 179, 180, 181, 184, 191, 192, 193, 196, 203, 204, 205, 208, 209, 212, 213, 214, 217, 218, 219, 221, 222, 224, 225, 226, 228, 229, 231, 232, 233, 235, 236, 238, 239, 240, 242, 243, 245, 246, 247, 249, 250, 252, 253, 254, 256, 257, 259, 260, 261, 264, 265, 266, 268, 269, 271, 272, 273, 275, 276, 278, 279, 280, 282, 283, 285, 286, 287, 289, 290, 292, 293, 294, 296, 297, 299, 300, 301, 304, 305, 306, 309, 310, 311, 314, 315] (fun _ => by kernel_rfl))) true (PySem.World.withFollow w "special-get-raises" true) 11 (some (.ref 6)) My.tenv ⟨0, 0, 0, 0⟩ ⟨0, 0, 0, 0⟩ ⟨163, 0, 192, 62⟩ 4455 5 (My.Sb (PySem.World.withFollow w "special-get-raises" true) os) := by kernel_rfl
theorem left : PySem.W.LeftO PySem.Challenge.pw_earthward_k05_two_faults My.vw [(PySem.Str.ofString "NUMBERS_BEHIND")] (fun s => PySem.W.xlAt My.vw [] s && PySem.W.recOk (PySem.Challenge.rw_earthward_k05_two_faults).row.records s) (PySem.W.Hook.obs (PySem.W.kHook My.pre.heap_39 [2, 3, 15, 22, 23, 24, 25, 28, 35, 36, 37, 40, 47, 48, 49, 52, 59, 60, 61, 64, 71, 72, 73, 76, 83, 84, 85, 88, 95, 96, 97, 100, 107, 108, 109, 112, 119, 120, 121, 124, 131, 132, 133, 136, 143, 144, 145, 148, 155, 156, 157, 160, 167, 168, 169, 172, 179, 180, 181, 184, 191, 192, 193, 196, 203, 204, 205, 208, 209, 212, 213, 214, 217, 218, 219, 221, 222, 224, 225, 226, 228, 229, 231, 232, 233, 235, 236, 238, 239, 240, 242, 243, 245, 246, 247, 249, 250, 252, 253, 254, 256, 257, 259, 260, 261, 264, 265, 266, 268, 269, 271, 272, 273, 275, 276, 278, 279, 280, 282, 283, 285, 286, 287, 289, 290, 292, 293, 294, 296, 297, 299, 300, 301, 304, 305, 306, 309, 310, 311, 314, 315] (fun _ => by kernel_rfl))) (PySem.W.Hook.val (PySem.W.kHook My.pre.heap_39 [2, 3, 15, 22, 23, 24, 25, 28, 35, 36, 37, 40, 47, 48, 49, 52, 59, 60, 61, 64, 71, 72, 73, 76, 83, 84, 85, 88, 95, 96, 97, 100, 107, 108, 109, 112, 119, 120, 121, 124, 131, 132, 133, 136, 143, 144, 145, 148, 155, 156, 157, 160, 167, 168, 169, 172, 179, 180, 181, 184, 191, 192, 193, 196, 203, 204, 205, 208, 209, 212, 213, 214, 217, 218, 219, 221, 222, 224, 225, 226, 228, 229, 231, 232, 233, 235, 236, 238, 239, 240, 242, 243, 245, 246, 247, 249, 250, 252, 253, 254, 256, 257, 259, 260, 261, 264, 265, 266, 268, 269, 271, 272, 273, 275, 276, 278, 279, 280, 282, 283, 285, 286, 287, 289, 290, 292, 293, 294, 296, 297, 299, 300, 301, 304, 305, 306, 309, 310, 311, 314, 315] (fun _ => by kernel_rfl))) 5155 true := My.left_split "special-get-raises" (by kernel_rfl) (by kernel_rfl) (fun s => rfl) (fun w os => My.top_tree (os := os) (m₀ := 11) (ann := some (.ref 6)) (env := My.tenv) (qp := ⟨0, 0, 0, 0⟩) (pp := ⟨0, 0, 0, 0⟩) (pb := ⟨0, 0, 0, 0⟩) (pf := ⟨163, 0, 192, 62⟩) (n1 := 12) (n2 := 1) (n3 := 4455) (n4 := 5) (Sa := My.Sa (PySem.World.withFollow w "special-get-raises" false) os) (Sb := My.Sb (PySem.World.withFollow w "special-get-raises" false) os) (by kernel_rfl) (by kernel_rfl) (by kernel_rfl) (My.run0 w os) (by kernel_rfl)) (fun w os => My.top_tree (os := os) (m₀ := 11) (ann := some (.ref 6)) (env := My.tenv) (qp := ⟨0, 0, 0, 0⟩) (pp := ⟨0, 0, 0, 0⟩) (pb := ⟨0, 0, 0, 0⟩) (pf := ⟨163, 0, 192, 62⟩) (n1 := 12) (n2 := 1) (n3 := 4455) (n4 := 5) (Sa := My.Sa (PySem.World.withFollow w "special-get-raises" true) os) (Sb := My.Sb (PySem.World.withFollow w "special-get-raises" true) os) (by kernel_rfl) (by kernel_rfl) (by kernel_rfl) (My.run1 w os) (by kernel_rfl))
end My

set_option maxHeartbeats 4000000
namespace L2
open PySem PySem.Spec PyProof.Rows

/-- a key: an int or a str -/
noncomputable abbrev Key := Sum Int Str
noncomputable def keyIs : Key → Value → Bool
  | .inl k, v => Value.isInt k v
  | .inr x, v => Value.isStrOf x v
noncomputable def keyH (w : World) : Key → Int
  | .inl k => hashInt k
  | .inr x => hashStr w x
theorem keyIs_shape : ∀ {k : Key} {v : Value}, keyIs k v = true → (∃ i t, k = Sum.inl i ∧ v = Value.int i t) ∨ (∃ x t, k = Sum.inr x ∧ v = Value.str x t)
  | .inl i, v, h => by
    obtain ⟨t, e⟩ := Value.isInt_shape (k := i) (v := v) h
    exact .inl ⟨i, t, rfl, e⟩
  | .inr x, v, h => by
    obtain ⟨t, e⟩ := Value.isStrOf_shape (x := x) (v := v) h
    exact .inr ⟨x, t, rfl, e⟩
theorem keyIs_int (i : Int) (t : Tok) : keyIs (.inl i) (.int i t) = true := by simp [keyIs, Value.isInt]
theorem keyIs_str (x : Str) (t : Tok) : keyIs (.inr x) (.str x t) = true := by simp [keyIs, Value.isStrOf]
theorem key_ll (a b : Int) : decide ((Sum.inl a : Key) = Sum.inl b) = (a == b) := by
  by_cases e : a = b
  · subst e; simp
  · have h : ¬ (Sum.inl a : Key) = Sum.inl b := fun q => e (Sum.inl.inj q)
    rw [decide_eq_false h]
    exact (beq_eq_false_iff_ne.mpr e).symm
theorem key_rr (a b : Str) : decide ((Sum.inr a : Key) = Sum.inr b) = decide (a = b) := by
  by_cases e : a = b
  · subst e; simp
  · have h : ¬ (Sum.inr a : Key) = Sum.inr b := fun q => e (Sum.inr.inj q)
    rw [decide_eq_false h, decide_eq_false e]
theorem key_lr (a : Int) (b : Str) : decide ((Sum.inl a : Key) = Sum.inr b) = false := decide_eq_false (fun q => nomatch q)
theorem key_rl (a : Str) (b : Int) : decide ((Sum.inr a : Key) = Sum.inl b) = false := decide_eq_false (fun q => nomatch q)

noncomputable def mixKind (prog : Program) (w : World) : PySem.KeyKind prog w Key where
  is := keyIs
  hash := keyH w
  inj := fun v a b ha hb => by
    rcases keyIs_shape ha with ⟨i, t, rfl, rfl⟩ | ⟨x, t, rfl, rfl⟩
    · rcases keyIs_shape hb with ⟨j, u, rfl, e⟩ | ⟨y, u, rfl, e⟩
      · injection e with e1 _; rw [e1]
      · exact nomatch e
    · rcases keyIs_shape hb with ⟨j, u, rfl, e⟩ | ⟨y, u, rfl, e⟩
      · exact nomatch e
      · injection e with e1 _; rw [e1]
  byValue := fun k v h => by
    rcases keyIs_shape h with ⟨i, t, rfl, rfl⟩ | ⟨x, t, rfl, rfl⟩ <;> rfl
  pyHash := fun hv h => by
    rcases keyIs_shape hv with ⟨i, t, rfl, rfl⟩ | ⟨x, t, rfl, rfl⟩
    · exact wpAny_pyHash_int h
    · exact wpAny_pyHash_str h
  eqBool := fun hu hv h => by
    rcases keyIs_shape hu with ⟨i, t, rfl, rfl⟩ | ⟨x, t, rfl, rfl⟩
    · rcases keyIs_shape hv with ⟨j, u, rfl, rfl⟩ | ⟨y, u, rfl, rfl⟩
      · rw [key_ll] at h; exact wpAny_eqBool_int h
      · rw [key_lr] at h; exact SeqAt.EqAt.int_str i t y u _ _ _ _ h
    · rcases keyIs_shape hv with ⟨j, u, rfl, rfl⟩ | ⟨y, u, rfl, rfl⟩
      · rw [key_rl] at h; exact SeqAt.EqAt.str_int x t j u _ _ _ _ h
      · rw [key_rr] at h; exact wpAny_eqBool_str h
  «strs» := fun k x t v h => by
    rcases keyIs_shape h with ⟨i, u, rfl, e⟩ | ⟨y, u, rfl, e⟩
    · exact nomatch e
    · injection e with e1 _
      subst e1
      cases v <;> rfl

theorem mixKind_int (prog : Program) (w : World) (i : Int) (t : Tok) : (mixKind prog w).is (.inl i) (.int i t) = true := keyIs_int i t
theorem mixKind_str (prog : Program) (w : World) (x : Str) (t : Tok) : (mixKind prog w).is (.inr x) (.str x t) = true := keyIs_str x t
end L2

namespace L2
open PySem PySem.Spec PyProof.Rows

/-- a value, without the heap -/
inductive V where
  | non | bl (b : Bool) | int (i : Int) | str (x : Str) | byt (b : Array UInt8) | flt (b : UInt64) | ref (a : Addr) | ty (n : String)
  deriving DecidableEq

noncomputable def RelV : V → Value → Prop
  | .non, u => u = Value.none
  | .bl b, u => u = Value.bool b
  | .int i, u => ∃ t, u = Value.int i t
  | .str x, u => ∃ t, u = Value.str x t
  | .byt b, u => ∃ t, u = Value.bytes b t
  | .flt b, u => ∃ t, u = Value.float b t
  | .ref a, u => u = Value.ref a
  | .ty n, u => u = Value.type n

noncomputable abbrev Vals : List V → List Value → Prop := Paired RelV
theorem Vals.length {xs : List V} {us : List Value} (r : Vals xs us) : xs.length = us.length := Paired.length r
theorem Vals.get : ∀ {xs : List V} {us : List Value} {i : Nat} {x : V}, Vals xs us → xs[i]? = some x → ∃ u, us[i]? = some u ∧ RelV x u
  | _, _, _, _, .nil, e => by simp at e
  | _, _, 0, _, .cons r _, e => by simp at e; subst e; exact ⟨_, rfl, r⟩
  | _, _, i + 1, x, .cons _ t, e => by
    obtain ⟨u, h1, h2⟩ := Vals.get (i := i) (x := x) t (by simpa using e)
    exact ⟨u, by simpa using h1, h2⟩
theorem Vals.set {x : V} {u : Value} (r : RelV x u) : ∀ {xs : List V} {us : List Value} (i : Nat), Vals xs us → Vals (xs.set i x) (us.set i u)
  | _, _, _, .nil => .nil
  | _, _, 0, .cons _ t => .cons r t
  | _, _, i + 1, .cons q t => .cons q (Vals.set r i t)
theorem Vals.append : ∀ {xs ys : List V} {us ws : List Value}, Vals xs us → Vals ys ws → Vals (xs ++ ys) (us ++ ws)
  | _, _, _, _, .nil, s => s
  | _, _, _, _, .cons r t, s => .cons r (Vals.append t s)
theorem Vals.take : ∀ {xs : List V} {us : List Value} (n : Nat), Vals xs us → Vals (xs.take n) (us.take n)
  | _, _, 0, _ => .nil
  | _, _, _ + 1, .nil => .nil
  | _, _, n + 1, .cons r t => .cons r (Vals.take n t)
theorem Vals.drop : ∀ {xs : List V} {us : List Value} (n : Nat), Vals xs us → Vals (xs.drop n) (us.drop n)
  | _, _, 0, r => r
  | _, _, _ + 1, .nil => .nil
  | _, _, n + 1, .cons _ t => Vals.drop n t

noncomputable def RelO : Option V → Option Value → Prop
  | some v, some u => RelV v u
  | none, none => True
  | _, _ => False
noncomputable def KV {κ : Type} : List (κ × V) → List (κ × Value) → Prop := Paired fun (p : κ × V) (q : κ × Value) => p.1 = q.1 ∧ RelV p.2 q.2

/-- a key of a dict (00_mix): an int or a text -/
noncomputable def kV : Key → V
  | .inl i => .int i
  | .inr x => .str x

/-- what stands at a tracked address -/
inductive HO where
  /-- a list -/
  | lst (xs : List V)
  /-- a tuple (never changes) -/
  | tup (xs : List V)
  /-- a dict whose keys are ints and texts; one whose keys are tuples of ints and texts (the empty one is both) -/
  | dK (kvs : List (Key × V)) | dT (kvs : List (List Key × V))
  /-- a set of ints: its members, its size -/
  | set (S : Int → Bool) (n : Nat)
  /-- an instance of the class at C, its dict at dx, its attributes -/
  | ins (C dx : Addr) (fs : List (Str × V))
  /-- the dict of the instance at x -/
  | own (x : Addr)
  /-- the dict of an exception -/
  | xd (fs : List (Str × V))
  /-- a bound method, f of x -/
  | met (f x : Addr)
  /-- a range object lo, lo + 1, .. below hi -/
  | rng (lo hi : Int)
  /-- a thing that is known to the object (the script; a dict while a loop walks it): read, never written while it is so -/
  | frz (o : Obj) (u : HO)
  /-- a code object's table -/
  | tbl (ps : Array Value)
  /-- any other thing, by what is true of its one object (a def of one's own: SetO a S n := HO.ext fun h => ..) -/
  | ext (φ : Heap → Prop)

noncomputable abbrev Hp := Addr → Option HO
noncomputable def upd (H : Hp) (a : Addr) (o : HO) : Hp := fun b => if b = a then some o else H b
theorem upd_same {H : Hp} {a : Addr} {o : HO} : upd H a o a = some o := by unfold upd; rw [if_pos rfl]
theorem upd_ne {H : Hp} {a b : Addr} {o : HO} (h : b ≠ a) : upd H a o b = H b := by unfold upd; rw [if_neg h]
theorem ne_of_none {H : Hp} {a b : Addr} {o : HO} (h : H a = some o) (h' : H b = none) : a ≠ b := by
  intro e; subst e; rw [h] at h'; cases h'

section
variable (P : Program) (w : World)
noncomputable def ObjOk (H : Hp) (h : Heap) (a : Addr) : HO → Prop
  | .lst xs => xs.length ≤ sizeLine ∧ ∃ (its : List Value) (n : Nat), Vals xs its ∧ h.get? a = some { cls := .type "list", data := .seq its.toArray n }
  | .tup xs => xs.length ≤ sizeLine ∧ ∃ its : List Value, Vals xs its ∧ IsTup h a its.toArray
  | .dK kvs => kvs.length ≤ sizeLine ∧ (a == sysModules) = false ∧ ∃ vs, KV kvs vs ∧ h.DictOf (mixKind P w) a vs
  | .dT kvs => kvs.length ≤ sizeLine ∧ (a == sysModules) = false ∧ ∃ xs : List (List Key × Addr × Value),
      Paired (fun (p : List Key × V) (q : List Key × Addr × Value) => p.1 = q.1 ∧ H q.2.1 = some (.tup (p.1.map kV)) ∧ RelV p.2 q.2.2) kvs xs ∧
      ∃ o es ep, h.get? a = some o ∧ o.ExactDict ∧ o.data = .dict es ep ∧ es.toList = xs.map (entryOfKey (tupleKind (mixKind P w))) ∧ (xs.map (·.1)).Nodup
  | .set S n => h.SetOf (intKind P w) a S n
  | .ins C dx fs => H dx = some (.own a) ∧ fs.length ≤ 1000 ∧ dx ≠ a ∧ h.get? a = some (PySem.W.instObj C dx) ∧
      ∃ mA, h.Ns1 dx mA ∧ (∀ f, RelO (fs.lookup f) (mA f)) ∧ PySem.Within mA (fs.map (·.1))
  | .own _ => ∃ o, h.get? a = some o
  | .xd fs => ∃ mA, h.Ns1 a mA ∧ ∀ f, RelO (fs.lookup f) (mA f)
  | .rng lo hi => ∃ t u v, h.get? a = some { cls := .type "range", data := .fields #[.int lo t, .int hi u, .int 1 v] }
  | .frz o u => h.get? a = some o ∧ ObjOk H h a u
  | .tbl ps => h.get? a = some { cls := .none, data := .fields ps }
  | .met f x => h.get? a = some (PySem.W.methodObj (.ref f) (.ref x))
  | .ext φ => φ h ∧ (∃ o, h.get? a = some o) ∧ ∀ h1 h2 : Heap, φ h1 → (∀ o, h1.get? a = some o → h2.get? a = some o) → φ h2
/-- the abstract heap is held -/
noncomputable def HOk (H : Hp) (h : Heap) : Prop := ∀ a o, H a = some o → ObjOk P w H h a o
end

section
variable {P : Program} {w : World} {H H' : Hp} {h h' : Heap} {a : Addr} {o : HO}
theorem ObjOk.lt (x : ObjOk P w H h a o) : a < h.objs.size := by
  cases o with
  | lst xs => obtain ⟨_, _, _, _, e⟩ := x; exact Heap.lt_size e
  | tup xs => obtain ⟨_, _, _, p⟩ := x; exact p.lt
  | dK kvs => obtain ⟨_, _, _, _, o, _, _, e, _⟩ := x; exact Heap.lt_size e
  | dT kvs => obtain ⟨_, _, _, _, o, _, _, e, _⟩ := x; exact Heap.lt_size e
  | set S n => obtain ⟨o, _, _, _, e, _⟩ := x; exact Heap.lt_size e
  | ins C dx fs => obtain ⟨_, _, _, e, _⟩ := x; exact Heap.lt_size e
  | own y => obtain ⟨_, e⟩ := x; exact Heap.lt_size e
  | xd fs => obtain ⟨_, ⟨_, _, _, e, _⟩, _⟩ := x; exact Heap.lt_size e
  | rng lo hi => obtain ⟨_, _, _, e⟩ := x; exact Heap.lt_size e
  | frz ob u => obtain ⟨e, _⟩ := x; exact Heap.lt_size e
  | tbl ps => exact Heap.lt_size (show h.get? a = some _ from x)
  | met f y => exact Heap.lt_size (show h.get? a = some _ from x)
  | ext φ => obtain ⟨_, ⟨_, e⟩, _⟩ := x; exact Heap.lt_size e
theorem Paired.mapP {α β : Type} {F G : α → β → Prop} : ∀ {l₁ : List α} {l₂ : List β}, Paired F l₁ l₂ → (∀ a b, F a b → G a b) → Paired G l₁ l₂
  | _, _, .nil, _ => .nil
  | _, _, .cons r t, f => .cons (f _ _ r) (Paired.mapP t f)
/-- what an object's description leans on: its own object, its own dict, the tuples -/
theorem ObjOk.stay (x : ObjOk P w H h a o) (k : ∀ b u, (b = a ∨ H b = some (.own a)) → h.get? b = some u → h'.get? b = some u)
    (ho : ∀ b, H b = some (.own a) → H' b = some (.own a)) (ht : ∀ b xs, H b = some (.tup xs) → H' b = some (.tup xs)) : ObjOk P w H' h' a o := by
  induction o with
  | lst xs => obtain ⟨z, its, n, r, e⟩ := x; exact ⟨z, its, n, r, k _ _ (.inl rfl) e⟩
  | tup xs => obtain ⟨z, its, r, ob, e, c⟩ := x; exact ⟨z, its, r, ob, k _ _ (.inl rfl) e, c⟩
  | dK kvs => obtain ⟨z, y, vs, r, ob, es, ep, e, c⟩ := x; exact ⟨z, y, vs, r, ob, es, ep, k _ _ (.inl rfl) e, c⟩
  | dT kvs =>
    obtain ⟨z, y, xs, r, ob, es, ep, e, c⟩ := x
    exact ⟨z, y, xs, Paired.mapP r fun p q z => ⟨z.1, ht _ _ z.2.1, z.2.2⟩, ob, es, ep, k _ _ (.inl rfl) e, c⟩
  | set S n => obtain ⟨ob, es, ep, t, e, c⟩ := x; exact ⟨ob, es, ep, t, k _ _ (.inl rfl) e, c⟩
  | ins C dx fs =>
    obtain ⟨d, z, ne, e, mA, ⟨od, es, ep, e2, c⟩, r⟩ := x
    exact ⟨ho _ d, z, ne, k _ _ (.inl rfl) e, mA, ⟨od, es, ep, k _ _ (.inr d) e2, c⟩, r⟩
  | own y => obtain ⟨ob, e⟩ := x; exact ⟨ob, k _ _ (.inl rfl) e⟩
  | xd fs => obtain ⟨mA, ⟨od, es, ep, e, c⟩, r⟩ := x; exact ⟨mA, ⟨od, es, ep, k _ _ (.inl rfl) e, c⟩, r⟩
  | rng lo hi => obtain ⟨t, u, v, e⟩ := x; exact ⟨t, u, v, k _ _ (.inl rfl) e⟩
  | frz ob u ih => obtain ⟨e, q⟩ := x; exact ⟨k _ _ (.inl rfl) e, ih q⟩
  | tbl ps =>
    have e : h.get? a = some { cls := .none, data := .fields ps } := x
    show h'.get? a = some { cls := .none, data := .fields ps }
    exact k a _ (.inl rfl) e
  | met f y =>
    have e : h.get? a = some (PySem.W.methodObj (.ref f) (.ref y)) := x
    show h'.get? a = some (PySem.W.methodObj (.ref f) (.ref y))
    exact k a _ (.inl rfl) e
  | ext φ => obtain ⟨p, ⟨o, e⟩, st⟩ := x; exact ⟨st _ _ p fun o q => k _ _ (.inl rfl) q, ⟨o, k _ _ (.inl rfl) e⟩, st⟩
theorem HOk.lt (x : HOk P w H h) (e : H a = some o) : a < h.objs.size := (x a o e).lt
theorem HOk.fresh (x : HOk P w H h) (e : h.objs.size ≤ a) : H a = none := by
  cases q : H a with
  | none => rfl
  | some u => exact absurd (Nat.lt_of_lt_of_le (x.lt q) e) (Nat.lt_irrefl _)
/-- every object of the heap is kept -/
theorem HOk.kept (x : HOk P w H h) (k : ∀ b u, h.get? b = some u → h'.get? b = some u) : HOk P w H h' := fun a o e =>
  (x a o e).stay (fun b u _ q => k b u q) (fun _ q => q) fun _ _ q => q
/-- a new object is laid and tracked -/
theorem HOk.laid (x : HOk P w H h) (k : ∀ b u, h.get? b = some u → h'.get? b = some u) (hp : h.objs.size ≤ a) (new : ObjOk P w (upd H a o) h' a o) : HOk P w (upd H a o) h' := fun b u e => by
  have hn := x.fresh hp
  by_cases hb : b = a
  · subst hb; rw [upd_same] at e; cases e; exact new
  · rw [upd_ne hb] at e
    exact (x b u e).stay (fun c v _ q => k c v q) (fun c q => by rw [upd_ne (ne_of_none q hn)]; exact q) fun c xs q => by rw [upd_ne (ne_of_none q hn)]; exact q
end

/-- what may be read as u: it is u, or a known u -/
noncomputable def Rd (H : Hp) (a : Addr) (u : HO) : Prop := H a = some u ∨ ∃ o, H a = some (.frz o u)
theorem Rd.ok {P : Program} {w : World} {H : Hp} {h : Heap} {a : Addr} {u : HO} (r : Rd H a u) (x : HOk P w H h) : ObjOk P w H h a u := by
  rcases r with r | ⟨o, r⟩
  · exact x a u r
  · obtain ⟨_, q⟩ := x a _ r
    exact q
/-- what may be written -/
noncomputable def Mut : Option HO → Prop
  | some (.lst _) => True
  | some (.dK _) => True
  | some (.dT _) => True
  | some (.set _ _) => True
  | some (.ins _ _ _) => True
  | some (.ext _) => True
  | _ => False
section
variable {P : Program} {w : World} {H : Hp} {h h' : Heap} {x e : Addr} {o' : HO}
/-- the object at e is changed: x itself, or the dict of the instance x -/
theorem HOk.write (ok : HOk P w H h) (mu : Mut (H x)) (he : e = x ∨ H e = some (.own x)) (k : ∀ b u, b ≠ e → h.get? b = some u → h'.get? b = some u) (heo : ∃ u, h'.get? e = some u)
    (new : ObjOk P w (upd H x o') h' x o') : HOk P w (upd H x o') h' := fun b u q => by
  have nown : ∀ c y, H c = some (.own y) → c ≠ x := fun c y r z => by subst z; rw [r] at mu; exact mu
  have ntup : ∀ c xs, H c = some (.tup xs) → c ≠ x := fun c xs r z => by subst z; rw [r] at mu; exact mu
  by_cases hb : b = x
  · subst hb; rw [upd_same] at q; cases q; exact new
  · rw [upd_ne hb] at q
    by_cases hbe : b = e
    · have q' : H b = some (.own x) := by
        rcases he with z | z
        · exact absurd (hbe.trans z) hb
        · rw [hbe]; exact z
      rw [q] at q'; cases q'
      obtain ⟨v, hv⟩ := heo
      exact ⟨v, by rw [hbe]; exact hv⟩
    · refine (ok b u q).stay (fun c v hc r => k c v ?_ r) (fun c r => by rw [upd_ne (nown c b r)]; exact r) fun c xs r => by rw [upd_ne (ntup c xs r)]; exact r
      rcases hc with rfl | hc
      · exact hbe
      · rintro rfl
        rcases he with z | z
        · exact nown c b hc z
        · rw [hc] at z; cases z; exact hb rfl
end

/-! ### kept unless tracked; of the frames at fs (the callers') the slots may change (an exception that passes writes there); of the records at ex (iterators) nothing is said -/
structure Un (fs ex : List Addr) (H H' : Hp) (h h' : Heap) : Prop where
  keep : ∀ b o, h.get? b = some o → H b = none → b ∉ fs → b ∉ ex → h'.get? b = some o
  slot : ∀ b o, h.get? b = some o → H b = none → b ∈ fs → b ∉ ex → ∃ sl, h'.get? b = some { o with slots := sl }
  free : ∀ b o, h.get? b = some o → H b = none → b ∉ ex → H' b = none
  there : ∀ b o, h.get? b = some o → b ∉ ex → ∃ o', h'.get? b = some o'
  tups : ∀ b xs, H b = some (.tup xs) → H' b = some (.tup xs)
  frzs : ∀ b o u, H b = some (.frz o u) → H' b = some (.frz o u)
  tbls : ∀ b ps, H b = some (.tbl ps) → ∃ more, H' b = some (.tbl (ps ++ more))
section
variable {fs fs' ex ex' : List Addr} {H H1 H2 : Hp} {h h1 h2 h' : Heap} {a x e : Addr} {o : HO}
theorem Un.any (u : Un fs ex H H1 h h1) {b : Addr} {ob : Obj} (q : h.get? b = some ob) (n : H b = none) (hx : b ∉ ex) : ∃ sl, h1.get? b = some { ob with slots := sl } := by
  by_cases hb : b ∈ fs
  · exact u.slot b ob q n hb hx
  · exact ⟨ob.slots, u.keep b ob q n hb hx⟩
theorem Un.kept (k : ∀ b u, h.get? b = some u → h'.get? b = some u) : Un fs ex H H h h' :=
  ⟨fun b ob q _ _ _ => k b ob q, fun b ob q _ _ _ => ⟨ob.slots, k b ob q⟩, fun _ _ _ n _ => n, fun b ob q _ => ⟨ob, k b ob q⟩, fun _ _ q => q, fun _ _ _ q => q, fun _ ps q => ⟨#[], by rw [q]; simp⟩⟩
theorem Un.refl : Un fs ex H H h h := Un.kept fun _ _ q => q
theorem Un.laid (k : ∀ b u, h.get? b = some u → h'.get? b = some u) (hp : h.objs.size ≤ a) (hn : H a = none) : Un fs ex H (upd H a o) h h' where
  keep := fun b u q _ _ _ => k b u q
  slot := fun b u q _ _ _ => ⟨u.slots, k b u q⟩
  free := fun b u q n _ => by rw [upd_ne (Nat.ne_of_lt (Nat.lt_of_lt_of_le (Heap.lt_size q) hp))]; exact n
  there := fun b u q _ => ⟨u, k b u q⟩
  tups := fun b xs q => by rw [upd_ne (ne_of_none q hn)]; exact q
  frzs := fun b u xs q => by rw [upd_ne (ne_of_none q hn)]; exact q
  tbls := fun b ps q => ⟨#[], by rw [upd_ne (ne_of_none q hn), q]; simp⟩
theorem Un.write (mu : Mut (H x)) (he : e = x ∨ H e = some (.own x)) (k : ∀ b u, b ≠ e → h.get? b = some u → h'.get? b = some u) (heo : ∃ u, h'.get? e = some u) : Un fs ex H (upd H x o) h h' := by
  have hx : ∀ b, H b = none → b ≠ x := fun b n z => by subst z; rw [n] at mu; exact mu
  have hb : ∀ b, H b = none → b ≠ e := fun b n z => by
    subst z
    rcases he with r | r
    · exact hx b n r
    · rw [n] at r; cases r
  have hm : ∀ b u, H b = some u → ¬ Mut (some u) → b ≠ x := fun b u q nm z => by subst z; rw [q] at mu; exact nm mu
  refine ⟨fun b u q n _ _ => k b u (hb b n) q, fun b u q n _ _ => ⟨u.slots, k b u (hb b n) q⟩, fun b u q n _ => by rw [upd_ne (hx b n)]; exact n, fun b u q _ => ?_,
    fun b xs q => by rw [upd_ne (hm b _ q fun z => z)]; exact q, fun b u xs q => by rw [upd_ne (hm b _ q fun z => z)]; exact q, fun b ps q => ⟨#[], by rw [upd_ne (hm b _ q fun z => z), q]; simp⟩⟩
  by_cases hbe : b = e
  · subst hbe; exact heo
  · exact ⟨u, k b u hbe q⟩
end

/-! ### the heap without what is tracked -/
noncomputable def trk (h : Heap) (H : Hp) : List Addr := (List.range h.objs.size).filter fun a => (H a).isSome
noncomputable def hidT (h : Heap) (H : Hp) : Heap := PySem.W.hideAll h (trk h H)
theorem hidT_size (h : Heap) (H : Hp) : (hidT h H).objs.size = h.objs.size := PySem.W.hideAll_size _ _
theorem hidT_get {h : Heap} {H : Hp} {b : Addr} {o : Obj} (e : h.get? b = some o) (n : H b = none) : (hidT h H).get? b = some o :=
  PySem.W.hideAll_get _ e fun hm => by
    have q : (H b).isSome = true := (List.mem_filter.mp hm).2
    rw [n] at q; simp at q
theorem of_hidT {h : Heap} {H : Hp} {b : Addr} {o : Obj} (e : (hidT h H).get? b = some o) : h.get? b = some o ∧ H b = none := by
  have e' : h.get? b = some o := PySem.W.of_hideAll (trk h H) e
  refine ⟨e', ?_⟩
  cases q : H b with
  | none => rfl
  | some x =>
    have hm : b ∈ trk h H := List.mem_filter.mpr ⟨List.mem_range.mpr (Heap.lt_size e'), by simp [q]⟩
    have z : (hidT h H).get? b = none := PySem.W.hideAll_none (trk h H) hm
    rw [z] at e; cases e

/-! ### OpenK's ledger, filled with every new object but one -/
noncomputable def allNews (g h : Heap) (L : Addr) : List (Addr × Obj) := (List.range h.objs.size).filterMap fun a => if a = L ∨ (g.get? a).isSome = true then none else (h.get? a).map fun o => (a, o)
noncomputable def rest (g h : Heap) (L d : Addr) : List (Addr × Obj) := (allNews g h L).filter fun p => decide (p.1 ≠ d)
end L2

namespace L2
open PySem PySem.Spec PyProof.Rows

/-- the module's facts, over the base: the heap at the law's entry without what is tracked there -/
structure Mod (K : PySem.W.Frag) (mg : Str → Option Value) (base : Heap) : Prop where
  kin : K.In base
  glob : base.Ns mainGlobals mg
  blt : ∃ mb, base.Ns builtinsNs mb ∧ ∀ x : Str, x ≠ "__name__" → mb x = bootBuiltins x
  nolimit : base.NoLimit

/-- the context: a def's body (or a comprehension's block) running. base: fixed through the whole law; s₀, H₀: the entry; outer: the frames whose slots others may change (a def's callers); stack: all frames that run;
   ex: iterators that were made ahead of the entry and are walked here (a comprehension's); fn: the names whose cells were made at the entry (a def: all; a comprehension's block: its own); calm: not within an except suite; pn: pins that every state bears; xe: what is wanted of an exception that leaves the code -/
structure Cx where
  prog : Program
  w : World
  K : PySem.W.Frag
  mg : Str → Option Value
  base : Heap
  A : Around
  N : List Str
  s₀ : Shared
  H₀ : Hp
  env : Env
  outer : List Env
  stack : List Env
  ex : List Addr
  fn : Str → Bool
  calm : Bool
  pn : List (Addr × Obj)
  xe : Value → Shared → Prop
/-- the callers' frames -/
noncomputable def frs (l : List Env) : List Addr := l.filterMap (·.frame)
noncomputable abbrev Cx.fs (X : Cx) : List Addr := frs X.outer

noncomputable def Vis (sc : Scope) (x : Str) : Prop := sc.names.lookup x = some .local ∨ sc.names.lookup x = some .cell ∨ sc.names.lookup x = some .free
noncomputable def Loc (sc : Scope) (x : Str) : Prop := sc.names.lookup x = some .local ∨ sc.names.lookup x = some .cell
noncomputable def Look (env : Env) (h : Heap) (m : Str → Option Value) (x : Str) (u : Value) : Prop :=
  (env.kindOf x = some .local ∧ m x = some u) ∨ ((env.kindOf x = some .cell ∨ env.kindOf x = some .free) ∧ ∃ c, env.cells.lookup x = some c ∧ h.IsCell c (some u))

structure Cx.Ok (X : Cx) : Prop where
  mod : Mod X.K X.mg X.base
  kind : X.env.scope.kind = .function
  glob : X.env.globals = mainGlobals
  blt : X.env.builtins = builtinsNs
  above : X.s₀.heap.objs.size ≤ X.env.locals
  inj : ∀ x y c, X.env.cells.lookup x = some c → X.env.cells.lookup y = some c → x = y
  has : ∀ x, (X.env.kindOf x = some .cell ∨ X.env.kindOf x = some .free) → ∃ c, X.env.cells.lookup x = some c
  cab : ∀ x c, X.fn x = true → X.env.cells.lookup x = some c → X.s₀.heap.objs.size ≤ c
  hd : X.calm = true → X.A.handled = none
  frames : X.A.frames = some X.stack
  stk : X.stack = X.outer ∨ (X.stack = X.env :: X.outer ∧ X.env.frame = some X.env.locals)
  exf : ∀ b ∈ X.ex, b ≠ X.env.locals ∧ ∀ x c, X.env.cells.lookup x = some c → c ≠ b
  bs : ∀ b o, X.base.get? b = some o → X.s₀.heap.get? b = some o ∧ X.H₀ b = none
  bsz : X.base.objs.size ≤ X.s₀.heap.objs.size
  noex : ∀ b o, X.base.get? b = some o → b ∉ X.ex
  exfs : ∀ b ∈ X.ex, b ∉ X.fs
  funs : X.s₀.heap.FunFrames X.base X.outer
  frf : ∀ b ∈ X.fs, X.H₀ b = none

structure Inv (X : Cx) (pins : List (Addr × Obj)) (σ : List (Option V)) (H : Hp) (s : Shared) : Prop where
  ok : X.Ok
  os : s.os = X.s₀.os
  bare : AllBare s.gens
  base : Un X.fs X.ex X.H₀ H X.s₀.heap s.heap
  loc : ∃ m, s.heap.Ns X.env.locals m ∧ ∀ (i : Nat) (x : Str) (v : V), X.N[i]? = some x → σ[i]? = some (some v) → Vis X.env.scope x → ∃ u, RelV v u ∧ Look X.env s.heap m x u
  cell : ∀ x c, X.env.cells.lookup x = some c → ∃ v, s.heap.IsCell c v
  free : H X.env.locals = none
  freeC : ∀ x c, X.env.cells.lookup x = some c → H c = none
  pin : ∀ p ∈ X.pn ++ pins, s.heap.get? p.1 = some p.2 ∧ H p.1 = none ∧ p.1 ≠ X.env.locals ∧ p.1 ∉ X.fs ∧ ∀ v, p.2.data ≠ .cell v
  hok : HOk X.prog X.w H s.heap
  len : σ.length = X.N.length

section
variable {X : Cx} {pins : List (Addr × Obj)} {σ : List (Option V)} {H H' : Hp} {s : Shared} {h' : Heap}

theorem Cx.Ok.nofr (ok : X.Ok) {b : Addr} {o : Obj} (e : X.base.get? b = some o) : b ∉ X.fs := fun hb => by
  have := (ok.funs.mem hb).1
  rw [e] at this; cases this
theorem Inv.bs (I : Inv X pins σ H s) : ∀ b o, X.base.get? b = some o → s.heap.get? b = some o ∧ H b = none := fun b o e =>
  ⟨I.base.keep b o (I.ok.bs b o e).1 (I.ok.bs b o e).2 (I.ok.nofr e) (I.ok.noex b o e), I.base.free b o (I.ok.bs b o e).1 (I.ok.bs b o e).2 (I.ok.noex b o e)⟩
theorem Inv.bk (I : Inv X pins σ H s) : ∀ b o, X.base.get? b = some o → s.heap.get? b = some o := fun b o e => (I.bs b o e).1
theorem Inv.mod (I : Inv X pins σ H s) : Mod X.K X.mg X.base := I.ok.mod
theorem Inv.kIn (I : Inv X pins σ H s) : X.K.In s.heap := I.ok.mod.kin.keeps I.bk
theorem Inv.lt (I : Inv X pins σ H s) : X.env.locals < s.heap.objs.size := let ⟨_, hn, _⟩ := I.loc; hn.lt
theorem Inv.sz (I : Inv X pins σ H s) : X.s₀.heap.objs.size ≤ s.heap.objs.size := Nat.le_trans I.ok.above (Nat.le_of_lt I.lt)
theorem Inv.nofs (I : Inv X pins σ H s) {a : Addr} (h : s.heap.objs.size ≤ a) : a ∉ X.fs := fun hb => by
  obtain ⟨_, o, ho, _⟩ := I.ok.funs.mem hb
  exact absurd (Nat.lt_of_lt_of_le (Heap.lt_size ho) (Nat.le_trans I.sz h)) (Nat.lt_irrefl _)
theorem Inv.cne (I : Inv X pins σ H s) : ∀ x c, X.env.cells.lookup x = some c → c ≠ X.env.locals := fun x c e z => by
  obtain ⟨v, o, ho, hd⟩ := I.cell x c e
  obtain ⟨m, ⟨o', es, ep, ho', hd', _⟩, _⟩ := I.loc
  rw [z, ho'] at ho; cases ho; rw [hd'] at hd; cases hd
theorem Inv.funs (I : Inv X pins σ H s) : s.heap.FunFrames X.base X.outer := by
  have all : ∀ (l : List Env), (∀ b ∈ frs l, b ∈ X.fs) → X.s₀.heap.FunFrames X.base l → s.heap.FunFrames X.base l := by
    intro l
    induction l with
    | nil => intro _ _; trivial
    | cons env r ih =>
      intro hs hl
      obtain ⟨hk, ⟨L, o, hf, hn, ho, hd⟩, hr⟩ := hl
      have hL : L ∈ X.fs := hs L (by unfold frs; rw [List.filterMap_cons, hf]; exact List.mem_cons_self)
      obtain ⟨sl, e⟩ := I.base.slot L o ho (I.ok.frf L hL) hL fun z => I.ok.exfs L z hL
      exact ⟨hk, ⟨L, _, hf, hn, e, hd⟩, ih (fun b hb => hs b (by unfold frs; rw [List.filterMap_cons, hf]; exact List.mem_cons_of_mem _ hb)) hr⟩
  exact all X.outer (fun _ hb => hb) I.ok.funs

/-- the frames that run, for a call -/
theorem Inv.stack (I : Inv X pins σ H s) : s.heap.FunFrames X.base X.stack := by
  rcases I.ok.stk with e | ⟨e, hf⟩
  · rw [e]; exact I.funs
  · rw [e]
    obtain ⟨m, hn, _⟩ := I.loc
    refine .cons (by rw [I.ok.kind]; decide) hf hn ?_ I.funs
    exact Heap.get?_none_of_le (Nat.le_trans I.ok.bsz I.ok.above)
theorem Inv.stkSub (I : Inv X pins σ H s) : ∀ b ∈ frs X.stack, b ∈ X.env.locals :: X.fs := fun b hb => by
  rcases I.ok.stk with e | ⟨e, hf⟩
  · rw [e] at hb; exact List.mem_cons_of_mem _ hb
  · rw [e] at hb
    unfold frs at hb
    rw [List.filterMap_cons, hf] at hb
    exact hb
theorem Inv.stkFree (I : Inv X pins σ H s) : ∀ b ∈ frs X.stack, H b = none := fun b hb => by
  rcases List.mem_cons.mp (I.stkSub b hb) with e | hb
  · rw [e]; exact I.free
  · obtain ⟨_, o, ho, _⟩ := I.ok.funs.mem hb
    exact I.base.free b o ho (I.ok.frf b hb) fun z => I.ok.exfs b z hb

/-- THE STEP: the untracked objects but the frame and the records at ch are kept (the callers' frames up to slots), the frame's map is kept, the new abstract heap is held -/
theorem Inv.step {g' : Array GenState} {t' : Nat} {d' : Drawn} {ch : List Addr} (I : Inv X pins σ H s)
    (hch : ∀ b ∈ ch, (b ∈ X.ex ∨ X.s₀.heap.objs.size ≤ b) ∧ b ≠ X.env.locals ∧ (∀ x c, X.env.cells.lookup x = some c → c ≠ b) ∧ ∀ p ∈ X.pn ++ pins, p.1 ≠ b)
    (keep : ∀ b o, b ≠ X.env.locals → b ∉ X.fs → b ∉ ch → s.heap.get? b = some o → H b = none → h'.get? b = some o)
    (slot : ∀ b o, b ≠ X.env.locals → b ∈ X.fs → b ∉ ch → s.heap.get? b = some o → H b = none → ∃ sl, h'.get? b = some { o with slots := sl }) (free : ∀ b o, b ∉ ch → s.heap.get? b = some o → H b = none → H' b = none)
    (there : ∀ b o, b ∉ ch → s.heap.get? b = some o → ∃ o', h'.get? b = some o')
    (tups : ∀ b xs, H b = some (.tup xs) → H' b = some (.tup xs)) (frzs : ∀ b o u, H b = some (.frz o u) → H' b = some (.frz o u)) (tbls : ∀ b ps, H b = some (.tbl ps) → ∃ more, H' b = some (.tbl (ps ++ more)))
    (ns : ∀ m, s.heap.Ns X.env.locals m → h'.Ns X.env.locals m) (hok : HOk X.prog X.w H' h') (hg : AllBare g') :
    Inv X pins σ H' { s with heap := h', gens := g', drawn := d', toks := t' } := by
  have neL : ∀ b o, X.s₀.heap.get? b = some o → b ≠ X.env.locals := fun b o e => Nat.ne_of_lt (Nat.lt_of_lt_of_le (Heap.lt_size e) I.ok.above)
  have neC : ∀ b o, X.s₀.heap.get? b = some o → b ∉ X.ex → b ∉ ch := fun b o e hx hb => by
    rcases (hch b hb).1 with z | z
    · exact hx z
    · exact absurd (Nat.lt_of_lt_of_le (Heap.lt_size e) z) (Nat.lt_irrefl _)
  have cellK : ∀ x c, X.env.cells.lookup x = some c → ∀ v, s.heap.IsCell c v → h'.IsCell c v := fun x c e v ⟨o, ho, hd⟩ => by
    have nch : c ∉ ch := fun z => (hch c z).2.2.1 x c e rfl
    by_cases hc : c ∈ X.fs
    · obtain ⟨sl, q⟩ := slot c o (I.cne x c e) hc nch ho (I.freeC x c e)
      exact ⟨_, q, hd⟩
    · exact ⟨o, keep c o (I.cne x c e) hc nch ho (I.freeC x c e), hd⟩
  refine ⟨I.ok, I.os, hg, ⟨fun b o e n hb hx => ?_, fun b o e n hb hx => ?_, fun b o e n hx => ?_, fun b o e hx => ?_, fun b xs e => tups b xs (I.base.tups b xs e), fun b o xs e => frzs b o xs (I.base.frzs b o xs e), fun b ps e => ?_⟩, ?_, fun x c e => ?_, ?_, fun x c e => ?_, fun p hp => ?_, hok, I.len⟩
  · exact keep b o (neL b o e) hb (neC b o e hx) (I.base.keep b o e n hb hx) (I.base.free b o e n hx)
  · obtain ⟨sl, e1⟩ := I.base.slot b o e n hb hx
    obtain ⟨sl', e2⟩ := slot b _ (neL b o e) hb (neC b o e hx) e1 (I.base.free b o e n hx)
    exact ⟨sl', e2⟩
  · obtain ⟨o', e1⟩ := I.base.there b o e hx
    exact free b o' (neC b o e hx) e1 (I.base.free b o e n hx)
  · obtain ⟨o', e1⟩ := I.base.there b o e hx
    exact there b o' (neC b o e hx) e1
  · obtain ⟨m1, e1⟩ := I.base.tbls b ps e
    obtain ⟨m2, e2⟩ := tbls b _ e1
    exact ⟨m1 ++ m2, by rw [e2, Array.append_assoc]⟩
  · obtain ⟨m, hn, hl⟩ := I.loc
    refine ⟨m, ns m hn, fun i x v e1 e2 e3 => ?_⟩
    obtain ⟨u, r, l⟩ := hl i x v e1 e2 e3
    refine ⟨u, r, ?_⟩
    rcases l with l | ⟨k, c, e, z⟩
    · exact .inl l
    · exact .inr ⟨k, c, e, cellK x c e _ z⟩
  · obtain ⟨v, z⟩ := I.cell x c e
    exact ⟨v, cellK x c e v z⟩
  · obtain ⟨m, ⟨o, _, _, ho, _⟩, _⟩ := I.loc
    exact free _ o (fun z => (hch _ z).2.1 rfl) ho I.free
  · obtain ⟨v, o, ho, hd⟩ := I.cell x c e
    exact free c o (fun z => (hch c z).2.2.1 x c e rfl) ho (I.freeC x c e)
  · obtain ⟨e, n, ne, nf, d⟩ := I.pin p hp
    have nch : p.1 ∉ ch := fun z => (hch p.1 z).2.2.2 p hp rfl
    exact ⟨keep p.1 p.2 ne nf nch e n, free p.1 p.2 nch e n, ne, nf, d⟩
/-- .. where the frame's own object is kept too -/
theorem Inv.un {t' : Nat} (I : Inv X pins σ H s) (u : Un X.fs [] H H' s.heap h') (hok : HOk X.prog X.w H' h') : Inv X pins σ H' { s with heap := h', toks := t' } := by
  obtain ⟨m, ⟨o, es, ep, ho, r⟩, _⟩ := id I.loc
  obtain ⟨sl, hL⟩ := u.any ho I.free (by simp)
  exact I.step (g' := s.gens) (d' := s.drawn) (ch := []) (fun _ z => nomatch z) (fun b o _ hb _ e n => u.keep b o e n hb (by simp)) (fun b o _ hb _ e n => u.slot b o e n hb (by simp)) (fun b o _ e n => u.free b o e n (by simp)) (fun b o _ e => u.there b o e (by simp)) u.tups u.frzs u.tbls (fun m' hm => by
    obtain ⟨o', es', ep', ho', r'⟩ := hm
    rw [ho] at ho'; cases ho'
    exact ⟨_, es', ep', hL, r'⟩) hok I.bare
/-- behind a call (or a comprehension's block): the slots of this frame may have changed too, the records at ch may have turned -/
theorem Inv.call {g' : Array GenState} {t' : Nat} {d' : Drawn} {ch : List Addr} (I : Inv X pins σ H s) (u : Un (frs X.stack) ch H H' s.heap h') (hok : HOk X.prog X.w H' h') (hg : AllBare g')
    (hch : ∀ b ∈ ch, (b ∈ X.ex ∨ X.s₀.heap.objs.size ≤ b) ∧ b ≠ X.env.locals ∧ (∀ x c, X.env.cells.lookup x = some c → c ≠ b) ∧ ∀ p ∈ X.pn ++ pins, p.1 ≠ b) :
    Inv X pins σ H' { s with heap := h', gens := g', drawn := d', toks := t' } := by
  obtain ⟨m, ⟨o, es, ep, ho, r⟩, _⟩ := id I.loc
  obtain ⟨sl, hL⟩ := u.any ho I.free fun z => (hch _ z).2.1 rfl
  exact I.step (ch := ch) hch (fun b o hL hb hc e n => u.keep b o e n (fun z => (List.mem_cons.mp (I.stkSub b z)).elim hL hb) hc) (fun b o _ _ hc e n => u.any e n hc) (fun b o hc e n => u.free b o e n hc) (fun b o hc e => u.there b o e hc) u.tups u.frzs u.tbls (fun m' hm => by
    obtain ⟨o', es', ep', ho', r'⟩ := hm
    rw [ho] at ho'; cases ho'
    exact ⟨_, es', ep', hL, r'⟩) hok hg
/-- an untracked record of ours (an iterator) has turned -/
theorem Inv.turned {t' : Nat} {it : Addr} (I : Inv X pins σ H s) (k : ∀ b o, b ≠ it → s.heap.get? b = some o → h'.get? b = some o) (hn : H it = none) (hL : it ≠ X.env.locals)
    (h1 : it ∈ X.ex ∨ X.s₀.heap.objs.size ≤ it) (h2 : ∀ x c, X.env.cells.lookup x = some c → c ≠ it) (h3 : ∀ p ∈ X.pn ++ pins, p.1 ≠ it) : Inv X pins σ H { s with heap := h', toks := t' } := by
  have nit : ∀ b u, H b = some u → b ≠ it := fun b u e z => by rw [z, hn] at e; cases e
  refine I.step (g' := s.gens) (d' := s.drawn) (ch := [it]) (fun b hb => ?_) (fun b o _ _ hc e _ => k b o (fun z => hc (by simp [z])) e) (fun b o _ _ hc e _ => ⟨o.slots, k b o (fun z => hc (by simp [z])) e⟩) (fun _ _ _ _ n => n)
    (fun b o hc e => ⟨o, k b o (fun z => hc (by simp [z])) e⟩) (fun _ _ e => e) (fun _ _ _ e => e) (fun b ps e => ⟨#[], by rw [e]; simp⟩) (fun m hm => ?_) (fun b u e => ?_) I.bare
  · have e : b = it := by simpa using hb
    subst e
    exact ⟨h1, hL, h2, h3⟩
  · obtain ⟨o, es, ep, ho, r⟩ := hm
    exact ⟨o, es, ep, k _ o (Ne.symm hL) ho, r⟩
  · refine (I.hok b u e).stay (fun c v hc q => k c v ?_ q) (fun _ q => q) fun _ _ q => q
    rcases hc with z | z
    · rw [z]; exact nit b u e
    · exact nit c _ z
theorem Inv.tok (I : Inv X pins σ H s) (t : Nat) : Inv X pins σ H { s with toks := t } := I.un (h' := s.heap) (t' := t) Un.refl I.hok
/-- all objects kept -/
theorem Inv.kept {t' : Nat} (I : Inv X pins σ H s) (k : ∀ b u, s.heap.get? b = some u → h'.get? b = some u) : Inv X pins σ H { s with heap := h', toks := t' } := I.un (Un.kept k) (I.hok.kept k)
/-- a new object laid and tracked -/
theorem Inv.laid {a : Addr} {o : HO} {t' : Nat} (I : Inv X pins σ H s) (k : ∀ b u, s.heap.get? b = some u → h'.get? b = some u) (hp : s.heap.objs.size ≤ a) (new : ObjOk X.prog X.w (upd H a o) h' a o) :
    Inv X pins σ (upd H a o) { s with heap := h', toks := t' } := I.un (Un.laid k hp (I.hok.fresh hp)) (I.hok.laid k hp new)
/-- an object written -/
theorem Inv.write {x e : Addr} {o : HO} {t' : Nat} (I : Inv X pins σ H s) (mu : Mut (H x)) (he : e = x ∨ H e = some (.own x)) (k : ∀ b u, b ≠ e → s.heap.get? b = some u → h'.get? b = some u) (heo : ∃ u, h'.get? e = some u)
    (new : ObjOk X.prog X.w (upd H x o) h' x o) : Inv X pins σ (upd H x o) { s with heap := h', toks := t' } := I.un (Un.write mu he k heo) (I.hok.write mu he k heo new)
/-- forgetting slots, pins -/
theorem Inv.weak {σ' : List (Option V)} (I : Inv X pins σ H s) (hl : σ'.length = σ.length) (w : ∀ (i : Nat) v, σ'[i]? = some (some v) → σ[i]? = some (some v)) : Inv X pins σ' H s :=
  ⟨I.ok, I.os, I.bare, I.base, let ⟨m, hn, hl'⟩ := I.loc; ⟨m, hn, fun i x v e1 e2 e3 => hl' i x v e1 (w i v e2) e3⟩, I.cell, I.free, I.freeC, I.pin, I.hok, hl.trans I.len⟩
theorem Inv.pins_of {pins' : List (Addr × Obj)} (I : Inv X pins σ H s) (h : ∀ p ∈ pins', s.heap.get? p.1 = some p.2 ∧ H p.1 = none ∧ p.1 ≠ X.env.locals ∧ p.1 ∉ X.fs ∧ ∀ v, p.2.data ≠ .cell v) : Inv X pins' σ H s :=
  ⟨I.ok, I.os, I.bare, I.base, I.loc, I.cell, I.free, I.freeC, fun p hp => (List.mem_append.mp hp).elim (fun z => I.pin p (List.mem_append_left _ z)) (h p), I.hok, I.len⟩

theorem nodup_ix {N : List Str} (hN : N.Nodup) {i j : Nat} {x : Str} (a : N[i]? = some x) (b : N[j]? = some x) : i = j := by
  obtain ⟨h1, e1⟩ := List.getElem?_eq_some_iff.mp a
  obtain ⟨h2, e2⟩ := List.getElem?_eq_some_iff.mp b
  exact (List.getElem_inj hN).mp (e1.trans e2.symm)

/-- a name is stored; what changed -/
theorem store_ok2 {M : Model} {A : Around} {E : Value → Shared → Prop} {i : Nat} {x : Str} {v : V} {u : Value} {Q : Unit → Shared → Prop} (I : Inv X pins σ H s) (hN : X.N.Nodup) (hi : X.N[i]? = some x) (hx : Loc X.env.scope x) (r : RelV v u)
    (h : ∀ s', Inv X pins (σ.set i (some v)) H s' → (∃ a, Heap.SameBut a s.heap s'.heap ∧ (a = X.env.locals ∨ X.env.cells.lookup x = some a)) → Q () s') (hf : X.fn x = true ∨ X.env.scope.names.lookup x = some .local := by first | exact .inl rfl | exact .inr rfl | assumption) : wpAny M A (storeName X.env x u) Q E s := by
  obtain ⟨m, hn, hl⟩ := id I.loc
  have hcls : (X.env.scope.kind == .class || (X.env.scope.kind == .module && X.env.locals != X.env.globals)) = false := by rw [I.ok.kind]; rfl
  have hiσ : i < σ.length := by rw [I.len]; exact (List.getElem?_eq_some_iff.mp hi).1
  have cne := I.cne
  have tracked : ∀ {a : Addr} {h' : Heap}, (∃ o, s.heap.get? a = some o ∧ H a = none) → Heap.SameBut a s.heap h' → HOk X.prog X.w H h' := fun {a h'} ha hs b ob e => by
    obtain ⟨_, _, hfree⟩ := ha
    refine (I.hok b ob e).stay (fun c w' hc q => (hs.2 c ?_).trans q) (fun _ q => q) fun _ _ q => q
    rintro rfl
    rcases hc with rfl | hc
    · rw [hfree] at e; cases e
    · rw [hfree] at hc; cases hc
  rcases hx with hk | hk
  · refine wpAny_storeName_local hk hn (fun h' hn' hs => ?_) hcls
    obtain ⟨oL, _, _, hoL, _⟩ := id hn
    refine h _ ⟨I.ok, I.os, I.bare, ⟨fun b o e n hb hx => ?_, fun b o e n hb hx => ?_, I.base.free, fun b o e hx => ?_, I.base.tups, I.base.frzs, I.base.tbls⟩, ⟨_, hn', fun j y v' e1 e2 e3 => ?_⟩, fun y c e => ?_, I.free, I.freeC, fun p hp => ?_, tracked ⟨oL, hoL, I.free⟩ hs, by simpa using I.len⟩ ⟨_, hs, .inl rfl⟩
    · exact (hs.2 b (Nat.ne_of_lt (Nat.lt_of_lt_of_le (Heap.lt_size e) I.ok.above))).trans (I.base.keep b o e n hb hx)
    · obtain ⟨sl, e1⟩ := I.base.slot b o e n hb hx
      exact ⟨sl, (hs.2 b (Nat.ne_of_lt (Nat.lt_of_lt_of_le (Heap.lt_size e) I.ok.above))).trans e1⟩
    · obtain ⟨o', e1⟩ := I.base.there b o e hx
      exact ⟨o', (hs.2 b (Nat.ne_of_lt (Nat.lt_of_lt_of_le (Heap.lt_size e) I.ok.above))).trans e1⟩
    · by_cases hj : j = i
      · subst hj
        rw [hi] at e1; cases e1
        rw [List.getElem?_set_self hiσ] at e2
        cases e2
        exact ⟨u, r, .inl ⟨hk, by simp⟩⟩
      · rw [List.getElem?_set_ne (Ne.symm hj)] at e2
        obtain ⟨u', r', q⟩ := hl j y v' e1 e2 e3
        refine ⟨u', r', ?_⟩
        rcases q with ⟨k, e⟩ | ⟨k, c, e, z⟩
        · refine .inl ⟨k, ?_⟩
          have : y ≠ x := fun e => hj (nodup_ix hN e1 (e ▸ hi))
          simp [this, e]
        · exact .inr ⟨k, c, e, z.sameBut hs (cne y c e)⟩
    · obtain ⟨w', z⟩ := I.cell y c e
      exact ⟨w', z.sameBut hs (cne y c e)⟩
    · obtain ⟨e, n, ne, nf, d⟩ := I.pin p hp
      exact ⟨(hs.2 p.1 ne).trans e, n, ne, nf, d⟩
  · have hfn : X.fn x = true := by
      rcases hf with z | z
      · exact z
      · rw [z] at hk; cases hk
    obtain ⟨c, hc⟩ := I.ok.has x (.inl hk)
    obtain ⟨w', z⟩ := I.cell x c hc
    refine wpAny_storeName_cell I.ok.kind hk hc z (fun h' hc' hs => ?_)
    obtain ⟨oc, hoc, hocd⟩ := id z
    refine h { s with heap := h' } ⟨I.ok, I.os, I.bare, ⟨fun b o e n hb hx => ?_, fun b o e n hb hx => ?_, I.base.free, fun b o e hx => ?_, I.base.tups, I.base.frzs, I.base.tbls⟩, ⟨m, hn.sameBut hs (Ne.symm (cne x c hc)), fun j y v' e1 e2 e3 => ?_⟩, fun y c' e => ?_, I.free, I.freeC, fun p hp => ?_, tracked ⟨oc, hoc, I.freeC x c hc⟩ hs, by simpa using I.len⟩ ⟨c, hs, .inr hc⟩
    · exact (hs.2 b (Nat.ne_of_lt (Nat.lt_of_lt_of_le (Heap.lt_size e) (I.ok.cab x c hfn hc)))).trans (I.base.keep b o e n hb hx)
    · obtain ⟨sl, e1⟩ := I.base.slot b o e n hb hx
      exact ⟨sl, (hs.2 b (Nat.ne_of_lt (Nat.lt_of_lt_of_le (Heap.lt_size e) (I.ok.cab x c hfn hc)))).trans e1⟩
    · obtain ⟨o', e1⟩ := I.base.there b o e hx
      exact ⟨o', (hs.2 b (Nat.ne_of_lt (Nat.lt_of_lt_of_le (Heap.lt_size e) (I.ok.cab x c hfn hc)))).trans e1⟩
    · by_cases hj : j = i
      · subst hj
        rw [hi] at e1; cases e1
        rw [List.getElem?_set_self hiσ] at e2
        cases e2
        exact ⟨u, r, .inr ⟨.inl hk, c, hc, hc'⟩⟩
      · rw [List.getElem?_set_ne (Ne.symm hj)] at e2
        obtain ⟨u', r', q⟩ := hl j y v' e1 e2 e3
        refine ⟨u', r', ?_⟩
        rcases q with q | ⟨k, c', e, z'⟩
        · exact .inl q
        · refine .inr ⟨k, c', e, z'.sameBut hs ?_⟩
          rintro rfl
          exact hj (nodup_ix hN e1 (I.ok.inj _ _ _ e hc ▸ hi))
    · by_cases hcc : c' = c
      · subst hcc; exact ⟨_, hc'⟩
      · obtain ⟨w2, z2⟩ := I.cell y c' e
        exact ⟨w2, z2.sameBut hs hcc⟩
    · obtain ⟨e, n, ne, nf, d⟩ := I.pin p hp
      refine ⟨(hs.2 p.1 ?_).trans e, n, ne, nf, d⟩
      intro q
      rw [q, hoc] at e
      have q' : oc = p.2 := Option.some.inj e
      exact d w' (by rw [← q']; exact hocd)
theorem store_ok {M : Model} {A : Around} {E : Value → Shared → Prop} {i : Nat} {x : Str} {v : V} {u : Value} {Q : Unit → Shared → Prop} (I : Inv X pins σ H s) (hN : X.N.Nodup) (hi : X.N[i]? = some x) (hx : Loc X.env.scope x) (r : RelV v u)
    (h : ∀ s', Inv X pins (σ.set i (some v)) H s' → Q () s') (hf : X.fn x = true ∨ X.env.scope.names.lookup x = some .local := by first | exact .inl rfl | exact .inr rfl | assumption) : wpAny M A (storeName X.env x u) Q E s :=
  store_ok2 I hN hi hx r (fun s' I' _ => h s' I') hf
/-- behind a call or a block, the state as it is -/
theorem Inv.call' {s' : Shared} {ch : List Addr} (I : Inv X pins σ H s) (ho : s'.os = s.os) (u : Un (frs X.stack) ch H H' s.heap s'.heap) (hok : HOk X.prog X.w H' s'.heap) (hg : AllBare s'.gens)
    (hch : ∀ b ∈ ch, (b ∈ X.ex ∨ X.s₀.heap.objs.size ≤ b) ∧ b ≠ X.env.locals ∧ (∀ x c, X.env.cells.lookup x = some c → c ≠ b) ∧ ∀ p ∈ X.pn ++ pins, p.1 ≠ b) : Inv X pins σ H' s' := by
  obtain ⟨h', g', d', t', o'⟩ := s'
  have e : o' = s.os := ho
  subst e
  exact I.call (g' := g') (t' := t') (d' := d') u hok hg hch
end

/-! ### the judgements -/
/-- an exception: its class, its own dict's address (where it has one), the abstract heap behind it -/
noncomputable abbrev XK := Value → Option Addr → Hp → Prop
noncomputable abbrev St := List (Option V)
noncomputable abbrev VK := V → Hp → Prop
/-- an expression's reading; a test's; an argument list's -/
noncomputable abbrev TE := St → Hp → VK → Prop
noncomputable abbrev TT := St → Hp → (Bool → Hp → Prop) → Prop
noncomputable abbrev TA := St → Hp → (List V → Hp → Prop) → Prop
/-- what is wanted behind a statement -/
structure Ends where
  nx : St → Hp → Prop
  rt : VK
  bk : St → Hp → Prop := fun _ _ => False
  ct : St → Hp → Prop := fun _ _ => False
noncomputable abbrev TS := Ends → St → Hp → Prop

noncomputable def EP (X : Cx) (pins : List (Addr × Obj)) (σ : St) (Q : VK) (u : Value) (s' : Shared) : Prop := ∃ v H', Inv X pins σ H' s' ∧ RelV v u ∧ Q v H'
noncomputable def TP (X : Cx) (pins : List (Addr × Obj)) (σ : St) (Q : Bool → Hp → Prop) (b : Bool) (s' : Shared) : Prop := ∃ H', Inv X pins σ H' s' ∧ Q b H'
noncomputable def AP (X : Cx) (pins : List (Addr × Obj)) (σ : St) (Q : List V → Hp → Prop) (us : List Value) (s' : Shared) : Prop := ∃ vs H', Inv X pins σ H' s' ∧ Vals vs us ∧ Q vs H'
noncomputable def SP (X : Cx) (pins : List (Addr × Obj)) (D : Ends) (f : Flow) (s' : Shared) : Prop :=
  match f with
  | .next => ∃ σ' H', Inv X pins σ' H' s' ∧ D.nx σ' H'
  | .brk => ∃ σ' H', Inv X pins σ' H' s' ∧ D.bk σ' H'
  | .cont => ∃ σ' H', Inv X pins σ' H' s' ∧ D.ct σ' H'
  | .ret u => ∃ v σ' H', Inv X pins σ' H' s' ∧ RelV v u ∧ D.rt v H'

noncomputable def PE (X : Cx) (e : Expr) (t : TE) : Prop :=
  ∀ (pins : List (Addr × Obj)) (s : Shared) (σ : St) (H : Hp) (Q : VK), Inv X pins σ H s → t σ H Q → wpAny (model X.prog X.w) X.A (eval e X.env) (EP X pins σ Q) X.xe s
noncomputable def PT (X : Cx) (e : Expr) (t : TT) : Prop :=
  ∀ (pins : List (Addr × Obj)) (s : Shared) (σ : St) (H : Hp) (Q : Bool → Hp → Prop), Inv X pins σ H s → t σ H Q → wpAny (model X.prog X.w) X.A (isTrue e X.env (eval e X.env)) (TP X pins σ Q) X.xe s
/-- a test whatever its 'whole' is (and, or) -/
noncomputable def PW (X : Cx) (e : Expr) (t : TT) : Prop :=
  ∀ (whole : Sem Value) (pins : List (Addr × Obj)) (s : Shared) (σ : St) (H : Hp) (Q : Bool → Hp → Prop), Inv X pins σ H s → t σ H Q → wpAny (model X.prog X.w) X.A (isTrue e X.env whole) (TP X pins σ Q) X.xe s
theorem PW.pt {X : Cx} {e : Expr} {t : TT} (h : PW X e t) : PT X e t := h _
/-- an argument list (no star), from the left -/
noncomputable def PA (X : Cx) (es : List Expr) (t : TA) : Prop :=
  ∀ (pos : Pos) (pins : List (Addr × Obj)) (s : Shared) (σ : St) (H : Hp) (Q : List V → Hp → Prop), Inv X pins σ H s → t σ H Q → wpAny (model X.prog X.w) X.A (spliced (backTo pos (starEach es X.env))) (AP X pins σ Q) X.xe s
noncomputable def PS (X : Cx) (st : Stmt) (t : TS) : Prop :=
  ∀ (pins : List (Addr × Obj)) (s : Shared) (σ : St) (H : Hp) (D : Ends), Inv X pins σ H s → t D σ H → wpAny (model X.prog X.w) X.A (exec st X.env) (SP X pins D) X.xe s
noncomputable def PSs (X : Cx) (st : List Stmt) (t : TS) : Prop :=
  ∀ (pins : List (Addr × Obj)) (s : Shared) (σ : St) (H : Hp) (D : Ends), Inv X pins σ H s → t D σ H → wpAny (model X.prog X.w) X.A (execs st X.env) (SP X pins D) X.xe s
/-- weaken the end -/
theorem thn {α : Type} {t : Sem α} {Q Q' : α → Shared → Prop} {M : Model} {A : Around} {E : Value → Shared → Prop} {s : Shared} (h : wpAny M A t Q E s) (hQ : ∀ a s, Q a s → Q' a s) : wpAny M A t Q' E s := wpAny_mono h hQ fun _ _ x => x
end L2

namespace L2
open PySem PySem.Spec PyProof.Rows
section
variable {X : Cx}


/-! ### names and constants -/
noncomputable def tVar (i : Nat) : TE := fun σ H Q => ∃ v, σ[i]? = some (some v) ∧ Q v H
noncomputable def tC (v : V) : TE := fun _ H Q => Q v H
theorem pe_var {i : Nat} {x : Str} {pos : Pos} (hN : X.N[i]? = some x) (hv : Vis X.env.scope x) (hd : (x == ("__debug__" : Str)) = false := by decide) (hcd : (x == ("__classdict__" : Str)) = false := by decide) : PE X (.Name x pos) (tVar i) := by
  intro pins s σ H Q I h
  obtain ⟨v, e, h⟩ := h
  obtain ⟨m, hn, hl⟩ := I.loc
  obtain ⟨u, r, l⟩ := hl i x v hN e hv
  have fin : EP X pins σ Q u s := ⟨v, H, I, r, h⟩
  rcases l with ⟨hk, hm⟩ | ⟨hk, c, hc, hcell⟩
  · exact wpAny_Name (wpAny_loadName_local I.ok.kind hk hn hm fin) hd
  · rcases hk with hk | hk
    · exact wpAny_Name (wpAny_loadName_cell I.ok.kind hk hc hcell fin) hd
    · exact wpAny_Name (wpAny_loadName_free I.ok.kind hk hc hcell fin hcd) hd
theorem pe_int {i j pos} : PE X (.Constant (.int i) j pos) (tC (.int i)) := fun _ _ _ H _ I h => wpAny_Constant_int ⟨.int i, H, I.tok _, ⟨_, rfl⟩, h⟩
theorem pe_bl {b j pos} : PE X (.Constant (.bool b) j pos) (tC (.bl b)) := fun _ _ _ H _ I h => Constant_bool ⟨.bl b, H, I, rfl, h⟩
theorem pe_str {x j pos} : PE X (.Constant (.str x) j pos) (tC (.str x)) := fun _ _ _ H _ I h => Calls.Constant_str ⟨.str x, H, I.tok _, ⟨_, rfl⟩, h⟩

/-- a global name of the def -/
noncomputable def Gl (X : Cx) (x : Str) : Prop := X.env.kindOf x = some .globalImplicit
theorem ld_glob {E : Value → Shared → Prop} {pins : List (Addr × Obj)} {s : Shared} {σ : St} {H : Hp} {x : Str} {u : Value} {pos : Pos} {Q : Value → Shared → Prop} (I : Inv X pins σ H s) (hg : Gl X x) (hm : X.mg x = some u) (h : Q u s)
    (hd : (x == ("__debug__" : Str)) = false := by decide) : wpAny (model X.prog X.w) X.A (eval (.Name x pos) X.env) Q E s :=
  Calls.Name_function_global I.ok.kind hg (Calls.loadGlobal_global (by rw [I.ok.glob]; exact I.mod.glob.keeps I.bk) hm h) hd
theorem ld_blt {E : Value → Shared → Prop} {pins : List (Addr × Obj)} {s : Shared} {σ : St} {H : Hp} {x : Str} {u : Value} {pos : Pos} {Q : Value → Shared → Prop} (I : Inv X pins σ H s) (hg : Gl X x) (hm : X.mg x = none) (hv : bootBuiltins x = some u) (h : Q u s)
    (hn : x ≠ "__name__" := by decide) (hd : (x == ("__debug__" : Str)) = false := by decide) : wpAny (model X.prog X.w) X.A (eval (.Name x pos) X.env) Q E s := by
  obtain ⟨mb, h1, h2⟩ := I.mod.blt
  exact Calls.Name_function_global I.ok.kind hg (Calls.loadGlobal_builtin (by rw [I.ok.glob]; exact I.mod.glob.keeps I.bk) hm (by rw [I.ok.blt]; exact h1.keeps I.bk) ((h2 x hn).trans hv) h) hd
/-- a module's constant, a class, a function, as a value -/
theorem pe_glob {x : Str} {v : V} {u : Value} {pos : Pos} (hg : Gl X x) (hm : X.mg x = some u) (r : RelV v u) (hd : (x == ("__debug__" : Str)) = false := by decide) : PE X (.Name x pos) (tC v) :=
  fun _ _ _ H _ I h => ld_glob I hg hm ⟨v, H, I, r, h⟩ hd
theorem pe_bltn {x : Str} {v : V} {u : Value} {pos : Pos} (hg : Gl X x) (hm : X.mg x = none) (hv : bootBuiltins x = some u) (r : RelV v u) (hn : x ≠ "__name__" := by decide) (hd : (x == ("__debug__" : Str)) = false := by decide) : PE X (.Name x pos) (tC v) :=
  fun _ _ _ H _ I h => ld_blt I hg hm hv ⟨v, H, I, r, h⟩ hn hd

/-! ### arithmetic -/
/-- two ints -/
noncomputable def t2I (ta tb : TE) (k : Int → Int → Hp → Prop) : St → Hp → Prop := fun σ H => ta σ H fun x H1 => tb σ H1 fun y H2 => ∃ i j, x = .int i ∧ y = .int j ∧ k i j H2
noncomputable def tAdd (ta tb : TE) : TE := fun σ H Q => t2I ta tb (fun i j H2 => Q (.int (i + j)) H2) σ H
noncomputable def tSub (ta tb : TE) : TE := fun σ H Q => t2I ta tb (fun i j H2 => Q (.int (i - j)) H2) σ H
/-- the left factor below 2^64 -/
noncomputable def tMul (ta tb : TE) : TE := fun σ H Q => t2I ta tb (fun i j H2 => (-(2 ^ 64) < i ∧ i < 2 ^ 64) ∧ Q (.int (i * j)) H2) σ H
variable {a b : Expr} {ta tb : TE} {pos : Pos}

/-! ### comparisons -/
noncomputable def PC (X : Cx) (op : CmpOp) (a b : Expr) (t : TE) : Prop :=
  ∀ (pins : List (Addr × Obj)) (s : Shared) (σ : St) (H : Hp) (Q : VK), Inv X pins σ H s → t σ H Q →
    wpAny (model X.prog X.w) X.A (eval a X.env) (fun v s₁ => wpAny (model X.prog X.w) X.A (eval b X.env) (fun u s₂ => wpAny (model X.prog X.w) X.A (compareOp op v u) (EP X pins σ Q) X.xe s₂) X.xe s₁) X.xe s
noncomputable def tCmp (p : Int → Int → Bool) (ta tb : TE) : TE := fun σ H Q => t2I ta tb (fun i j H2 => Q (.bl (p i j)) H2) σ H
noncomputable abbrev tLt : TE → TE → TE := tCmp fun i j => decide (i < j)
noncomputable abbrev tLe : TE → TE → TE := tCmp fun i j => decide (i ≤ j)
noncomputable abbrev tGt : TE → TE → TE := tCmp fun i j => decide (j < i)
noncomputable abbrev tGe : TE → TE → TE := tCmp fun i j => decide (j ≤ i)
noncomputable abbrev tEqI : TE → TE → TE := tCmp fun i j => decide (i = j)
noncomputable abbrev tNeI : TE → TE → TE := tCmp fun i j => !decide (i = j)
/-- is None -/
noncomputable def tIsN (ta : TE) : TE := fun σ H Q => ta σ H fun x H1 => Q (.bl (decide (x = .non))) H1
noncomputable def tNotN (ta : TE) : TE := fun σ H Q => ta σ H fun x H1 => Q (.bl (!decide (x = .non))) H1
/-- a comparison as a value, as a test -/
noncomputable def tB (t : TE) : TT := fun σ H Q => t σ H fun x H1 => ∃ c, x = .bl c ∧ Q c H1

/-! ### and, or, not -/
variable {tA tB' : TT} {rest : List Expr}
noncomputable def tAnd (t u : TT) : TT := fun σ H Q => t σ H fun c H1 => if c = true then u σ H1 Q else Q false H1
noncomputable def tOr (t u : TT) : TT := fun σ H Q => t σ H fun c H1 => if c = true then Q true H1 else u σ H1 Q
noncomputable def tNot (t : TT) : TT := fun σ H Q => t σ H fun c H1 => Q (!c) H1
theorem pw_and1 (ha : PT X a tA) : PW X (.BoolOp .And [a] pos) tA := by
  intro wh pins s σ H Q I h
  refine isTrue_and (thn (ha pins s σ H Q I h) fun c s1 e => ?_)
  cases c with
  | true => exact isTrue_and_nil e
  | false => exact e
theorem pw_or1 (ha : PT X a tA) : PW X (.BoolOp .Or [a] pos) tA := by
  intro wh pins s σ H Q I h
  refine isTrue_or (thn (ha pins s σ H Q I h) fun c s1 e => ?_)
  cases c with
  | false => exact isTrue_or_nil e
  | true => exact e
theorem pw_and (ha : PT X a tA) (hb : PW X (.BoolOp .And (b :: rest) pos) tB') : PW X (.BoolOp .And (a :: b :: rest) pos) (tAnd tA tB') := by
  intro wh pins s σ H Q I h
  refine isTrue_and (thn (ha pins s σ H _ I h) fun c s1 ⟨H1, I1, q1⟩ => ?_)
  cases c with
  | true => exact hb wh pins s1 σ H1 Q I1 q1
  | false => exact ⟨H1, I1, q1⟩
theorem pw_or (ha : PT X a tA) (hb : PW X (.BoolOp .Or (b :: rest) pos) tB') : PW X (.BoolOp .Or (a :: b :: rest) pos) (tOr tA tB') := by
  intro wh pins s σ H Q I h
  refine isTrue_or (thn (ha pins s σ H _ I h) fun c s1 ⟨H1, I1, q1⟩ => ?_)
  cases c with
  | true => exact ⟨H1, I1, q1⟩
  | false => exact hb wh pins s1 σ H1 Q I1 q1
theorem pt_not (ha : PT X a tA) : PT X (.UnaryOp .Not a pos) (tNot tA) := by
  intro pins s σ H Q I h
  exact isTrue_not (ha pins s σ H (fun c H1 => Q (!c) H1) I h)
/-- .. as values (bools) -/
noncomputable def tAndV (ta tb : TE) : TE := fun σ H Q => ta σ H fun x H1 => ∃ c, x = .bl c ∧ if c = true then tb σ H1 Q else Q (.bl false) H1
noncomputable def tOrV (ta tb : TE) : TE := fun σ H Q => ta σ H fun x H1 => ∃ c, x = .bl c ∧ if c = true then Q (.bl true) H1 else tb σ H1 Q
noncomputable def tNotV (ta : TE) : TE := fun σ H Q => ta σ H fun x H1 => ∃ c, x = .bl c ∧ Q (.bl (!c)) H1
/-- a if t else b -/
noncomputable def tIf (t : TT) (ta tb : TE) : TE := fun σ H Q => t σ H fun c H1 => if c = true then ta σ H1 Q else tb σ H1 Q
end
end L2

namespace L2
open PySem PySem.Spec PyProof.Rows

/-! ### a list, a tuple that is read: tracked, frozen, or an object of the module -/
noncomputable def SqL (K : PySem.W.Frag) (H : Hp) (a : Addr) (xs : List V) : Prop :=
  Rd H a (.lst xs) ∨
    ∃ (o : Obj) (its : Array Value) (n : Nat), K.lookup a = some o ∧ o.cls = .type "list" ∧ o.dict = none ∧ o.data = .seq its n ∧ its.size ≤ sizeLine ∧ Vals xs its.toList
noncomputable def SqT (K : PySem.W.Frag) (H : Hp) (a : Addr) (xs : List V) : Prop :=
  Rd H a (.tup xs) ∨
    ∃ (o : Obj) (its : Array Value) (n : Nat), K.lookup a = some o ∧ o.cls = .type "tuple" ∧ o.data = .seq its n ∧ its.size ≤ sizeLine ∧ Vals xs its.toList
noncomputable def absV : Value → Option V
  | .none => some .non
  | .bool b => some (.bl b)
  | .int i _ => some (.int i)
  | .str x _ => some (.str x)
  | .bytes b _ => some (.byt b)
  | .float b _ => some (.flt b)
  | .ref a => some (.ref a)
  | .type n => some (.ty n)
  | _ => none
theorem RelV.abs {x : V} {u : Value} (r : RelV x u) : absV u = some x := by
  cases x with
  | non => cases r; rfl
  | bl _ => cases r; rfl
  | int _ => obtain ⟨t, rfl⟩ := r; rfl
  | str _ => obtain ⟨t, rfl⟩ := r; rfl
  | byt _ => obtain ⟨t, rfl⟩ := r; rfl
  | flt _ => obtain ⟨t, rfl⟩ := r; rfl
  | ref _ => cases r; rfl
  | ty _ => cases r; rfl
theorem RelV.inj {x y : V} {u : Value} (r : RelV x u) (q : RelV y u) : x = y := Option.some.inj (r.abs.symm.trans q.abs)
theorem Vals.inj : ∀ {xs ys : List V} {us : List Value}, Vals xs us → Vals ys us → xs = ys
  | _, _, _, .nil, .nil => rfl
  | _, _, _, .cons r t, .cons r' t' => by rw [r.inj r', Vals.inj t t']
section
variable {X : Cx} {pins : List (Addr × Obj)} {σ : St} {H : Hp} {s : Shared} {a : Addr} {xs ys : List V}
theorem SqL.of {K : PySem.W.Frag} (h : H a = some (.lst xs)) : SqL K H a xs := .inl (.inl h)
theorem SqT.of {K : PySem.W.Frag} (h : H a = some (.tup xs)) : SqT K H a xs := .inl (.inl h)
theorem Inv.list (I : Inv X pins σ H s) (h : SqL X.K H a xs) : ∃ its : List Value, Vals xs its ∧ PlainL s.heap a its.toArray ∧ xs.length ≤ sizeLine := by
  rcases h with h | ⟨o, its, n, hk, hc, hd, hs, hz, r⟩
  · obtain ⟨z, its, n, r, e⟩ := h.ok I.hok
    exact ⟨its, r, ⟨_, n, e, rfl, rfl, rfl⟩, z⟩
  · refine ⟨its.toList, r, ⟨o, n, I.kIn a o hk, hc, hd, by simpa using hs⟩, ?_⟩
    have e := r.length
    simp only [Array.length_toList] at e
    omega
theorem Inv.tuple (I : Inv X pins σ H s) (h : SqT X.K H a xs) : ∃ its : List Value, Vals xs its ∧ IsTup s.heap a its.toArray ∧ xs.length ≤ sizeLine := by
  rcases h with h | ⟨o, its, n, hk, hc, hs, hz, r⟩
  · obtain ⟨z, its, r, p⟩ := h.ok I.hok
    exact ⟨its, r, p, z⟩
  · refine ⟨its.toList, r, ⟨o, I.kIn a o hk, hc, n, by simpa using hs⟩, ?_⟩
    have e := r.length
    simp only [Array.length_toList] at e
    omega
theorem Inv.list_inj (I : Inv X pins σ H s) (h : SqL X.K H a xs) (h' : SqL X.K H a ys) : xs = ys := by
  obtain ⟨its, r, ⟨o, n, e, _, _, d⟩, _⟩ := I.list h
  obtain ⟨its', r', ⟨o', n', e', _, _, d'⟩, _⟩ := I.list h'
  rw [e] at e'; cases e'
  rw [d] at d'
  injection d' with d1 _
  have : its = its' := by simpa using congrArg Array.toList d1
  subst this
  exact r.inj r'
theorem Inv.tuple_inj (I : Inv X pins σ H s) (h : SqT X.K H a xs) (h' : SqT X.K H a ys) : xs = ys := by
  obtain ⟨its, r, ⟨o, e, _, n, d⟩, _⟩ := I.tuple h
  obtain ⟨its', r', ⟨o', e', _, n', d'⟩, _⟩ := I.tuple h'
  rw [e] at e'; cases e'
  rw [d] at d'
  injection d' with d1 _
  have : its = its' := by simpa using congrArg Array.toList d1
  subst this
  exact r.inj r'
end

/-! ### another wish about exceptions -/
noncomputable abbrev Cx.wish (X : Cx) (E : Value → Shared → Prop) : Cx := { X with xe := E }
/-- no exception leaves -/
noncomputable abbrev Cx.nox (X : Cx) : Cx := X.wish fun _ _ => False
theorem Cx.Ok.wish {X : Cx} (ok : X.Ok) (E : Value → Shared → Prop) : (X.wish E).Ok :=
  ⟨ok.mod, ok.kind, ok.glob, ok.blt, ok.above, ok.inj, ok.has, ok.cab, ok.hd, ok.frames, ok.stk, ok.exf, ok.bs, ok.bsz, ok.noex, ok.exfs, ok.funs, ok.frf⟩
theorem Cx.Ok.unwish {X : Cx} {E : Value → Shared → Prop} (ok : (X.wish E).Ok) : X.Ok :=
  ⟨ok.mod, ok.kind, ok.glob, ok.blt, ok.above, ok.inj, ok.has, ok.cab, ok.hd, ok.frames, ok.stk, ok.exf, ok.bs, ok.bsz, ok.noex, ok.exfs, ok.funs, ok.frf⟩
section
variable {X : Cx} {pins : List (Addr × Obj)} {σ : St} {H : Hp} {s : Shared} {E : Value → Shared → Prop}
theorem Inv.wish (I : Inv X pins σ H s) (E : Value → Shared → Prop) : Inv (X.wish E) pins σ H s := ⟨I.ok.wish E, I.os, I.bare, I.base, I.loc, I.cell, I.free, I.freeC, I.pin, I.hok, I.len⟩
theorem Inv.unwish (I : Inv (X.wish E) pins σ H s) : Inv X pins σ H s := ⟨I.ok.unwish, I.os, I.bare, I.base, I.loc, I.cell, I.free, I.freeC, I.pin, I.hok, I.len⟩
end

/-! ### blocks and small statements -/
section
variable {X : Cx} {st : Stmt} {rest : List Stmt} {t u : TS} {e : Expr} {te : TE} {pos : Pos}
noncomputable def tNext : TS := fun D σ H => D.nx σ H
noncomputable def tSeq (t u : TS) : TS := fun D σ H => t { D with nx := u D } σ H
theorem pss_nil : PSs X [] tNext := fun _ _ σ H _ I h => wpAny_execs_nil ⟨σ, H, I, h⟩
theorem pss_cons (h1 : PS X st t) (h2 : PSs X rest u) : PSs X (st :: rest) (tSeq t u) := by
  intro pins s σ H D I h
  refine wpAny_execs_cons (thn (h1 pins s σ H { D with nx := u D } I h) fun f s1 q => ?_)
  cases f with
  | next =>
    obtain ⟨σ', H', I', q⟩ := q
    exact h2 pins s1 σ' H' D I' q
  | ret v => exact q
  | brk => exact q
  | cont => exact q
theorem pss_one (h1 : PS X st t) : PSs X [st] t := by
  intro pins s σ H D I h
  refine wpAny_execs_cons (thn (h1 pins s σ H D I h) fun f s1 q => ?_)
  cases f with
  | next => exact wpAny_execs_nil q
  | ret v => exact q
  | brk => exact q
  | cont => exact q
noncomputable def tBreak : TS := fun D σ H => D.bk σ H
noncomputable def tCont : TS := fun D σ H => D.ct σ H
/-- in a def's body nothing is shown -/
theorem Inv.quiet {pins : List (Addr × Obj)} {σ : St} {H : Hp} {s : Shared} (I : Inv X pins σ H s) : interactive X.env = false := by simp [interactive, I.ok.kind]
/-- an expression whose value is dropped -/
noncomputable def tDrop (te : TE) : TS := fun D σ H => te σ H fun _ H1 => D.nx σ H1
theorem ps_expr (he : PE X e te) (hs : swapsWith e none pos.line X.env = pure false := by rfl) : PS X (.Expr e pos) (tDrop te) := by
  intro pins s σ H D I h
  exact wpAny_Expr_any (thn (he pins s σ H _ I h) fun v s1 ⟨x, H1, I1, r1, q1⟩ => ⟨σ, H1, I1, q1⟩) I.quiet hs
noncomputable def tRet (te : TE) : TS := fun D σ H => te σ H D.rt
theorem ps_ret (he : PE X e te) : PS X (.Return (some e) pos) (tRet te) := by
  intro pins s σ H D I h
  exact wpAny_Return_some (thn (he pins s σ H _ I h) fun v s1 ⟨x, H1, I1, r1, q1⟩ => ⟨x, σ, H1, I1, r1, q1⟩)
noncomputable def tRetN : TS := fun D _ H => D.rt .non H
noncomputable def tIfS (c : TT) (t u : TS) : TS := fun D σ H => c σ H fun b H1 => if b = true then t D σ H1 else u D σ H1
theorem ps_if {c : Expr} {a b : List Stmt} {tc : TT} (hc : PT X c tc) (ha : PSs X a t) (hb : PSs X b u) : PS X (.If c a b pos) (tIfS tc t u) := by
  intro pins s σ H D I h
  refine wpAny_If (thn (hc pins s σ H _ I h) fun d s1 ⟨H1, I1, q1⟩ => ?_)
  cases d with
  | true => exact ha pins s1 σ H1 D I1 q1
  | false => exact hb pins s1 σ H1 D I1 q1
/-- code that the proof never comes to -/
noncomputable def tNever : TS := fun _ _ _ => False
end

/-! ### targets -/
noncomputable abbrev TG := V → St → Hp → (St → Hp → Prop) → Prop
noncomputable abbrev TGs := List V → St → Hp → (St → Hp → Prop) → Prop
noncomputable def PG (X : Cx) (target : Expr) (t : TG) : Prop :=
  ∀ (pins : List (Addr × Obj)) (s : Shared) (σ : St) (H : Hp) (v : V) (u : Value) (Q : St → Hp → Prop), Inv X pins σ H s → RelV v u → t v σ H Q →
    wpAny (model X.prog X.w) X.A (assign target X.env u) (fun _ s' => ∃ σ' H', Inv X pins σ' H' s' ∧ Q σ' H') X.xe s
/-- several targets, one after another -/
noncomputable def PGs (X : Cx) (ts : List Expr) (t : TGs) : Prop :=
  ∀ (pins : List (Addr × Obj)) (s : Shared) (σ : St) (H : Hp) (vs : List V) (us : List Value) (Q : St → Hp → Prop), Inv X pins σ H s → Vals vs us → t vs σ H Q →
    wpAny (model X.prog X.w) X.A (assignInOrder ((assignEach ts X.env).map (·.2)) us) (fun _ s' => ∃ σ' H', Inv X pins σ' H' s' ∧ Q σ' H') X.xe s
/-- o[i] = v, by values -/
noncomputable abbrev TSet := V → V → V → Hp → (Hp → Prop) → Prop
noncomputable def PSet (X : Cx) (t : TSet) : Prop :=
  ∀ (pins : List (Addr × Obj)) (s : Shared) (σ : St) (H : Hp) (o i v : V) (ov iv u : Value) (Q : Hp → Prop), Inv X pins σ H s → RelV o ov → RelV i iv → RelV v u → t o i v H Q →
    wpAny (model X.prog X.w) X.A (setItem ov iv u) (fun _ s' => ∃ H', Inv X pins σ H' s' ∧ Q H') X.xe s
/-- a op= b, by values -/
noncomputable abbrev TIp := V → V → Hp → VK → Prop
noncomputable def PIp (X : Cx) (op : Operator) (t : TIp) : Prop :=
  ∀ (pins : List (Addr × Obj)) (s : Shared) (σ : St) (H : Hp) (x y : V) (v u : Value) (Q : VK), Inv X pins σ H s → RelV x v → RelV y u → t x y H Q →
    wpAny (model X.prog X.w) X.A (inplaceOp op v u) (EP X pins σ Q) X.xe s
section
variable {X : Cx} {pos : Pos}
noncomputable def gName (i : Nat) : TG := fun v σ H Q => Q (σ.set i (some v)) H
theorem pg_name {i : Nat} {x : Str} (hN : X.N.Nodup) (hi : X.N[i]? = some x) (hx : Loc X.env.scope x) (hf : X.fn x = true ∨ X.env.scope.names.lookup x = some .local := by first | exact .inl rfl | exact .inr rfl | assumption) : PG X (.Name x pos) (gName i) := by
  intro pins s σ H v u Q I r h
  exact wpAny_assign_Name (store_ok I hN hi hx r (fun s' I' => ⟨_, H, I', h⟩) hf)
noncomputable def gNil : TGs := fun vs σ H Q => vs = [] ∧ Q σ H
noncomputable def gCons (t : TG) (u : TGs) : TGs := fun vs σ H Q => ∃ v r, vs = v :: r ∧ t v σ H fun σ' H' => u r σ' H' Q
theorem pgs_nil : PGs X [] gNil := by
  intro pins s σ H vs us Q I r h
  obtain ⟨e, h⟩ := h
  subst e
  cases r
  exact assignInOrder_nil ⟨σ, H, I, h⟩
theorem pgs_cons {e : Expr} {es : List Expr} {t : TG} {u : TGs} (h1 : PG X e t) (h2 : PGs X es u)
    (hs : (assignEach (e :: es) X.env).map (·.2) = assign e X.env :: (assignEach es X.env).map (·.2) := by rfl) : PGs X (e :: es) (gCons t u) := by
  intro pins s σ H vs us Q I r h
  obtain ⟨v, vr, e1, h⟩ := h
  subst e1
  cases r with
  | cons r rr =>
    rw [hs]
    refine assignInOrder_cons (thn (h1 pins s σ H _ _ _ I r h) fun _ s1 ⟨σ1, H1, I1, q1⟩ => ?_)
    exact h2 pins s1 σ1 H1 _ _ Q I1 rr q1
/-- (a, b, ..) = a tuple of that length -/
noncomputable def gTup (K : PySem.W.Frag) (n : Nat) (t : TGs) : TG := fun v σ H Q => ∃ a xs, v = .ref a ∧ SqT K H a xs ∧ xs.length = n ∧ t xs σ H Q
theorem pg_tup {es : List Expr} {k : Nat} {t : TGs} {n : Nat} (hc : X.calm = true) (h : PGs X es t)
    (hn : (assignEach es X.env).length = n := by rfl) (hst : (assignEach es X.env).findIdx? (·.1) = none := by rfl) : PG X (.Tuple es k pos) (gTup X.K n t) := by
  intro pins s σ H v u Q I r hw
  obtain ⟨a, xs, e1, hq, hl, hw⟩ := hw
  subst e1
  cases r
  obtain ⟨its, rv, ht, hz⟩ := I.tuple hq
  refine assign_Tuple_tuple (I.ok.hd hc) ht (by simp [hn, ← hl, rv.length]) hst fun h' hx => ?_
  have I1 : Inv X pins σ H { s with heap := h' } := I.kept (t' := s.toks) fun b o e => hx b o (Nat.ne_of_lt (Heap.lt_size e)) e
  exact h pins _ σ H xs _ Q I1 (by simpa using rv) hw
/-- o[i] = .. -/
noncomputable def gSub (to ti : TE) (t : TSet) : TG := fun v σ H Q => to σ H fun o H1 => ti σ H1 fun i H2 => t o i v H2 fun H3 => Q σ H3
theorem pg_sub {o i : Expr} {to ti : TE} {t : TSet} (ho : PE X o to) (hi : PE X i ti) (hs : PSet X t)
    (ha : ∀ v, assign (.Subscript o i pos) X.env v = (do
      let ov ← holding [v] (eval o X.env)
      let iv ← holding [v, ov] (eval i X.env)
      standAt pos
      holding [v, ov, iv] (setItem ov iv v)
      release [v, ov, iv] []) := by intro _; rfl) : PG X (.Subscript o i pos) (gSub to ti t) := by
  intro pins s σ H v u Q I r h
  rw [ha]
  refine wpAny_bind (wpAny_holding (thn (ho pins s σ H _ I h) fun ov s1 ⟨x, H1, I1, r1, q1⟩ => ?_))
  refine wpAny_bind (wpAny_holding (thn (hi pins s1 σ H1 _ I1 q1) fun iv s2 ⟨y, H2, I2, r2, q2⟩ => ?_))
  refine wpAny_bind (wpAny_standAt (wpAny_bind (wpAny_holding (thn (hs pins s2 σ H2 x y v ov iv u _ I2 r1 r2 r q2) fun _ s3 ⟨H3, I3, q3⟩ => ?_))))
  exact wpAny_release ⟨σ, H3, I3, q3⟩
/-- target = value -/
noncomputable def tAsg (te : TE) (g : TG) : TS := fun D σ H => te σ H fun x H1 => g x σ H1 D.nx
theorem ps_asg {tg e : Expr} {te : TE} {g : TG} (he : PE X e te) (hg : PG X tg g) (hs : swapsWithSole [tg] e pos.line X.env = pure false := by rfl) (hw : swappedStores [tg] e X.env = pure none := by rfl)
    (h1 : (assignEach [tg] X.env).map (·.2) = [assign tg X.env] := by rfl) : PS X (.Assign [tg] e pos) (tAsg te g) := by
  intro pins s σ H D I h
  refine wpAny_Assign_stores (thn (he pins s σ H _ I h) fun v s1 ⟨x, H1, I1, r1, q1⟩ => ?_) hs hw
  rw [h1]
  exact thn (hg pins s1 σ H1 x v _ I1 r1 q1) fun _ s2 q => q
/-- name = value -/
theorem ps_set {i : Nat} {x : Str} {e : Expr} {te : TE} {pos' : Pos} (hN : X.N.Nodup) (hi : X.N[i]? = some x) (hx : Loc X.env.scope x) (he : PE X e te) (hs : swapsWith e (some (.Name x pos')) pos.line X.env = pure false := by rfl) (hf : X.fn x = true ∨ X.env.scope.names.lookup x = some .local := by first | exact .inl rfl | exact .inr rfl | assumption) :
    PS X (.Assign [.Name x pos'] e pos) (tAsg te (gName i)) := by
  intro pins s σ H D I h
  refine wpAny_Assign_Name (thn (he pins s σ H _ I h) fun v s1 ⟨y, H1, I1, r1, q1⟩ => ?_) hs
  exact store_ok I1 hN hi hx r1 (fun s2 I2 => ⟨_, H1, I2, q1⟩) hf
/-- a, b = x, y with plain local names: stored from the right; the pair itself is not tracked (the opening rows as in PyProof/Rows/TupAssign.lean:23) -/
noncomputable def tPar (i j : Nat) (ta : TA) : TS := fun D σ H => ta σ H fun vs H1 => ∃ v w, vs = [v, w] ∧ D.nx ((σ.set i (some v)).set j (some w)) H1
/-- name op= e -/
noncomputable def tAug (i : Nat) (te : TE) (ti : TIp) : TS := fun D σ H => ∃ x, σ[i]? = some (some x) ∧ te σ H fun y H1 => ti x y H1 fun z H2 => D.nx (σ.set i (some z)) H2
/-- o[i] op= e -/
noncomputable def tAugS (to ti te : TE) (tget : V → V → Hp → VK → Prop) (tip : TIp) (tset : TSet) : TS := fun D σ H => to σ H fun o H1 => ti σ H1 fun i H2 => tget o i H2 fun x H3 => te σ H3 fun y H4 => tip x y H4 fun z H5 => tset o i z H5 fun H6 => D.nx σ H6
/-- o[i], by values -/
noncomputable def PGet (X : Cx) (t : V → V → Hp → VK → Prop) : Prop :=
  ∀ (pins : List (Addr × Obj)) (s : Shared) (σ : St) (H : Hp) (o i : V) (ov iv : Value) (Q : VK), Inv X pins σ H s → RelV o ov → RelV i iv → t o i H Q →
    wpAny (model X.prog X.w) X.A (getItem ov iv) (EP X pins σ Q) X.xe s
/-- ints -/
noncomputable def ipI (f : Int → Int → Int) : TIp := fun x y H Q => ∃ i j, x = .int i ∧ y = .int j ∧ Q (.int (f i j)) H
end

/-! ### while -/
section
variable {X : Cx} {pos : Pos}
/-- the invariant W with its measure -/
noncomputable def tWhile (c : TT) (tb : TS) : TS := fun D σ H => ∃ W : Nat → St → Hp → Prop, (∃ m, W m σ H) ∧ ∀ m σ H, W m σ H →
  c σ H fun b H1 => if b = true then ∃ N : St → Hp → Prop, (∀ σ' H', N σ' H' → ∃ m', m' < m ∧ W m' σ' H') ∧ tb { D with nx := N, ct := N, bk := D.nx } σ H1 else D.nx σ H1
end

/-! ### what a loop or a comprehension walks -/
/-- at turn i: it yields x (the heap may grow), or it stops -/
structure It where
  go : Nat → Hp → Prop
  yld : Nat → Hp → V → Hp → Prop
  stop : Nat → Hp → Prop
/-- the iterator's own objects may turn: they are not the frame's, not pinned, younger than the entry (or a comprehension's own) -/
noncomputable def FpOk (X : Cx) (pins : List (Addr × Obj)) (H : Hp) (b : Addr) : Prop :=
  H b = none ∧ b ≠ X.env.locals ∧ b ∉ X.fs ∧ (b ∈ X.ex ∨ X.s₀.heap.objs.size ≤ b) ∧ (∀ x c, X.env.cells.lookup x = some c → c ≠ b) ∧ ∀ p ∈ X.pn ++ pins, p.1 ≠ b
theorem Inv.fpOk {X : Cx} {pins : List (Addr × Obj)} {σ : St} {H H' : Hp} {s : Shared} {b : Addr} (I : Inv X pins σ H s) (hb : s.heap.objs.size ≤ b) (hn : H' b = none) : FpOk X pins H' b := by
  refine ⟨hn, Nat.ne_of_gt (Nat.lt_of_lt_of_le I.lt hb), I.nofs hb, .inr (Nat.le_trans I.sz hb), fun x c e z => ?_, fun p hp z => ?_⟩
  · obtain ⟨v, q⟩ := I.cell x c e
    exact absurd (Nat.lt_of_lt_of_le q.lt (by rw [z]; exact hb)) (Nat.lt_irrefl _)
  · exact absurd (Nat.lt_of_lt_of_le (Heap.lt_size (I.pin p hp).1) (by rw [z]; exact hb)) (Nat.lt_irrefl _)
structure Turn (P : Program) (w : World) (K : PySem.W.Frag) (tg : Expr) (J : It) (fp : List Addr) (it : Addr) (tn : Nat → Heap → Prop) : Prop where
  mem : it ∈ fp
  obj : ∀ i h, tn i h → ∀ b ∈ fp, ∃ o, h.get? b = some o ∧ ∀ v, o.data ≠ .cell v
  keep : ∀ i h h', tn i h → (∀ b ∈ fp, ∀ o, h.get? b = some o → h'.get? b = some o) → tn i h'
  item : ∀ (X : Cx), X.prog = P → X.w = w → X.K = K → X.calm = true → ∀ (i : Nat) (pins : List (Addr × Obj)) (s : Shared) (σ : St) (H : Hp) (E : Value → Shared → Prop), Inv X pins σ H s → (∀ b ∈ fp, FpOk X pins H b) → tn i s.heap → J.go i H →
    wpAny (model P w) X.A (pyNext (.ref it)) (fun r s1 => ∃ u, r = some u ∧
      wpAny (model P w) X.A (letOwnedTupleGo tg (.ref it) u) (fun _ s2 => ∃ x H', Inv X pins σ H' s2 ∧ RelV x u ∧ J.yld i H x H' ∧ tn (i + 1) s2.heap ∧ ∀ b ∈ fp, H' b = none) E s1) E s
  done : ∀ (X : Cx), X.prog = P → X.w = w → X.K = K → X.calm = true → ∀ (i : Nat) (pins : List (Addr × Obj)) (s : Shared) (σ : St) (H : Hp) (E : Value → Shared → Prop), Inv X pins σ H s → (∀ b ∈ fp, FpOk X pins H b) → tn i s.heap → J.stop i H →
    wpAny (model P w) X.A (pyNext (.ref it)) (fun r s1 => r = none ∧ Inv X pins σ H s1) E s
  self : ∀ (A : Around) (i : Nat) (s : Shared) (Q : Value → Shared → Prop) (E : Value → Shared → Prop), tn i s.heap → Q (.ref it) s → wpAny (model P w) A (pyIter (.ref it)) Q E s
noncomputable abbrev TI := St → Hp → (It → Hp → Prop) → Prop
/-- an iterator has come -/
noncomputable def PIE (X : Cx) (pins : List (Addr × Obj)) (σ : St) (tg : Expr) (R : It → Hp → Prop) (itv : Value) (s2 : Shared) : Prop :=
  ∃ (it : Addr) (fp : List Addr) (tn : Nat → Heap → Prop) (J : It) (H' : Hp), itv = .ref it ∧ Inv X pins σ H' s2 ∧ Turn X.prog X.w X.K tg J fp it tn ∧ tn 0 s2.heap ∧ (∀ b ∈ fp, FpOk X pins H' b) ∧ R J H'
noncomputable def PI (X : Cx) (tg iter : Expr) (wi : TI) : Prop :=
  ∀ (pins : List (Addr × Obj)) (s : Shared) (σ : St) (H : Hp) (R : It → Hp → Prop), Inv X pins σ H s → wi σ H R →
    wpAny (model X.prog X.w) X.A (eval iter X.env) (fun v s1 => wpAny (model X.prog X.w) X.A (pyIter v) (PIE X pins σ tg R) X.xe s1) X.xe s

/-- the step ahead of the store is nothing for an iterator that keeps no tuple -/
theorem go_of {M : Model} {A : Around} {E : Value → Shared → Prop} {s : Shared} {tg : Expr} {it : Addr} {u : Value} {o : Obj} {n : String} {vs : Array Value} {Q : Unit → Shared → Prop} (ho : s.heap.get? it = some o) (hc : o.cls = .type n) (hd : o.data = .fields vs)
    (hn : ["enumerate", "zip", "dict_itemiterator", "dict_reverseitemiterator", "odict_iterator", "itertools.zip_longest", "itertools.pairwise"].contains n = false) (hQ : Q () s) : wpAny M A (letOwnedTupleGo tg (.ref it) u) Q E s := by
  unfold letOwnedTupleGo
  cases tg <;> first
    | exact wpAny_pure hQ
    | (cases u <;> first
        | exact wpAny_pure hQ
        | (refine wpAny_bind (wpAny_load ho ?_)
           rw [hc, hd]
           show wpAny M A (if (["enumerate", "zip", "dict_itemiterator", "dict_reverseitemiterator", "odict_iterator", "itertools.zip_longest", "itertools.pairwise"].contains n && vs[0]? == some (rawInt _)) = true then _ else _) Q E s
           rw [if_neg (by intro h; rw [hn, Bool.false_and] at h; cases h)]
           exact wpAny_pure hQ))

/-- the list at a, as it stands at each turn (a loop may append to it) -/
noncomputable def Itl (K : PySem.W.Frag) (a : Addr) : It :=
  ⟨fun i H => ∃ xs x, SqL K H a xs ∧ xs[i]? = some x, fun i H x H' => H' = H ∧ ∀ xs, SqL K H a xs → xs[i]? = some x, fun i H => ∃ xs, SqL K H a xs ∧ xs.length ≤ i⟩
noncomputable def Itt (K : PySem.W.Frag) (a : Addr) : It :=
  ⟨fun i H => ∃ xs x, SqT K H a xs ∧ xs[i]? = some x, fun i H x H' => H' = H ∧ ∀ xs, SqT K H a xs → xs[i]? = some x, fun i H => ∃ xs, SqT K H a xs ∧ xs.length ≤ i⟩
/-- lo, lo + 1, .. (n of them) -/
noncomputable def Itr (lo : Int) (n : Nat) : It := ⟨fun i _ => i < n, fun i H x H' => H' = H ∧ x = .int (lo + i), fun i _ => n ≤ i⟩
theorem turn_list {P : Program} {w : World} {K : PySem.W.Frag} {tg : Expr} (a it : Addr) : Turn P w K tg (Itl K a) [it] it (fun i h => h.IsListIter it a i) where
  mem := by simp
  obj := fun i h st b hb => by
    have e : b = it := by simpa using hb
    subst e
    obtain ⟨o, e, c, d⟩ := st
    exact ⟨o, e, fun v z => by rw [d] at z; cases z⟩
  keep := fun i h h' st k => st.at fun o e => k it (by simp) o e
  item := by
    intro X hP hw hK hc i pins s σ H E I hf st hg
    subst hP hw hK
    obtain ⟨xs, x, hq, hx⟩ := hg
    obtain ⟨its, rv, p, hz⟩ := I.list hq
    obtain ⟨u, hu, ru⟩ := rv.get hx
    obtain ⟨f0, f1, f2, f3, f4, f5⟩ := hf it (by simp)
    refine wpAny_pyNext_list_item st p.isList (x := u) (by simpa using hu) fun h' st' sb => ?_
    have I1 : Inv X pins σ H { s with heap := h' } := I.turned (t' := s.toks) (fun b o hb e => (sb.2 b hb).trans e) f0 f1 f3 f4 f5
    obtain ⟨o, e, c, d⟩ := id st'
    exact ⟨u, rfl, go_of (s := { s with heap := h' }) e c d (by decide) ⟨x, H, I1, ru, ⟨rfl, fun ys hy => by rw [I.list_inj hy hq]; exact hx⟩, st', fun b hb => (hf b hb).1⟩⟩
  done := by
    intro X hP hw hK hc i pins s σ H E I hf st hg
    subst hP hw hK
    obtain ⟨xs, hq, hx⟩ := hg
    obtain ⟨its, rv, p, hz⟩ := I.list hq
    obtain ⟨f0, f1, f2, f3, f4, f5⟩ := hf it (by simp)
    have hl := rv.length
    exact wpAny_pyNext_list_end (I.ok.hd hc) st p.isList (by simp; omega) fun h' eb => ⟨rfl, I.turned (t' := s.toks) (fun b o hb e => eb b o hb e) f0 f1 f3 f4 f5⟩
  self := fun _ _ _ _ _ st h => wpAny_pyIter_listiter st h
theorem turn_tuple {P : Program} {w : World} {K : PySem.W.Frag} {tg : Expr} (a it : Addr) : Turn P w K tg (Itt K a) [it] it (fun i h => h.IsTupleIter it a i) where
  mem := by simp
  obj := fun i h st b hb => by
    have e : b = it := by simpa using hb
    subst e
    obtain ⟨o, e, c, d⟩ := st
    exact ⟨o, e, fun v z => by rw [d] at z; cases z⟩
  keep := fun i h h' st k => st.at fun o e => k it (by simp) o e
  item := by
    intro X hP hw hK hc i pins s σ H E I hf st hg
    subst hP hw hK
    obtain ⟨xs, x, hq, hx⟩ := hg
    obtain ⟨its, rv, p, hz⟩ := I.tuple hq
    obtain ⟨u, hu, ru⟩ := rv.get hx
    obtain ⟨f0, f1, f2, f3, f4, f5⟩ := hf it (by simp)
    refine wpAny_pyNext_tuple_item st (show s.heap.IsTuple a its.toArray from p) (x := u) (by simpa using hu) fun h' st' sb => ?_
    have I1 : Inv X pins σ H { s with heap := h' } := I.turned (t' := s.toks) (fun b o hb e => (sb.2 b hb).trans e) f0 f1 f3 f4 f5
    obtain ⟨o, e, c, d⟩ := id st'
    exact ⟨u, rfl, go_of (s := { s with heap := h' }) e c d (by decide) ⟨x, H, I1, ru, ⟨rfl, fun ys hy => by rw [I.tuple_inj hy hq]; exact hx⟩, st', fun b hb => (hf b hb).1⟩⟩
  done := by
    intro X hP hw hK hc i pins s σ H E I hf st hg
    subst hP hw hK
    obtain ⟨xs, hq, hx⟩ := hg
    obtain ⟨its, rv, p, hz⟩ := I.tuple hq
    obtain ⟨f0, f1, f2, f3, f4, f5⟩ := hf it (by simp)
    have hl := rv.length
    exact wpAny_pyNext_tuple_end (I.ok.hd hc) st (show s.heap.IsTuple a its.toArray from p) (by simp; omega) fun h' eb => ⟨rfl, I.turned (t' := s.toks) (fun b o hb e => eb b o hb e) f0 f1 f3 f4 f5⟩
  self := fun _ _ _ _ _ st h => wpAny_pyIter_tupleiter st h
theorem turn_range {P : Program} {w : World} {K : PySem.W.Frag} {tg : Expr} (it : Addr) (lo : Int) (n : Nat) : Turn P w K tg (Itr lo n) [it] it (fun i h => IsRangeIter h it (lo + (i : Nat) * 1) ((n : Int) - (i : Nat)) 1) where
  mem := by simp
  obj := fun i h st b hb => by
    have e : b = it := by simpa using hb
    subst e
    exact ⟨_, st, fun v z => by
      have z' : Data.fields _ = Data.cell v := z
      cases z'⟩
  keep := fun i h h' st k => k it (by simp) _ st
  item := by
    intro X hP hw hK hc i pins s σ H E I hf st hg
    subst hP hw hK
    obtain ⟨f0, f1, f2, f3, f4, f5⟩ := hf it (by simp)
    have W := Walks.range (prog := X.prog) (w := X.w) (I.ok.hd hc) it lo 1 n
    refine W.item i s _ _ hg st fun v h' tk hv st' kk => ?_
    obtain ⟨t, rfl⟩ := hv
    have I1 : Inv X pins σ H { s with heap := h', toks := tk } := I.turned (fun b o hb e => kk b o (by simpa using hb) e) f0 f1 f3 f4 f5
    refine ⟨_, rfl, go_of (s := { s with heap := h', toks := tk }) (n := "range_iterator") st' rfl rfl (by decide) ⟨.int (lo + i), H, I1, ⟨t, ?_⟩, ⟨rfl, rfl⟩, st', fun b hb => (hf b hb).1⟩⟩
    rw [Int.mul_one]
  done := by
    intro X hP hw hK hc i pins s σ H E I hf st hg
    subst hP hw hK
    obtain ⟨f0, f1, f2, f3, f4, f5⟩ := hf it (by simp)
    exact wpAny_pyNext_range_end (I.ok.hd hc) st (by have : n ≤ i := hg; omega) fun h' eb => ⟨rfl, I.turned (t' := s.toks) (fun b o hb e => eb b o hb e) f0 f1 f3 f4 f5⟩
  self := fun _ _ _ _ _ st h => wpAny_pyIter_rangeiter st h
end L2

namespace L2
open PySem PySem.Spec PyProof.Rows
section
variable {X : Cx} {tg : Expr}
noncomputable def iList (K : PySem.W.Frag) (tl : TE) : TI := fun σ H R => tl σ H fun x H1 => ∃ a, x = .ref a ∧ (∃ xs, SqL K H1 a xs) ∧ R (Itl K a) H1
noncomputable def iTup (K : PySem.W.Frag) (tl : TE) : TI := fun σ H R => tl σ H fun x H1 => ∃ a, x = .ref a ∧ (∃ xs, SqT K H1 a xs) ∧ R (Itt K a) H1
/-- a range object just made, walked -/
theorem range_it {pins : List (Addr × Obj)} {σ : St} {H : Hp} {s : Shared} {R : It → Hp → Prop} {E : Value → Shared → Prop} {lo hi : Int} {t u v : Tok} {tk : Nat} (I : Inv X pins σ H s) (h1 : -(2 ^ 62) ≤ lo) (h2 : lo < 2 ^ 62) (h3 : -(2 ^ 62) ≤ hi) (h4 : hi < 2 ^ 62)
    (q : R (Itr lo (hi - lo).toNat) H) : wpAny (model X.prog X.w) X.A (pyIter (.ref s.heap.objs.size)) (PIE X pins σ tg R) E { s with heap := s.heap.push { cls := .type "range", data := .fields #[.int lo t, .int hi u, .int 1 v] }, toks := tk } := by
  refine wpAny_pyIter_range (IsRange.new ..) (small_one h1 h2 h3 h4) ?_
  have I1 : Inv X pins σ H { s with heap := s.heap.push { cls := .type "range", data := .fields #[.int lo t, .int hi u, .int 1 v] }, toks := tk } := I.kept fun b o e => Heap.get?_push_of_some _ e
  refine ⟨(s.heap.push { cls := .type "range", data := .fields #[.int lo t, .int hi u, .int 1 v] }).objs.size, [(s.heap.push { cls := .type "range", data := .fields #[.int lo t, .int hi u, .int 1 v] }).objs.size], _, _, H, rfl,
    I1.kept (t' := tk) fun b o e => Heap.get?_push_of_some _ e, turn_range _ lo (hi - lo).toNat, ?_, fun b hb => ?_, q⟩
  · have e1 : lo + ((0 : Nat) : Int) * 1 = lo := by simp
    have e2 : (((hi - lo).toNat : Nat) : Int) - ((0 : Nat) : Int) = Builtin.Range.rangeSize lo hi 1 := by rw [rangeSize_one]; split <;> omega
    show IsRangeIter _ _ (lo + ((0 : Nat) : Int) * 1) ((((hi - lo).toNat : Nat) : Int) - ((0 : Nat) : Int)) 1
    rw [e1, e2]
    exact Heap.get?_push_size _ rfl
  · have e : b = (s.heap.push { cls := .type "range", data := .fields #[.int lo t, .int hi u, .int 1 v] }).objs.size := by simpa using hb
    subst e
    exact I1.fpOk (Nat.le_refl _) (I1.hok.fresh (Nat.le_refl _))
noncomputable def iRng1 (ta : TA) : TI := fun σ H R => ta σ H fun vs H1 => ∃ j : Int, vs = [.int j] ∧ -(2 ^ 62) ≤ j ∧ j < 2 ^ 62 ∧ R (Itr 0 j.toNat) H1
noncomputable def iRng2 (ta : TA) : TI := fun σ H R => ta σ H fun vs H1 => ∃ i j : Int, vs = [.int i, .int j] ∧ (-(2 ^ 62) ≤ i ∧ i < 2 ^ 62 ∧ -(2 ^ 62) ≤ j ∧ j < 2 ^ 62) ∧ R (Itr i (j - i).toNat) H1
theorem pi_range1 {a : Expr} {ta : TA} {p pos : Pos} (hg : Gl X "range") (hm : X.mg "range" = none) (ha : PA X [a] ta) (hs : starEach [a] X.env = [(false, eval a X.env)] := by rfl) : PI X tg (.Call (.Name "range" p) [a] [] pos) (iRng1 ta) := by
  intro pins s σ H R I h
  refine Call_ (ld_blt I hg hm boot_range (PyProof.Rows.callWith_type1 (thn (ha pos pins s σ H _ I h) fun us s1 ⟨vs, H1, I1, r1, q1⟩ => ?_) hs rfl))
  obtain ⟨j, e, q1, q2, q⟩ := q1
  subst e
  cases r1 with
  | cons r rr =>
    cases rr
    obtain ⟨t, rfl⟩ := r
    exact call_range_1 (range_it I1 (by omega) (by omega) q1 q2 (by simpa using q))

/-! ### for -/
/-- W: the invariant by the turn and a measure; N: what the body is to reach -/
noncomputable def tFor (wi : TI) (g : TG) (tb : TS) : TS := fun D σ H => wi σ H fun J H1 => ∃ W : Nat → Nat → St → Hp → Prop, (∃ m, W 0 m σ H1) ∧ ∀ i m σ H, W i m σ H →
  (J.stop i H ∧ D.nx σ H) ∨ (J.go i H ∧ ∃ N : St → Hp → Prop, (∀ σ' H', N σ' H' → ∃ m', m' < m ∧ W (i + 1) m' σ' H') ∧ ∀ x H', J.yld i H x H' → g x σ H' fun σ2 H2 => tb { D with nx := N, ct := N, bk := D.nx } σ2 H2)
/-- the records at fp as they stand -/
noncomputable def pinsAt (fp : List Addr) (h : Heap) : List (Addr × Obj) := fp.filterMap fun b => (h.get? b).map fun o => (b, o)
theorem mem_pinsAt {fp : List Addr} {h : Heap} {b : Addr} {o : Obj} (hb : b ∈ fp) (e : h.get? b = some o) : (b, o) ∈ pinsAt fp h := List.mem_filterMap.mpr ⟨b, hb, by rw [e]; rfl⟩
theorem of_pinsAt {fp : List Addr} {h : Heap} {p : Addr × Obj} (hp : p ∈ pinsAt fp h) : p.1 ∈ fp ∧ h.get? p.1 = some p.2 := by
  obtain ⟨b, hb, e⟩ := List.mem_filterMap.mp hp
  cases q : h.get? b with
  | none => rw [q] at e; cases e
  | some o =>
    rw [q] at e
    have e' : (b, o) = p := Option.some.inj e
    subst e'
    exact ⟨hb, q⟩
theorem Inv.pinned {pins : List (Addr × Obj)} {σ : St} {H : Hp} {s : Shared} {fp : List Addr} (I : Inv X pins σ H s) (hf : ∀ b ∈ fp, FpOk X pins H b) (ho : ∀ b ∈ fp, ∃ o, s.heap.get? b = some o ∧ ∀ v, o.data ≠ .cell v) : Inv X (pins ++ pinsAt fp s.heap) σ H s :=
  I.pins_of fun p hp => (List.mem_append.mp hp).elim (fun z => I.pin p (List.mem_append_right _ z)) fun z => by
    obtain ⟨hb, e⟩ := of_pinsAt z
    obtain ⟨f0, f1, f2, _⟩ := hf p.1 hb
    obtain ⟨o, e', d⟩ := ho p.1 hb
    rw [e] at e'; cases e'
    exact ⟨e, f0, f1, f2, d⟩
theorem Inv.unpinned {pins pl : List (Addr × Obj)} {σ : St} {H : Hp} {s : Shared} (I : Inv X (pins ++ pl) σ H s) : Inv X pins σ H s := I.pins_of fun p hp => I.pin p (List.mem_append_right _ (List.mem_append_left _ hp))
theorem ps_for {iter : Expr} {body : List Stmt} {wi : TI} {g : TG} {tb : TS} {pos : Pos} (hp : PassesOwn (model X.prog X.w) X.A X.env X.xe) (hc : X.calm = true) (hi : PI X tg iter wi) (hg : PG X tg g) (hb : PSs X body tb)
    (hs : ∀ x, foldedSetIterable iter X.env x = pure x := by intro _; rfl) : PS X (.For tg iter body [] pos) (tFor wi g tb) := by
  intro pins s σ H D I h
  refine wpAny_For (thn (hi pins s σ H _ I h) fun v s1 h1 => thn h1 fun itv s2 h2 => ?_) hs
  obtain ⟨it, fp, tn, J, H2, e, I2, T, st2, f2, W, ⟨m0, w0⟩, turn⟩ := h2
  subst e
  -- what stays true of the iterator's objects through the loop
  have stat : ∀ {H' : Hp}, (∀ b ∈ fp, H' b = none) → ∀ b ∈ fp, FpOk X pins H' b := fun hn b hb => ⟨hn b hb, (f2 b hb).2⟩
  refine codeAny_forLoop_any (fun n s' => ∃ i σ' H', Inv X pins σ' H' s' ∧ tn i s'.heap ∧ (∀ b ∈ fp, H' b = none) ∧ W i n σ' H') ?_ m0 ⟨0, σ, H2, I2, st2, fun b hb => (f2 b hb).1, w0⟩
  rintro n s3 ⟨i, σ3, H3, I3, st3, fr3, w3⟩
  rcases turn i n σ3 H3 w3 with ⟨stop, qn⟩ | ⟨go, N, hN, step⟩
  · refine wpAny_passesOwn hp (thn (T.done X rfl rfl rfl hc i pins s3 σ3 H3 X.xe I3 (stat fr3) st3 stop) fun r s4 ⟨hr, I4⟩ => ?_)
    subst hr
    exact wpAny_execs_nil ⟨σ3, H3, I4, qn⟩
  · refine wpAny_passesOwn hp (thn (T.item X rfl rfl rfl hc i pins s3 σ3 H3 X.xe I3 (stat fr3) st3 go) fun r s4 ⟨u, hr, h4⟩ => ?_)
    subst hr
    refine wpAny_passesOwn hp (thn h4 fun _ s5 ⟨x, H5, I5, r5, y5, st5, fr5⟩ => ?_)
    have I5' := I5.pinned (stat fr5) (T.obj _ _ st5)
    refine wpAny_passesOwn hp (thn (hg _ s5 σ3 H5 x u _ I5' r5 (step x H5 y5)) fun _ s6 ⟨σ6, H6, I6, q6⟩ => ?_)
    refine wpAny_passesOwn hp (thn (hb _ s6 σ6 H6 _ I6 q6) fun f s7 q7 => ?_)
    have again : ∀ {σ7 : St} {H7 : Hp}, Inv X (pins ++ pinsAt fp s5.heap) σ7 H7 s7 → N σ7 H7 → ∃ m, m < n ∧ ∃ i σ' H', Inv X pins σ' H' s7 ∧ tn i s7.heap ∧ (∀ b ∈ fp, H' b = none) ∧ W i m σ' H' := fun {σ7 H7} I7 n7 => by
      obtain ⟨m', hm, w7⟩ := hN σ7 H7 n7
      refine ⟨m', hm, i + 1, σ7, H7, I7.unpinned, T.keep _ _ _ st5 fun b hb o e => (I7.pin (b, o) (List.mem_append_right _ (List.mem_append_right _ (mem_pinsAt hb e)))).1, fun b hb => ?_, w7⟩
      obtain ⟨o, e, d⟩ := T.obj _ _ st5 b hb
      exact (I7.pin (b, o) (List.mem_append_right _ (List.mem_append_right _ (mem_pinsAt hb e)))).2.1
    cases f with
    | next => obtain ⟨σ7, H7, I7, n7⟩ := q7; exact again I7 n7
    | cont => obtain ⟨σ7, H7, I7, n7⟩ := q7; exact again I7 n7
    | brk => obtain ⟨σ7, H7, I7, q7⟩ := q7; exact ⟨σ7, H7, I7.unpinned, q7⟩
    | ret v => obtain ⟨x7, σ7, H7, I7, r7, q7⟩ := q7; exact ⟨x7, σ7, H7, I7.unpinned, r7, q7⟩
end

/-! ### the forms one uses -/
end L2

namespace L2
open PySem PySem.Spec PyProof.Rows

noncomputable abbrev R2 := V → V → Hp → VK → Prop
/-- a two-place operation on values: f is binaryOp op, inplaceOp op or compareOp op -/
noncomputable def OpR (X : Cx) (f : Value → Value → Sem Value) (r : R2) : Prop :=
  ∀ (pins : List (Addr × Obj)) (s : Shared) (σ : St) (H : Hp) (x y : V) (v u : Value) (Q : VK), Inv X pins σ H s → RelV x v → RelV y u → r x y H Q →
    wpAny (model X.prog X.w) X.A (f v u) (EP X pins σ Q) X.xe s
/-- a one-place operation -/
noncomputable def UnR (X : Cx) (f : Value → Sem Value) (r : V → Hp → VK → Prop) : Prop :=
  ∀ (pins : List (Addr × Obj)) (s : Shared) (σ : St) (H : Hp) (x : V) (v : Value) (Q : VK), Inv X pins σ H s → RelV x v → r x H Q →
    wpAny (model X.prog X.w) X.A (f v) (EP X pins σ Q) X.xe s
/-- a call of a value that is known (a builtin, a type) with values -/
noncomputable def CallR (X : Cx) (f : Value) (r : List V → Hp → VK → Prop) : Prop :=
  ∀ (pins : List (Addr × Obj)) (s : Shared) (σ : St) (H : Hp) (xs : List V) (us : List Value) (Q : VK), Inv X pins σ H s → Vals xs us → r xs H Q →
    wpAny (model X.prog X.w) X.A (call f us) (EP X pins σ Q) X.xe s
/-- a value's truth -/
noncomputable def TruR (X : Cx) (r : V → Hp → (Bool → Hp → Prop) → Prop) : Prop :=
  ∀ (pins : List (Addr × Obj)) (s : Shared) (σ : St) (H : Hp) (x : V) (v : Value) (Q : Bool → Hp → Prop), Inv X pins σ H s → RelV x v → r x H Q →
    wpAny (model X.prog X.w) X.A (truthy v) (TP X pins σ Q) X.xe s

noncomputable def tOp (r : R2) (ta tb : TE) : TE := fun σ H Q => ta σ H fun x H1 => tb σ H1 fun y H2 => r x y H2 Q
noncomputable def tUn (r : V → Hp → VK → Prop) (ta : TE) : TE := fun σ H Q => ta σ H fun x H1 => r x H1 Q
/-- ints in, under C, and a value out -/
noncomputable def rI (C : Int → Int → Prop) (g : Int → Int → V) : R2 := fun x y H Q => ∃ i j, x = .int i ∧ y = .int j ∧ C i j ∧ Q (g i j) H
noncomputable def rI0 (g : Int → Int → V) : R2 := fun x y H Q => ∃ i j, x = .int i ∧ y = .int j ∧ Q (g i j) H
noncomputable def rU (g : Int → V) : V → Hp → VK → Prop := fun x H Q => ∃ i, x = .int i ∧ Q (g i) H

section
variable {X : Cx} {a b c : Expr} {ta tb tc : TE} {pos : Pos}

theorem binT (ha : PE X a ta) (hb : PE X b tb) {pins : List (Addr × Obj)} {s : Shared} {σ : St} {H : Hp} {R : V → V → Hp → Prop} (I : Inv X pins σ H s)
    (h : ta σ H fun x H1 => tb σ H1 fun y H2 => R x y H2) {Q : Value → Shared → Prop} {f : Value → Value → Sem Value}
    (hf : ∀ v u s2 x y H2, Inv X pins σ H2 s2 → RelV x v → RelV y u → R x y H2 → wpAny (model X.prog X.w) X.A (f v u) Q X.xe s2) :
    wpAny (model X.prog X.w) X.A (eval a X.env) (fun v s₁ => wpAny (model X.prog X.w) X.A (eval b X.env) (fun u s₂ => wpAny (model X.prog X.w) X.A (f v u) Q X.xe s₂) X.xe s₁) X.xe s := by
  refine thn (ha pins s σ H _ I h) fun v s1 ⟨x, H1, I1, r1, q1⟩ => ?_
  refine thn (hb pins s1 σ H1 _ I1 q1) fun u s2 ⟨y, H2, I2, r2, q2⟩ => ?_
  exact hf v u s2 x y H2 I2 r1 r2 q2

theorem pe_op {op : Operator} {r : R2} (ho : OpR X (binaryOp op) r) (ha : PE X a ta) (hb : PE X b tb) : PE X (.BinOp a op b pos) (tOp r ta tb) := by
  intro pins s σ H Q I h
  exact wpAny_BinOp (binT ha hb I h fun v u s2 x y H2 I2 rx ry q => ho pins s2 σ H2 x y v u Q I2 rx ry q)
theorem pe_un {op : UnaryOp} {r : V → Hp → VK → Prop} (ho : UnR X (unaryOp op) r) (ha : PE X a ta) : PE X (.UnaryOp op a pos) (tUn r ta) := by
  intro pins s σ H Q I h
  exact UnaryOp_ (thn (ha pins s σ H _ I h) fun v s1 ⟨x, H1, I1, r1, q1⟩ => ho pins s1 σ H1 x v Q I1 r1 q1)

/-! ### ints -/
theorem opI {f : Value → Value → Sem Value} {C : Int → Int → Prop} {g : Int → Int → Int}
    (rule : ∀ (i j : Int) (t u : Tok) (s : Shared) (Q : Value → Shared → Prop) (E : Value → Shared → Prop), C i j → Q (.int (g i j) s.toks) { s with toks := s.toks + 1 } → wpAny (model X.prog X.w) X.A (f (.int i t) (.int j u)) Q E s) :
    OpR X f (rI C fun i j => .int (g i j)) := by
  intro pins s σ H x y v u Q I rx ry h
  obtain ⟨i, j, rfl, rfl, hc, q⟩ := h
  obtain ⟨t, rfl⟩ := rx
  obtain ⟨t', rfl⟩ := ry
  exact rule i j t t' s _ _ hc ⟨.int (g i j), H, I.tok _, ⟨_, rfl⟩, q⟩
theorem opI0 {f : Value → Value → Sem Value} {g : Int → Int → Int}
    (rule : ∀ (i j : Int) (t u : Tok) (s : Shared) (Q : Value → Shared → Prop) (E : Value → Shared → Prop), Q (.int (g i j) s.toks) { s with toks := s.toks + 1 } → wpAny (model X.prog X.w) X.A (f (.int i t) (.int j u)) Q E s) :
    OpR X f (rI0 fun i j => .int (g i j)) := by
  intro pins s σ H x y v u Q I rx ry h
  obtain ⟨i, j, rfl, rfl, q⟩ := h
  obtain ⟨t, rfl⟩ := rx
  obtain ⟨t', rfl⟩ := ry
  exact rule i j t t' s _ _ ⟨.int (g i j), H, I.tok _, ⟨_, rfl⟩, q⟩
theorem opB0 {f : Value → Value → Sem Value} {g : Int → Int → Bool}
    (rule : ∀ (i j : Int) (t u : Tok) (s : Shared) (Q : Value → Shared → Prop) (E : Value → Shared → Prop), Q (.bool (g i j)) s → wpAny (model X.prog X.w) X.A (f (.int i t) (.int j u)) Q E s) :
    OpR X f (rI0 fun i j => .bl (g i j)) := by
  intro pins s σ H x y v u Q I rx ry h
  obtain ⟨i, j, rfl, rfl, q⟩ := h
  obtain ⟨t, rfl⟩ := rx
  obtain ⟨t', rfl⟩ := ry
  exact rule i j t t' s _ _ ⟨.bl (g i j), H, I, rfl, q⟩

noncomputable def CDiv (i j : Int) : Prop := 0 < j ∧ j < 1073741824
noncomputable def CDivN (i j : Int) : Prop := j ≠ 0 ∧ j.natAbs < 1073741824
noncomputable def CPow (i j : Int) : Prop := 0 ≤ j ∧ j ≤ 1000000 ∧ i.natAbs < 2 ^ 64
noncomputable def CMul (i j : Int) : Prop := (-(2 ^ 64) < i ∧ i < 2 ^ 64) ∨ (-(2 ^ 64) < j ∧ j < 2 ^ 64)
theorem CMul.ok {i j : Int} (h : CMul i j) : IntMulOk i j := by
  rcases h with ⟨h1, h2⟩ | ⟨h1, h2⟩
  · exact .of_left (intBits_le_64 h1 h2)
  · exact .of_right (intBits_le_64 h1 h2)

theorem op_add : OpR X (binaryOp .Add) (rI0 fun i j => .int (i + j)) := opI0 fun _ _ _ _ _ _ _ q => add_int q
theorem op_sub : OpR X (binaryOp .Sub) (rI0 fun i j => .int (i - j)) := opI0 fun _ _ _ _ _ _ _ q => sub_int q
theorem op_mul : OpR X (binaryOp .Mult) (rI CMul fun i j => .int (i * j)) := opI fun _ _ _ _ _ _ _ hc q => mul_int q hc.ok
/-- // by a positive divisor -/
theorem op_fdiv : OpR X (binaryOp .FloorDiv) (rI CDiv fun i j => .int (i / j)) := opI fun i j _ _ _ _ _ hc q => by
  have h1 : (0 : Int) < j := hc.1
  have h2 : j < 1073741824 := hc.2
  exact floordiv_int (by omega) (by rw [Int.fdiv_eq_ediv_of_nonneg i (by omega)]; exact q) (.inl (PyProof.noPylong_small (by omega)))
/-- % by a positive divisor of any size -/
theorem op_mod : OpR X (binaryOp .Mod) (rI (fun _ j => 0 < j) fun i j => .int (i % j)) := opI fun i j _ _ _ _ _ hc q => by
  have h1 : (0 : Int) < j := hc
  exact mod_int' (by omega) (by rw [Int.fmod_eq_emod_of_nonneg i (by omega)]; exact q)
theorem op_pow : OpR X (binaryOp .Pow) (rI CPow fun i j => .int (i ^ j.toNat)) := opI fun _ _ _ _ _ _ _ hc q => pow_int_small hc.1 hc.2.1 hc.2.2 q


theorem unI {f : Value → Sem Value} {g : Int → Int}
    (rule : ∀ (i : Int) (t : Tok) (s : Shared) (Q : Value → Shared → Prop) (E : Value → Shared → Prop), Q (.int (g i) s.toks) { s with toks := s.toks + 1 } → wpAny (model X.prog X.w) X.A (f (.int i t)) Q E s) :
    UnR X f (rU fun i => .int (g i)) := by
  intro pins s σ H x v Q I rx h
  obtain ⟨i, rfl, q⟩ := h
  obtain ⟨t, rfl⟩ := rx
  exact rule i t s _ _ ⟨.int (g i), H, I.tok _, ⟨_, rfl⟩, q⟩
theorem un_neg : UnR X (unaryOp .USub) (rU fun i => .int (-i)) := unI fun _ _ _ _ _ q => neg_int q

/-! ### bools among ints: n += (a < b) -/
end

/-! ### comparisons -/
/-- the scalars that == tells apart as data does -/
noncomputable def scal : V → V → Bool
  | .non, .non => true | .non, .int _ => true | .int _, .non => true | .non, .bl _ => true | .bl _, .non => true | .non, .str _ => true | .str _, .non => true
  | .int _, .int _ => true | .bl _, .bl _ => true | .str _, .str _ => true | .byt _, .byt _ => true
  | .int _, .str _ => true | .str _, .int _ => true | .bl _, .str _ => true | .str _, .bl _ => true
  | _, _ => false
noncomputable def rEq : R2 := fun x y H Q => scal x y = true ∧ Q (.bl (decide (x = y))) H
noncomputable def rNe : R2 := fun x y H Q => scal x y = true ∧ Q (.bl (!decide (x = y))) H

theorem dec_int {i j : Int} : decide (V.int i = V.int j) = (i == j) := by
  rw [Bool.eq_iff_iff]
  simp
theorem dec_bl {i j : Bool} : decide (V.bl i = V.bl j) = (i == j) := by
  rw [Bool.eq_iff_iff]
  simp
theorem dec_str {i j : Str} : decide (V.str i = V.str j) = (i == j) := by
  rw [Bool.eq_iff_iff]
  simp
theorem dec_byt {i j : Array UInt8} : decide (V.byt i = V.byt j) = (i.toList == j.toList) := by
  rw [Bool.eq_iff_iff]
  cases i
  cases j
  simp

section
variable {X : Cx} {a b c : Expr} {ta tb tc : TE} {pos : Pos}
theorem fin_bl {pins : List (Addr × Obj)} {σ : St} {H : Hp} {s : Shared} {Q : VK} {k k' : Bool} (I : Inv X pins σ H s) (q : Q (.bl k) H) (e : k = k') : EP X pins σ Q (.bool k') s := by
  subst e
  exact ⟨.bl k, H, I, rfl, q⟩
theorem op_eq : OpR X (compareOp .Eq) rEq := by
  intro pins s σ H x y v u Q I rx ry h
  obtain ⟨hs, q⟩ := h
  cases x with
  | non =>
    cases rx
    cases y with
    | non => cases ry; exact PySem.EqNone.eq_none_none (fin_bl I q (by simp))
    | bl j => cases ry; exact PySem.EqNone.eq_none_bool (fin_bl I q (by simp))
    | int j => obtain ⟨t', rfl⟩ := ry; exact PySem.EqNone.eq_none_int (fin_bl I q (by simp))
    | str j => obtain ⟨t', rfl⟩ := ry; exact PySem.EqNone.eq_none_str (fin_bl I q (by simp))
    | _ => exact absurd (show false = true from hs) Bool.false_ne_true
  | bl i =>
    cases rx
    cases y with
    | non => cases ry; exact PySem.EqNone.eq_bool_none (fin_bl I q (by simp))
    | bl j => cases ry; exact eq_bool (fin_bl I q dec_bl)
    | str j => obtain ⟨t', rfl⟩ := ry; exact PySem.EqMixed.eq_bool_str (fin_bl I q (by simp))
    | _ => exact absurd (show false = true from hs) Bool.false_ne_true
  | int i =>
    obtain ⟨t, rfl⟩ := rx
    cases y with
    | non => cases ry; exact PySem.EqNone.eq_int_none (fin_bl I q (by simp))
    | int j => obtain ⟨t', rfl⟩ := ry; exact eq_int (fin_bl I q dec_int)
    | str j => obtain ⟨t', rfl⟩ := ry; exact PySem.EqMixed.eq_int_str (fin_bl I q (by simp))
    | _ => exact absurd (show false = true from hs) Bool.false_ne_true
  | str i =>
    obtain ⟨t, rfl⟩ := rx
    cases y with
    | non => cases ry; exact PySem.EqNone.eq_str_none (fin_bl I q (by simp))
    | bl j => cases ry; exact PySem.EqMixed.eq_str_bool (fin_bl I q (by simp))
    | int j => obtain ⟨t', rfl⟩ := ry; exact PySem.EqMixed.eq_str_int (fin_bl I q (by simp))
    | str j => obtain ⟨t', rfl⟩ := ry; exact eq_str (fin_bl I q dec_str)
    | _ => exact absurd (show false = true from hs) Bool.false_ne_true
  | byt i =>
    obtain ⟨t, rfl⟩ := rx
    cases y with
    | byt j => obtain ⟨t', rfl⟩ := ry; exact PySem.W.eq_bytes (fin_bl I q dec_byt)
    | _ => exact absurd (show false = true from hs) Bool.false_ne_true
  | _ => cases y <;> exact absurd (show false = true from hs) Bool.false_ne_true
theorem op_ne : OpR X (compareOp .NotEq) rNe := by
  intro pins s σ H x y v u Q I rx ry h
  obtain ⟨hs, q⟩ := h
  cases x with
  | non =>
    cases rx
    cases y with
    | non => cases ry; exact PySem.EqNone.ne_none_none (fin_bl I q (by simp))
    | bl j => cases ry; exact PySem.EqNone.ne_none_bool (fin_bl I q (by simp))
    | int j => obtain ⟨t', rfl⟩ := ry; exact PySem.EqNone.ne_none_int (fin_bl I q (by simp))
    | str j => obtain ⟨t', rfl⟩ := ry; exact PySem.EqNone.ne_none_str (fin_bl I q (by simp))
    | _ => exact absurd (show false = true from hs) Bool.false_ne_true
  | bl i =>
    cases rx
    cases y with
    | non => cases ry; exact PySem.EqNone.ne_bool_none (fin_bl I q (by simp))
    | bl j => cases ry; exact ne_bool (fin_bl I q (congrArg not dec_bl))
    | str j => obtain ⟨t', rfl⟩ := ry; exact PySem.EqMixed.ne_bool_str (fin_bl I q (by simp))
    | _ => exact absurd (show false = true from hs) Bool.false_ne_true
  | int i =>
    obtain ⟨t, rfl⟩ := rx
    cases y with
    | non => cases ry; exact PySem.EqNone.ne_int_none (fin_bl I q (by simp))
    | int j => obtain ⟨t', rfl⟩ := ry; exact ne_int (fin_bl I q (congrArg not dec_int))
    | str j => obtain ⟨t', rfl⟩ := ry; exact PySem.EqMixed.ne_int_str (fin_bl I q (by simp))
    | _ => exact absurd (show false = true from hs) Bool.false_ne_true
  | str i =>
    obtain ⟨t, rfl⟩ := rx
    cases y with
    | non => cases ry; exact PySem.EqNone.ne_str_none (fin_bl I q (by simp))
    | bl j => cases ry; exact PySem.EqMixed.ne_str_bool (fin_bl I q (by simp))
    | int j => obtain ⟨t', rfl⟩ := ry; exact PySem.EqMixed.ne_str_int (fin_bl I q (by simp))
    | str j => obtain ⟨t', rfl⟩ := ry; exact ne_str (fin_bl I q (congrArg not dec_str))
    | _ => exact absurd (show false = true from hs) Bool.false_ne_true
  | byt i =>
    obtain ⟨t, rfl⟩ := rx
    cases y with
    | byt j => obtain ⟨t', rfl⟩ := ry; exact PySem.W.ne_bytes (fin_bl I q (congrArg not dec_byt))
    | _ => exact absurd (show false = true from hs) Bool.false_ne_true
  | _ => cases y <;> exact absurd (show false = true from hs) Bool.false_ne_true

theorem op_lt : OpR X (compareOp .Lt) (rI0 fun i j => .bl (decide (i < j))) := opB0 fun _ _ _ _ _ _ _ q => lt_int q
theorem op_le : OpR X (compareOp .LtE) (rI0 fun i j => .bl (decide (i ≤ j))) := opB0 fun _ _ _ _ _ _ _ q => le_int q
theorem op_gt : OpR X (compareOp .Gt) (rI0 fun i j => .bl (decide (j < i))) := opB0 fun _ _ _ _ _ _ _ q => gt_int q
theorem op_ge : OpR X (compareOp .GtE) (rI0 fun i j => .bl (decide (j ≤ i))) := opB0 fun _ _ _ _ _ _ _ q => ge_int q
/-- the one string within the other -/
theorem op_in_str : OpR X (compareOp .In) (fun x y H Q => ∃ i j, x = .str i ∧ y = .str j ∧ Q (.bl (!(Builtin.Str.occurrences j i 0 j.length 1).isEmpty)) H) := by
  intro pins s σ H x y v u Q I rx ry h
  obtain ⟨i, j, rfl, rfl, q⟩ := h
  obtain ⟨t, rfl⟩ := rx
  obtain ⟨t', rfl⟩ := ry
  exact in_str (fin_bl I q rfl)


/-- is, is not of two objects that are tracked lists or instances -/
noncomputable def isObj : HO → Bool
  | .lst _ => true
  | .ins _ _ _ => true
  | _ => false


theorem nomark (b : Expr) {op : CmpOp} (h : op ≠ .In := by decide) (h2 : op ≠ .NotIn := by decide) : behindInMarks op b = false := by
  have e1 : (op == CmpOp.In) = false := by cases op <;> first | rfl | exact absurd rfl h
  have e2 : (op == CmpOp.NotIn) = false := by cases op <;> first | rfl | exact absurd rfl h2
  cases b <;> simp [behindInMarks, e1, e2]
/-- a comparison as a value; hm: nomark b, or (for in, not in) by with_unfolding_all rfl -/
theorem pe_cmpR {op : CmpOp} {r : R2} (ho : OpR X (compareOp op) r) (ha : PE X a ta) (hb : PE X b tb) (hm : behindInMarks op b = false) : PE X (.Compare a [op] [b] pos) (tOp r ta tb) := by
  intro pins s σ H Q I h
  exact wpAny_Compare1 (binT ha hb I h fun v u s2 x y H2 I2 rx ry q => ho pins s2 σ H2 x y v u Q I2 rx ry q) hm
/-- a reading of a value as a test -/
noncomputable def tTest (t : TE) : TT := fun σ H Q => t σ H fun x H' => ∃ k, x = .bl k ∧ Q k H'
theorem pt_cmpR {op : CmpOp} {r : R2} (ho : OpR X (compareOp op) r) (ha : PE X a ta) (hb : PE X b tb) (hm : behindInMarks op b = false) : PT X (.Compare a [op] [b] pos) (tTest (tOp r ta tb)) := by
  intro pins s σ H Q I h
  refine wpAny_isTrue_Compare1 (thn (ha pins s σ H _ I h) fun v s1 ⟨x, H1, I1, r1, q1⟩ => thn (hb pins s1 σ H1 _ I1 q1) fun u s2 ⟨y, H2, I2, r2, q2⟩ =>
    thn (ho pins s2 σ H2 x y v u _ I2 r1 r2 q2) fun c s3 ⟨z, H3, I3, r3, k, e, q3⟩ => ?_) hm
  subst e
  cases r3
  exact wpAny_truthy_bool ⟨H3, I3, q3⟩
/-- a op1 b op2 c -/
noncomputable def tChain (r r' : R2) (ta tb tc : TE) : TE := fun σ H Q => ta σ H fun x H1 => tb σ H1 fun y H2 => r x y H2 fun z H3 => ∃ k, z = .bl k ∧
  (if k = true then tc σ H3 fun w' H4 => r' y w' H4 Q else Q (.bl false) H3)
theorem pt_chain {op op' : CmpOp} {r r' : R2} (ho : OpR X (compareOp op) r) (ho' : OpR X (compareOp op') r') (ha : PE X a ta) (hb : PE X b tb) (hc : PE X c tc)
    (hm : lastMarks [op, op'] [b, c] = false := by with_unfolding_all rfl) : PT X (.Compare a [op, op'] [b, c] pos) (tTest (tChain r r' ta tb tc)) := by
  intro pins s σ H Q I h
  refine isTrue_chain (thn (ha pins s σ H _ I h) fun v s1 ⟨x, H1, I1, r1, q1⟩ => test_link (thn (hb pins s1 σ H1 _ I1 q1) fun u s2 ⟨y, H2, I2, r2, q2⟩ =>
    thn (ho pins s2 σ H2 x y v u _ I2 r1 r2 q2) fun d s3 ⟨z, H3, I3, r3, k, e, q3⟩ => ?_)) hm
  subst e
  cases r3
  refine wpAny_truthy_bool ?_
  cases k with
  | false =>
    obtain ⟨k', e', q'⟩ := q3
    cases e'
    exact ite_ff ⟨H3, I3, q'⟩
  | true =>
    refine ite_tt (test_last (thn (hc pins s3 σ H3 _ I3 q3) fun w' s4 ⟨z', H4, I4, r4, q4⟩ => thn (ho' pins s4 σ H4 y z' u w' _ I4 r2 r4 q4) fun d' s5 ⟨z2, H5, I5, r5, k2, e2, q5⟩ => ?_))
    subst e2
    cases r5
    exact wpAny_truthy_bool ⟨H5, I5, q5⟩

/-! ### truth -/
/-- a value's truth by the abstract heap -/
noncomputable def TruV (K : PySem.W.Frag) (x : V) (H : Hp) (k : Bool) : Prop :=
  match x with
  | .non => k = false
  | .bl b => k = b
  | .int i => k = (i != 0)
  | .str y => y.length ≤ sizeLine ∧ k = ((y.length : Int) != 0)
  | .byt y => y.size ≤ sizeLine ∧ k = ((y.size : Int) != 0)
  | .ref p => (∃ xs, SqL K H p xs ∧ k = !xs.isEmpty) ∨ (∃ xs, SqT K H p xs ∧ k = !xs.isEmpty) ∨ ∃ kvs, H p = some (.dK kvs) ∧ k = !kvs.isEmpty
  | _ => False
theorem isEmpty_kv {κ : Type} {kvs : List (κ × V)} {vs : List (κ × Value)} (r : KV kvs vs) : (!vs.isEmpty) = !kvs.isEmpty := by
  cases r <;> rfl
theorem isEmpty_of {xs : List V} {its : List Value} (r : Vals xs its) : (!its.toArray.isEmpty) = !xs.isEmpty := by
  cases r <;> simp
theorem line63 : (sizeLine : Nat) < 2 ^ 63 := by rw [sizeLine_eq]; decide
theorem tru_ok : TruR X (fun x H Q => ∃ k, TruV X.K x H k ∧ Q k H) := by
  intro pins s σ H x v Q I rx h
  obtain ⟨k, e, q⟩ := h
  have hl := line63
  have hs : sizeLine = 16777216 := sizeLine_eq
  cases x with
  | non =>
    cases rx
    have e' : k = false := e
    subst e'
    exact truthy_none ⟨H, I, q⟩
  | bl b =>
    cases rx
    have e' : k = b := e
    subst e'
    exact wpAny_truthy_bool ⟨H, I, q⟩
  | int i =>
    obtain ⟨t, rfl⟩ := rx
    have e' : k = (i != 0) := e
    subst e'
    exact PySem.P.truthy_int ⟨H, I, q⟩
  | str y =>
    obtain ⟨t, rfl⟩ := rx
    obtain ⟨hy, e'⟩ : y.length ≤ sizeLine ∧ k = ((y.length : Int) != 0) := e
    subst e'
    exact PySem.P.truthy_str (by omega) ⟨H, I.tok _, q⟩
  | byt y =>
    obtain ⟨t, rfl⟩ := rx
    obtain ⟨hy, e'⟩ : y.size ≤ sizeLine ∧ k = ((y.size : Int) != 0) := e
    subst e'
    exact PySem.W.truthy_bytes (by omega) ⟨H, I.tok _, q⟩
  | ref p =>
    cases rx
    have e' : (∃ xs, SqL X.K H p xs ∧ k = !xs.isEmpty) ∨ (∃ xs, SqT X.K H p xs ∧ k = !xs.isEmpty) ∨ ∃ kvs, H p = some (.dK kvs) ∧ k = !kvs.isEmpty := e
    rcases e' with ⟨xs, hx, e'⟩ | ⟨xs, hx, e'⟩ | ⟨kvs, hx, e'⟩
    · subst e'
      obtain ⟨its, r, pl, hz⟩ := I.list hx
      have hlen := r.length
      exact wpAny_truthy_list pl.isList (by simp only [List.size_toArray]; omega) ⟨H, I.tok _, by rw [isEmpty_of r]; exact q⟩
    · subst e'
      obtain ⟨its, r, pl, hz⟩ := I.tuple hx
      have hlen := r.length
      exact truthy_tuple pl (by simp only [List.size_toArray]; omega) ⟨H, I.tok _, by rw [isEmpty_of r]; exact q⟩
    · subst e'
      obtain ⟨hz, hS, vs, r, m⟩ : kvs.length ≤ sizeLine ∧ (p == sysModules) = false ∧ ∃ vs, KV kvs vs ∧ s.heap.DictOf (mixKind X.prog X.w) p vs := I.hok p _ hx
      have hlen : kvs.length = vs.length := Paired.length r
      exact wpAny_truthy_dict hS m (by omega) ⟨H, I.tok _, by rw [isEmpty_kv r]; exact q⟩
  | _ => exact (show False from e).elim
/-- any expression whose test is its value's truth (a name, a call, a subscript, a field ..: he by fun _ => rfl) -/
theorem pt_truth (ha : PE X a ta) (he : ∀ whole, isTrue a X.env whole = (do let v ← whole; standAt a.pos; holding [v] (truthy v))) :
    PT X a (fun σ H Q => ta σ H fun x H' => ∃ k, TruV X.K x H' k ∧ Q k H') := by
  intro pins s σ H Q I h
  exact isTrue_plain (thn (ha pins s σ H _ I h) fun v s1 ⟨x, H1, I1, r1, q1⟩ => tru_ok pins s1 σ H1 x v Q I1 r1 q1) (he _)

/-! ### strs and bytes -/
theorem op_add_str : OpR X (binaryOp .Add) (fun x y H Q => ∃ i j, x = .str i ∧ y = .str j ∧ i.length + j.length ≤ sizeLine ∧ Q (.str (i ++ j)) H) := by
  intro pins s σ H x y v u Q I rx ry h
  obtain ⟨i, j, rfl, rfl, hz, q⟩ := h
  obtain ⟨t, rfl⟩ := rx
  obtain ⟨t', rfl⟩ := ry
  exact add_str (fun t' tk => ⟨.str (i ++ j), H, I.tok _, ⟨_, rfl⟩, q⟩) hz

noncomputable def PlainIxT (b : Expr) : Prop := ∀ o i, subscripted b false o i = operate [o, i] (getItem o i)

/-! ### scalar builtins, by CallR -/
theorem vals1 {x : V} {us : List Value} (r : Vals [x] us) : ∃ u, us = [u] ∧ RelV x u := by
  cases r with
  | cons r1 r2 => cases r2; exact ⟨_, rfl, r1⟩
theorem vals2 {x y : V} {us : List Value} (r : Vals [x, y] us) : ∃ u w', us = [u, w'] ∧ RelV x u ∧ RelV y w' := by
  cases r with
  | cons r1 r2 =>
    cases r2 with
    | cons r3 r4 => cases r4; exact ⟨_, _, rfl, r1, r3⟩
theorem call_max2 (hc : X.calm = true) : CallR X (.builtin "max") (fun xs H Q => ∃ i j, xs = [.int i, .int j] ∧ Q (.int (if j > i then j else i)) H) := by
  intro pins s σ H xs us Q I r h
  obtain ⟨i, j, rfl, q⟩ := h
  obtain ⟨u, w', rfl, ⟨t, rfl⟩, ⟨t', rfl⟩⟩ := vals2 r
  refine max_two_ints (I.ok.hd hc) fun h' tk k => ⟨_, H, I.kept k, ?_, q⟩
  by_cases hj : j > i
  · rw [if_pos hj, if_pos hj]; exact ⟨_, rfl⟩
  · rw [if_neg hj, if_neg hj]; exact ⟨_, rfl⟩
theorem call_min2 (hc : X.calm = true) : CallR X (.builtin "min") (fun xs H Q => ∃ i j, xs = [.int i, .int j] ∧ Q (.int (if j < i then j else i)) H) := by
  intro pins s σ H xs us Q I r h
  obtain ⟨i, j, rfl, q⟩ := h
  obtain ⟨u, w', rfl, ⟨t, rfl⟩, ⟨t', rfl⟩⟩ := vals2 r
  refine min_two_ints (I.ok.hd hc) fun h' tk k => ⟨_, H, I.kept k, ?_, q⟩
  by_cases hj : j < i
  · rw [if_pos hj, if_pos hj]; exact ⟨_, rfl⟩
  · rw [if_neg hj, if_neg hj]; exact ⟨_, rfl⟩
theorem call_int1 : CallR X (.type "int") (fun xs H Q => (∃ i, xs = [.int i] ∧ Q (.int i) H) ∨ ∃ k, xs = [.bl k] ∧ Q (.int (if k then 1 else 0)) H) := by
  intro pins s σ H xs us Q I r h
  rcases h with ⟨i, rfl, q⟩ | ⟨k, rfl, q⟩
  · obtain ⟨u, rfl, t, rfl⟩ := vals1 r
    exact call_int_int ⟨.int i, H, I, ⟨_, rfl⟩, q⟩
  · obtain ⟨u, rfl, r1⟩ := vals1 r
    cases r1
    exact call_int_bool ⟨.int (if k then 1 else 0), H, I.tok _, ⟨_, rfl⟩, q⟩
theorem call_str_int : CallR X (.type "str") (fun xs H Q => ∃ i, xs = [.int i] ∧ i.natAbs.log2 < 1920 ∧ Q (.str (toString i)) H) := by
  intro pins s σ H xs us Q I r h
  obtain ⟨i, rfl, hz, q⟩ := h
  obtain ⟨u, rfl, t, rfl⟩ := vals1 r
  exact PySem.P.str_of_int hz ⟨.str _, H, I.tok _, ⟨_, rfl⟩, q⟩
/-- len of a str, a bytes, a list, a tuple -/
noncomputable def LenV (K : PySem.W.Frag) (x : V) (H : Hp) (n : Nat) : Prop :=
  match x with
  | .str y => y.length ≤ sizeLine ∧ n = y.length
  | .byt y => y.size ≤ sizeLine ∧ n = y.size
  | .ref p => (∃ xs, SqL K H p xs ∧ n = xs.length) ∨ ∃ xs, SqT K H p xs ∧ n = xs.length
  | _ => False
end
end L2

namespace L2
open PySem PySem.Spec PyProof.Rows

/-! ### an instance, its attributes a map -/
structure ObjM (h : Heap) (x dx C : Addr) (mA : Str → Option Value) : Prop where
  obj : h.get? x = some (PySem.W.instObj C dx)
  ns : h.Ns1 dx mA
  ne : dx ≠ x



section
variable {prog : Program} {w : World} {A : Around} {E : Value → Shared → Prop} {s : Shared} {K : PySem.W.Frag} {x dx C f : Addr} {mA : Str → Option Value} {name : Str} {v : Value}





end

/-! ### the attributes as a list of pairs -/
noncomputable def putF (f : Str) (v : V) : List (Str × V) → List (Str × V)
  | [] => [(f, v)]
  | (g, x) :: r => if g = f then (g, v) :: r else (g, x) :: putF f v r

theorem RelO.some_of {v : V} {o : Option Value} (r : RelO (some v) o) : ∃ u, o = some u ∧ RelV v u := by
  cases o with
  | none => exact (show False from r).elim
  | some u => exact ⟨u, rfl, r⟩

section
variable {P : Program} {w : World} {H H' : Hp} {h h' : Heap} {a C dx : Addr} {fs fs' : List (Str × V)}
end

/-! ### what of the text a class must have -/
structure Cls (K : PySem.W.Frag) (C : Addr) : Prop where
  pg : PySem.W.plainGet K C Str.empty = true
  hd : PySem.W.hasDictIn K C = true
  po : PySem.W.plainOver K C = true
  sa : PySem.W.findIn K (.ref C) "__setattr__" = some (some (.builtin "object.__setattr__"))
/-- no class of it has the name -/
noncomputable def NoAttr (K : PySem.W.Frag) (C : Addr) (f : Str) : Prop := PySem.W.findIn K (.ref C) f = some none
/-- a constant of the class -/
structure Con (K : PySem.W.Frag) (C : Addr) (f : Str) (v : V) (u : Value) : Prop where
  at_ : PySem.W.findIn K (.ref C) f = some (some u)
  rel : RelV v u
  get : PySem.W.specialIn K u "__get__" = some none
  cp : PySem.W.copiedNames.contains f = false
/-- a method: a plain def of the class or of one above it -/
structure Meth (K : PySem.W.Frag) (C : Addr) (m : Str) (f : Addr) : Prop where
  at_ : PySem.W.findIn K (.ref C) m = some (some (.ref f))
  fn : PySem.W.isFn K (.ref f) = true
  kp : PySem.W.keepIn K (.ref f) = true

section
variable {X : Cx} {pins : List (Addr × Obj)} {σ : St} {H : Hp} {s : Shared} {a C dx : Addr} {fs : List (Str × V)} {f : Str} {v : V} {A : Around} {E : Value → Shared → Prop}






end

/-! ### readings and rules -/
/-- e.f, an attribute of the instance -/
noncomputable def tFld (K : PySem.W.Frag) (ta : TE) (f : Str) : TE := fun σ H Q => ta σ H fun x H1 => ∃ a C dx fs v, x = .ref a ∧ H1 a = some (.ins C dx fs) ∧ Cls K C ∧ NoAttr K C f ∧ fs.lookup f = some v ∧ Q v H1
/-- e.f, a constant of the class -/
noncomputable def tCon (K : PySem.W.Frag) (ta : TE) (f : Str) : TE := fun σ H Q => ta σ H fun x H1 => ∃ a C dx fs v u, x = .ref a ∧ H1 a = some (.ins C dx fs) ∧ Cls K C ∧ Con K C f v u ∧ fs.lookup f = none ∧ Q v H1
/-- e.f = value -/
noncomputable def sFld (K : PySem.W.Frag) (ta tv : TE) (f : Str) : TS := fun D σ H => tv σ H fun y H1 => ta σ H1 fun x H2 => ∃ a C dx fs, x = .ref a ∧ H2 a = some (.ins C dx fs) ∧ Cls K C ∧ NoAttr K C f ∧ fs.length < 1000 ∧
  D.nx σ (upd H2 a (.ins C dx (putF f y fs)))
/-- an augmented operator on two values -/
noncomputable def InOp (X : Cx) (op : Operator) (rd : V → V → Hp → VK → Prop) : Prop :=
  ∀ (pins : List (Addr × Obj)) (s : Shared) (σ : St) (H : Hp) (x y : V) (u v : Value) (Q : VK), Inv X pins σ H s → RelV x u → RelV y v → rd x y H Q → wpAny (model X.prog X.w) X.A (inplaceOp op u v) (EP X pins σ Q) X.xe s
/-- e.f op= value -/
noncomputable def sFldAug (K : PySem.W.Frag) (ta tv : TE) (rd : V → V → Hp → VK → Prop) (f : Str) : TS := fun D σ H => ta σ H fun x H1 => ∃ a C dx fs v, x = .ref a ∧ H1 a = some (.ins C dx fs) ∧ Cls K C ∧ NoAttr K C f ∧ fs.lookup f = some v ∧
  tv σ H1 fun y H2 => rd v y H2 fun z H3 => ∃ dx' fs', H3 a = some (.ins C dx' fs') ∧ fs'.length < 1000 ∧ D.nx σ (upd H3 a (.ins C dx' (putF f z fs')))

section
variable {X : Cx} {o e value : Expr} {f : Str} {pos pos' tpos : Pos} {ta tv : TE}
noncomputable def rAdd : V → V → Hp → VK → Prop := fun x y H Q => ∃ i j, x = .int i ∧ y = .int j ∧ Q (.int (i + j)) H
noncomputable def rSub : V → V → Hp → VK → Prop := fun x y H Q => ∃ i j, x = .int i ∧ y = .int j ∧ Q (.int (i - j)) H

end

/-! ### isinstance -/
section
variable {X : Cx} {pins : List (Addr × Obj)} {σ : St} {H : Hp} {s : Shared} {A : Around} {E : Value → Shared → Prop} {Q : Value → Shared → Prop} {c : Value} {b : Bool}
/-- the type of a value, as the fragment's deciders take it; for an instance its class -/
inductive TyOf (K : PySem.W.Frag) (H : Hp) : V → Value → Prop where
  | non : TyOf K H .non (.type "NoneType")
  | bl (x : Bool) : TyOf K H (.bl x) (.type "bool")
  | int (i : Int) : TyOf K H (.int i) (.type "int")
  | str (x : Str) : TyOf K H (.str x) (.type "str")
  | flt (x : UInt64) : TyOf K H (.flt x) (.type "float")
  | lst {a : Addr} {xs : List V} (e : H a = some (.lst xs)) : TyOf K H (.ref a) (.type "list")
  | frz {a : Addr} {o : Obj} {xs : List V} (e : H a = some (.frz o (.lst xs))) : TyOf K H (.ref a) (.type "list")
  | tup {a : Addr} {xs : List V} (e : H a = some (.tup xs)) : TyOf K H (.ref a) (.type "tuple")
  | dK {a : Addr} {kvs : List (Key × V)} (e : H a = some (.dK kvs)) : TyOf K H (.ref a) (.type "dict")
  | dT {a : Addr} {kvs : List (List Key × V)} (e : H a = some (.dT kvs)) : TyOf K H (.ref a) (.type "dict")
  | ins {a C dx : Addr} {fs : List (Str × V)} (e : H a = some (.ins C dx fs)) (cl : Cls K C) (ha : PySem.W.findIn K (.ref C) "__class__" = some (some (.builtin "object.__class__")))
      (hn : PySem.W.specialIn K (.builtin "object.__class__") "__get__" = some (some (.builtin "getset_descriptor.__get__"))) (htk : PySem.W.takesIn K (.builtin "object.__class__") = some true)
      (hm : PySem.W.mroIn K C (.type "object") = some true) : TyOf K H (.ref a) (.ref C)
end
end L2

namespace L2
open PySem PySem.Spec PyProof.Rows

/-! ### room -/
structure Room (k : Nat) (A : Around) : Prop where
  hd : A.handled = none
  dp : A.depth + 3 * k + 5 < recursionLimit
  un : A.units + 16 * k + 200 < cLine
theorem Room.mono {j k : Nat} {A : Around} (r : Room k A) (h : j ≤ k) : Room j A := ⟨r.hd, by have := r.dp; omega, by have := r.un; omega⟩
theorem Room.deeper {k : Nat} {A : Around} (r : Room (k + 1) A) (env : Env) : Room k (A.deeper env) :=
  ⟨r.hd, by have := r.dp; show A.depth + 1 + 3 * k + 5 < _; omega, by have := r.un; show A.units + 3 + 16 * k + 200 < _; omega⟩
theorem Room.depth {k : Nat} {A : Around} (r : Room k A) : A.depth < recursionLimit := by have := r.dp; omega
theorem Room.units {k : Nat} {A : Around} (r : Room k A) : A.units + 64 < cLine := by have := r.un; omega

/-! ### argument lists and displays -/
noncomputable def tNil : TA := fun _ H Q => Q [] H
noncomputable def tCons (ta : TE) (tr : TA) : TA := fun σ H Q => ta σ H fun x H1 => tr σ H1 fun xs H2 => Q (x :: xs) H2
section
variable {X : Cx} {e : Expr} {es : List Expr} {te : TE} {t : TA} {pos : Pos}
theorem pa_nil : PA X [] tNil := fun _ _ _ _ H Q I h => Calls.spliced_nil ⟨[], H, I, .nil, h⟩
theorem pa_cons (ha : PE X e te) (hr : PA X es t) (hs : starEach (e :: es) X.env = (false, eval e X.env) :: starEach es X.env := by rfl) : PA X (e :: es) (tCons te t) := by
  intro pos pins s σ H Q I h
  rw [hs]
  show wpAny _ _ (spliced ((false, eval e X.env) :: backTo pos (starEach es X.env))) _ _ s
  refine Calls.spliced_cons (thn (ha pins s σ H _ I h) fun u s1 ⟨x, H1, I1, r1, q1⟩ => ?_)
  exact thn (hr pos pins s1 σ H1 _ I1 q1) fun us s2 ⟨xs, H2, I2, r2, q2⟩ => ⟨x :: xs, H2, I2, .cons r1 r2, q2⟩

/-- a tuple, a list of written items -/
noncomputable def tTup (t : TA) : TE := fun σ H Q => t σ H fun xs H1 => xs.length ≤ sizeLine ∧ ∀ p, H1 p = none → Q (.ref p) (upd H1 p (.tup xs))
noncomputable def tLst (t : TA) : TE := fun σ H Q => t σ H fun xs H1 => xs.length ≤ sizeLine ∧ ∀ p, H1 p = none → Q (.ref p) (upd H1 p (.lst xs))
theorem pe_tup {x1} (h : PA X es t) : PE X (.Tuple es x1 pos) (tTup t) := by
  intro pins s σ H Q I hq
  refine wpAny_Tuple_spliced (thn (h pos pins s σ H _ I hq) fun us s1 ⟨xs, H1, I1, r, z, q⟩ => ⟨by rw [← r.length]; exact z, ?_⟩)
  have hf : H1 s1.heap.objs.size = none := I1.hok.fresh (Nat.le_refl _)
  refine ⟨.ref s1.heap.objs.size, upd H1 s1.heap.objs.size (.tup xs), I1.laid (t' := s1.toks) (fun b u e => Heap.get?_push_of_some _ e) (Nat.le_refl _) ?_, rfl, q _ hf⟩
  exact ⟨z, us, r, ⟨_, Heap.get?_push_size _ rfl, rfl, _, rfl⟩⟩
theorem pe_lst (h : PA X es t) : PE X (.List es pos) (tLst t) := by
  intro pins s σ H Q I hq
  refine wpAny_List_spliced (thn (h pos pins s σ H _ I hq) fun us s1 ⟨xs, H1, I1, r, z, q⟩ => ⟨by rw [← r.length]; exact z, ?_⟩)
  have hf : H1 s1.heap.objs.size = none := I1.hok.fresh (Nat.le_refl _)
  refine ⟨.ref s1.heap.objs.size, upd H1 s1.heap.objs.size (.lst xs), I1.laid (t' := s1.toks) (fun b u e => Heap.get?_push_of_some _ e) (Nat.le_refl _) ?_, rfl, q _ hf⟩
  exact ⟨z, us, 0, r, Heap.get?_push_size _ rfl⟩
end

/-! ### what a def promises -/
/-- a def's promise: the bound arguments in the parameters' order, the heap, the wanted end, the wanted exception -/
noncomputable abbrev Sp := List V → Hp → VK → XK → Prop
/-- how an exception lies behind a call (file 08 gives it): the callers' frames, abstract heap and state ahead of the call, the wish, the exception, the state -/
noncomputable abbrev CXT := List Env → Hp → Shared → XK → Value → Shared → Prop

/-- the state at a call -/
structure Env0 (P : Program) (w : World) (K : PySem.W.Frag) (mg : Str → Option Value) (base : Heap) (A : Around) (outer : List Env) (s : Shared) (H : Hp) : Prop where
  frames : A.frames = some outer
  mod : Mod K mg base
  bs : ∀ b o, base.get? b = some o → s.heap.get? b = some o ∧ H b = none
  bsz : base.objs.size ≤ s.heap.objs.size
  funs : s.heap.FunFrames base outer
  frf : ∀ b ∈ frs outer, H b = none
  hok : HOk P w H s.heap
  bare : AllBare s.gens
/-- a call's end -/
noncomputable def CE (outer : List Env) (P : Program) (w : World) (H : Hp) (s : Shared) (Q : VK) (u : Value) (s' : Shared) : Prop :=
  ∃ v H', s'.os = s.os ∧ AllBare s'.gens ∧ Un (frs outer) [] H H' s.heap s'.heap ∧ HOk P w H' s'.heap ∧ RelV v u ∧ Q v H'
noncomputable def CR (CX : CXT) (outer : List Env) (P : Program) (w : World) (H : Hp) (s : Shared) (Q : VK) (E : XK) (r : Result) (s' : Shared) : Prop :=
  match r with
  | .ok (.ret u) => CE outer P w H s Q u s'
  | .ok _ => False
  | .error e => CX outer H s E e s'
structure FnOk (P : Program) (w : World) (K : PySem.W.Frag) (mg : Str → Option Value) (base : Heap) (CX : CXT) (k : Nat) (f : Addr) (fd : FuncData) (ps : List Str) (sp : Sp) : Prop where
  len : ∀ vs H Q E, sp vs H Q E → vs.length = ps.length
  run : ∀ (A : Around) (outer : List Env) (s : Shared) (H : Hp) (args : Args) (us : List Value) (vs : List V) (Q : VK) (E : XK), Room k A → Env0 P w K mg base A outer s H → BindsTo s fd args (ps.zip us) → Vals vs us → sp vs H Q E →
    codeAny (model P w) A (.call (.ref f) args) (CR CX outer P w H s Q E) s
/-- a weaker promise -/
theorem FnOk.imp {P : Program} {w : World} {K : PySem.W.Frag} {mg : Str → Option Value} {base : Heap} {CX : CXT} {k : Nat} {f : Addr} {fd : FuncData} {ps : List Str} {sp sp' : Sp} (F : FnOk P w K mg base CX k f fd ps sp)
    (h : ∀ vs H Q E, sp' vs H Q E → sp vs H Q E) : FnOk P w K mg base CX k f fd ps sp' :=
  ⟨fun vs H Q E q => F.len vs H Q E (h _ _ _ _ q), fun A outer s H args us vs Q E hr he hb hv hs => F.run A outer s H args us vs Q E hr he hb hv (h _ _ _ _ hs)⟩


section
variable {X : Cx} {pins : List (Addr × Obj)} {σ : St} {H : Hp} {s s' : Shared}
/-- from a body: what a callee wants -/
theorem Inv.env0 (I : Inv X pins σ H s) : Env0 X.prog X.w X.K X.mg X.base X.A X.stack s H :=
  ⟨I.ok.frames, I.ok.mod, I.bs, Nat.le_trans I.ok.bsz I.sz, I.stack, I.stkFree, I.hok, I.bare⟩
/-- behind a call -/
theorem Inv.after {Q : VK} {u : Value} (I : Inv X pins σ H s) (h : CE X.stack X.prog X.w H s Q u s') : EP X pins σ Q u s' := by
  obtain ⟨v, H', os, bare, un, hok, r, q⟩ := h
  obtain ⟨hh, g, d, t, os'⟩ := s'
  obtain rfl : os' = s.os := os
  exact ⟨v, H', I.call (h' := hh) (g' := g) (d' := d) (t' := t) (ch := []) un hok bare (fun b z => absurd z (by simp)), r, q⟩
end

/-! ### calls -/
/-- f(..): the written arguments, then the defaults dvs; E: what is wanted of an exception -/
noncomputable def tCall (sp : Sp) (dvs : List V) (E : XK) (t : TA) : TE := fun σ H Q => t σ H fun vs H1 => sp (vs ++ dvs) H1 Q E
/-- o.m(..) of an instance of the class at C -/
noncomputable def tMeth (C : Addr) (m : Str) (sp : Sp) (dvs : List V) (E : XK) (ta : TE) (t : TA) : TE := fun σ H Q => ta σ H fun x H1 => ∃ a dx fs, x = .ref a ∧ H1 a = some (.ins C dx fs) ∧ fs.lookup m = none ∧
  t σ H1 fun vs H2 => sp (x :: (vs ++ dvs)) H2 Q E
/-- C(..): a new instance and its dict, then __init__ -/
noncomputable def tMake (C : Addr) (sp : Sp) (dvs : List V) (E : XK) (t : TA) : TE := fun σ H Q => t σ H fun vs H1 => ∀ x dx, H1 x = none → H1 dx = none → dx ≠ x →
  sp (.ref x :: (vs ++ dvs)) (upd (upd H1 dx (.own x)) x (.ins C dx [])) (fun v H2 => v = .non ∧ Q (.ref x) H2) E

/-- how the parameters are bound: us the positional arguments, kw the keywords' values by name, ds the defaults that fill up -/
noncomputable def Binds (K : PySem.W.Frag) (fd : FuncData) (ps : List Str) (ds : List Value) : Prop :=
  ∀ (s : Shared) (us : List Value), K.In s.heap → (us ++ ds).length = ps.length → BindsTo s fd ⟨us, []⟩ (ps.zip (us ++ ds))
/-- every parameter is given -/
theorem Binds.all {K : PySem.W.Frag} {fd : FuncData} {ps : List Str} (h : ∀ us : List Value, us.length = ps.length → bindArgs fd ⟨us, []⟩ = pure (ps.zip us)) : Binds K fd ps [] := fun s us _ hl => by
  rw [List.append_nil] at hl ⊢
  exact .of_eq (h us hl)

/-- an exception of a callee reaches what this body wants of exceptions -/
noncomputable def Passes (CX : CXT) (X : Cx) (E : XK) : Prop := ∀ (pins : List (Addr × Obj)) (σ : St) (H : Hp) (s : Shared) (e : Value) (s' : Shared), Inv X pins σ H s → CX X.stack H s E e s' → X.xe e s'

section
variable {X : Cx} {CX : CXT} {k : Nat} {f C : Addr} {fd : FuncData} {ps : List Str} {sp : Sp} {dvs : List V} {ds : List Value} {E : XK} {x m : Str} {p pos apos : Pos} {e o : Expr} {es : List Expr} {ta : TE} {t : TA}

/-- the callee runs -/
theorem run_fn {pins : List (Addr × Obj)} {σ : St} {H : Hp} {s : Shared} {Q : VK} {us : List Value} {vs : List V} (F : FnOk X.prog X.w X.K X.mg X.base CX k f fd ps sp) (hr : Room k X.A) (hb : Binds X.K fd ps ds) (hd : Vals dvs ds) (hx : Passes CX X E)
    (I : Inv X pins σ H s) (r : Vals vs us) (h : sp (vs ++ dvs) H Q E) : wpAny (model X.prog X.w) X.A (call (.ref f) us) (EP X pins σ Q) X.xe s := by
  have r2 : Vals (vs ++ dvs) (us ++ ds) := r.append hd
  have hl : (us ++ ds).length = ps.length := by rw [← r2.length]; exact F.len _ _ _ _ h
  refine wpAny_call (codeAny_mono (F.run X.A X.stack s H ⟨us, []⟩ (us ++ ds) (vs ++ dvs) Q E hr I.env0 (hb s us I.kIn hl) r2 h) fun r s' hq => ?_)
  cases r with
  | error e => exact hx pins σ H s e s' I hq
  | ok fl =>
    cases fl with
    | ret u => exact I.after hq
    | next => exact False.elim hq
    | brk => exact False.elim hq
    | cont => exact False.elim hq

theorem pe_call (F : FnOk X.prog X.w X.K X.mg X.base CX k f fd ps sp) (hr : Room k X.A) (hg : Gl X x) (hm : X.mg x = some (.ref f)) (hk : PySem.W.keepIn X.K (.ref f) = true) (hb : Binds X.K fd ps ds) (hd : Vals dvs ds) (hx : Passes CX X E)
    (ha : PA X (e :: es) t) (hdb : (x == ("__debug__" : Str)) = false := by decide) (he : starEach (e :: es) X.env = (false, eval e X.env) :: starEach es X.env := by rfl) (hpl : (backTo pos (starEach es X.env)).any (·.1) = false := by rfl) :
    PE X (.Call (.Name x p) (e :: es) [] pos) (tCall sp dvs E t) := by
  intro pins s σ H Q I h
  refine wpAny_Call_Name_kw (ld_glob I hg hm ?_ hdb)
  refine PySem.W.callWith_K (h₀ := X.base) I.ok.mod.kin hk (thn (ha pos pins s σ H _ I h) fun us s1 ⟨vs, H1, I1, r, q⟩ => ⟨I1.kIn, ?_⟩) he hpl
  exact run_fn F hr hb hd hx I1 r q


/-- what a class must have to be made -/
structure Mk (K : PySem.W.Frag) (C f : Addr) : Prop where
  makes : PySem.W.makesIn K C = true
  init : PySem.W.findIn K (.ref C) "__init__" = some (some (.ref f))
  fn : PySem.W.isFn K (.ref f) = true
  kp : PySem.W.keepIn K (.ref C) = true

end

/-! ### keywords -/
/-- the values of the keywords, from the left -/
noncomputable def PK (X : Cx) (kws : List Keyword) (t : TA) : Prop :=
  ∀ (pos : Pos) (pins : List (Addr × Obj)) (s : Shared) (σ : St) (H : Hp) (Q : List V → Hp → Prop), Inv X pins σ H s → t σ H Q → wpAny (model X.prog X.w) X.A (evalAll ((backToKw pos (keywordEach kws X.env)).map (·.2))) (AP X pins σ Q) X.xe s
section
variable {X : Cx} {CX : CXT} {k : Nat} {f C : Addr} {fd : FuncData} {ps ks : List Str} {sp : Sp} {E : XK} {x m : Str} {p pos apos kpos : Pos} {e o : Expr} {es : List Expr} {kws : List Keyword} {te ta : TE} {t tk : TA} {nm : Option Str}

/-- how a call with keywords binds: g puts the positional values us and the keywords' values ws (names ks) in the parameters' order, defaults among them -/
structure KBinds (K : PySem.W.Frag) (fd : FuncData) (ps ks : List Str) (g : List Value → List Value → List Value) (gV : List V → List V → List V) : Prop where
  to : ∀ (s : Shared) (us ws : List Value), K.In s.heap → (g us ws).length = ps.length → BindsTo s fd ⟨us, ks.zip ws⟩ (ps.zip (g us ws))
  rel : ∀ {vs : List V} {us : List Value} {zs : List V} {ws : List Value}, Vals vs us → Vals zs ws → Vals (gV vs zs) (g us ws)
noncomputable def tCallK (sp : Sp) (gV : List V → List V → List V) (E : XK) (t tk : TA) : TE := fun σ H Q => t σ H fun vs H1 => tk σ H1 fun zs H2 => sp (gV vs zs) H2 Q E
variable {g : List Value → List Value → List Value} {gV : List V → List V → List V}
end

/-! ### a def's body keeps its promise -/
/-- names: the parameters first -/
structure FnScope (N P : List Str) (sc : Scope) : Prop where
  kind : sc.kind = .function
  co : sc.isCoroutine = false
  gen : sc.isGenerator = false
  nd : N.Nodup
  pre : N.take P.length = P
  par : ∀ x ∈ P, sc.names.lookup x = some .local ∨ sc.names.lookup x = some .cell
  nofree : ∀ y ∈ sc.names, y.2 ≠ .free

theorem bindL_out {kindOf : Str → Option NameKind} {x : Str} : ∀ {binds : List (Str × Value)} {m : Str → Option Value}, (∀ v, (x, v) ∉ binds) → bindL kindOf binds m x = m x
  | [], _, _ => rfl
  | (n, v) :: r, m, h => by
    unfold bindL
    rw [bindL_out fun w hw => h w (List.mem_cons_of_mem _ hw)]
    split
    · have : x ≠ n := by rintro rfl; exact h v List.mem_cons_self
      simp [this]
    · rfl
theorem bindC_out {kindOf : Str → Option NameKind} {x : Str} : ∀ {binds : List (Str × Value)} {m : Str → Option Value}, (∀ v, (x, v) ∉ binds) → bindC kindOf binds m x = m x
  | [], _, _ => rfl
  | (n, v) :: r, m, h => by
    unfold bindC
    rw [bindC_out fun w hw => h w (List.mem_cons_of_mem _ hw)]
    split
    · rfl
    · have : x ≠ n := by rintro rfl; exact h v List.mem_cons_self
      simp [this]
theorem bindL_get {kindOf : Str → Option NameKind} {x : Str} {v : Value} : ∀ {P : List Str} {vs : List Value} {i : Nat} {m : Str → Option Value}, P.Nodup → P[i]? = some x → vs[i]? = some v → kindOf x = some .local →
    bindL kindOf (P.zip vs) m x = some v
  | [], _, _, _, _, h, _, _ => by simp at h
  | _ :: _, [], _, _, _, _, h, _ => by simp at h
  | p :: P, w :: vs, 0, m, nd, h1, h2, hk => by
    simp at h1 h2; subst h1; subst h2
    show bindL kindOf ((p, w) :: P.zip vs) m p = _
    unfold bindL
    rw [bindL_out fun v hv => (List.nodup_cons.mp nd).1 (List.of_mem_zip hv).1, if_pos hk]
    simp
  | p :: P, w :: vs, i + 1, m, nd, h1, h2, hk => by
    show bindL kindOf ((p, w) :: P.zip vs) m x = _
    unfold bindL
    exact bindL_get (i := i) (List.nodup_cons.mp nd).2 (by simpa using h1) (by simpa using h2) hk
theorem bindC_get {kindOf : Str → Option NameKind} {x : Str} {v : Value} : ∀ {P : List Str} {vs : List Value} {i : Nat} {m : Str → Option Value}, P.Nodup → P[i]? = some x → vs[i]? = some v → kindOf x ≠ some .local →
    bindC kindOf (P.zip vs) m x = some v
  | [], _, _, _, _, h, _, _ => by simp at h
  | _ :: _, [], _, _, _, _, h, _ => by simp at h
  | p :: P, w :: vs, 0, m, nd, h1, h2, hk => by
    simp at h1 h2; subst h1; subst h2
    show bindC kindOf ((p, w) :: P.zip vs) m p = _
    unfold bindC
    rw [bindC_out fun v hv => (List.nodup_cons.mp nd).1 (List.of_mem_zip hv).1, if_neg hk]
    simp
  | p :: P, w :: vs, i + 1, m, nd, h1, h2, hk => by
    show bindC kindOf ((p, w) :: P.zip vs) m x = _
    unfold bindC
    exact bindC_get (i := i) (List.nodup_cons.mp nd).2 (by simpa using h1) (by simpa using h2) hk

/-- the names' values at the entry -/
noncomputable def start (N : List Str) (vs : List V) : St := vs.map some ++ List.replicate (N.length - vs.length) none

/-- the context of a def's body, at its entry; an exception leaves the frame, then lies as CX says -/
noncomputable def cxOf (CX : CXT) (P : Program) (w : World) (K : PySem.W.Frag) (mg : Str → Option Value) (base : Heap) (N : List Str) (qual : Str) (scope : Scope) (f : Addr) (cd : Value) (A : Around) (outer : List Env) (s : Shared) (H : Hp) (E : XK) : Cx where
  prog := P
  w := w
  K := K
  mg := mg
  base := base
  A := A.deeper (envOfC qual scope s.heap.objs.size f cd)
  N := N
  s₀ := s
  H₀ := H
  env := envOfC qual scope s.heap.objs.size f cd
  outer := outer
  stack := envOfC qual scope s.heap.objs.size f cd :: outer
  ex := []
  calm := true
  fn := fun _ => true
  pn := []
  xe := fun e s' => wpAny (model P w) (A.deeper (envOfC qual scope s.heap.objs.size f cd)) (leaving (envOfC qual scope s.heap.objs.size f cd) e) (fun _ s'' => CX outer H s E e s'') (fun e' s'' => CX outer H s E e' s'') s'

theorem cell_has {sc : Scope} {n : Nat} {x : Str} (h : sc.names.lookup x = some .cell) : ∃ c, (cellsFrom n sc.names []).lookup x = some c := by
  have q := PySem.W.cellsFrom_some sc.names n [] (.inl h)
  exact Option.isSome_iff_exists.mp q

theorem inv_start {CX : CXT} {P : Program} {w : World} {K : PySem.W.Frag} {mg : Str → Option Value} {base : Heap} {N ps : List Str} {qual : Str} {scope : Scope} {f : Addr} {cd : Value} {A : Around} {outer : List Env} {s s1 : Shared} {H : Hp} {E : XK} {us : List Value} {vs : List V}
    (S : FnScope N ps scope) (hd : A.handled = none) (e0 : Env0 P w K mg base A outer s H) (hl : vs.length = ps.length) (r : Vals vs us)
    (x : InCallC s s.heap.objs.size (bindL (envOfC qual scope s.heap.objs.size f cd).kindOf (ps.zip us) fun _ => none) (cellsFrom (s.heap.objs.size + 1) scope.names []) (bindC (envOfC qual scope s.heap.objs.size f cd).kindOf (ps.zip us) fun _ => none) s1) :
    Inv (cxOf CX P w K mg base N qual scope f cd A outer s H E) [] (start N vs) H s1 := by
  have hpl : ps.length ≤ N.length := by have := congrArg List.length S.pre; rw [List.length_take] at this; omega
  obtain ⟨h1, tk, rfl, hk⟩ := x.done
  have noA : ∀ b : Addr, b ∉ (cxOf CX P w K mg base N qual scope f cd A outer s H E).ex := fun b z => absurd (show b ∈ ([] : List Addr) from z) (by simp)
  refine ⟨⟨e0.mod, S.kind, rfl, rfl, Nat.le_refl _, fun y z c h1 h2 => ?_, fun y hy => ?_, fun y c _ h => ?_, fun _ => hd, Around.frames_deeper e0.frames, .inr ⟨rfl, rfl⟩, fun b z => absurd z (noA b), e0.bs, e0.bsz, fun b _ _ => noA b, fun b z => absurd z (noA b), e0.funs, e0.frf⟩,
    rfl, e0.bare, Un.kept hk, ⟨_, x.toInCall.ns, fun i y v h1 h2 h3 => ?_⟩, fun y c h => ⟨_, x.cell y c h⟩, e0.hok.fresh (Nat.le_refl _), fun y c h => ?_, fun p hp => absurd (show p ∈ ([] : List (Addr × Obj)) from hp) (by simp), e0.hok.kept hk, ?_⟩
  · exact name_of_addr x.apart (PySem.mem_of_lookup h1) (PySem.mem_of_lookup h2)
  · have hy : scope.names.lookup y = some .cell ∨ scope.names.lookup y = some .free := hy
    rcases hy with hy | hy
    · exact cell_has hy
    · exact absurd rfl (S.nofree _ (PySem.mem_of_lookup hy))
  · exact Nat.le_of_lt (x.above y c (PySem.mem_of_lookup h))
  · have hi : i < vs.length := by
      unfold start at h2
      by_cases hi : i < vs.length
      · exact hi
      · rw [List.getElem?_append_right (by simpa using hi)] at h2
        rw [List.getElem?_replicate] at h2
        split at h2 <;> cases h2
    have ha : vs[i]? = some v := by
      unfold start at h2
      rw [List.getElem?_append_left (by simpa using hi), List.getElem?_map] at h2
      cases e : vs[i]? with
      | none => rw [e] at h2; cases h2
      | some a => rw [e] at h2; cases h2; rfl
    obtain ⟨u, hu, rv⟩ := r.get ha
    have hp : ps[i]? = some y := by
      rw [← S.pre, List.getElem?_take_of_lt (by omega)]; exact h1
    have ndP : ps.Nodup := by rw [← S.pre]; exact S.nd.sublist (List.take_sublist _ _)
    refine ⟨u, rv, ?_⟩
    rcases S.par y (List.mem_of_getElem? hp) with k | k
    · exact .inl ⟨k, bindL_get ndP hp hu k⟩
    · obtain ⟨c, e⟩ := cell_has (n := s.heap.objs.size + 1) k
      refine .inr ⟨.inl k, c, e, ?_⟩
      have q := x.cell y c e
      rw [bindC_get ndP hp hu (by show scope.names.lookup y ≠ _; rw [k]; decide)] at q
      exact q
  · exact e0.hok.fresh (Nat.le_of_lt (x.above y c (PySem.mem_of_lookup h)))
  · unfold start
    show _ = N.length
    rw [List.length_append, List.length_map, List.length_replicate]
    omega

/-- THE RULE: a def (or a method) of the text, by its body. The body's reading t is chosen for each entry; it is run at the parameters' values -/
theorem fn_of {CX : CXT} {P : Program} {w : World} {K : PySem.W.Frag} {mg : Str → Option Value} {base : Heap} {k : Nat} {f : Addr} {name qual : Str} {params : Arguments} {body : List Stmt} {scope : Scope} {dV kV doc pm cdv ct oc : Value} {an od : Option Addr}
    {osl : Array (Option Value)} {N ps : List Str} {sp : Sp} (lk : K.lookup f = some ⟨oc, od, .func (PySem.W.fnOf name qual params body scope dV kV doc pm an cdv ct), osl⟩) (hcd : PySem.W.codeIn K cdv qual = true) (S : FnScope N ps scope)
    (len : ∀ vs H Q E, sp vs H Q E → vs.length = ps.length)
    (hbody : ∀ (A : Around) (outer : List Env) (s : Shared) (H : Hp) (vs : List V) (Q : VK) (E : XK), Room k (A.deeper (envOfC qual scope s.heap.objs.size f cdv)) → sp vs H Q E →
      ∃ t, PSs (cxOf CX P w K mg base N qual scope f cdv A outer s H E) body t ∧ t { nx := fun _ H' => Q .non H', rt := Q } (start N vs) H) :
    FnOk P w K mg base CX (k + 1) f (PySem.W.fnOf name qual params body scope dV kV doc pm an cdv ct) ps sp := by
  refine ⟨len, fun A outer s H args us vs Q E hr e0 hb r hsp => ?_⟩
  have hl := len _ _ _ _ hsp
  have KX : K.In s.heap := e0.mod.kin.keeps fun b o e => (e0.bs b o e).1
  have lim : s.heap.NoLimit := e0.mod.nolimit.keeps fun b o e => (e0.bs b o e).1
  have hkind : ∀ y ∈ ps.zip us, scope.names.lookup y.1 = some .local ∨ (scope.names.lookup y.1 = some .cell ∧ ((cellsFrom (s.heap.objs.size + 1) scope.names []).lookup y.1).isSome = true) := fun ⟨n, v⟩ hy => by
    rcases S.par n (List.of_mem_zip hy).1 with q | q
    · exact .inl q
    · exact .inr ⟨q, PySem.W.cellsFrom_some _ _ _ (.inl q)⟩
  refine codeAny_call_function hr.depth (KX _ _ lk) rfl S.co S.gen rfl (PySem.W.codeRec_of KX hcd) (hb _ _ _ _ ?_)
  refine wpAny_newFunctionEnv_cells S.kind hkind fun env he s1 x => ?_
  subst he
  refine ⟨lim.keeps x.toInCall.keep, codeAny_func ?_⟩
  obtain ⟨t, ht, hq⟩ := hbody A outer s H vs Q E (hr.deeper _) hsp
  have I : Inv (cxOf CX P w K mg base N qual scope f cdv A outer s H E) [] (start N vs) H s1 := inv_start S hr.hd e0 hl r x
  refine wpAny_mono (ht [] s1 (start N vs) H _ I hq) (fun fl s' hs => ?_) fun e s' hs => hs
  have fin : ∀ {σ' : St} {H' : Hp} {v : V} {u : Value}, Inv (cxOf CX P w K mg base N qual scope f cdv A outer s H E) [] σ' H' s' → RelV v u → Q v H' → CE outer P w H s Q u s' :=
    fun {σ' H' v u} J rv q => ⟨v, H', J.os, J.bare, J.base, J.hok, rv, q⟩
  cases fl with
  | ret u =>
    obtain ⟨v, σ', H', J, rv, q⟩ := hs
    exact fin J rv q
  | next =>
    obtain ⟨σ', H', J, q⟩ := hs
    exact fin (v := V.non) (u := Value.none) J rfl q
  | brk =>
    obtain ⟨_, _, _, q⟩ := hs
    exact False.elim q
  | cont =>
    obtain ⟨_, _, _, q⟩ := hs
    exact False.elim q
end L2

namespace L2
open PySem PySem.Spec PyProof.Rows
section
variable {X : Cx} {x : Str} {p pos : Pos} {e : Expr} {es : List Expr} {t : TA} {id T : String} {r : List V → Hp → VK → Prop}

noncomputable def tCB (r : List V → Hp → VK → Prop) (t : TA) : TE := fun σ H Q => t σ H fun vs H1 => r vs H1 Q
/-- f(e, ..), f a built-in function -/
theorem pe_callB (hc : CallR X (.builtin id) r) (hg : Gl X x) (hm : X.mg x = none) (hv : bootBuiltins x = some (.builtin id)) (ha : PA X (e :: es) t) (hn : x ≠ "__name__" := by decide) (hdb : (x == ("__debug__" : Str)) = false := by decide)
    (he : starEach (e :: es) X.env = (false, eval e X.env) :: starEach es X.env := by rfl) (hpl : (backTo pos (starEach es X.env)).any (·.1) = false := by rfl) : PE X (.Call (.Name x p) (e :: es) [] pos) (tCB r t) := by
  intro pins s σ H Q I h
  refine wpAny_Call_Name_kw (ld_blt I hg hm hv ?_ hn hdb)
  exact PyProof.Rows.callWith_builtin1 (thn (ha pos pins s σ H _ I h) fun us s1 ⟨vs, H1, I1, r1, q1⟩ => hc pins s1 σ H1 vs us Q I1 r1 q1) he hpl
/-- T(e, ..), T a built-in type -/
theorem pe_callTy (hc : CallR X (.type T) r) (hg : Gl X x) (hm : X.mg x = none) (hv : bootBuiltins x = some (.type T)) (ha : PA X (e :: es) t) (hn : x ≠ "__name__" := by decide) (hdb : (x == ("__debug__" : Str)) = false := by decide)
    (he : starEach (e :: es) X.env = (false, eval e X.env) :: starEach es X.env := by rfl) (hpl : (backTo pos (starEach es X.env)).any (·.1) = false := by rfl) : PE X (.Call (.Name x p) (e :: es) [] pos) (tCB r t) := by
  intro pins s σ H Q I h
  refine wpAny_Call_Name_kw (ld_blt I hg hm hv ?_ hn hdb)
  exact PyProof.Rows.callWith_type1 (thn (ha pos pins s σ H _ I h) fun us s1 ⟨vs, H1, I1, r1, q1⟩ => hc pins s1 σ H1 vs us Q I1 r1 q1) he hpl
end
end L2

namespace HT
open PySem PyProof.Rows

/-- t < u of tuples of ints -/
noncomputable def lexLt : List Int → List Int → Bool
  | [], [] => false
  | [], _ :: _ => true
  | _ :: _, [] => false
  | x :: xs, y :: ys => if x = y then lexLt xs ys else decide (x < y)


section
open PySem.SeqAt
open PySem.AutoSeq1 (wpAny_loadPart')
open PySem.MeetsSeq PySem.MeetsSeq2 PySem.MeetsSeq3

end

section
variable {prog : Program} {w : World} {A : Around} {E : Value → Shared → Prop} {s : Shared}


/-- t + u, t not empty -/
theorem cat_tup {t b : Addr} {vs ws : List Value} {Q : Value → Shared → Prop} (ht : IsTup s.heap t vs.toArray) (hb : IsTup s.heap b ws.toArray) (hv : vs ≠ [])
    (h1 : ws = [] → Q (.ref t) s) (h2 : ws ≠ [] → Q (.ref s.heap.objs.size) { s with heap := s.heap.push { cls := .type "tuple", data := .seq (vs ++ ws).toArray } })
    (hsz : vs.length + ws.length ≤ sizeLine) : wpAny (model prog w) A (binaryOp .Add (.ref t) (.ref b)) Q E s := by
  obtain ⟨⟨cls, dd, data, sl⟩, ho, hc, n, hd⟩ := id ht
  obtain ⟨⟨cls2, dd2, data2, sl2⟩, ho2, hc2, n2, hd2⟩ := id hb
  simp only at hc hd hc2 hd2
  subst hc hd hc2 hd2
  have e : vs.toArray ++ ws.toArray = (vs ++ ws).toArray := by simp
  by_cases hw : ws = []
  · exact concat_meets ⟨_, ho, rfl⟩ ⟨_, ho2, rfl⟩ noFill_tuple_add seq_tuple_add PySem.F.slot_tuple_add PySem.F.entry_tuple_add (PySem.F.args_tuple_add_2 _ _)
      (tuple_addW1 t b vs.toArray ws.toArray n n2 dd dd2 sl sl2 (by simpa using hv) (by simp [hw])) ⟨ho, ho2, h1 hw⟩
  · refine concat_meets ⟨_, ho, rfl⟩ ⟨_, ho2, rfl⟩ noFill_tuple_add seq_tuple_add PySem.F.slot_tuple_add PySem.F.entry_tuple_add (PySem.F.args_tuple_add_2 _ _)
      (tuple_addW2 t b vs.toArray ws.toArray n n2 dd dd2 sl sl2 (by simpa using hv) (by simpa using hw) (by rw [List.size_toArray, List.size_toArray]; exact hsz)) ⟨ho, ho2, ?_⟩
    rw [e]
    exact h2 hw

/-! ### t[a:b], not the whole -/
/-- a slice's bound as a place among n (d where it is left out) -/
noncomputable def sIx (n d : Nat) : Option Int → Nat
  | none => d
  | some v => if v < 0 then (v + (n : Int)).toNat else min v.toNat n
theorem sIx_le (n d : Nat) (hd : d ≤ n) (o : Option Int) : sIx n d o ≤ n := by
  cases o with
  | none => exact hd
  | some v =>
    show (if v < 0 then (v + (n : Int)).toNat else min v.toNat n) ≤ n
    by_cases hv : v < 0
    · rw [if_pos hv]; omega
    · rw [if_neg hv]; exact Nat.min_le_right _ _
theorem clip_eq (v : Int) (n d : Nat) : (if v < 0 then max (v + (n : Int)) 0 else min v (n : Int)) = ((sIx n d (some v) : Nat) : Int) := by
  show (if v < 0 then max (v + (n : Int)) 0 else min v (n : Int)) = (((if v < 0 then (v + (n : Int)).toNat else min v.toNat n) : Nat) : Int)
  by_cases hv : v < 0
  · simp only [if_pos hv]; omega
  · simp only [if_neg hv]; omega
theorem adjust_gen (lo hi : Option Int) (n : Nat) : Builtin.Slice.sliceAdjust lo hi 1 (n : Int) = (((sIx n 0 lo : Nat) : Int), ((sIx n n hi : Nat) : Int)) := by
  have h1 : ¬ ((1 : Int) < 0) := by omega
  unfold Builtin.Slice.sliceAdjust
  simp only [h1, if_false]
  refine Prod.ext ?_ ?_
  · cases lo with
    | none => rfl
    | some v => exact clip_eq v n 0
  · cases hi with
    | none => rfl
    | some v => exact clip_eq v n n
theorem places_gen (i j : Nat) : Builtin.Slice.slicePlaces (i : Int) (j : Int) 1 = j - i := by
  unfold Builtin.Slice.slicePlaces
  have h1 : (1 : Int) > 0 := by omega
  simp only [h1, if_true, Int.ediv_one]
  split <;> omega
theorem slicePart_ {v : Value} {o : Option Int} {Q : Option Int → Shared → Prop} (p : IsPart v o) (h : Q o s) : wpAny (model prog w) A (Builtin.Slice.slicePartIndex v) Q E s := by
  cases p with
  | none => exact slicePart_none h
  | int i t => exact slicePart_int h
theorem sliceApplied_gen {sl : Addr} {vl vu : Value} {lo hi : Option Int} {n : Nat} {Q : Int × Int × Nat → Shared → Prop} (hs : s.heap.IsSliceOf sl vl vu .none) (pl : IsPart vl lo) (pu : IsPart vu hi)
    (h : Q (((sIx n 0 lo : Nat) : Int), 1, sIx n n hi - sIx n 0 lo) s) : wpAny (model prog w) A (Builtin.Slice.sliceApplied (.ref sl) (pure (n : Int))) Q E s := by
  obtain ⟨os, hos, hcs, hds⟩ := id hs
  unfold Builtin.Slice.sliceApplied Builtin.Slice.sliceFields
  refine wpAny_bind (wpAny_bind (wpAny_field hos hds (x := vl) rfl (wpAny_bind (wpAny_field hos hds (x := vu) rfl (wpAny_bind (wpAny_field hos hds (x := .none) rfl (wpAny_pure ?_)))))))
  refine wpAny_bind (slicePart_none ?_)
  show wpAny _ _ (if ((1 : Int) == 0) = true then _ else _) _ _ s
  rw [if_neg (by decide)]
  refine wpAny_bind (slicePart_ pl (wpAny_bind (slicePart_ pu (wpAny_bind (wpAny_pure ?_)))))
  show wpAny _ _ (match Builtin.Slice.sliceAdjust lo hi 1 (n : Int) with | (lo, hi) => pure (lo, (1 : Int), Builtin.Slice.slicePlaces lo hi 1)) _ _ s
  rw [adjust_gen lo hi n]
  show wpAny _ _ (pure (((sIx n 0 lo : Nat) : Int), (1 : Int), Builtin.Slice.slicePlaces ((sIx n 0 lo : Nat) : Int) ((sIx n n hi : Nat) : Int) 1)) _ _ s
  rw [places_gen]
  exact wpAny_pure h
theorem pick_gen (xs : Array Value) (i k : Nat) : ((List.range k).filterMap fun (m : Nat) => xs[((i : Int) + (m : Int) * 1).toNat]?).toArray = ((xs.toList.drop i).take k).toArray := by
  have e : (fun (m : Nat) => xs[((i : Int) + (m : Int) * 1).toNat]?) = fun m => xs[i + m]? := by
    funext m
    have : ((i : Int) + (m : Int) * 1).toNat = i + m := by omega
    rw [this]
  rw [e]
  have := pick_run xs i k
  rw [List.filterMap_map] at this
  have e2 : ((fun x => xs[x]?) ∘ fun x => i + x) = fun m => xs[i + m]? := rfl
  rw [e2] at this
  rw [this]

theorem getItem_tuple_cut {t sl : Addr} {items : Array Value} {vl vu : Value} {lo hi : Option Int} {Q : Value → Shared → Prop} (ht : IsTup s.heap t items) (hs : s.heap.IsSliceOf sl vl vu .none) (pl : IsPart vl lo) (pu : IsPart vu hi)
    (hw : ¬ (sIx items.size 0 lo = 0 ∧ sIx items.size items.size hi = items.size))
    (h : Q (.ref s.heap.objs.size) { s with heap := s.heap.push { cls := .type "tuple", data := .seq ((items.toList.drop (sIx items.size 0 lo)).take (sIx items.size items.size hi - sIx items.size 0 lo)).toArray } })
    (hsz : items.size ≤ sizeLine) : wpAny (model prog w) A (getItem (.ref t) (.ref sl)) Q E s := by
  have htake : sizeOk (.seq ((items.toList.drop (sIx items.size 0 lo)).take (sIx items.size items.size hi - sIx items.size 0 lo)).toArray) := by
    show ((items.toList.drop (sIx items.size 0 lo)).take (sIx items.size items.size hi - sIx items.size 0 lo)).toArray.size ≤ sizeLine
    rw [List.size_toArray, List.length_take, List.length_drop, Array.length_toList]
    omega
  have hj : sIx items.size items.size hi ≤ items.size := sIx_le _ _ (Nat.le_refl _) hi
  obtain ⟨os, hos, hcs, hds⟩ := id hs
  have hTs : s.TypeIs (.ref sl) "slice" := ⟨os, hos, hcs⟩
  unfold getItem
  try with_reducible refine wpAny_holding ?_
  first | refine wpAny_bind (wpAny_pure ?_) | skip
  refine wpAny_bind (wpAny_sequenceKey ht.typeIs (by decide) ?_)
  refine wpAny_bind (wpAny_callSpecial?_slot (name := Str.ofString "__getitem__") ht.typeIs PyProof.Rows.slot_tuple_getitem
    (wpAny_call_entry PyProof.Rows.slot_tuple_getitem ht.typeIs entry_tuple_getitem ?_ (args_tuple_getitem _ _)))
  show wpAny _ _ (Builtin.Tuple.tupleItemsOf (.ref t) >>= _) _ _ s
  refine wpAny_bind (tupleItemsOf_ ht ?_)
  refine wpAny_bind (wpAny_typeOf hTs ?_)
  rw [if_pos (by decide)]
  refine wpAny_bind (sliceApplied_gen hs pl pu ?_)
  have hno : ¬ ((((sIx items.size 0 lo : Nat) : Int) == 0 && (1 : Int) == 1 && (sIx items.size items.size hi - sIx items.size 0 lo) == items.size) = true) := by
    intro q
    rw [Bool.and_eq_true, Bool.and_eq_true] at q
    have q1 : ((sIx items.size 0 lo : Nat) : Int) = 0 := eq_of_beq q.1.1
    have q2 : sIx items.size items.size hi - sIx items.size 0 lo = items.size := eq_of_beq q.2
    exact hw ⟨by omega, by omega⟩
  show wpAny _ _ (if (((sIx items.size 0 lo : Nat) : Int) == 0 && (1 : Int) == 1 && (sIx items.size items.size hi - sIx items.size 0 lo) == items.size) = true then _ else _) _ _ s
  rw [if_neg hno, pick_gen]
  first
    | exact wpAny_bind (m := Builtin.Tuple.tupleExact _) (wpAny_newObj_type (wpAny_pure ⟨_, rfl, wpAny_pure h⟩) htake)
    | exact wpAny_bind (m := Builtin.Tuple.tupleExact _) (wpAny_newObj_type (wpAny_bind (wpAny_pure (wpAny_pure ⟨_, rfl, wpAny_pure h⟩))) htake)
    | exact wpAny_bind (wpAny_bind (m := Builtin.Tuple.tupleExact _) (wpAny_newObj_type (wpAny_pure (wpAny_pure ⟨_, rfl, wpAny_pure h⟩)) htake))
    | exact wpAny_bind (wpAny_bind (m := Builtin.Tuple.tupleExact _) (wpAny_newObj_type (wpAny_pure ⟨_, rfl, wpAny_pure h⟩) htake))
end
end HT

namespace L2
open PySem PySem.Spec PyProof.Rows

/-! ### the parts of a slice -/
noncomputable abbrev TO := St → Hp → (Option Int → Hp → Prop) → Prop
/-- a slice's part (left out, or an int) -/
noncomputable def PO (X : Cx) (e : Option Expr) (t : TO) : Prop :=
  ∀ (pins : List (Addr × Obj)) (s : Shared) (σ : St) (H : Hp) (Q : Option Int → Hp → Prop), Inv X pins σ H s → t σ H Q →
    wpAny (model X.prog X.w) X.A (evalPart e X.env) (fun u s' => ∃ o H', Inv X pins σ H' s' ∧ IsPart u o ∧ Q o H') X.xe s
noncomputable def tNoPart : TO := fun _ H Q => Q none H
noncomputable def tPart (t : TE) : TO := fun σ H Q => t σ H fun x H1 => ∃ i, x = .int i ∧ Q (some i) H1

theorem intsAre_of {ns : List Int} : ∀ {us : List Value}, Vals (ns.map V.int) us → IntsAre us ns := by
  induction ns with
  | nil => intro us r; rw [List.map_nil] at r; cases r; exact .nil
  | cons n ns ih =>
    intro us r
    rw [List.map_cons] at r
    cases r with
    | cons r1 r2 =>
      obtain ⟨t, e⟩ := r1
      subst e
      exact .cons n t (ih r2)

section
variable {X : Cx} {e : Expr} {te : TE} {lo hi : Option Expr} {tl th : TO} {pos p2 : Pos}

theorem po_none : PO X none tNoPart := by
  intro pins s σ H Q I h
  rw [evalPart_none]
  exact wpAny_pure ⟨none, H, I, .none, h⟩
theorem po_some (h : PE X e te) : PO X (some e) (tPart te) := by
  intro pins s σ H Q I hw
  rw [evalPart_some]
  refine thn (h pins s σ H _ I hw) fun u s1 ⟨x, H1, I1, r1, q1⟩ => ?_
  obtain ⟨i, rfl, q⟩ := q1
  obtain ⟨t, rfl⟩ := r1
  exact ⟨some i, H1, I1, .int i t, q⟩

/-- what a slice of a value is, by values: the slice object stands at sl -/
noncomputable def SlR (X : Cx) (r : V → Option Int → Option Int → Hp → VK → Prop) : Prop :=
  ∀ (pins : List (Addr × Obj)) (s : Shared) (σ : St) (H : Hp) (x : V) (v vl vu : Value) (lo hi : Option Int) (sl : Addr) (Q : VK), Inv X pins σ H s → RelV x v → s.heap.IsSliceOf sl vl vu .none → IsPart vl lo → IsPart vu hi → r x lo hi H Q →
    ∃ T id, typeLookup (.type T) "__getitem__" = pure (some (.builtin id)) ∧ s.TypeIs v T ∧ wpAny (model X.prog X.w) X.A (getItem v (.ref sl)) (EP X pins σ Q) X.xe s
theorem SlR.or {r r' : V → Option Int → Option Int → Hp → VK → Prop} (h : SlR X r) (h' : SlR X r') : SlR X (fun x lo hi H Q => r x lo hi H Q ∨ r' x lo hi H Q) := by
  intro pins s σ H x v vl vu lo hi sl Q I rx hs pl pu q
  rcases q with q | q
  · exact h pins s σ H x v vl vu lo hi sl Q I rx hs pl pu q
  · exact h' pins s σ H x v vl vu lo hi sl Q I rx hs pl pu q
noncomputable def tSl (r : V → Option Int → Option Int → Hp → VK → Prop) (te : TE) (tl th : TO) : TE := fun σ H Q => te σ H fun x H1 => tl σ H1 fun l H2 => th σ H2 fun u H3 => r x l u H3 Q
/-- a[lo:hi], any a -/
theorem pe_slice {r : V → Option Int → Option Int → Hp → VK → Prop} (hr : SlR X r) (he : PE X e te) (hl : PO X lo tl) (hu : PO X hi th) : PE X (.Subscript e (.Slice lo hi none p2) pos) (tSl r te tl th) := by
  intro pins s σ H Q I h
  refine Subscript_ (thn (he pins s σ H _ I h) fun v s1 ⟨x, H1, I1, r1, q1⟩ => ?_)
  refine wpAny_Slice (thn (hl pins s1 σ H1 _ I1 q1) fun vl s2 ⟨l, H2, I2, pl, q2⟩ => thn (hu pins s2 σ H2 _ I2 q2) fun vu s3 ⟨u, H3, I3, pu, q3⟩ => ?_)
  rw [evalPart_none]
  refine wpAny_pure ?_
  have I4 : Inv X pins σ H3 { s3 with heap := s3.heap.push { cls := .type "slice", data := .fields #[vl, vu, .none] } } := I3.kept (t' := s3.toks) fun b ob q => Heap.get?_push_of_some _ q
  obtain ⟨T, id, hT, ht, hg⟩ := hr pins { s3 with heap := s3.heap.push { cls := .type "slice", data := .fields #[vl, vu, .none] } } σ H3 x v vl vu l u s3.heap.objs.size Q I4 r1 (Heap.IsSliceOf.new ..) pl pu q3
  show wpAny (model X.prog X.w) X.A (subscriptTail e (.Slice lo hi none p2) v (.ref s3.heap.objs.size)) (EP X pins σ Q) X.xe { s3 with heap := s3.heap.push { cls := .type "slice", data := .fields #[vl, vu, .none] } }
  exact tail_any (ops := [.ref s3.heap.objs.size, v]) ht hT hg (by with_unfolding_all rfl)

/-- the items of xs[lo:hi] -/
noncomputable def cutV (xs : List V) (lo hi : Option Int) : List V := (xs.drop (HT.sIx xs.length 0 lo)).take (HT.sIx xs.length xs.length hi - HT.sIx xs.length 0 lo)
theorem cutV_length (xs : List V) (lo hi : Option Int) : (cutV xs lo hi).length ≤ xs.length := by
  unfold cutV
  rw [List.length_take, List.length_drop]
  omega
/-- t[lo:hi], not the whole of it (the whole would be t itself) -/
noncomputable def rSlT (K : PySem.W.Frag) : V → Option Int → Option Int → Hp → VK → Prop := fun x lo hi H Q => ∃ a xs, x = .ref a ∧ SqT K H a xs ∧
  ¬ (HT.sIx xs.length 0 lo = 0 ∧ HT.sIx xs.length xs.length hi = xs.length) ∧ ∀ p, H p = none → Q (.ref p) (upd H p (.tup (cutV xs lo hi)))
theorem sl_tup : SlR X (rSlT X.K) := by
  intro pins s σ H x v vl vu lo hi sl Q I rx hs pl pu h
  obtain ⟨a, xs, rfl, hx, hw, q⟩ := h
  cases rx
  obtain ⟨its, r, ht, hz⟩ := I.tuple hx
  have hlen : its.toArray.size = xs.length := by rw [List.size_toArray]; exact r.length.symm
  refine ⟨"tuple", _, PyProof.Rows.slot_tuple_getitem.lookup, ht.typeIs, ?_⟩
  refine HT.getItem_tuple_cut ht hs pl pu (by rw [hlen]; exact hw) ?_ (by rw [hlen]; exact hz)
  rw [hlen]
  refine ⟨.ref s.heap.objs.size, _, I.laid (t' := s.toks) (o := .tup (cutV xs lo hi)) (fun b ob q => Heap.get?_push_of_some _ q) (Nat.le_refl _) ?_, rfl, q _ (I.hok.fresh (Nat.le_refl _))⟩
  exact ⟨Nat.le_trans (cutV_length xs lo hi) hz, _, (r.drop (HT.sIx xs.length 0 lo)).take (HT.sIx xs.length xs.length hi - HT.sIx xs.length 0 lo), IsTup.new _ _⟩

/-! ### t < u, t + u -/
noncomputable def rLtT (K : PySem.W.Frag) : R2 := fun x y H Q => ∃ a b ns ms, x = .ref a ∧ y = .ref b ∧ SqT K H a (ns.map V.int) ∧ SqT K H b (ms.map V.int) ∧ Q (.bl (HT.lexLt ns ms)) H
/-- t + u, t not empty: u empty gives t itself -/
noncomputable def rCatT (K : PySem.W.Frag) : R2 := fun x y H Q => ∃ a b xs ys, x = .ref a ∧ y = .ref b ∧ SqT K H a xs ∧ SqT K H b ys ∧ xs ≠ [] ∧ xs.length + ys.length ≤ sizeLine ∧
  (ys = [] → Q (.ref a) H) ∧ (ys ≠ [] → ∀ p, H p = none → Q (.ref p) (upd H p (.tup (xs ++ ys))))
theorem Vals.nil_iff {xs : List V} {us : List Value} (r : Vals xs us) : us = [] ↔ xs = [] := by
  cases r with
  | nil => simp
  | cons _ _ => simp
theorem op_catT : OpR X (binaryOp .Add) (rCatT X.K) := by
  intro pins s σ H x y v u Q I rx ry h
  obtain ⟨a, b, xs, ys, rfl, rfl, ha, hb, hx, hz, q1, q2⟩ := h
  cases rx
  cases ry
  obtain ⟨its, r1, p1, _⟩ := I.tuple ha
  obtain ⟨its2, r2, p2, _⟩ := I.tuple hb
  refine HT.cat_tup p1 p2 (fun z => hx (r1.nil_iff.mp z)) (fun z => ⟨.ref a, H, I, rfl, q1 (r2.nil_iff.mp z)⟩) (fun z => ?_) (by rw [← r1.length, ← r2.length]; exact hz)
  refine ⟨.ref s.heap.objs.size, _, I.laid (t' := s.toks) (o := .tup (xs ++ ys)) (fun b ob q => Heap.get?_push_of_some _ q) (Nat.le_refl _) ?_, rfl, q2 (fun w => z (r2.nil_iff.mpr w)) _ (I.hok.fresh (Nat.le_refl _))⟩
  exact ⟨by rw [List.length_append]; exact hz, _, r1.append r2, IsTup.new _ _⟩
end
end L2

namespace L2
open PySem PySem.Spec PyProof.Rows

/-! ### places -/
/-- the place that an index of any sign means -/
noncomputable def ixN (n : Nat) (i : Int) : Option Nat := if 0 ≤ i then (if i < n then some i.toNat else none) else if -(n : Int) ≤ i then some (i + n).toNat else none
noncomputable def atI {α : Type} (xs : List α) (i : Int) : Option α := (ixN xs.length i).bind fun j => xs[j]?
theorem ixN_seq {n : Nat} {i : Int} {j : Nat} (h : ixN n i = some j) : seqIndex? i n = some j ∧ j < n ∧ -(n : Int) ≤ i ∧ i < n := by
  unfold ixN at h
  by_cases h0 : 0 ≤ i
  · rw [if_pos h0] at h
    by_cases h1 : i < n
    · rw [if_pos h1] at h
      have e : i.toNat = j := Option.some.inj h
      exact ⟨by rw [seqIndex_of h0 h1, e], by omega, by omega, h1⟩
    · rw [if_neg h1] at h; cases h
  · rw [if_neg h0] at h
    by_cases h1 : -(n : Int) ≤ i
    · rw [if_pos h1] at h
      have e : (i + n).toNat = j := Option.some.inj h
      exact ⟨by rw [seqIndex_neg (by omega) h1, e], by omega, h1, by omega⟩
    · rw [if_neg h1] at h; cases h
theorem atI_get {α : Type} {xs : List α} {i : Int} {v : α} (h : atI xs i = some v) : ∃ j, seqIndex? i xs.length = some j ∧ xs[j]? = some v ∧ j < xs.length ∧ -(xs.length : Int) ≤ i ∧ i < xs.length := by
  unfold atI at h
  cases e : ixN xs.length i with
  | none => rw [e] at h; cases h
  | some j =>
    rw [e] at h
    obtain ⟨h1, h2, h3, h4⟩ := ixN_seq e
    exact ⟨j, h1, h, h2, h3, h4⟩

/-! ### what may be subscripted -/
/-- what stands as an index of a plain subscript -/
noncomputable def PlainIx (b : Expr) : Prop := ∀ o i, subscripted b false o i = operate [o, i] (getItem o i)
/-- a subscript by values -/
noncomputable def IxR (X : Cx) (r : R2) : Prop :=
  ∀ (value slice : Expr) (pins : List (Addr × Obj)) (s : Shared) (σ : St) (H : Hp) (x y : V) (v u : Value) (Q : VK), Inv X pins σ H s → RelV x v → RelV y u → r x y H Q →
    subscripted slice false v u = operate [v, u] (getItem v u) → wpAny (model X.prog X.w) X.A (subscriptTail value slice v u) (EP X pins σ Q) X.xe s
/-- a call of a builtin's method by values: the receiver, the arguments -/
noncomputable def MtR (X : Cx) (id : String) (r : V → List V → Hp → VK → Prop) : Prop :=
  ∀ (pins : List (Addr × Obj)) (s : Shared) (σ : St) (H : Hp) (x : V) (xs : List V) (v : Value) (us : List Value) (Q : VK), Inv X pins σ H s → RelV x v → Vals xs us → r x xs H Q →
    wpAny (model X.prog X.w) X.A (call (.builtin id) (v :: us)) (EP X pins σ Q) X.xe s
section
variable {X : Cx} {a b : Expr} {ta tb : TE} {pos : Pos}
theorem IxR.or {r r' : R2} (h : IxR X r) (h' : IxR X r') : IxR X (fun x y H Q => r x y H Q ∨ r' x y H Q) := by
  intro value slice pins s σ H x y v u Q I rx ry q hs
  rcases q with q | q
  · exact h value slice pins s σ H x y v u Q I rx ry q hs
  · exact h' value slice pins s σ H x y v u Q I rx ry q hs
/-- a[b] -/
theorem pe_ix {r : R2} (hr : IxR X r) (ha : PE X a ta) (hb : PE X b tb) (hs : PlainIx b) : PE X (.Subscript a b pos) (tOp r ta tb) := by
  intro pins s σ H Q I h
  exact Subscript_ (binT ha hb I h fun v u s2 x y H2 I2 rx ry q => hr a b pins s2 σ H2 x y v u Q I2 rx ry q (hs _ _))

noncomputable def rIxL (K : PySem.W.Frag) : R2 := fun x y H Q => ∃ p xs i v, x = .ref p ∧ y = .int i ∧ SqL K H p xs ∧ atI xs i = some v ∧ Q v H
noncomputable def rIxT (K : PySem.W.Frag) : R2 := fun x y H Q => ∃ p xs i v, x = .ref p ∧ y = .int i ∧ SqT K H p xs ∧ atI xs i = some v ∧ Q v H
noncomputable def rIxS : R2 := fun x y H Q => ∃ z i c, x = .str z ∧ y = .int i ∧ z.length ≤ sizeLine ∧ atI z.cps.toList i = some c ∧ Q (.str ⟨#[c]⟩) H
theorem ix_list : IxR X (rIxL X.K) := by
  intro value slice pins s σ H x y v u Q I rx ry h hs
  obtain ⟨p, xs, i, z, rfl, rfl, hq, he, q⟩ := h
  cases rx
  obtain ⟨t, rfl⟩ := ry
  obtain ⟨its, r, pl, hz⟩ := I.list hq
  obtain ⟨j, h1, h2, h3, h4, h5⟩ := atI_get he
  obtain ⟨w, ew, rw'⟩ := r.get h2
  have hl := r.length
  have hn := line63
  have fin : EP X pins σ Q w s := ⟨z, H, I, rw', q⟩
  by_cases h0 : 0 ≤ i
  · have hj : i.toNat = j := by
      rw [seqIndex_of h0 h5] at h1
      exact Option.some.inj h1
    exact item_listR pl.isList h0 (by omega) (by rw [hj]; simpa using ew) fin hs
  · have hj : (i + (its.toArray.size : Int)).toNat = j := by
      rw [seqIndex_neg (by omega) h4] at h1
      rw [List.size_toArray, ← hl]
      exact Option.some.inj h1
    exact subscriptTail_builtinR (x := w) pl.isList.typeIs slot_list_getitem.lookup
      (wpAny_getItem_list_neg (Q := fun r s' => r = w ∧ EP X pins σ Q r s') pl.isList (by omega) (by rw [List.size_toArray] <;> omega) (by omega) (by rw [hj]; simpa using ew) ⟨rfl, fin⟩) hs
theorem ix_tup : IxR X (rIxT X.K) := by
  intro value slice pins s σ H x y v u Q I rx ry h hs
  obtain ⟨p, xs, i, z, rfl, rfl, hq, he, q⟩ := h
  cases rx
  obtain ⟨t, rfl⟩ := ry
  obtain ⟨its, r, pl, hz⟩ := I.tuple hq
  obtain ⟨j, h1, h2, h3, h4, h5⟩ := atI_get he
  obtain ⟨w, ew, rw'⟩ := r.get h2
  have hl := r.length
  have hn := line63
  have fin : EP X pins σ Q w s := ⟨z, H, I, rw', q⟩
  exact subscriptTail_builtinR (x := w) pl.typeIs slot_tuple_getitem.lookup
    (getItem_tuple (j := j) (Q := fun r s' => r = w ∧ EP X pins σ Q r s') pl (by omega) (by omega) (by rw [List.size_toArray, ← hl]; exact h1) (by simpa using ew) ⟨rfl, fin⟩) hs
theorem ix_str : IxR X rIxS := by
  intro value slice pins s σ H x y v u Q I rx ry h hs
  obtain ⟨z, i, c, rfl, rfl, hz, he, q⟩ := h
  obtain ⟨t, rfl⟩ := rx
  obtain ⟨t', rfl⟩ := ry
  obtain ⟨j, h1, h2, h3, h4, h5⟩ := atI_get he
  have hl : z.cps.toList.length = z.length := by simp [Str.length]
  rw [hl] at h1 h4 h5
  have hn := line63
  exact tail_any (typeIs_str s z t) slot_str_getitem.lookup (getItem_str (c := c) (by
    have e1 : decide (i < -(2 ^ 63 : Int)) = false := decide_eq_false (by omega)
    have e2 : decide (i ≥ 2 ^ 63) = false := decide_eq_false (by omega)
    rw [e1, e2, Bool.or_false]) (by rw [h1]; simpa using h2) ⟨.str ⟨#[c]⟩, H, I.tok _, ⟨_, rfl⟩, q⟩) hs
/-- list, tuple or str -/
noncomputable def rIx (K : PySem.W.Frag) : R2 := fun x y H Q => rIxL K x y H Q ∨ rIxT K x y H Q ∨ rIxS x y H Q
theorem ix_seq : IxR X (rIx X.K) := ix_list.or (ix_tup.or ix_str)

/-! ### xs[i] = v, any sign -/
/-- the list's object behind a store -/
theorem mapSeq_set (its : List Value) (n j : Nat) (u : Value) : Obj.mapSeq (·.setIfInBounds j u) { cls := .type "list", data := .seq its.toArray n } = { cls := .type "list", data := .seq (its.set j u).toArray n } := by
  simp [Obj.mapSeq]
theorem Inv.lst {pins : List (Addr × Obj)} {σ : St} {H : Hp} {s : Shared} {p : Addr} {xs : List V} (I : Inv X pins σ H s) (h : H p = some (.lst xs)) :
    ∃ (its : List Value) (n : Nat), Vals xs its ∧ s.heap.get? p = some { cls := .type "list", data := .seq its.toArray n } ∧ xs.length ≤ sizeLine := by
  obtain ⟨z, its, n, r, e⟩ := I.hok p _ h
  exact ⟨its, n, r, e, z⟩
/-- the list at p is written by an update of its object -/
theorem Inv.lstUpd {pins : List (Addr × Obj)} {σ : St} {H : Hp} {s : Shared} {p : Addr} {xs ys : List V} {its its' : List Value} {n n' : Nat} {f : Obj → Obj} (I : Inv X pins σ H s) (h : H p = some (.lst xs))
    (ho : s.heap.get? p = some { cls := .type "list", data := .seq its.toArray n }) (hf : f { cls := .type "list", data := .seq its.toArray n } = { cls := .type "list", data := .seq its'.toArray n' }) (r : Vals ys its') (hz : ys.length ≤ sizeLine) (t : Nat) :
    Inv X pins σ (upd H p (.lst ys)) { s with heap := s.heap.update p f, toks := t } := by
  have e : (s.heap.update p f).get? p = some { cls := .type "list", data := .seq its'.toArray n' } := by
    rw [Heap.get?_update_self f ho (by rw [hf] <;> rfl), hf]
  refine I.write (x := p) (e := p) (by rw [h]; trivial) (.inl rfl) (fun b u hb q => (Heap.get?_update_other _ _ (Ne.symm hb)).trans q) ⟨_, e⟩ ?_
  exact ⟨hz, its', n', r, e⟩
noncomputable def rSetL : V → V → V → Hp → (Hp → Prop) → Prop := fun o i v H Q => ∃ p xs k j, o = .ref p ∧ i = .int k ∧ H p = some (.lst xs) ∧ ixN xs.length k = some j ∧ Q (upd H p (.lst (xs.set j v)))
theorem set_list : PSet X rSetL := by
  intro pins s σ H o i v ov iv u Q I ro ri rv h
  obtain ⟨p, xs, k, j, rfl, rfl, hp, hj, q⟩ := h
  cases ro
  obtain ⟨t, rfl⟩ := ri
  obtain ⟨its, n, r, ho, hz⟩ := I.lst hp
  obtain ⟨h1, h2, h3, h4⟩ := ixN_seq hj
  have hl := r.length
  have hn := line63
  have I' : Inv X pins σ (upd H p (.lst (xs.set j v))) { s with heap := s.heap.update p (Obj.mapSeq (·.setIfInBounds j u)) } :=
    I.lstUpd hp ho (mapSeq_set its n j u) (r.set rv j) (by rw [List.length_set]; exact hz) s.toks
  by_cases h0 : 0 ≤ k
  · have hk : k.toNat = j := by
      rw [seqIndex_of h0 h4] at h1
      exact Option.some.inj h1
    exact PySem.W.ki_setAt ho h0 (by omega) (by rw [List.size_toArray, ← hl]; exact h4) (by rw [hk]; exact ⟨_, I', q⟩)
  · have hk : (k + (its.toArray.size : Int)).toNat = j := by
      rw [seqIndex_neg (by omega) h3] at h1
      rw [List.size_toArray, ← hl]
      exact Option.some.inj h1
    exact PySem.W.ki_setBack ho (by omega) (by rw [List.size_toArray, ← hl]; exact h3) (by omega) (by rw [hk]; exact ⟨_, I', q⟩)

/-! ### slices -/
theorem slice_bounds (lo hi : Option Int) (n : Nat) : (sliceBounds lo hi none n).1 = ((HT.sIx n 0 lo : Nat) : Int) ∧ (sliceBounds lo hi none n).2.1 = ((HT.sIx n n hi : Nat) : Int) ∧ (sliceBounds lo hi none n).2.2 = 1 := by
  refine ⟨?_, ?_, rfl⟩
  · cases lo with
    | none => simp [sliceBounds, HT.sIx]
    | some i =>
      simp only [sliceBounds, HT.sIx, Option.getD_none, show (1 : Int) > 0 by decide, if_true]
      by_cases h : i < 0
      · simp only [h, if_true] <;> omega
      · simp only [h, if_false] <;> omega
  · cases hi with
    | none => simp [sliceBounds, HT.sIx]
    | some i =>
      simp only [sliceBounds, HT.sIx, Option.getD_none, show (1 : Int) > 0 by decide, if_true]
      by_cases h : i < 0
      · simp only [h, if_true] <;> omega
      · simp only [h, if_false] <;> omega
theorem slicePick_cut (its : List Value) (lo hi : Option Int) : slicePick its.toArray lo hi none = ((its.drop (HT.sIx its.length 0 lo)).take (HT.sIx its.length its.length hi - HT.sIx its.length 0 lo)).toArray := by
  obtain ⟨h1, h2, h3⟩ := slice_bounds lo hi its.toArray.size
  unfold slicePick
  rw [h1, h2, h3]
  simp only [sliceRange_one, pick_run, List.size_toArray] <;> rfl
/-- xs[lo:hi] of a list: a new list -/
noncomputable def rSlL (K : PySem.W.Frag) : V → Option Int → Option Int → Hp → VK → Prop := fun x lo hi H Q => ∃ a xs, x = .ref a ∧ SqL K H a xs ∧ ∀ p, H p = none → Q (.ref p) (upd H p (.lst (cutV xs lo hi)))
theorem sl_list : SlR X (rSlL X.K) := by
  intro pins s σ H x v vl vu lo hi sl Q I rx hs pl pu h
  obtain ⟨a, xs, rfl, hx, q⟩ := h
  cases rx
  obtain ⟨its, r, ht, hz⟩ := I.list hx
  have hlen := r.length
  refine ⟨"list", _, slot_list_getitem.lookup, ht.isList.typeIs, ?_⟩
  refine wpAny_getItem_list_slice ht.isList hs pl pu .none (by simp) ?_ (by rw [List.size_toArray] <;> omega)
  rw [slicePick_cut, ← hlen]
  refine ⟨.ref s.heap.objs.size, _, I.laid (t' := s.toks) (o := .lst (cutV xs lo hi)) (fun b ob q => Heap.get?_push_of_some _ q) (Nat.le_refl _) ?_, rfl, q _ (I.hok.fresh (Nat.le_refl _))⟩
  exact ⟨Nat.le_trans (cutV_length xs lo hi) hz, _, 0, (r.drop (HT.sIx xs.length 0 lo)).take (HT.sIx xs.length xs.length hi - HT.sIx xs.length 0 lo), Heap.get?_push_size _ rfl⟩

/-! ### in, not in: flat items -/
noncomputable def flatV : V → Bool
  | .non => true
  | .bl _ => true
  | .int _ => true
  | .str _ => true
  | _ => false
/-- == of flat values -/
noncomputable def eqV : V → V → Bool
  | .non, .non => true
  | .bl a, .bl b => a == b
  | .bl a, .int b => (if a then 1 else 0) == b
  | .int a, .bl b => a == (if b then 1 else 0)
  | .int a, .int b => a == b
  | .str a, .str b => a == b
  | _, _ => false
theorem eqAt_V {A : Around} {s : Shared} {y x : V} {u v : Value} (ry : RelV y u) (rx : RelV x v) (fy : flatV y = true) (fx : flatV x = true) : SeqAt.EqAt A s u v (eqV y x) := by
  cases y with
  | non =>
    cases ry
    cases x with
    | non => cases rx; exact SeqAt.EqAt.same _
    | bl b => cases rx; exact SeqAt.EqAt.none_bool b
    | int b => obtain ⟨t, rfl⟩ := rx; exact SeqAt.EqAt.none_int b t
    | str b => obtain ⟨t, rfl⟩ := rx; exact SeqAt.EqAt.none_str b t
    | _ => exact absurd (show false = true from fx) Bool.false_ne_true
  | bl a =>
    cases ry
    cases x with
    | non => cases rx; exact SeqAt.EqAt.bool_none a
    | bl b => cases rx; exact SeqAt.EqAt.bool_bool a b
    | int b => obtain ⟨t, rfl⟩ := rx; exact SeqAt.EqAt.bool_int a b t
    | str b => obtain ⟨t, rfl⟩ := rx; exact SeqAt.EqAt.bool_str a b t
    | _ => exact absurd (show false = true from fx) Bool.false_ne_true
  | int a =>
    obtain ⟨t', rfl⟩ := ry
    cases x with
    | non => cases rx; exact SeqAt.EqAt.int_none a t'
    | bl b => cases rx; exact SeqAt.EqAt.int_bool a t' b
    | int b => obtain ⟨t, rfl⟩ := rx; exact SeqAt.EqAt.int_int a t' b t
    | str b => obtain ⟨t, rfl⟩ := rx; exact SeqAt.EqAt.int_str a t' b t
    | _ => exact absurd (show false = true from fx) Bool.false_ne_true
  | str a =>
    obtain ⟨t', rfl⟩ := ry
    cases x with
    | non => cases rx; exact SeqAt.EqAt.str_none a t'
    | bl b => cases rx; exact SeqAt.EqAt.str_bool a t' b
    | int b => obtain ⟨t, rfl⟩ := rx; exact SeqAt.EqAt.str_int a t' b t
    | str b => obtain ⟨t, rfl⟩ := rx; exact SeqAt.EqAt.str_str a t' b t
    | _ => exact absurd (show false = true from fx) Bool.false_ne_true
  | _ => exact absurd (show false = true from fy) Bool.false_ne_true
/-- the items' answers, read off the values (a value's own answer does not lean on its token) -/
noncomputable def eqU (x : V) (u : Value) : Bool := match u with
  | .none => eqV .non x
  | .bool b => eqV (.bl b) x
  | .int i _ => eqV (.int i) x
  | .str z _ => eqV (.str z) x
  | _ => false
theorem eqU_of {x y : V} {u : Value} (r : RelV y u) (f : flatV y = true) : eqU x u = eqV y x := by
  cases y with
  | non => cases r; rfl
  | bl b => cases r; rfl
  | int i => obtain ⟨t, rfl⟩ := r; rfl
  | str z => obtain ⟨t, rfl⟩ := r; rfl
  | _ => exact absurd (show false = true from f) Bool.false_ne_true
theorem any_eqU {x : V} : ∀ {xs : List V} {us : List Value}, Vals xs us → xs.all flatV = true → us.any (eqU x) = xs.any fun y => eqV y x
  | _, _, .nil, _ => rfl
  | y :: xs, u :: us, .cons r t, f => by
    rw [List.all_cons, Bool.and_eq_true] at f
    rw [List.any_cons, List.any_cons, eqU_of r f.1, any_eqU t f.2]
theorem mem_eqAt {A : Around} {s : Shared} {x : V} {v : Value} (rx : RelV x v) (fx : flatV x = true) : ∀ {xs : List V} {us : List Value}, Vals xs us → xs.all flatV = true → ∀ u ∈ us, SeqAt.EqAt A s u v (eqU x u)
  | _, _, .nil, _ => fun u hu => by cases hu
  | y :: xs, u :: us, .cons r t, f => fun u' hu => by
    rw [List.all_cons, Bool.and_eq_true] at f
    rcases List.mem_cons.mp hu with rfl | hu
    · rw [eqU_of r f.1]; exact eqAt_V r rx f.1 fx
    · exact mem_eqAt rx fx t f.2 u' hu
noncomputable def inV (x : V) (xs : List V) : Bool := xs.any fun y => eqV y x
/-- x in a list or tuple of flat items -/
noncomputable def rIn (K : PySem.W.Frag) (neg : Bool) : R2 := fun x y H Q => ∃ p xs, y = .ref p ∧ (SqL K H p xs ∨ SqT K H p xs) ∧ flatV x = true ∧ xs.all flatV = true ∧ Q (.bl (if neg then !inV x xs else inV x xs)) H
theorem op_in_seq : OpR X (compareOp .In) (rIn X.K false) := by
  intro pins s σ H x y v u Q I rx ry h
  obtain ⟨p, xs, rfl, hq, fx, fs, q⟩ := h
  cases ry
  rcases hq with hq | hq
  · obtain ⟨its, r, pl, hz⟩ := I.list hq
    refine SeqAt.in_listAt (eqU x) pl.isList (fun w hw => mem_eqAt rx fx r fs w (by simpa using hw)) ⟨.bl _, H, I, rfl, ?_⟩
    rw [show its.toArray.any (eqU x) = its.any (eqU x) by simp, any_eqU r fs]
    exact q
  · obtain ⟨its, r, pl, hz⟩ := I.tuple hq
    refine SeqAt.in_tupleAt (eqU x) pl (fun w hw => mem_eqAt rx fx r fs w (by simpa using hw)) ⟨.bl _, H, I, rfl, ?_⟩
    rw [show its.toArray.any (eqU x) = its.any (eqU x) by simp, any_eqU r fs]
    exact q
theorem op_notIn_seq : OpR X (compareOp .NotIn) (rIn X.K true) := by
  intro pins s σ H x y v u Q I rx ry h
  obtain ⟨p, xs, rfl, hq, fx, fs, q⟩ := h
  cases ry
  rcases hq with hq | hq
  · obtain ⟨its, r, pl, hz⟩ := I.list hq
    refine SeqAt.notIn_listAt (eqU x) pl.isList (fun w hw => mem_eqAt rx fx r fs w (by simpa using hw)) ⟨.bl _, H, I, rfl, ?_⟩
    rw [show its.toArray.any (eqU x) = its.any (eqU x) by simp, any_eqU r fs]
    exact q
  · obtain ⟨its, r, pl, hz⟩ := I.tuple hq
    refine SeqAt.notIn_tupleAt (eqU x) pl (fun w hw => mem_eqAt rx fx r fs w (by simpa using hw)) ⟨.bl _, H, I, rfl, ?_⟩
    rw [show its.toArray.any (eqU x) = its.any (eqU x) by simp, any_eqU r fs]
    exact q
theorem op_notIn_str : OpR X (compareOp .NotIn) (fun x y H Q => ∃ i j, x = .str i ∧ y = .str j ∧ Q (.bl (!(!(Builtin.Str.occurrences j i 0 j.length 1).isEmpty))) H) := by
  intro pins s σ H x y v u Q I rx ry h
  obtain ⟨i, j, rfl, rfl, q⟩ := h
  obtain ⟨t, rfl⟩ := rx
  obtain ⟨t', rfl⟩ := ry
  exact notIn_str ⟨.bl _, H, I, rfl, q⟩

/-! ### len, list(x), tuple(x) of any list or tuple that is read -/
theorem call_len_seq : CallR X (.builtin "len") (fun xs H Q => ∃ p ys, xs = [.ref p] ∧ (SqL X.K H p ys ∨ SqT X.K H p ys) ∧ Q (.int ys.length) H) := by
  intro pins s σ H xs us Q I r h
  obtain ⟨p, ys, rfl, hq, q⟩ := h
  obtain ⟨u, rfl, rx⟩ := vals1 r
  cases rx
  have hn := line63
  rcases hq with hq | hq
  · obtain ⟨its, r', pl, hz⟩ := I.list hq
    have hlen := r'.length
    exact Calls.call_len_list pl.isList (by simp only [List.size_toArray] <;> omega) ⟨.int ys.length, H, I.tok _, ⟨s.toks + 1, by rw [List.size_toArray, hlen]⟩, q⟩
  · obtain ⟨its, r', pl, hz⟩ := I.tuple hq
    have hlen := r'.length
    exact len_tuple pl (by simp only [List.size_toArray] <;> omega) ⟨.int ys.length, H, I.tok _, ⟨s.toks + 1, by rw [List.size_toArray, hlen]⟩, q⟩
theorem call_len_str : CallR X (.builtin "len") (fun xs H Q => ∃ z, xs = [.str z] ∧ z.length ≤ sizeLine ∧ Q (.int z.length) H) := by
  intro pins s σ H xs us Q I r h
  obtain ⟨z, rfl, hz, q⟩ := h
  obtain ⟨u, rfl, t, rfl⟩ := vals1 r
  have hn := line63
  exact len_str (by omega) ⟨.int z.length, H, I.tok _, ⟨_, rfl⟩, q⟩
theorem CallR.or {f : Value} {r r' : List V → Hp → VK → Prop} (h : CallR X f r) (h' : CallR X f r') : CallR X f (fun xs H Q => r xs H Q ∨ r' xs H Q) := by
  intro pins s σ H xs us Q I rs q
  rcases q with q | q
  · exact h pins s σ H xs us Q I rs q
  · exact h' pins s σ H xs us Q I rs q
theorem call_tuple_of : CallR X (.type "tuple") (fun xs H Q => ∃ p ys, xs = [.ref p] ∧ ((SqL X.K H p ys ∧ ∀ l, H l = none → Q (.ref l) (upd H l (.tup ys))) ∨ (SqT X.K H p ys ∧ Q (.ref p) H))) := by
  intro pins s σ H xs us Q I r h
  obtain ⟨p, ys, rfl, h⟩ := h
  obtain ⟨u, rfl, rx⟩ := vals1 r
  cases rx
  rcases h with ⟨hq, q⟩ | ⟨hq, q⟩
  · obtain ⟨its, r', pl, hz⟩ := I.list hq
    have hlen := r'.length
    refine call_tuple_list pl.isList (fun h' kp => ?_) (by simp only [List.size_toArray] <;> omega)
    have I1 : Inv X pins σ H { s with heap := h' } := I.kept (t' := s.toks) kp
    have I2 : Inv X pins σ (upd H h'.objs.size (.tup ys)) { s with heap := h'.push { cls := .type "tuple", data := .seq its.toArray } } :=
      I1.laid (t' := s.toks) (fun b o e => Heap.get?_push_of_some _ e) (Nat.le_refl _) (show ObjOk X.prog X.w _ _ _ (.tup ys) from ⟨hz, its, r', IsTup.new _ _⟩)
    exact ⟨.ref h'.objs.size, _, I2, rfl, q _ (I1.hok.fresh (Nat.le_refl _))⟩
  · obtain ⟨its, r', pl, hz⟩ := I.tuple hq
    exact call_tuple_same pl ⟨.ref p, H, I, rfl, q⟩

/-! ### the call of a builtin's method: o.m(..) -/
/-- the value is of that builtin type -/
noncomputable def tyV (K : PySem.W.Frag) (T : String) (x : V) (H : Hp) : Prop := match x with
  | .str _ => T = "str"
  | .int _ => T = "int"
  | .ref p => (T = "list" ∧ ∃ xs, SqL K H p xs) ∨ (T = "tuple" ∧ ∃ o, K.lookup p = some o ∧ o.cls = .type "tuple" ∧ o.dict = none) ∨
      (T = "dict" ∧ ((∃ kvs, H p = some (.dK kvs)) ∨ ∃ kvs, H p = some (.dT kvs))) ∨ (T = "set" ∧ ∃ S n, H p = some (.set S n))
  | _ => False
theorem tyV_is {pins : List (Addr × Obj)} {σ : St} {H : Hp} {s : Shared} {T : String} {x : V} {v : Value} (I : Inv X pins σ H s) (r : RelV x v) (ty : tyV X.K T x H) :
    s.TypeIs v T ∧ ∀ a, v = .ref a → ∃ ob, s.heap.get? a = some ob ∧ ob.dict = none := by
  cases x with
  | str z =>
    obtain ⟨t, rfl⟩ := r
    cases (show T = "str" from ty)
    exact ⟨typeIs_str s z t, fun _ e => nomatch e⟩
  | int i =>
    obtain ⟨t, rfl⟩ := r
    cases (show T = "int" from ty)
    exact ⟨typeIs_int s i t, fun _ e => nomatch e⟩
  | ref p =>
    cases r
    rcases ty with ⟨rfl, xs, hq⟩ | ⟨rfl, o, hk, hc, hd⟩ | ⟨rfl, hk⟩ | ⟨rfl, S, n, hk⟩
    · obtain ⟨its, _, pl, _⟩ := I.list hq
      refine ⟨pl.isList.typeIs, fun a e => ?_⟩
      cases e
      obtain ⟨o, n, e, c, hd, _⟩ := pl
      exact ⟨o, e, hd⟩
    · refine ⟨⟨o, I.kIn p o hk, hc⟩, fun a e => ?_⟩
      cases e
      exact ⟨o, I.kIn _ o hk, hd⟩
    · have z : ∃ o, s.heap.get? p = some o ∧ o.ExactDict := by
        rcases hk with ⟨kvs, hk⟩ | ⟨kvs, hk⟩
        · obtain ⟨_, _, _, _, o, _, _, e, ex, _⟩ := I.hok p _ hk
          exact ⟨o, e, ex⟩
        · obtain ⟨_, _, _, _, o, _, _, e, ex, _⟩ := I.hok p _ hk
          exact ⟨o, e, ex⟩
      obtain ⟨o, e, ex⟩ := z
      refine ⟨⟨o, e, ex.1⟩, fun a e2 => ?_⟩
      cases e2
      exact ⟨o, e, ex.2.1⟩
    · obtain ⟨o, _, _, _, e, ex, _⟩ := I.hok p _ hk
      refine ⟨⟨o, e, ex.1⟩, fun a e2 => ?_⟩
      cases e2
      exact ⟨o, e, ex.2.1⟩
  | _ => exact False.elim ty
noncomputable def tBM0 (K : PySem.W.Frag) (T : String) (r : V → List V → Hp → VK → Prop) (to : TE) : TE := fun σ H Q => to σ H fun x H1 => tyV K T x H1 ∧ r x [] H1 Q
noncomputable def tBM (K : PySem.W.Frag) (T : String) (r : V → List V → Hp → VK → Prop) (to : TE) (t : TA) : TE := fun σ H Q => to σ H fun x H1 => tyV K T x H1 ∧ t σ H1 fun xs H2 => r x xs H2 Q
variable {o e : Expr} {es : List Expr} {to : TE} {t : TA} {name : Str} {apos cpos : Pos} {T id : String} {r : V → List V → Hp → VK → Prop}
theorem pe_bm0 (pa : PlainAttrs T) (slot : Slot T name id) (hty : typeOf (.builtin id) = pure (.type "method_descriptor")) (hm : MtR X id r) (ho : PE X o to)
    (hbase : attributeBase o name X.env (eval o X.env) = eval o X.env := by rfl) (hline : (apos.endLine == cpos.line) = true := by rfl) : PE X (.Call (.Attribute o name apos) [] [] cpos) (tBM0 X.K T r to) := by
  intro pins s σ H Q I h
  refine wpAny_Call_method0_late hbase hline (thn (ho pins s σ H _ I h) fun v s1 ⟨x, H1, I1, r1, ty, q1⟩ => ?_)
  obtain ⟨h1, h2⟩ := tyV_is I1 r1 ty
  exact ⟨T, id, pa, slot, hty, h1, h2, Calls.callWith_builtin rfl (PySem.evalArgs_none (hm pins s1 σ H1 x [] v [] Q I1 r1 .nil q1))⟩
theorem pe_bm (pa : PlainAttrs T) (slot : Slot T name id) (hty : typeOf (.builtin id) = pure (.type "method_descriptor")) (hm : MtR X id r) (ho : PE X o to) (ha : PA X (e :: es) t)
    (hbase : attributeBase o name X.env (eval o X.env) = eval o X.env := by rfl)
    (hfew : ((backTo cpos (starEach (e :: es) X.env)).all (fun x => !x.1) && (backToKw cpos (keywordEach [] X.env)).all (fun x => x.1.isSome)
      && decide ((e :: es).length + ([] : List Keyword).length + (if ([] : List Keyword).isEmpty then 0 else 1) < 30)) = true := by rfl)
    (hline : (apos.endLine == cpos.line) = true := by rfl) (hs : starEach (e :: es) X.env = (false, eval e X.env) :: starEach es X.env := by rfl) (hplain : (backTo cpos (starEach es X.env)).any (·.1) = false := by rfl) :
    PE X (.Call (.Attribute o name apos) (e :: es) [] cpos) (tBM X.K T r to t) := by
  intro pins s σ H Q I h
  refine wpAny_Call_method_late hbase hfew hline rfl (thn (ho pins s σ H _ I h) fun v s1 ⟨x, H1, I1, r1, ty, q1⟩ => ?_)
  obtain ⟨h1, h2⟩ := tyV_is I1 r1 ty
  refine ⟨T, id, pa, slot, hty, h1, h2, ?_⟩
  have hA := ha cpos pins s1 σ H1 _ I1 q1
  rw [hs] at hA ⊢
  refine Calls.callWith_builtin (by show (false || (backTo cpos (starEach es X.env)).any (·.1)) = false; rw [hplain] <;> rfl) (Calls.evalArgs_plain ?_)
  exact thn hA fun us s2 ⟨vs, H2, I2, r2, q2⟩ => hm pins s2 σ H2 x vs v us Q I2 r1 r2 q2
/- xs.append(e), list.index on a module's tuple .. are MtR facts of 06m -/
end
end L2

namespace L2
open PySem PySem.Spec PyProof.Rows

noncomputable def MtM (X : Cx) (id : String) (r : V → List V → Hp → VK → Prop) : Prop :=
  ∀ (pins : List (Addr × Obj)) (s : Shared) (σ : St) (H : Hp) (x : V) (xs : List V) (v : Value) (us : List Value) (Q : VK), Inv X pins σ H s → RelV x v → Vals xs us → r x xs H Q →
    wpAny (model X.prog X.w) X.A (call (.builtin id) (v :: us)) (EP X pins σ Q) X.xe s

/-! ### lists of values -/
theorem Vals.one : ∀ {x : V} {us : List Value}, Vals [x] us → ∃ u, us = [u] ∧ RelV x u
  | _, _, .cons r .nil => ⟨_, rfl, r⟩
theorem Vals.rep {xs : List V} {us : List Value} (h : Vals xs us) : ∀ k : Nat, Vals (List.replicate k xs).flatten (List.replicate k us).flatten
  | 0 => .nil
  | k + 1 => by
    rw [List.replicate_succ, List.replicate_succ, List.flatten_cons, List.flatten_cons]
    exact Vals.append h (Vals.rep h k)
theorem foldl_rep (its : List Value) : ∀ (k : Nat) (acc : List Value),
    List.foldl (fun x1 x2 => x1 ++ x2) acc.toArray (List.replicate k its.toArray) = (acc ++ (List.replicate k its).flatten).toArray
  | 0, acc => by simp
  | k + 1, acc => by
    have e : acc.toArray ++ its.toArray = (acc ++ its).toArray := by simp
    have e2 : (acc ++ its) ++ (List.replicate k its).flatten = acc ++ (List.replicate (k + 1) its).flatten := by
      rw [List.replicate_succ, List.flatten_cons, List.append_assoc]
    rw [← e2, ← foldl_rep its k (acc ++ its), ← e, List.replicate_succ, List.foldl_cons]

section
variable {X : Cx} {pins : List (Addr × Obj)} {σ : St} {H : Hp} {s : Shared} {l b : Addr} {xs ys zs : List V}

/-! ### the two steps: a tracked list is rewritten, a new list is laid -/
theorem Inv.lset {its its' : List Value} {n : Nat} {f : Array Value → Array Value} {t' : Nat} (I : Inv X pins σ H s) (hH : H l = some (.lst xs))
    (e : s.heap.get? l = some { cls := .type "list", data := .seq its.toArray n }) (hf : f its.toArray = its'.toArray) (hv : Vals ys its') (hz : ys.length ≤ sizeLine) :
    Inv X pins σ (upd H l (.lst ys)) { s with heap := s.heap.update l (Obj.mapSeq f), toks := t' } := by
  have q := PySem.IsL.update e f
  rw [hf] at q
  refine I.write (x := l) (e := l) (by rw [hH]; exact trivial) (.inl rfl) (fun b' u hb hu => (Heap.get?_update_other s.heap (Obj.mapSeq f) (Ne.symm hb)).trans hu) ⟨_, q⟩ ?_
  exact ⟨hz, its', _, hv, q⟩
theorem Inv.lnew {its : List Value} {t' : Nat} (I : Inv X pins σ H s) (hv : Vals ys its) (hz : ys.length ≤ sizeLine) :
    Inv X pins σ (upd H s.heap.objs.size (.lst ys)) { s with heap := s.heap.push { cls := .type "list", data := .seq its.toArray }, toks := t' } :=
  I.laid (fun _ _ q => Heap.get?_push_of_some _ q) (Nat.le_refl _) ⟨hz, its, 0, hv, Heap.get?_push_size _ rfl⟩
theorem Inv.fresh (I : Inv X pins σ H s) : H s.heap.objs.size = none := I.hok.fresh (Nat.le_refl _)
theorem Inv.lstM (I : Inv X pins σ H s) (hH : H l = some (.lst xs)) : xs.length ≤ sizeLine ∧ ∃ (its : List Value) (n : Nat), Vals xs its ∧ xs.length = its.length ∧ s.heap.get? l = some { cls := .type "list", data := .seq its.toArray n } := by
  obtain ⟨z, its, n, r, e⟩ := I.hok l _ hH
  exact ⟨z, its, n, r, r.length, e⟩

theorem notLongL {n : Nat} (h : n ≤ sizeLine) : Builtin.List.listTooLong n = false := by
  unfold Builtin.List.listTooLong
  exact decide_eq_false (by omega)
end

section
variable {X : Cx}

/-! ### methods -/
noncomputable def rAppend : V → List V → Hp → VK → Prop := fun x vs H Q => ∃ l xs y, x = .ref l ∧ vs = [y] ∧ H l = some (.lst xs) ∧ xs.length < sizeLine ∧ Q .non (upd H l (.lst (xs ++ [y])))
theorem mt_append : MtM X "list.append" rAppend := by
  intro pins s σ H x vs v us Q I rx rv h
  obtain ⟨l, xs, y, rfl, rfl, hH, hz, q⟩ := h
  cases rx
  obtain ⟨u, rfl, ru⟩ := rv.one
  obtain ⟨z, its, n, r, hl, e⟩ := I.lstM hH
  refine call_meets F.slot_list_append ⟨_, e, rfl⟩ F.entry_list_append (F.args_list_append_2 _ _) (PySem.list_append l its.toArray n u (by rw [List.size_toArray]; omega)) ⟨e, ?_⟩
  refine ⟨.non, _, I.lset (its' := its ++ [u]) hH e (by simp) (r.append (.cons ru .nil)) ?_, rfl, q⟩
  rw [List.length_append, List.length_singleton]
  omega

noncomputable def rExtend : V → List V → Hp → VK → Prop := fun x vs H Q => ∃ l b xs zs, x = .ref l ∧ vs = [.ref b] ∧ H l = some (.lst xs) ∧ H b = some (.lst zs) ∧ xs.length + zs.length ≤ sizeLine ∧ Q .non (upd H l (.lst (xs ++ zs)))

noncomputable def rPop : V → List V → Hp → VK → Prop := fun x vs H Q => ∃ l xs y, x = .ref l ∧ vs = [] ∧ H l = some (.lst xs) ∧ xs[xs.length - 1]? = some y ∧ Q y (upd H l (.lst xs.dropLast))

noncomputable def rPopAt : V → List V → Hp → VK → Prop := fun x vs H Q => ∃ l xs i k y, x = .ref l ∧ vs = [.int i] ∧ H l = some (.lst xs) ∧ -(2 ^ 63) ≤ i ∧ i < 2 ^ 63 ∧ seqIndex? i xs.length = some k ∧ xs[k]? = some y ∧ Q y (upd H l (.lst (xs.eraseIdx k)))

noncomputable def rReverse : V → List V → Hp → VK → Prop := fun x vs H Q => ∃ l xs, x = .ref l ∧ vs = [] ∧ H l = some (.lst xs) ∧ Q .non (upd H l (.lst xs.reverse))

noncomputable def rClear : V → List V → Hp → VK → Prop := fun x vs H Q => ∃ l xs, x = .ref l ∧ vs = [] ∧ H l = some (.lst xs) ∧ Q .non (upd H l (.lst []))

/-! ### list + list, list += list, list * int -/
noncomputable def rCat : R2 := fun x y H Q => ∃ l b xs zs, x = .ref l ∧ y = .ref b ∧ H l = some (.lst xs) ∧ H b = some (.lst zs) ∧ xs.length + zs.length ≤ sizeLine ∧ ∀ p, H p = none → Q (.ref p) (upd H p (.lst (xs ++ zs)))
theorem op_cat : OpR X (binaryOp .Add) rCat := by
  intro pins s σ H x y v u Q I rx ry h
  obtain ⟨l, b, xs, zs, rfl, rfl, hH, hB, hz, q⟩ := h
  cases rx
  cases ry
  obtain ⟨z, its, n, r, hl, e⟩ := I.lstM hH
  obtain ⟨z2, its2, n2, r2, hl2, e2⟩ := I.lstM hB
  refine PySem.P.add_list e e2 ?_ (by rw [List.size_toArray, List.size_toArray]; omega)
  have ea : its.toArray ++ its2.toArray = (its ++ its2).toArray := by simp
  rw [ea]
  exact ⟨.ref _, _, I.lnew (t' := s.toks) (r.append r2) (by rw [List.length_append]; omega), rfl, q _ I.fresh⟩
/-- a list times an int (a negative one is nothing) -/
noncomputable def rRep : R2 := fun x y H Q => ∃ l k xs, x = .ref l ∧ y = .int k ∧ H l = some (.lst xs) ∧ -(2 ^ 63) ≤ k ∧ k < 2 ^ 63 ∧ xs.length * k.toNat ≤ sizeLine ∧
  ∀ p, H p = none → Q (.ref p) (upd H p (.lst (List.replicate k.toNat xs).flatten))
theorem len_rep {α : Type} (xs : List α) (k : Nat) : (List.replicate k xs).flatten.length = k * xs.length := by
  induction k with
  | zero => simp
  | succ k ih => rw [List.replicate_succ, List.flatten_cons, List.length_append, ih, Nat.succ_mul, Nat.add_comm]
theorem op_rep : OpR X (binaryOp .Mult) rRep := by
  intro pins s σ H x y v u Q I rx ry h
  obtain ⟨l, k, xs, rfl, rfl, hH, h1, h2, hz, q⟩ := h
  cases rx
  obtain ⟨t, rfl⟩ := ry
  obtain ⟨z, its, n, r, hl, e⟩ := I.lstM hH
  have hlen : its.toArray.size * k.toNat ≤ sizeLine := by rw [List.size_toArray, ← hl]; exact hz
  have hcap : ¬ its.toArray.size * k.toNat > (2 ^ 63 - 1) / 8 := by
    have : (sizeLine : Nat) ≤ (2 ^ 63 - 1) / 8 := by decide
    omega
  have hfit : ¬ (!Builtin.List.listFitsIndex k) = true := by
    rw [fitsIndex_both h1 h2]
    exact Bool.false_ne_true
  have hlong : ¬ Builtin.List.listTooLong (its.toArray.size * k.toNat) = true := by
    rw [notLongL hlen]
    exact Bool.false_ne_true
  have hnew : List.foldl (fun x1 x2 => x1 ++ x2) #[] (List.replicate (if its.toArray.isEmpty = true then 0 else k.toNat) its.toArray) = (List.replicate k.toNat its).flatten.toArray := by
    have f0 : ∀ m : Nat, List.foldl (fun x1 x2 => x1 ++ x2) #[] (List.replicate m its.toArray) = (List.replicate m its).flatten.toArray := fun m => by
      have := foldl_rep its m []
      rw [List.nil_append] at this
      exact this
    rw [f0]
    cases its with
    | nil => simp
    | cons a r' => rw [if_neg (by simp)]
  refine wpAny_binaryOp_repeat_ref (T := "list") (U := "int") (by decide) ⟨_, e, rfl⟩ (fun s' => typeIs_int s' k t) noFill_list_mul F.fills_int_mul F.slot_int_rmul repeat_list F.slot_int_index.lookup
    (call_meets F.slot_int_rmul (typeIs_int s k t) F.entry_int_rmul (F.args_int_rmul_2 _ _) (int___rmul___int_list k t l its.toArray n)
      ⟨e, rfl, ⟨_, e, rfl⟩, call_meets F.slot_list_mul ⟨_, e, rfl⟩ F.entry_list_mul (F.args_list_mul_2 _ _) (AutoListH.list___mul___list_int_3 l its.toArray n k t hfit hcap hlong) ⟨e, ?_⟩⟩)
  rw [hnew]
  exact ⟨.ref _, _, I.lnew (t' := s.toks) (r.rep k.toNat) (by rw [len_rep, Nat.mul_comm]; exact hz), rfl, q _ I.fresh⟩

/-! ### del xs[i] -/
end

/-! ### xs[a:b] = ys -/
section
variable {prog : Program} {w : World} {A : Around} {E : Value → Shared → Prop} {s : Shared}
end

section
variable {X : Cx}
end
end L2

namespace L2
open PySem PySem.Spec PyProof.Rows

/-! ### lists of pairs as tables -/
section
variable {κ : Type} [DecidableEq κ]
noncomputable def valV (kvs : List (κ × V)) (k : κ) : Option V := (kvs.find? fun kv => decide (kv.1 = k)).map (·.2)
/-- in its place, or at the end -/
noncomputable def putK (kvs : List (κ × V)) (k : κ) (v : V) : List (κ × V) :=
  if (kvs.any fun kv => decide (kv.1 = k)) = true then kvs.map (fun kv => if kv.1 = k then (kv.1, v) else kv) else kvs ++ [(k, v)]
noncomputable def dropK (kvs : List (κ × V)) (k : κ) : List (κ × V) := kvs.filter fun kv => decide (kv.1 ≠ k)

theorem valV_pos {p : κ × V} {r : List (κ × V)} {k : κ} (e : p.1 = k) : valV (p :: r) k = some p.2 := by simp [valV, List.find?_cons, e]
theorem valV_neg {p : κ × V} {r : List (κ × V)} {k : κ} (e : ¬ p.1 = k) : valV (p :: r) k = valV r k := by simp [valV, List.find?_cons, e]

theorem RelO.isSome_eq {o : Option V} {u : Option Value} (r : RelO o u) : o.isSome = u.isSome := by
  cases o with
  | none => cases u with
    | none => rfl
    | some _ => exact (show False from r).elim
  | some _ => cases u with
    | none => exact (show False from r).elim
    | some _ => rfl

/-- raw tables of the same keys -/
theorem KV.val {kvs : List (κ × V)} {vs : List (κ × Value)} (r : KV kvs vs) (k : κ) : RelO (valV kvs k) (valueAt vs k) := by
  unfold KV at r
  induction r with
  | nil => exact True.intro
  | @cons p q ps qs h t ih =>
    obtain ⟨h1, h2⟩ := h
    by_cases e : p.1 = k
    · have e' : q.1 = k := h1.symm.trans e
      have b : valueAt (q :: qs) k = some q.2 := by simp [valueAt, List.find?_cons, e']
      rw [valV_pos e, b]; exact h2
    · have e' : ¬ q.1 = k := fun z => e (h1.trans z)
      have b : valueAt (q :: qs) k = valueAt qs k := by simp [valueAt, List.find?_cons, e']
      rw [valV_neg e, b]; exact ih
theorem KV.length {kvs : List (κ × V)} {vs : List (κ × Value)} (r : KV kvs vs) : kvs.length = vs.length := Paired.length r
end


/-! ### a tracked dict, its keys ints and texts or tuples of these -/
theorem kV_is {P : Program} {w : World} {k : Key} {u : Value} (r : RelV (kV k) u) : (mixKind P w).is k u = true := by
  cases k with
  | inl i => obtain ⟨t, e⟩ := (show ∃ t, u = Value.int i t from r); subst e; exact mixKind_int P w i t
  | inr x => obtain ⟨t, e⟩ := (show ∃ t, u = Value.str x t from r); subst e; exact mixKind_str P w x t
theorem items_are {P : Program} {w : World} : ∀ {ks : List Key} {us : List Value}, Vals (ks.map kV) us → ItemsAre (mixKind P w) ks us
  | [], _, r => by rw [List.map_nil] at r; cases r; exact .nil
  | k :: ks, _, r => by
    rw [List.map_cons] at r
    cases r with
    | cons h t => exact .cons (kV_is h) (items_are t)

/-- raw entries of a dict with tuple keys -/
noncomputable abbrev KT (H : Hp) : List (List Key × V) → List (List Key × Addr × Value) → Prop := Paired fun p q => p.1 = q.1 ∧ H q.2.1 = some (.tup (p.1.map kV)) ∧ RelV p.2 q.2.2
theorem KT.val {H : Hp} {kvs : List (List Key × V)} {xs : List (List Key × Addr × Value)} (r : KT H kvs xs) (k : List Key) : RelO (valV kvs k) ((atKey xs k).map (·.2)) := by
  induction r with
  | nil => exact True.intro
  | @cons p q ps qs h t ih =>
    obtain ⟨h1, _, h2⟩ := h
    by_cases e : p.1 = k
    · have e' : q.1 = k := h1.symm.trans e
      have b : atKey (q :: qs) k = some q.2 := by simp [atKey, List.find?_cons, e']
      rw [valV_pos e, b]; exact h2
    · have e' : ¬ q.1 = k := fun z => e (h1.trans z)
      have b : atKey (q :: qs) k = atKey qs k := by simp [atKey, List.find?_cons, e']
      rw [valV_neg e, b]; exact ih

section
variable {P : Program} {w : World} {H : Hp} {h : Heap} {a : Addr}
theorem rd_of {u : HO} (ok : HOk P w H h) (e : Rd H a u) : ObjOk P w H h a u := e.ok ok
theorem dk_rd {kvs : List (Key × V)} (ok : HOk P w H h) (e : Rd H a (.dK kvs)) : kvs.length ≤ sizeLine ∧ (a == sysModules) = false ∧ ∃ vs, KV kvs vs ∧ h.DictOf (mixKind P w) a vs :=
  show ObjOk P w H h a (.dK kvs) from rd_of ok e
/-- a tracked tuple of ints and texts is a key -/
theorem key_of {ks : List Key} (ok : HOk P w H h) (e : H a = some (.tup (ks.map kV))) : (tupleKind (mixKind P w)).is h ks a := by
  obtain ⟨_, its, r, o, h1, h2, n, h3⟩ := (show ObjOk P w H h a (.tup (ks.map kV)) from ok a _ e)
  exact ⟨o, its.toArray, n, h1, h2, h3, by simpa using items_are r⟩
theorem dt_rd {kvs : List (List Key × V)} (ok : HOk P w H h) (e : Rd H a (.dT kvs)) : kvs.length ≤ sizeLine ∧ (a == sysModules) = false ∧
    ∃ xs, KT H kvs xs ∧ h.DictOfH (tupleKind (mixKind P w)) a xs := by
  obtain ⟨z, y, xs, r, o, es, ep, h1, h2, h3, h4, h5⟩ := (show ObjOk P w H h a (.dT kvs) from rd_of ok e)
  refine ⟨z, y, xs, r, o, es, ep, h1, h2, h3, h4, fun x hx => ?_, h5⟩
  have all : ∀ {l : List (List Key × V)} {m : List (List Key × Addr × Value)}, KT H l m → ∀ x ∈ m, (tupleKind (mixKind P w)).is h x.1 x.2.1 := by
    intro l m q
    induction q with
    | nil => intro x hx; exact nomatch hx
    | @cons p q ps qs hq t ih =>
      intro x hx
      rcases List.mem_cons.mp hx with e | hx
      · subst e
        exact key_of ok (by rw [← hq.1]; exact hq.2.1)
      · exact ih x hx
  exact all r x hx
end

/-- what the dict at a holds at the key y -/
noncomputable def DGet (H : Hp) (a : Addr) (y : V) (r : Option V) : Prop :=
  (∃ kvs k, Rd H a (.dK kvs) ∧ y = kV k ∧ r = valV kvs k) ∨ ∃ kvs k b, Rd H a (.dT kvs) ∧ y = .ref b ∧ H b = some (.tup (k.map kV)) ∧ r = valV kvs k
/-- the heap behind a[y] = v -/
noncomputable def DPut (H : Hp) (a : Addr) (y v : V) (H' : Hp) : Prop :=
  (∃ kvs k, H a = some (.dK kvs) ∧ y = kV k ∧ kvs.length < sizeLine ∧ H' = upd H a (.dK (putK kvs k v))) ∨
  ∃ kvs k b, H a = some (.dT kvs) ∧ y = .ref b ∧ H b = some (.tup (k.map kV)) ∧ kvs.length < sizeLine ∧ H' = upd H a (.dT (putK kvs k v))
theorem DGet.k {H : Hp} {a : Addr} {kvs : List (Key × V)} {k : Key} (e : H a = some (.dK kvs)) : DGet H a (kV k) (valV kvs k) := .inl ⟨kvs, k, .inl e, rfl, rfl⟩


section
variable {X : Cx} {pins : List (Addr × Obj)} {σ : St} {H : Hp} {s : Shared} {a : Addr} {y v : V} {u r : Value} {o : Option V} {A : Around} {E : Value → Shared → Prop}


/-- d[y], there -/
theorem d_getItem {Q : Value → Shared → Prop} (hu : A.units + 1 < cLine) (I : Inv X pins σ H s) (g : DGet H a y (some v)) (ry : RelV y u) (h : ∀ w' s', Inv X pins σ H s' → RelV v w' → Q w' s') :
    wpAny (model X.prog X.w) A (getItem (.ref a) u) Q E s := by
  rcases g with ⟨kvs, k, e, ey, l⟩ | ⟨kvs, k, b, e, ey, eb, l⟩
  · subst ey
    obtain ⟨z, hd, vs, rel, dd⟩ := dk_rd I.hok e
    obtain ⟨w', hw, rw'⟩ := RelO.some_of (v := v) (o := valueAt vs k) (by rw [l]; exact rel.val k)
    exact wpAny_getItem_of (kV_is ry) dd.mapOf hw (h w' _ (I.tok _) rw')
  · subst ey
    cases (show u = Value.ref b from ry)
    obtain ⟨z, hd, xs, rel, dd⟩ := dt_rd I.hok e
    obtain ⟨w', hw, rw'⟩ := RelO.some_of (v := v) (o := (atKey xs k).map (·.2)) (by rw [l]; exact rel.val k)
    obtain ⟨p, hp, hp2⟩ := Option.map_eq_some_iff.mp hw
    refine wpAny_getItem_heap (tupleKind_room_in1 hu) (key_of I.hok eb) dd hp ?_
    rw [hp2]
    exact h w' _ (I.tok _) rw'
/-- y in d -/
theorem d_in {Q : Value → Shared → Prop} (hu : A.units + 1 < cLine) (I : Inv X pins σ H s) (g : DGet H a y o) (ry : RelV y u) (h : ∀ s', Inv X pins σ H s' → Q (.bool o.isSome) s') :
    wpAny (model X.prog X.w) A (compareOp .In u (.ref a)) Q E s := by
  rcases g with ⟨kvs, k, e, ey, l⟩ | ⟨kvs, k, b, e, ey, eb, l⟩
  · subst ey
    obtain ⟨z, hd, vs, rel, dd⟩ := dk_rd I.hok e
    refine wpAny_in_of (kV_is ry) hd dd.mapOf ?_
    rw [← (rel.val k).isSome_eq, ← l]
    exact h _ (I.tok _)
  · subst ey
    cases (show u = Value.ref b from ry)
    obtain ⟨z, hd, xs, rel, dd⟩ := dt_rd I.hok e
    refine wpAny_in_heap (tupleKind_room_in1 hu) (key_of I.hok eb) hd dd ?_
    have q := (rel.val k).isSome_eq
    rw [Option.isSome_map] at q
    rw [← q, ← l]
    exact h _ (I.tok _)
theorem d_notIn {Q : Value → Shared → Prop} (hu : A.units + 1 < cLine) (I : Inv X pins σ H s) (g : DGet H a y o) (ry : RelV y u) (h : ∀ s', Inv X pins σ H s' → Q (.bool (!o.isSome)) s') :
    wpAny (model X.prog X.w) A (compareOp .NotIn u (.ref a)) Q E s := by
  rcases g with ⟨kvs, k, e, ey, l⟩ | ⟨kvs, k, b, e, ey, eb, l⟩
  · subst ey
    obtain ⟨z, hd, vs, rel, dd⟩ := dk_rd I.hok e
    refine wpAny_notIn_of (kV_is ry) hd dd.mapOf ?_
    rw [← (rel.val k).isSome_eq, ← l]
    exact h _ (I.tok _)
  · subst ey
    cases (show u = Value.ref b from ry)
    obtain ⟨z, hd, xs, rel, dd⟩ := dt_rd I.hok e
    refine wpAny_notIn_heap (tupleKind_room_in1 hu) (key_of I.hok eb) hd dd ?_
    have q := (rel.val k).isSome_eq
    rw [Option.isSome_map] at q
    rw [← q, ← l]
    exact h _ (I.tok _)
end

section
variable {X : Cx} {pins : List (Addr × Obj)} {σ : St} {H : Hp} {s : Shared} {a : Addr} {kvs : List (Key × V)} {k : Key} {u : Value} {A : Around} {E : Value → Shared → Prop}
/-- len(d) -/
theorem d_len {Q : Value → Shared → Prop} (I : Inv X pins σ H s) (e : Rd H a (.dK kvs)) (h : ∀ t s', Inv X pins σ H s' → Q (.int kvs.length t) s') : wpAny (model X.prog X.w) A (call (.builtin "len") [.ref a]) Q E s := by
  obtain ⟨z, hd, vs, rel, dd⟩ := dk_rd I.hok e
  refine call_len_dict hd dd (by rw [← rel.length]; rw [sizeLine_eq] at z; omega) ?_
  rw [← rel.length]
  exact h _ _ (I.tok _)
end


/-! ### readings and rules -/
/-- the element of a subscription, not a slice -/
noncomputable def NoSl (i : Expr) : Prop := ∀ ov iv, subscripted i false ov iv = operate [ov, iv] (getItem ov iv)

theorem dict_typeIs {X : Cx} {pins : List (Addr × Obj)} {σ : St} {H : Hp} {s : Shared} {a : Addr} {y : V} {o : Option V} (I : Inv X pins σ H s) (g : DGet H a y o) : s.TypeIs (.ref a) "dict" := by
  rcases g with ⟨kvs, k, e, _, _⟩ | ⟨kvs, k, b, e, _, _, _⟩
  · obtain ⟨_, _, vs, _, dd⟩ := dk_rd I.hok e
    exact dd.typeIs
  · obtain ⟨_, _, xs, _, dd⟩ := dt_rd I.hok e
    exact dd.typeIs

/-- d[y] -/
noncomputable def tDGet (td ty : TE) : TE := fun σ H Q => td σ H fun x H1 => ty σ H1 fun y H2 => ∃ a v, x = .ref a ∧ DGet H2 a y (some v) ∧ Q v H2
/-- y in d, y not in d -/
noncomputable def tDIn (ty td : TE) : TE := fun σ H Q => ty σ H fun y H1 => td σ H1 fun x H2 => ∃ a o, x = .ref a ∧ DGet H2 a y o ∧ Q (.bl o.isSome) H2
noncomputable def tDNotIn (ty td : TE) : TE := fun σ H Q => ty σ H fun y H1 => td σ H1 fun x H2 => ∃ a o, x = .ref a ∧ DGet H2 a y o ∧ Q (.bl (!o.isSome)) H2
/-- d[y] = v -/
noncomputable def sDPut (td ty tv : TE) : TS := fun D σ H => tv σ H fun v H1 => td σ H1 fun x H2 => ty σ H2 fun y H3 => ∃ a H4, x = .ref a ∧ DPut H3 a y v H4 ∧ D.nx σ H4
/-- d[y] op= v -/
noncomputable def sDAug (td ty tv : TE) (rd : V → V → Hp → VK → Prop) : TS := fun D σ H => td σ H fun x H1 => ty σ H1 fun y H2 => ∃ a v, x = .ref a ∧ DGet H2 a y (some v) ∧
  tv σ H2 fun y2 H3 => rd v y2 H3 fun z H4 => ∃ H5, DPut H4 a y z H5 ∧ D.nx σ H5
/-- del d[y] -/
noncomputable def sDDel (td ty : TE) : TS := fun D σ H => td σ H fun x H1 => ty σ H1 fun y H2 => ∃ a kvs k, x = .ref a ∧ H2 a = some (.dK kvs) ∧ y = kV k ∧ (valV kvs k).isSome = true ∧ D.nx σ (upd H2 a (.dK (dropK kvs k)))

section
variable {X : Cx} {o i e value : Expr} {pos pos' tpos : Pos} {td ty tv : TE}
end


/-! ### displays -/
/-- {}, to be a dict of the kind that is wanted -/
noncomputable def tDNewK : TE := fun _ H Q => ∀ p, H p = none → Q (.ref p) (upd H p (.dK []))
noncomputable def tDNewT : TE := fun _ H Q => ∀ p, H p = none → Q (.ref p) (upd H p (.dT []))
section
variable {X : Cx} {pos : Pos}
end

/-- the pairs of a display, from the left -/
noncomputable def tPairs : List (TE × TE) → St → Hp → (List (V × V) → Hp → Prop) → Prop
  | [], _, H, Q => Q [] H
  | (tk, tv) :: r, σ, H, Q => tk σ H fun x H1 => tv σ H1 fun y H2 => tPairs r σ H2 fun ps H3 => Q ((x, y) :: ps) H3
noncomputable abbrev VV : List (V × V) → List (Value × Value) → Prop := Paired fun p q => RelV p.1 q.1 ∧ RelV p.2 q.2
noncomputable def PPs (X : Cx) (pos : Pos) (keys : List (Option Expr)) (values : List Expr) (trs : List (TE × TE)) : Prop :=
  ∀ (pins : List (Addr × Obj)) (s : Shared) (σ : St) (H : Hp) (Q : List (V × V) → Hp → Prop), Inv X pins σ H s → tPairs trs σ H Q →
    wpAny (model X.prog X.w) X.A (evalPairs (pairTrees keys values X.env pos)) (fun vs s' => ∃ ps H', Inv X pins σ H' s' ∧ VV ps vs ∧ Q ps H') X.xe s

noncomputable def mergeK (kvs more : List (Key × V)) : List (Key × V) := more.foldl (fun acc kv => putK acc kv.1 kv.2) kvs
/-- {k: v, ..} with keys ints and texts; the new dict stands empty while the pairs are made -/
noncomputable def tDisp (trs : List (TE × TE)) : TE := fun σ H Q => ∀ p, H p = none → tPairs trs σ (upd H p (.dK [])) fun ps H2 => H2 p = some (.dK []) ∧ ∃ kvs : List (Key × V), ps = kvs.map (fun kv => (kV kv.1, kv.2)) ∧ kvs.length ≤ 15 ∧ Q (.ref p) (upd H2 p (.dK (mergeK [] kvs)))


/-! ### methods -/
/-- a method call o.m(e) of a built-in, with one argument: what must be seen of the text -/
structure M1 (X : Cx) (o : Expr) (m : Str) (apos : Pos) (e : Expr) (cpos : Pos) : Prop where
  base : attributeBase o m X.env (eval o X.env) = eval o X.env
  few : ((backTo cpos (starEach [e] X.env)).all (fun x => !x.1) && (backToKw cpos (keywordEach [] X.env)).all (fun x => x.1.isSome)
    && decide (([e] : List Expr).length + ([] : List Keyword).length + (if ([] : List Keyword).isEmpty then 0 else 1) < 30)) = true
  line : (apos.endLine == cpos.line) = true
  trees : backTo cpos (starEach [e] X.env) = [(false, eval e X.env)]
structure M2 (X : Cx) (o : Expr) (m : Str) (apos : Pos) (e f : Expr) (cpos : Pos) : Prop where
  base : attributeBase o m X.env (eval o X.env) = eval o X.env
  few : ((backTo cpos (starEach [e, f] X.env)).all (fun x => !x.1) && (backToKw cpos (keywordEach [] X.env)).all (fun x => x.1.isSome)
    && decide (([e, f] : List Expr).length + ([] : List Keyword).length + (if ([] : List Keyword).isEmpty then 0 else 1) < 30)) = true
  line : (apos.endLine == cpos.line) = true
  trees : backTo cpos (starEach [e, f] X.env) = [(false, eval e X.env), (false, eval f X.env)]

/-- a is a dict, whatever its keys -/
noncomputable def IsD (H : Hp) (a : Addr) : Prop := (∃ kvs, Rd H a (.dK kvs)) ∨ ∃ kvs, Rd H a (.dT kvs)

section
variable {X : Cx} {pins : List (Addr × Obj)} {σ : St} {H : Hp} {s : Shared} {a : Addr} {y d : V} {u r : Value} {o : Option V} {A : Around} {E : Value → Shared → Prop}
end

noncomputable def tDGet1 (td ty : TE) : TE := fun σ H Q => td σ H fun x H1 => ∃ a, x = .ref a ∧ IsD H1 a ∧ ty σ H1 fun y H2 => ∃ o, DGet H2 a y o ∧ Q (o.getD .non) H2
noncomputable def tDGet2 (td ty tx : TE) : TE := fun σ H Q => td σ H fun x H1 => ∃ a, x = .ref a ∧ IsD H1 a ∧ ty σ H1 fun y H2 => tx σ H2 fun z H3 => ∃ o, DGet H3 a y o ∧ Q (o.getD z) H3
/-- d.pop(k): there; d.pop(k, x): there or not -/
noncomputable def tDPop1 (td ty : TE) : TE := fun σ H Q => td σ H fun x H1 => ∃ a, x = .ref a ∧ IsD H1 a ∧ ty σ H1 fun y H2 => ∃ kvs k v, H2 a = some (.dK kvs) ∧ y = kV k ∧ valV kvs k = some v ∧ Q v (upd H2 a (.dK (dropK kvs k)))
noncomputable def tDPop2 (td ty tx : TE) : TE := fun σ H Q => td σ H fun x H1 => ∃ a, x = .ref a ∧ IsD H1 a ∧ ty σ H1 fun y H2 => tx σ H2 fun z H3 => ∃ kvs k, H3 a = some (.dK kvs) ∧ y = kV k ∧
  (∀ v, valV kvs k = some v → Q v (upd H3 a (.dK (dropK kvs k)))) ∧ (valV kvs k = none → Q z H3)
section
variable {X : Cx} {o e f : Expr} {apos cpos : Pos} {td ty tx : TE}
end

/-! ### dict(d): a copy -/
section
variable {X : Cx} {pins : List (Addr × Obj)} {σ : St} {H : Hp} {s : Shared} {a : Addr} {kvs : List (Key × V)} {A : Around} {E : Value → Shared → Prop}
end


section
variable {X : Cx} {pins : List (Addr × Obj)} {σ : St} {H : Hp} {s : Shared} {a : Addr} {y : V} {u : Value} {A : Around} {E : Value → Shared → Prop}
end
end L2

namespace Att
open PySem PySem.W PySem.Calls PyProof.Rows

/-! ### the script -/
theorem ints_of_wellAll {P : Params} {h : Heap} : ∀ (ns : List Int) (vs : List Value), WellAll P h vs (ns.map WData.int) → IntsAre vs ns := by
  intro ns
  induction ns with
  | nil =>
    intro vs w
    rw [List.map_nil] at w
    cases w
    exact .nil
  | cons n ns ih =>
    intro vs w
    rw [List.map_cons] at w
    cases w with
    | cons a b =>
      cases a
      exact .cons _ _ (ih _ b)

theorem script_of {l : OpenLaw} {n : Nat} (hn : l.most = some n) {P : Params} {h : Heap} {args : List WData} {vals : List Value}
    (hpre : l.row.toRowW.claim.pre args = true) (hwl : WellAll P h vals args) :
    ∃ a vs ns, vals = [Value.ref a] ∧ args = [WData.list (ns.map WData.int)] ∧ h.get? a = some { cls := .type "list", data := .seq vs.toArray } ∧ IntsAre vs ns ∧ ns.length ≤ n := by
  have hsh : WShape.hasAll [] args [.list .int] = true := (pre_splitW hpre).1
  have hc : l.pre.holds [] { args := args } = true := (pre_splitW hpre).2
  obtain ⟨d, r, rfl, h1, h2⟩ := hasAllW_cons hsh
  obtain rfl := hasAllW_nil h2
  obtain ⟨xs, rfl, h3⟩ := hasW_list h1
  obtain ⟨ns, rfl⟩ := items_int h3
  have hlen : ns.length ≤ n := by
    unfold OpenLaw.pre at hc
    have h4 : (WTm.not (.lt (.lit (.int (n : Int))) (.len (.arg 0)))).holds [] { args := [.list (ns.map .int)] } = true := by
      have h4 := (holds_andW hc).1
      rw [hn] at h4
      exact h4
    have h5 := condW_of h4 (w_not (w_lt w_lit (w_len_list (w_arg rfl))))
    rw [List.length_map] at h5
    refine Nat.le_of_not_lt fun q => ?_
    have q' : (n : Int) < ((ns.length : Nat) : Int) := by omega
    first
      | (rw [decide_eq_true q'] at h5; exact absurd h5 (by decide))
      | (simp at h5; omega)
  cases hwl with
  | cons w1 w2 =>
    cases w2
    cases w1 with
    | list ho hall => exact ⟨_, _, ns, rfl, rfl, ho, ints_of_wellAll ns _ hall, hlen⟩

theorem post_true (l : OpenLaw) (args : List WData) : l.row.toRowW.claim.post args (.bool true) args = true :=
  postW_of (r := l.row.toRowW) (X := (true == true))
    (show WShape.has [] (.bool true) .bool = true by first | rfl | decide | simp [WShape.has, WShape.arms, WShape.armsAll])
    (show (WTm.eq .res (.lit (.bool true))).value [] { args := args, res := some (.bool true), after := args } = some (.bool (true == true)) from w_eq_bool (w_res rfl) w_lit) rfl

/-! ### the attachment: holds_open's last premise (the goal 'hc' behind k_head) from a wpAny of the law's body -/

/-- the same from a codeAny of the CALL (for a layer whose function contracts speak of calls) -/
theorem attach_call {l : OpenLaw} {n : Nat} {q : Program} {loose : List Str} {XP : (Str → Option Value) → Heap → Prop} {YP : World → Heap → Prop} {d : DefRec}
    (hn : l.most = some n) (hdf : d.params.defaults = [])
    (call : ∀ (w : World) (s₀ s₁ : Shared) (mg mb : Str → Option Value) (fa : Addr) (o : Obj) (pm cd doc : Value) (a : Addr) (vs : List Value) (ns : List Int),
      Ground q loose [] XP w s₀ mg mb s₁.heap → YP w s₁.heap →
      s₁.heap.get? fa = some o → o.data = .func (docDef d.name d.params d.body d.scope pm cd doc) → s₁.heap.CodeRec cd d.name → mg d.name = some (.ref fa) →
      s₁.heap.get? a = some { cls := .type "list", data := .seq vs.toArray } → IntsAre vs ns → ns.length ≤ n → s₁.gens = #[] →
      codeAny (model l.prog w) callerA (.call (.ref fa) ⟨[.ref a], []⟩) (fun r s' => r = .ok (.ret (.bool true)) ∧ OldK s₁.heap s'.heap ∧ s'.os = s₁.os ∧ AllBare s'.gens) s₁) :
    WalkO q loose XP YP l.row.toRowW d [] (fun f vs => PySem.call f vs) := by
  intro w s₀ s₁ mg mb G Y fa o pm cd doc dV kV ho hd hcd hD hmg hg args vals as hpre hlay hrd hwl hlo
  obtain rfl : dV = .none := Dflts.none hD hdf
  obtain rfl : kV = .none := Dflts.noKw hD
  obtain ⟨a, vs, ns, rfl, rfl, hobj, hints, hlen⟩ := script_of hn hpre hwl
  refine enter_call (codeAny_mono (call w s₀ s₁ mg mb fa o pm cd doc a vs ns G Y ho (fd_plain hd) hcd hmg hobj hints hlen hg) fun r s' hq => ?_)
  obtain ⟨rfl, h2, h3, h4⟩ := hq
  exact ⟨.inl ⟨.bool true, .bool true, [], rfl, fun _ => rfl, .bool true, post_true l _, fun _ => ⟨List.Pairwise.nil, fun _ hm => (nomatch hm)⟩⟩, h2, h3, h4⟩


/-! ### rules over ANY heap (no ledger) from facts about the written part K: the library's own take a ledger (News) for what they write -/
section
variable {prog : Program} {w : World} {A : Around} {E : Value → Shared → Prop} {s : Shared} {K : Frag}





/-! the whole heap as the ledger: makes every rule that writes through a ledger a rule over any heap -/
noncomputable def noObjs (h : Heap) : Heap := { h with objs := #[] }
noncomputable def ledger (h : Heap) (L d : Addr) : List (Addr × Obj) := (List.range h.objs.size).filterMap fun a => if a = L ∨ a = d then none else (h.get? a).map fun o => (a, o)

end
end Att

namespace L2
open PySem PySem.Spec PyProof.Rows

theorem vals_ints : ∀ {vs : List Value} {ns : List Int}, IntsAre vs ns → Vals (ns.map V.int) vs
  | _, _, .nil => .nil
  | _, _, .cons n t h => .cons ⟨t, rfl⟩ (vals_ints h)

/-- nothing is tracked but the script, known to the object (or it is an object of the module) -/
noncomputable def Only (H : Hp) : Prop := ∀ b, H b = none ∨ ∃ o xs, H b = some (.frz o (.lst xs))

/-- THE HEAD: the law's promise, at the heap behind the top. F, the promise of the law's def, may use that base is part of the heap (so K.In base, base.Ns mainGlobals mg stand in Mod) -/
theorem law_call {P : Program} {w : World} {K : PySem.W.Frag} {mg mb : Str → Option Value} {CX : CXT} {k : Nat} {fa a : Addr} {fd : FuncData} {x : Str} {sp : Sp} {s₁ : Shared} {vs : List Value} {ns : List Int}
    (KX : K.In s₁.heap) (hns : s₁.heap.Ns mainGlobals mg) (hb : s₁.heap.Ns builtinsNs mb) (hbb : ∀ x : Str, x ≠ "__name__" → mb x = bootBuiltins x) (hlim : s₁.heap.NoLimit) (hg : s₁.gens = #[])
    (ha : s₁.heap.get? a = some { cls := .type "list", data := .seq vs.toArray }) (hi : IntsAre vs ns) (hl : ns.length ≤ sizeLine) (hr : Room k callerA)
    (F : ∀ base : Heap, K.In base → base.Ns mainGlobals mg → FnOk P w K mg base CX k fa fd [x] sp) (hbind : ∀ (s : Shared) (u : Value), BindsTo s fd ⟨[u], []⟩ [(x, u)])
    (hsp : ∀ H : Hp, Only H → SqL K H a (ns.map V.int) → sp [.ref a] H (fun v _ => v = .bl true) fun _ _ _ => False)
    (hCX : ∀ H e s', CX [] H s₁ (fun _ _ _ => False) e s' → False) :
    codeAny (model P w) callerA (.call (.ref fa) ⟨[.ref a], []⟩) (fun r s' => r = .ok (.ret (.bool true)) ∧ OldK s₁.heap s'.heap ∧ s'.os = s₁.os ∧ AllBare s'.gens) s₁ := by
  have rv := vals_ints hi
  have lenV := hi.length
  -- from an abstract heap in which nothing but the script may be tracked
  have core : ∀ H : Hp, Only H → SqL K H a (ns.map V.int) → HOk P w H s₁.heap → (∀ b, H b ≠ none → b = a) → (H a ≠ none → K.lookup a = none) →
      codeAny (model P w) callerA (.call (.ref fa) ⟨[.ref a], []⟩) (fun r s' => r = .ok (.ret (.bool true)) ∧ OldK s₁.heap s'.heap ∧ s'.os = s₁.os ∧ AllBare s'.gens) s₁ := by
    intro H hO hS hok hA hK
    have base_of : ∀ {b : Addr} {o : Obj}, s₁.heap.get? b = some o → H b = none → (hidT s₁.heap H).get? b = some o := fun e n => hidT_get e n
    have noA : ∀ {b : Addr} {o : Obj} {es : Array DictEntry} {ep : Nat}, s₁.heap.get? b = some o → o.data = .dict es ep → H b = none := fun {b o es ep} e d => by
      cases q : H b with
      | none => rfl
      | some u =>
        have e' : b = a := hA b (by rw [q]; simp)
        subst e'
        rw [ha] at e; cases e
        have d' : Data.seq vs.toArray _ = Data.dict es ep := d
        cases d'
    have nsK : ∀ {b : Addr} {m : Str → Option Value}, s₁.heap.Ns b m → (hidT s₁.heap H).Ns b m := fun {b m} ⟨o, es, ep, e, d, r⟩ => ⟨o, es, ep, base_of e (noA e d), d, r⟩
    have hKb : K.In (hidT s₁.heap H) := fun b o e => base_of (KX b o e) (by
      cases q : H b with
      | none => rfl
      | some u =>
        have e' : b = a := hA b (by rw [q]; simp)
        subst e'
        rw [hK (by rw [q]; simp)] at e; cases e)
    have hM : Mod K mg (hidT s₁.heap H) := ⟨hKb, nsK hns, ⟨mb, nsK hb, hbb⟩, let ⟨mc, h1, h2⟩ := hlim; ⟨mc, nsK h1, h2⟩⟩
    have e0 : Env0 P w K mg (hidT s₁.heap H) callerA [] s₁ H := ⟨rfl, hM, fun b o e => of_hidT e, Nat.le_of_eq (hidT_size _ _), trivial, fun b hb => absurd (show b ∈ ([] : List Addr) from hb) (by simp), hok, .of_eq hg⟩
    refine codeAny_mono ((F _ hKb (nsK hns)).run callerA [] s₁ H ⟨[.ref a], []⟩ [.ref a] [.ref a] _ _ hr e0 (hbind s₁ (.ref a)) (.cons rfl .nil) (hsp H hO hS)) fun r s' h => ?_
    cases r with
    | error e => exact (hCX H e s' h).elim
    | ok fl =>
      cases fl with
      | next => exact False.elim h
      | brk => exact False.elim h
      | cont => exact False.elim h
      | ret u =>
        obtain ⟨v, H', os, bare, un, hok', r', q⟩ := h
        have q' : v = .bl true := q
        subst q'
        obtain rfl : u = Value.bool true := r'
        refine ⟨rfl, OldK.of_keep fun b o e => ?_, os, bare⟩
        cases q : H b with
        | none => exact un.keep b o e q (by intro z; exact absurd (show b ∈ ([] : List Addr) from z) (by simp)) (by simp)
        | some u =>
          rcases hO b with z | ⟨ob, xs, z⟩
          · rw [q] at z; cases z
          · have z2 := un.frzs b ob _ z
            obtain ⟨e1, _⟩ := hok b _ z
            obtain ⟨e2, _⟩ := hok' b _ z2
            rw [e] at e1; cases e1
            exact e2
  cases hk : K.lookup a with
  | some o =>
    -- the script is one of the module's own objects
    have e := KX a o hk
    rw [ha] at e
    cases e
    refine core (fun _ => none) (fun _ => .inl rfl) (.inr ⟨_, vs.toArray, _, hk, rfl, rfl, rfl, by rw [List.size_toArray, lenV]; exact hl, by simpa using rv⟩) (fun b u z => by have z' : (none : Option HO) = some u := z; cases z') (fun b z => absurd rfl z) fun z => absurd rfl z
  | none =>
    refine core (fun b => if b = a then some (.frz { cls := .type "list", data := .seq vs.toArray } (.lst (ns.map V.int))) else none) (fun b => ?_) (.inl (.inr ⟨{ cls := .type "list", data := .seq vs.toArray }, if_pos rfl⟩)) (fun b u z => ?_) (fun b z => ?_) fun _ => hk
    · by_cases hb : b = a
      · exact .inr ⟨_, _, if_pos hb⟩
      · exact .inl (if_neg hb)
    · by_cases hb : b = a
      · have z' := (if_pos hb).symm.trans z
        cases z'
        subst hb
        exact ⟨ha, by rw [List.length_map]; exact hl, vs, _, rv, ha⟩
      · have z' := (if_neg hb).symm.trans z
        cases z'
    · by_cases hb : b = a
      · exact hb
      · exact absurd (if_neg hb) z
end L2

namespace L2
open PySem PySem.Spec PyProof.Rows

noncomputable abbrev KOf {K : PySem.W.Frag} {h : Heap} (_ : K.In h) : PySem.W.Frag := K

/-- the goal that k_head leaves (case hc), from the law's promise. F gives the function object fd (K's own) once, then the promise over every base -/
theorem walk_of {l : PySem.W.OpenLaw} {n k : Nat} {q : Program} {loose : List Str} {XP : (Str → Option Value) → Heap → Prop} {YP : World → Heap → Prop} {d : DefRec} {K : Params → PySem.W.Frag} {CX : World → CXT} {sp : World → Sp} {x : Str}
    (hn : l.most = some n) (hn2 : n ≤ sizeLine) (hdf : d.params.defaults = []) (hr : Room k callerA)
    (hY : ∀ (w : World) (h : Heap), YP w h → (K w.params).In h)
    (F : ∀ (w : World) (mg : Str → Option Value) (fa : Addr) (h : Heap), (K w.params).In h → h.Ns mainGlobals mg → mg d.name = some (.ref fa) →
      ∃ fd : FuncData, (∀ (s : Shared) (u : Value), BindsTo s fd ⟨[u], []⟩ [(x, u)]) ∧
        ∀ base : Heap, (K w.params).In base → base.Ns mainGlobals mg → FnOk l.prog w (K w.params) mg base (CX w) k fa fd [x] (sp w))
    (hsp : ∀ (w : World) (H : Hp) (a : Addr) (ns : List Int), ns.length ≤ n → Only H → SqL (K w.params) H a (ns.map V.int) → sp w [.ref a] H (fun v _ => v = .bl true) fun _ _ _ => False)
    (hCX : ∀ (w : World) (H : Hp) (s : Shared) (e : Value) (s' : Shared), CX w [] H s (fun _ _ _ => False) e s' → False) :
    PySem.W.WalkO q loose XP YP l.row.toRowW d [] (fun f vs => PySem.call f vs) := by
  refine Att.attach_call hn hdf fun w s₀ s₁ mg mb fa o pm cd doc a vs ns G Y ho hd hcd hmg hobj hints hlen hg => ?_
  have KX := hY w _ Y
  obtain ⟨fd, hb, hF⟩ := F w mg fa _ KX G.T.g hmg
  exact law_call KX G.T.g G.T.b G.T.builtins G.T.nolimit hg hobj hints (Nat.le_trans hlen hn2) hr hF hb (fun H hO hS => hsp w H a ns hlen hO hS) fun H e s' => hCX w H s₁ e s'
end L2

namespace L2
open PySem PySem.Spec PyProof.Rows

/-! ### the text by places -/
/-- the j-th statement of a class's body -/
noncomputable def inClass (s : Stmt) (j : Nat) : Stmt := match s with
  | .ClassDef _ _ _ body _ _ _ _ _ _ _ => body.getD j (.Pass ⟨0, 0, 0, 0⟩)
  | _ => .Pass ⟨0, 0, 0, 0⟩
noncomputable def defArgs (s : Stmt) : Arguments := match s with
  | .FunctionDef _ a _ _ _ _ _ _ _ _ => a
  | _ => { posonlyargs := [], args := [], vararg := none, kwonlyargs := [], kw_defaults := [], kwarg := none, defaults := [] }
noncomputable def defBody (s : Stmt) : List Stmt := match s with
  | .FunctionDef _ _ b _ _ _ _ _ _ _ => b
  | _ => []
noncomputable def defScope (s : Stmt) : Scope := match s with
  | .FunctionDef _ _ _ _ _ _ sc _ _ _ => sc
  | _ => { kind := .function, names := [], isGenerator := false, isCoroutine := false }

/-! ### no exception leaves a def -/
noncomputable abbrev CX0 : CXT := fun _ _ _ _ _ _ => False
noncomputable abbrev E0 : XK := fun _ _ _ => False

/-! ### a def (or method) of the text as it stands behind the top -/
structure Fun (K : PySem.W.Frag) (x qual : Str) (st : Stmt) (f : Addr) (fd : FuncData) : Prop where
  ex : ∃ (oc : Value) (od : Option Addr) (kV doc pm : Value) (an : Option Addr) (cdv ct : Value) (osl : Array (Option Value)),
    fd = PySem.W.fnOf x qual (defArgs st) (defBody st) (defScope st) .none kV doc pm an cdv ct ∧ K.lookup f = some ⟨oc, od, .func fd, osl⟩ ∧ PySem.W.codeIn K cdv qual = true
  kp : PySem.W.keepIn K (.ref f) = true
section
variable {P : Program} {w : World} {K : PySem.W.Frag} {mg : Str → Option Value} {base : Heap}
/-- how its arguments bind (no defaults): h is «fun _ _ _ _ _ _ us hl => match us, hl with | [_, _], _ => rfl», one _ a parameter -/
theorem Fun.binds {x qual : Str} {st : Stmt} {f : Addr} {fd : FuncData} {ps : List Str} (F : Fun K x qual st f fd)
    (h : ∀ (kV doc pm : Value) (an : Option Addr) (cdv ct : Value) (us : List Value), us.length = ps.length → bindArgs (PySem.W.fnOf x qual (defArgs st) (defBody st) (defScope st) .none kV doc pm an cdv ct) ⟨us, []⟩ = pure (ps.zip us)) : Binds K fd ps [] := by
  obtain ⟨oc, od, kV, doc, pm, an, cdv, ct, osl, rfl, lk, hcd⟩ := F.ex
  exact .all (h kV doc pm an cdv ct)
theorem fun_mk {x qual : Str} {st : Stmt} {f : Addr} {oc : Value} {od an : Option Addr} {osl : Array (Option Value)} {kV doc pm cdv ct : Value} (l : K.lookup f = some ⟨oc, od, .func (PySem.W.fnOf x qual (defArgs st) (defBody st) (defScope st) .none kV doc pm an cdv ct), osl⟩)
    (c : PySem.W.codeIn K cdv qual = true) (k : PySem.W.keepIn K (.ref f) = true) : Fun K x qual st f (PySem.W.fnOf x qual (defArgs st) (defBody st) (defScope st) .none kV doc pm an cdv ct) := ⟨⟨oc, od, kV, doc, pm, an, cdv, ct, osl, rfl, l, c⟩, k⟩
end

/-! ### expressions in short: the name that stands in the i-th slot -/
section
variable {X : Cx}
theorem pv (i : Nat) {x : Str} {pos : Pos} (hN : X.N[i]? = some x := by rfl) (hv : Vis X.env.scope x := by first | exact Or.inl rfl | exact Or.inr (Or.inl rfl) | exact Or.inr (Or.inr rfl)) (hd : (x == ("__debug__" : Str)) = false := by decide)
    (hcd : (x == ("__classdict__" : Str)) = false := by decide) : PE X (.Name x pos) (tVar i) := pe_var hN hv hd hcd
/-- len of a dict -/
theorem call_lenD : CallR X (.builtin "len") (fun xs H Q => ∃ a kvs, xs = [V.ref a] ∧ H a = some (.dK kvs) ∧ Q (.int kvs.length) H) := by
  intro pins s σ H xs us Q I r h
  obtain ⟨a, kvs, rfl, ha, q⟩ := h
  obtain ⟨u, rfl, ru⟩ := vals1 r
  cases ru
  exact d_len I (.inl ha) fun t s' I' => ⟨.int kvs.length, H, I', ⟨t, rfl⟩, q⟩
end

/-! ### tests -/

/-! ### heaps -/
/-- all that was tracked is as it was -/
noncomputable def Same (H H' : Hp) : Prop := ∀ b o, H b = some o → H' b = some o
theorem Same.refl (H : Hp) : Same H H := fun _ _ h => h
theorem Same.trans {H H1 H2 : Hp} (a : Same H H1) (b : Same H1 H2) : Same H H2 := fun c o h => b c o (a c o h)

/-! ### a dict's pairs: keys that differ -/
section
variable {κ : Type} [DecidableEq κ]
end
end L2

namespace L2
open PySem PySem.Spec PyProof.Rows

/-! a loop of a comprehension's block, no exception leaving -/
theorem compLoop_any {prog : Program} {w : World} {A : Around} {R : Result → Shared → Prop} {s : Shared} {elt target iter : Expr} {ifs : List Expr} {scope : Scope} {pos : Pos} {it acc : Value} {env : Env} (I : Nat → Shared → Prop)
    (turn : ∀ n s, I n s → wpAny (model prog w) A (pyNext it) (fun r s₁ => match r with
      | none => R (.ok .next) s₁
      | some v => wpAny (model prog w) A (letOwnedTupleGo target it v) (fun _ s₁' => wpAny (model prog w) A (assign target env v) (fun _ s₂ =>
          wpAny (model prog w) A (forIn ifs true fun c r => if r = true then do let ok ← isTrue c env (eval c env); pure (ForInStep.yield ok) else pure (ForInStep.yield r)) (fun ok s₃ =>
            if ok = true then wpAny (model prog w) A (eval elt env) (fun x s₄ =>
              wpAny (model prog w) A (call (.builtin "list.append") [acc, x]) (fun _ s₅ => ∃ m, m < n ∧ I m s₅) (fun _ _ => False) s₄) (fun _ _ => False) s₃
            else ∃ m, m < n ∧ I m s₃) (fun _ _ => False) s₂) (fun _ _ => False) s₁') (fun _ _ => False) s₁) (fun _ _ => False) s)
    (n : Nat) (h : I n s) :
    codeAny (model prog w) A (.compLoop (.ListComp elt [⟨target, iter, ifs, 0⟩] scope pos) 0 it acc env) R s := by
  refine codeAny_loop rfl I (fun n s hI => ?_) n h
  show wpAny _ A ((compTurn (.ListComp elt [⟨target, iter, ifs, 0⟩] scope pos) 0 it acc env).onRaise (fun x => do noteFrame x env; theTreesLotGoes x)) _ _ s
  refine wpAny_noted ?_
  rw [compTurn_list]
  refine wpAny_bind (wpAny_standAt (wpAny_bind (wpAny_mono (turn n s hI) (fun r s₁ h₁ => ?_) fun _ _ f => f.elim)))
  cases r with
  | none => exact wpAny_pure h₁
  | some v =>
    refine wpAny_bind (wpAny_mono h₁ (fun _ s₁' h₁' => wpAny_bind (wpAny_mono h₁' (fun _ s₂ h₂ => wpAny_bind (wpAny_mono h₂ (fun ok s₃ h₃ => ?_) fun _ _ f => f.elim)) fun _ _ f => f.elim)) fun _ _ f => f.elim)
    cases ok with
    | false => exact wpAny_pure ⟨rfl, h₃⟩
    | true =>
      exact wpAny_bind (wpAny_bind (wpAny_mono h₃ (fun x s₄ h₄ => wpAny_bind (wpAny_mono h₄ (fun _ s₅ h₅ => wpAny_pure (wpAny_pure ⟨rfl, h₅⟩)) fun _ _ f => f.elim)) fun _ _ f => f.elim))

/-- the tests of a clause -/
noncomputable def PF (X : Cx) (ifs : List Expr) (t : TT) : Prop :=
  ∀ (pins : List (Addr × Obj)) (s : Shared) (σ : St) (H : Hp) (Q : Bool → Hp → Prop), Inv X pins σ H s → t σ H Q →
    wpAny (model X.prog X.w) X.A (forIn ifs true fun c r => if r = true then do let ok ← isTrue c X.env (eval c X.env); pure (ForInStep.yield ok) else pure (ForInStep.yield r)) (TP X pins σ Q) X.xe s
noncomputable def tYes : TT := fun _ H Q => Q true H
theorem pf_nil {X : Cx} : PF X [] tYes := fun _ s _ H _ I q => wpAny_tests_nil ⟨H, I, q⟩

/-- the context of a comprehension's block -/
noncomputable def cxC (X : Cx) (N' : List Str) (scope : Scope) (cl : List (Str × Addr)) (C : Addr) (s₂ : Shared) (H₂ : Hp) (fp : List Addr) : Cx :=
  { prog := X.prog, w := X.w, K := X.K, mg := X.mg, base := X.base, A := X.A, N := N', s₀ := s₂, H₀ := H₂, env := compEnvC scope cl C X.env, outer := X.stack, stack := X.stack, ex := fp,
    fn := fun _ => false, calm := X.calm, pn := [], xe := fun _ _ => False }

/-- the names from around that the block reads: their places ahead, their cells -/
inductive Caps (X : Cx) (scope : Scope) (cl : List (Str × Addr)) : List Str → List Nat → Prop
  | nil : Caps X scope cl [] []
  | cons {n : Str} {j : Nat} {ns : List Str} {js : List Nat} {c : Addr} : X.N[j]? = some n → (X.env.kindOf n = some .cell ∨ X.env.kindOf n = some .free) → ((relabel scope X.env).names.lookup n = some .cell ∨ (relabel scope X.env).names.lookup n = some .free) →
      X.env.cells.lookup n = some c → cl.lookup n = some c → Caps X scope cl ns js → Caps X scope cl (n :: ns) (j :: js)
theorem Caps.len {X : Cx} {scope : Scope} {cl : List (Str × Addr)} : ∀ {ns : List Str} {js : List Nat}, Caps X scope cl ns js → ns.length = js.length
  | _, _, .nil => rfl
  | _, _, .cons _ _ _ _ _ r => by simp [r.len]
theorem Caps.get {X : Cx} {scope : Scope} {cl : List (Str × Addr)} : ∀ {ns : List Str} {js : List Nat}, Caps X scope cl ns js → ∀ (i : Nat) (n : Str), ns[i]? = some n →
    ∃ j c, js[i]? = some j ∧ X.N[j]? = some n ∧ (X.env.kindOf n = some .cell ∨ X.env.kindOf n = some .free) ∧ ((relabel scope X.env).names.lookup n = some .cell ∨ (relabel scope X.env).names.lookup n = some .free) ∧ X.env.cells.lookup n = some c ∧ cl.lookup n = some c
  | _, _, .nil, i, n, h => by simp at h
  | _, _, .cons a b c d e r, 0, n, h => by
    simp at h; subst h; exact ⟨_, _, rfl, a, b, c, d, e⟩
  | _, _, .cons a b c d e r, i + 1, n, h => by
    obtain ⟨j, c', h1, h2⟩ := r.get i n (by simpa using h)
    exact ⟨j, c', by simpa using h1, h2⟩

noncomputable def capsOf (idx : List Nat) (σ : St) : St := idx.map fun j => (σ[j]?).getD none

/-- [elt for target in iter if ..]: W is what holds by the turn, a measure, the items so far, the heap -/
noncomputable def tComp (nt : Nat) (idx : List Nat) (wi : TI) (g : TG) (tc : TT) (te : TE) : TE := fun σ H Q => wi σ H fun J H1 => ∀ l, H1 l = none →
  ∃ W : Nat → Nat → List V → Hp → Prop, (∃ m, W 0 m [] (upd H1 l (.lst []))) ∧ ∀ i m ys H2, W i m ys H2 → H2 l = some (.lst ys) ∧ ys.length < sizeLine ∧
    ((J.stop i H2 ∧ Q (.ref l) H2) ∨ (J.go i H2 ∧ ∀ x H3, J.yld i H2 x H3 → g x (List.replicate nt none ++ capsOf idx σ) H3 fun σ4 H4 => tc σ4 H4 fun c H5 =>
      if c = true then te σ4 H5 fun y H6 => H6 l = some (.lst ys) ∧ ∃ m', m' < m ∧ W (i + 1) m' (ys ++ [y]) (upd H6 l (.lst (ys ++ [y]))) else ∃ m', m' < m ∧ W (i + 1) m' ys H5))

theorem cl_sub {X : Cx} {cl : List (Str × Addr)} (hsub : ∀ p ∈ cl, X.env.cells.lookup p.1 = some p.2) : ∀ x c, cl.lookup x = some c → X.env.cells.lookup x = some c := by
  intro x c h
  induction cl with
  | nil => simp at h
  | cons p r ih =>
    obtain ⟨y, d⟩ := p
    rw [List.lookup_cons] at h
    cases e : x == y with
    | true =>
      rw [e] at h
      simp at h; subst h
      have := hsub (y, d) (by simp)
      rw [eq_of_beq e]; exact this
    | false =>
      rw [e] at h
      exact ih (fun p hp => hsub p (by simp [hp])) (by simpa using h)

theorem Un.sameBut {fs ex : List Addr} {H₂ H₅ : Hp} {h₂ h₅ h' : Heap} {C : Addr} (u : Un fs ex H₂ H₅ h₂ h₅) (hC : h₂.objs.size ≤ C) (sb : Heap.SameBut C h₅ h') : Un fs ex H₂ H₅ h₂ h' := by
  have lt : ∀ {b o}, h₂.get? b = some o → b ≠ C := fun {b o} e q => by
    have := Heap.lt_size e
    rw [q] at this
    exact absurd this (Nat.not_lt.mpr hC)
  exact ⟨fun b o e n f x => sb.extBut b _ (lt e) (u.keep b o e n f x), fun b o e n f x => by
      obtain ⟨sl, q⟩ := u.slot b o e n f x
      exact ⟨sl, sb.extBut b _ (lt e) q⟩, u.free, fun b o e x => by
      obtain ⟨o', q⟩ := u.there b o e x
      exact ⟨o', sb.extBut b _ (lt e) q⟩, u.tups, u.frzs, u.tbls⟩
theorem HOk.sameBut {P : Program} {w : World} {H : Hp} {h h' : Heap} {C : Addr} (x : HOk P w H h) (hC : H C = none) (sb : Heap.SameBut C h h') : HOk P w H h' := fun a o e =>
  (x a o e).stay (fun b u hb q => sb.extBut b u (by
    rintro rfl
    rcases hb with rfl | hb
    · rw [hC] at e; cases e
    · rw [hC] at hb; cases hb) q) (fun _ q => q) fun _ _ q => q

/-- a target that stores in the first nt places alone -/
noncomputable def GOk (nt : Nat) (g : TG) : Prop := ∀ x σ H Q, g x σ H Q → g x σ H fun σ' H' => Q σ' H' ∧ σ'.length = σ.length ∧ ∀ i, nt ≤ i → σ'[i]? = σ[i]?
theorem gok_name {nt i : Nat} (h : i < nt) : GOk nt (gName i) := fun x σ H Q q => ⟨q, by simp, fun j hj => by rw [List.getElem?_set_ne (by omega)]⟩

section
variable {X : Cx} {elt target iter : Expr} {ifs : List Expr} {scope : Scope} {pos : Pos} {cl : List (Str × Addr)} {nt : Nat} {tgs cap : List Str} {idx : List Nat} {wi : TI} {g : TG} {tc : TT} {te : TE}

structure CompOk (X : Cx) (scope : Scope) (cl : List (Str × Addr)) (tgs cap : List Str) (idx : List Nat) : Prop where
  clos : closureFor scope X.env = pure cl
  kind : scope.kind = .function
  cell : ∀ y ∈ scope.names, y.2 ≠ .cell
  names : ∀ y ∈ scope.names, y.2 = .local → scope.names.lookup y.1 = some .local
  sub : ∀ p ∈ cl, X.env.cells.lookup p.1 = some p.2
  has : ((relabel scope X.env).names.all fun y => !(y.2 == .cell || y.2 == .free) || (cl.lookup y.1).isSome) = true
  caps : Caps X scope cl cap idx

theorem has_of {names : List (Str × NameKind)} {cl : List (Str × Addr)} (h : (names.all fun y => !(y.2 == .cell || y.2 == .free) || (cl.lookup y.1).isSome) = true) :
    ∀ x, (names.lookup x = some .cell ∨ names.lookup x = some .free) → ∃ c, cl.lookup x = some c := by
  induction names with
  | nil => intro x hx; simp at hx
  | cons p r ih =>
    obtain ⟨y, k⟩ := p
    rw [List.all_cons, Bool.and_eq_true] at h
    intro x hx
    rw [List.lookup_cons] at hx
    cases e : x == y with
    | true =>
      rw [e] at hx
      have ey := eq_of_beq e
      subst ey
      have h1 := h.1
      rcases hx with hx | hx <;> (simp at hx; subst hx; exact Option.isSome_iff_exists.mp (by simpa using h1))
    | false =>
      rw [e] at hx
      exact ih h.2 x (by simpa using hx)

/-- the block's start: the invariant of its context -/
theorem comp_start {pins : List (Addr × Obj)} {s₂ : Shared} {σ : St} {H₂ : Hp} {fp : List Addr} {h₁ : Heap} {tk : Nat} {C : Addr} (eC : C = s₂.heap.objs.size + 1) (O : CompOk X scope cl tgs cap idx) (I : Inv X pins σ H₂ s₂) (hfp : ∀ b ∈ fp, FpOk X pins H₂ b) (hfo : ∀ b ∈ fp, b < s₂.heap.objs.size)
    (hns : h₁.Ns C (fun x => ([] : List (Str × Value)).reverse.lookup x))
    (hsb : Heap.SameBut C ((s₂.heap.push { cls := .type "list", dict := none, data := .seq ([] : List Value).toArray }).push { cls := .type "dict", data := .dict #[] }) h₁) :
    Inv (cxC X (tgs ++ cap) scope cl C s₂ H₂ fp) [] (List.replicate tgs.length none ++ capsOf idx σ) (upd H₂ s₂.heap.objs.size (.lst [])) { s₂ with heap := h₁, toks := tk } := by
  have ltC : ∀ {b : Addr}, b < s₂.heap.objs.size → b ≠ C := fun {b} lt => by rw [eC]; exact Nat.ne_of_lt (Nat.lt_succ_of_lt lt)
  have kp : ∀ b o, s₂.heap.get? b = some o → h₁.get? b = some o := fun b o e => by
    have lt := Heap.lt_size e
    exact hsb.extBut b o (ltC lt) (Heap.get?_push_of_some _ (Heap.get?_push_of_some _ e))
  have hD : h₁.get? s₂.heap.objs.size = some { cls := .type "list", dict := none, data := .seq ([] : List Value).toArray } :=
    hsb.extBut _ _ (by rw [eC]; exact Nat.ne_of_lt (Nat.lt_succ_self _)) (Heap.get?_push_of_some _ (Heap.get?_push_size _ rfl))
  have fresh : ∀ a, s₂.heap.objs.size ≤ a → H₂ a = none := fun a ha => I.hok.fresh ha
  have stk := I.stkSub
  have nf : ∀ b ∈ fp, b ∉ frs X.stack := fun b hb hm => by
    rcases List.mem_cons.mp (stk b hm) with e | e
    · exact (hfp b hb).2.1 e
    · exact (hfp b hb).2.2.1 e
  have sub := cl_sub O.sub
  have clt : ∀ x c, cl.lookup x = some c → c < s₂.heap.objs.size := fun x c e => by
    obtain ⟨v, o, e', _⟩ := I.cell x c (sub x c e)
    exact Heap.lt_size e'
  refine ⟨⟨I.ok.mod, ?_, I.ok.glob, I.ok.blt, (by show s₂.heap.objs.size ≤ C; rw [eC]; exact Nat.le_succ _), ?_, ?_, ?_, I.ok.hd, I.ok.frames, .inl rfl, ?_, ?_, ?_, ?_, nf, I.stack, I.stkFree⟩, rfl, I.bare, ?_, ?_, ?_, ?_, ?_, ?_, ?_, ?_⟩
  · exact O.kind
  · intro x y c h1 h2; exact I.ok.inj x y c (sub _ _ h1) (sub _ _ h2)
  · exact has_of O.has
  · intro x c h; cases h
  · intro b hb
    have lt := hfo b hb
    exact ⟨ltC lt, fun x c h => (hfp b hb).2.2.2.2.1 x c (sub _ _ h)⟩
  · exact I.bs
  · exact Nat.le_trans I.ok.bsz I.sz
  · intro b o e hb
    rcases (hfp b hb).2.2.2.1 with h | h
    · exact I.ok.noex b o e h
    · exact absurd (Heap.lt_size e) (Nat.not_lt.mpr (Nat.le_trans I.ok.bsz h))
  · exact (Un.laid (a := s₂.heap.objs.size) kp (Nat.le_refl _) (fresh _ (Nat.le_refl _)))
  · refine ⟨_, hns, fun i x v hN hv hvis => ?_⟩
    by_cases hi : i < tgs.length
    · rw [List.getElem?_append_left (by simpa using hi)] at hv
      rw [List.getElem?_replicate] at hv
      simp [hi] at hv
    · have hi' : tgs.length ≤ i := Nat.not_lt.mp hi
      have hN' : (tgs ++ cap)[i]? = some x := hN
      rw [List.getElem?_append_right hi'] at hN'
      rw [List.getElem?_append_right (by simpa using hi')] at hv
      simp only [List.length_replicate] at hv
      obtain ⟨j, c, h1, h2, h3, h4, h5, h6⟩ := O.caps.get _ _ hN'
      unfold capsOf at hv
      rw [List.getElem?_map, h1] at hv
      simp at hv
      have hv' : σ[j]? = some (some v) := by
        cases e : σ[j]? with
        | none => rw [e] at hv; cases hv
        | some z => rw [e] at hv; simp at hv; rw [hv]
      obtain ⟨m, hm, lk⟩ := I.loc
      obtain ⟨u, ru, lk⟩ := lk j x v h2 hv' (by rcases h3 with h3 | h3; exact .inr (.inl h3); exact .inr (.inr h3))
      refine ⟨u, ru, .inr ⟨h4, ?_⟩⟩
      rcases lk with ⟨k1, _⟩ | ⟨_, c', k2, k3⟩
      · rcases h3 with h3 | h3 <;> (rw [h3] at k1; cases k1)
      · rw [h5] at k2; cases k2
        obtain ⟨o, k4, k5⟩ := k3
        exact ⟨c, h6, o, kp _ _ k4, k5⟩
  · intro x c e
    obtain ⟨v, o, e', q⟩ := I.cell x c (sub x c e)
    exact ⟨v, o, kp _ _ e', q⟩
  · show (upd H₂ s₂.heap.objs.size (.lst [])) C = none
    rw [eC, upd_ne (Nat.ne_of_gt (Nat.lt_succ_self _))]; exact fresh _ (Nat.le_succ _)
  · intro x c e
    have := clt x c e
    rw [upd_ne (Nat.ne_of_lt this)]; exact I.freeC x c (sub x c e)
  · intro p hp; cases hp
  · exact I.hok.laid kp (Nat.le_refl _) ⟨Nat.zero_le _, [], 0, .nil, hD⟩
  · have := O.caps.len
    simp [capsOf, cxC, this]

theorem comp_block {RR : Value → Addr → Result → Shared → Prop} {E₀ : Value → Shared → Prop} {pins : List (Addr × Obj)} {s₂ : Shared} {σ : St} {H₂ : Hp} {it : Addr} {fp : List Addr} {tn : Nat → Heap → Prop} {J : It} {Fin : Addr → Hp → Prop}
    (O : CompOk X scope cl tgs cap idx) (hc : X.calm = true) (hgo : GOk tgs.length g)
    (hg : ∀ C s₂ H₂ fp, PG (cxC X (tgs ++ cap) scope cl C s₂ H₂ fp) target g) (ht : ∀ C s₂ H₂ fp, PF (cxC X (tgs ++ cap) scope cl C s₂ H₂ fp) ifs tc) (he : ∀ C s₂ H₂ fp, PE (cxC X (tgs ++ cap) scope cl C s₂ H₂ fp) elt te)
    (I : Inv X pins σ H₂ s₂) (T : Turn X.prog X.w X.K target J fp it tn) (st : tn 0 s₂.heap) (hfp : ∀ b ∈ fp, FpOk X pins H₂ b)
    (rd : ∀ l, H₂ l = none → ∃ W : Nat → Nat → List V → Hp → Prop, (∃ m, W 0 m [] (upd H₂ l (.lst []))) ∧ ∀ i m ys H2, W i m ys H2 → H2 l = some (.lst ys) ∧ ys.length < sizeLine ∧
      ((J.stop i H2 ∧ Fin l H2) ∨ (J.go i H2 ∧ ∀ x H3, J.yld i H2 x H3 → g x (List.replicate tgs.length none ++ capsOf idx σ) H3 fun σ4 H4 => tc σ4 H4 fun c H5 =>
        if c = true then te σ4 H5 fun y H6 => H6 l = some (.lst ys) ∧ ∃ m', m' < m ∧ W (i + 1) m' (ys ++ [y]) (upd H6 l (.lst (ys ++ [y]))) else ∃ m', m' < m ∧ W (i + 1) m' ys H5)))
    (fin : ∀ C σ5 H5 s5, s₂.heap.objs.size ≤ C → s₂.heap.objs.size ≠ C → Inv (cxC X (tgs ++ cap) scope cl C s₂ H₂ fp) [] σ5 H5 s5 → Fin s₂.heap.objs.size H5 → RR (.ref s₂.heap.objs.size) C (.ok .next) s5) :
    wpAny (model X.prog X.w) X.A (newList []) (fun acc s₃ => wpAny (model X.prog X.w) X.A (newFunctionEnv scope X.env.globals cl [] X.env.qual none .none (some X.env)) (fun cenv s₄ =>
      codeAny (model X.prog X.w) X.A (.compStart (.ListComp elt [⟨target, iter, ifs, 0⟩] scope pos) 0 (.ref it) acc { cenv with scope := relabel scope X.env }) (RR acc cenv.locals) s₄) E₀ s₃) E₀ s₂ := by
  have hfo : ∀ b ∈ fp, b < s₂.heap.objs.size := fun b hb => by
    obtain ⟨o, e, _⟩ := T.obj 0 _ st b hb
    exact Heap.lt_size e
  refine wpAny_newObj_type (wpAny_newFunctionEnv O.cell (by intro y hy; simp at hy) (fun h₁ hns₁ hsb₁ => ?_) O.kind)
  have eC : (s₂.heap.push { cls := .type "list", dict := none, data := .seq ([] : List Value).toArray }).objs.size = s₂.heap.objs.size + 1 := Heap.size_push ..
  dsimp only at hns₁ hsb₁ ⊢
  generalize (s₂.heap.push { cls := .type "list", dict := none, data := .seq ([] : List Value).toArray }).objs.size = C at eC hns₁ hsb₁ ⊢
  have ltC : ∀ {b : Addr}, b < s₂.heap.objs.size → b ≠ C := fun {b} lt => by rw [eC]; exact Nat.ne_of_lt (Nat.lt_succ_of_lt lt)
  have IC := comp_start (tk := s₂.toks + ([] : List (Str × Value)).length) eC O I hfp hfo hns₁ hsb₁
  have kp : ∀ b o, s₂.heap.get? b = some o → h₁.get? b = some o := fun b o e => by
    have lt := Heap.lt_size e
    exact hsb₁.extBut b o (ltC lt) (Heap.get?_push_of_some _ (Heap.get?_push_of_some _ e))
  have st₁ : tn 0 h₁ := T.keep 0 _ _ st fun b _ o e => kp b o e
  obtain ⟨W, ⟨m₀, w₀⟩, step⟩ := rd s₂.heap.objs.size (I.hok.fresh (Nat.le_refl _))
  have fp0 : ∀ b ∈ fp, (upd H₂ s₂.heap.objs.size (.lst [])) b = none := fun b hb => by
    rw [upd_ne (Nat.ne_of_lt (hfo b hb))]; exact (hfp b hb).1
  have stat : ∀ {pl : List (Addr × Obj)} {H' : Hp}, (∀ b ∈ fp, H' b = none) → pl = [] → ∀ b ∈ fp, FpOk (cxC X (tgs ++ cap) scope cl C s₂ H₂ fp) pl H' b := fun {pl H'} hn hp b hb => by
    subst hp
    have lt := hfo b hb
    refine ⟨hn b hb, ltC lt, IC.ok.exfs b hb, .inl hb, fun x c h => (IC.ok.exf b hb).2 x c h, fun p hp => by cases hp⟩
  have loop : codeAny (model X.prog X.w) X.A (.compLoop (.ListComp elt [⟨target, iter, ifs, 0⟩] scope pos) 0 (.ref it) (.ref s₂.heap.objs.size) (compEnvC scope cl C X.env))
      (RR (.ref s₂.heap.objs.size) C) { s₂ with heap := h₁, toks := s₂.toks + ([] : List (Str × Value)).length } := by
    refine compLoop_any (fun n s' => ∃ i ys H', Inv (cxC X (tgs ++ cap) scope cl C s₂ H₂ fp) [] (List.replicate tgs.length none ++ capsOf idx σ) H' s' ∧ tn i s'.heap ∧ (∀ b ∈ fp, H' b = none) ∧ W i n ys H') ?_ m₀
      ⟨0, [], _, IC, st₁, fp0, w₀⟩
    rintro n s3 ⟨i, ys, H3, I3, st3, fr3, w3⟩
    obtain ⟨hl, hz, w3⟩ := step i n ys H3 w3
    rcases w3 with ⟨stop, q⟩ | ⟨go, w3⟩
    · refine thn (T.done (cxC X (tgs ++ cap) scope cl C s₂ H₂ fp) rfl rfl rfl hc i [] s3 _ H3 _ I3 (stat fr3 rfl) st3 stop) fun r s4 ⟨hr, I4⟩ => ?_
      subst hr
      exact fin C _ H3 s4 (by rw [eC]; exact Nat.le_succ _) (by rw [eC]; exact Nat.ne_of_lt (Nat.lt_succ_self _)) I4 q
    · refine thn (T.item (cxC X (tgs ++ cap) scope cl C s₂ H₂ fp) rfl rfl rfl hc i [] s3 _ H3 _ I3 (stat fr3 rfl) st3 go) fun r s4 ⟨u, hr, h4⟩ => ?_
      subst hr
      refine thn h4 fun _ s5 ⟨x, H5, I5, r5, y5, st5, fr5⟩ => ?_
      have I5' := I5.pinned (stat fr5 rfl) (T.obj _ _ st5)
      refine thn (hg _ _ _ _ _ s5 _ H5 x u _ I5' r5 (hgo _ _ _ _ (w3 x H5 y5))) fun _ s6 ⟨σ6, H6, I6, q6, len6, same6⟩ => ?_
      refine thn (ht _ _ _ _ _ s6 σ6 H6 _ I6 q6) fun ok s7 ⟨H7, I7, q7⟩ => ?_
      have again : ∀ {H8 : Hp} {s8 : Shared}, Inv (cxC X (tgs ++ cap) scope cl C s₂ H₂ fp) ([] ++ pinsAt fp s5.heap) σ6 H8 s8 →
          Inv (cxC X (tgs ++ cap) scope cl C s₂ H₂ fp) [] (List.replicate tgs.length none ++ capsOf idx σ) H8 s8 ∧ tn (i + 1) s8.heap ∧ ∀ b ∈ fp, H8 b = none := fun {H8 s8} I8 => by
        refine ⟨?_, T.keep _ _ _ st5 fun b hb o e => (I8.pin (b, o) (List.mem_append_right _ (List.mem_append_right _ (mem_pinsAt hb e)))).1, fun b hb => ?_⟩
        · refine I8.unpinned.weak len6.symm fun j v hv => ?_
          by_cases hj : tgs.length ≤ j
          · rw [same6 j hj]; exact hv
          · rw [List.getElem?_append_left (by simp; omega), List.getElem?_replicate] at hv
            simp [Nat.not_le.mp hj] at hv
        · obtain ⟨o, e, d⟩ := T.obj _ _ st5 b hb
          exact (I8.pin (b, o) (List.mem_append_right _ (List.mem_append_right _ (mem_pinsAt hb e)))).2.1
      cases ok with
      | false =>
        rw [if_neg Bool.false_ne_true] at q7 ⊢
        obtain ⟨m', hm, w8⟩ := q7
        obtain ⟨a1, a2, a3⟩ := again I7
        exact ⟨m', hm, i + 1, ys, H7, a1, a2, a3, w8⟩
      | true =>
        rw [if_pos rfl] at q7 ⊢
        refine thn (he _ _ _ _ _ s7 σ6 H7 _ I7 q7) fun y s8 ⟨v, H8, I8, r8, hl8, m', hm, w8⟩ => ?_
        refine thn (mt_append _ s8 σ6 H8 (.ref s₂.heap.objs.size) [v] (.ref s₂.heap.objs.size) [y] (fun _ H9 => H9 = upd H8 s₂.heap.objs.size (.lst (ys ++ [v]))) I8 rfl (.cons r8 .nil) ⟨_, ys, v, rfl, rfl, hl8, hz, rfl⟩) fun z s9 ⟨v9, H9, I9, _, e9⟩ => ?_
        subst e9
        obtain ⟨a1, a2, a3⟩ := again I9
        exact ⟨m', hm, i + 1, _, _, a1, a2, a3, w8⟩
  exact codeAny_compStart_list loop (T.self _ 0 _ _ _ st₁ loop)

theorem after_comp {pins : List (Addr × Obj)} {s₂ s5 : Shared} {σ σ5 : St} {H₂ H5 : Hp} {fp : List Addr} {C : Addr} {h' : Heap} (I : Inv X pins σ H₂ s₂) (hfp : ∀ b ∈ fp, FpOk X pins H₂ b) (hC : s₂.heap.objs.size ≤ C)
    (I5 : Inv (cxC X (tgs ++ cap) scope cl C s₂ H₂ fp) [] σ5 H5 s5) (sb : Heap.SameBut C s5.heap h') : Inv X pins σ H5 { s5 with heap := h' } :=
  I.call' (ch := fp) I5.os (Un.sameBut I5.base hC sb) (HOk.sameBut I5.hok I5.free sb) I5.bare fun b hb => ⟨(hfp b hb).2.2.2.1, (hfp b hb).2.1, (hfp b hb).2.2.2.2.1, (hfp b hb).2.2.2.2.2⟩

theorem pe_lc (O : CompOk X scope cl tgs cap idx) (hc : X.calm = true) (hi : PI X target iter wi) (hgo : GOk tgs.length g)
    (hg : ∀ C s₂ H₂ fp, PG (cxC X (tgs ++ cap) scope cl C s₂ H₂ fp) target g) (ht : ∀ C s₂ H₂ fp, PF (cxC X (tgs ++ cap) scope cl C s₂ H₂ fp) ifs tc) (he : ∀ C s₂ H₂ fp, PE (cxC X (tgs ++ cap) scope cl C s₂ H₂ fp) elt te)
    (hs : ∀ x, foldedSetIterable iter X.env x = pure x := by intro _; rfl) :
    PE X (.ListComp elt [⟨target, iter, ifs, 0⟩] scope pos) (tComp tgs.length idx wi g tc te) := by
  intro pins s σ H Q I h
  rw [eval_ListComp]
  refine wpAny_comprehension_free (use := none) rfl hs O.clos O.kind O.names (wpAny_mono (hi pins s σ H _ I h) (fun xv s₁ h₁ => wpAny_mono h₁ (fun itv s₂ h₂ => ?_) fun _ _ e => e) fun _ _ e => e)
  obtain ⟨it, fp, tn, J, H₂, rfl, I₂, T, st, hfp, rd⟩ := h₂
  refine comp_block (RR := fun acc C => compPost (model X.prog X.w) X.A X.xe none (EP X pins σ Q) acc C) (Fin := fun l H => Q (.ref l) H) O hc hgo hg ht he I₂ T st hfp rd ?_
  intro C σ5 H5 s5 hC _ I5 q
  obtain ⟨m, hn, _⟩ := I5.loc
  exact ⟨m, hn, fun h' sb => ⟨.ref _, H5, after_comp I₂ hfp hC I5 sb, rfl, q⟩⟩

end
end L2

namespace L2
open PySem PySem.Spec PyProof.Rows

/-! ### what of a def of the top a caller needs -/
noncomputable def FnG (P : Program) (w : World) (K : PySem.W.Frag) (mg : Str → Option Value) (base : Heap) (CX : CXT) (k : Nat) (x : Str) (sp : Sp) : Prop :=
  ∃ f fd ps, FnOk P w K mg base CX k f fd ps sp ∧ mg x = some (.ref f) ∧ PySem.W.keepIn K (.ref f) = true ∧ Binds K fd ps []
noncomputable def MethG (P : Program) (w : World) (K : PySem.W.Frag) (mg : Str → Option Value) (base : Heap) (CX : CXT) (k : Nat) (C : Addr) (m : Str) (sp : Sp) : Prop :=
  ∃ f fd ps, Meth K C m f ∧ FnOk P w K mg base CX k f fd ps sp ∧ Binds K fd ps []
noncomputable def MakeG (P : Program) (w : World) (K : PySem.W.Frag) (mg : Str → Option Value) (base : Heap) (CX : CXT) (k : Nat) (x : Str) (C : Addr) (sp : Sp) : Prop :=
  ∃ f fd ps, Mk K C f ∧ FnOk P w K mg base CX k f fd ps sp ∧ mg x = some (.ref C) ∧ Binds K fd ps []

section
variable {X : Cx} {CX : CXT} {k : Nat} {C : Addr} {sp : Sp} {E : XK} {x m : Str} {p pos apos : Pos} {e o : Expr} {es : List Expr} {ta : TE} {t : TA}

theorem pe_g (G : FnG X.prog X.w X.K X.mg X.base CX k x sp) (hr : Room k X.A) (hx : Passes CX X E) (ha : PA X (e :: es) t) (hg : Gl X x := by rfl) (hdb : (x == ("__debug__" : Str)) = false := by decide)
    (he : starEach (e :: es) X.env = (false, eval e X.env) :: starEach es X.env := by rfl) (hpl : (backTo pos (starEach es X.env)).any (·.1) = false := by rfl) :
    PE X (.Call (.Name x p) (e :: es) [] pos) (tCall sp [] E t) := by
  obtain ⟨f, fd, ps, F, hm, hk, hb⟩ := G
  exact pe_call F hr hg hm hk hb .nil hx ha hdb he hpl
/-- o.m(..), whatever the class of o is -/
noncomputable def tMethD (P : Program) (w : World) (K : PySem.W.Frag) (mg : Str → Option Value) (base : Heap) (CX : CXT) (k : Nat) (m : Str) (E : XK) (ta : TE) (t : TA) : TE := fun σ H Q => ta σ H fun x H1 =>
  ∃ a C dx fs sp, x = .ref a ∧ H1 a = some (.ins C dx fs) ∧ Cls K C ∧ MethG P w K mg base CX k C m sp ∧ fs.lookup m = none ∧ t σ H1 fun vs H2 => sp (x :: vs) H2 Q E
/-- C(), no __init__ but object's -/
structure Mk0 (K : PySem.W.Frag) (C : Addr) : Prop where
  makes : PySem.W.makesIn K C = true
  init : PySem.W.findIn K (.ref C) "__init__" = some (some (.builtin "object.__init__"))
  kp : PySem.W.keepIn K (.ref C) = true
  cl : Cls K C
noncomputable def tMake0 (C : Addr) : TE := fun _ H Q => ∀ x dx H', H x = none → H dx = none → dx ≠ x → H' = upd (upd H dx (.own x)) x (.ins C dx []) → Q (.ref x) H'
end

/-! ### the arithmetic of values, whatever they are -/
noncomputable abbrev RU := V → V → Hp → VK → Prop
noncomputable def uAdd (K : PySem.W.Frag) : RU := fun x y H Q => match x, y with
  | .int i, .int j => Q (.int (i + j)) H
  | .str a, .str b => a.length + b.length ≤ sizeLine ∧ Q (.str (a ++ b)) H
  | .ref a, .ref b => rCat (.ref a) (.ref b) H Q ∨ rCatT K (.ref a) (.ref b) H Q
  | _, _ => False
theorem op_addU {X : Cx} : OpR X (binaryOp .Add) (uAdd X.K) := by
  intro pins s σ H x y v u Q I rx ry h
  cases x <;> cases y <;> first | exact h.elim | skip
  · exact op_add pins s σ H _ _ v u Q I rx ry ⟨_, _, rfl, rfl, h⟩
  · exact op_add_str pins s σ H _ _ v u Q I rx ry ⟨_, _, rfl, rfl, h.1, h.2⟩
  · rcases h with h | h
    · exact op_cat pins s σ H _ _ v u Q I rx ry h
    · exact op_catT pins s σ H _ _ v u Q I rx ry h
noncomputable def uMul : RU := fun x y H Q => match x, y with
  | .int i, .int j => CMul i j ∧ Q (.int (i * j)) H
  | .ref a, .int k => rRep (.ref a) (.int k) H Q
  | _, _ => False

/-! ### data without the heap, and what stands for it -/
mutual
noncomputable def Rep (H : Hp) : V → PyData → Prop
  | v, .none => v = .non
  | v, .bool b => v = .bl b
  | v, .int i => v = .int i
  | v, .str x => v = .str x
  | v, .list ds => ∃ a vs, v = .ref a ∧ H a = some (.lst vs) ∧ Reps H vs ds
  | v, .tuple ds => ∃ a vs, v = .ref a ∧ H a = some (.tup vs) ∧ Reps H vs ds
  | _, .dict _ => False
noncomputable def Reps (H : Hp) : List V → List PyData → Prop
  | [], [] => True
  | v :: vs, d :: ds => Rep H v d ∧ Reps H vs ds
  | _, _ => False
end
mutual
theorem Rep.same {H H' : Hp} (e : Same H H') : ∀ {v : V} {d : PyData}, Rep H v d → Rep H' v d
  | v, .none, h => h
  | v, .bool b, h => h
  | v, .int i, h => h
  | v, .str x, h => h
  | v, .list ds, h => by
    simp only [Rep] at h ⊢
    obtain ⟨a, vs, h1, h2, h3⟩ := h
    exact ⟨a, vs, h1, e _ _ h2, Reps.same e h3⟩
  | v, .tuple ds, h => by
    simp only [Rep] at h ⊢
    obtain ⟨a, vs, h1, h2, h3⟩ := h
    exact ⟨a, vs, h1, e _ _ h2, Reps.same e h3⟩
  | _, .dict _, h => by simp only [Rep] at h
theorem Reps.same {H H' : Hp} (e : Same H H') : ∀ {vs : List V} {ds : List PyData}, Reps H vs ds → Reps H' vs ds
  | [], [], _ => by simp only [Reps]
  | v :: vs, d :: ds, h => by
    simp only [Reps] at h ⊢
    exact ⟨Rep.same e h.1, Reps.same e h.2⟩
  | [], _ :: _, h => by simp only [Reps] at h
  | _ :: _, [], h => by simp only [Reps] at h
end
end L2

namespace L2
open PySem PySem.Spec PyProof.Rows

mutual
theorem reads_of {P : Program} {w : World} {H : Hp} {h : Heap} (hk : HOk P w H h) : ∀ {x : V} {v : Value} {d : PyData}, RelV x v → Rep H x d → ∃ as, Reads h v d as
  | x, v, .none, r, q => by simp only [Rep] at q; subst q; cases r; exact ⟨_, .none⟩
  | x, v, .bool b, r, q => by simp only [Rep] at q; subst q; cases r; exact ⟨_, .bool b⟩
  | x, v, .int i, r, q => by simp only [Rep] at q; subst q; obtain ⟨t, rfl⟩ := r; exact ⟨_, .int i t⟩
  | x, v, .str y, r, q => by simp only [Rep] at q; subst q; obtain ⟨t, rfl⟩ := r; exact ⟨_, .str y t⟩
  | x, v, .list ds, r, q => by
    simp only [Rep] at q
    obtain ⟨a, vs, rfl, e, q⟩ := q
    cases r
    obtain ⟨_, its, n, rv, g⟩ := hk a _ e
    obtain ⟨as, z⟩ := reads_ofs hk rv q
    exact ⟨_, .list g rfl rfl (by simpa using z)⟩
  | x, v, .tuple ds, r, q => by
    simp only [Rep] at q
    obtain ⟨a, vs, rfl, e, q⟩ := q
    cases r
    obtain ⟨_, its, rv, o, g, hc, n, hd⟩ := hk a _ e
    obtain ⟨as, z⟩ := reads_ofs hk rv q
    exact ⟨_, .tuple g hc hd (by simpa using z)⟩
  | _, _, .dict _, _, q => by simp only [Rep] at q
theorem reads_ofs {P : Program} {w : World} {H : Hp} {h : Heap} (hk : HOk P w H h) : ∀ {xs : List V} {us : List Value} {ds : List PyData}, Vals xs us → Reps H xs ds → ∃ as, ReadsAll h us ds as
  | _, _, [], .nil, _ => ⟨_, .nil⟩
  | _, _, d :: ds, .cons r rs, q => by
    simp only [Reps] at q
    obtain ⟨as, z⟩ := reads_of hk r q.1
    obtain ⟨bs, y⟩ := reads_ofs hk rs q.2
    exact ⟨_, .cons z y⟩
  | _, _, _ :: _, .nil, q => by simp only [Reps] at q
  | _, _, [], .cons _ _, q => by simp only [Reps] at q
end

/-! ### ==, != : flat values, or data of any depth -/
noncomputable def Shaped (d : PyData) : Prop := SeqAt.shaped d = true
noncomputable def uEq : RU := fun x y H Q => (scal x y = true ∧ Q (.bl (decide (x = y))) H) ∨ ∃ d e, Rep H x d ∧ Rep H y e ∧ Shaped d ∧ Shaped e ∧ Q (.bl (PyData.eqv d e)) H
noncomputable def uNe : RU := fun x y H Q => (scal x y = true ∧ Q (.bl (!decide (x = y))) H) ∨ ∃ d e, Rep H x d ∧ Rep H y e ∧ Shaped d ∧ Shaped e ∧ Q (.bl (!PyData.eqv d e)) H
section
variable {X : Cx}
theorem op_eqU (hu : X.A.units + 64 < cLine) : OpR X (compareOp .Eq) uEq := by
  intro pins s σ H x y v u Q I rx ry h
  rcases h with h | ⟨d, e, hd, he, sd, se, q⟩
  · exact op_eq pins s σ H x y v u Q I rx ry h
  · obtain ⟨as, ra⟩ := reads_of I.hok rx hd
    obtain ⟨bs, rb⟩ := reads_of I.hok ry he
    exact eq_dataH ra rb sd se hu ⟨.bl _, H, I, rfl, q⟩
theorem op_neU (hu : X.A.units + 64 < cLine) : OpR X (compareOp .NotEq) uNe := by
  intro pins s σ H x y v u Q I rx ry h
  rcases h with h | ⟨d, e, hd, he, sd, se, q⟩
  · exact op_ne pins s σ H x y v u Q I rx ry h
  · obtain ⟨as, ra⟩ := reads_of I.hok rx hd
    obtain ⟨bs, rb⟩ := reads_of I.hok ry he
    exact ne_dataH ra rb sd se hu ⟨.bl _, H, I, rfl, q⟩

/-! ### the dicts of the module -/
noncomputable def KDict (P : Program) (w : World) (K : PySem.W.Frag) (a : Addr) (kvs : List (Key × V)) : Prop :=
  ∀ h : Heap, K.In h → (a == sysModules) = false ∧ ∃ vs, KV kvs vs ∧ h.DictOf (mixKind P w) a vs
/-- what a dict, tracked or the module's, holds under a key -/
noncomputable def DGetU (P : Program) (w : World) (K : PySem.W.Frag) (H : Hp) (a : Addr) (y : V) (r : Option V) : Prop :=
  DGet H a y r ∨ ∃ kvs k, KDict P w K a kvs ∧ y = kV k ∧ r = valV kvs k
noncomputable def rIxD (P : Program) (w : World) (K : PySem.W.Frag) : R2 := fun x y H Q => ∃ a v, x = .ref a ∧ DGetU P w K H a y (some v) ∧ Q v H
theorem ix_dict (hu : X.A.units + 64 < cLine) : IxR X (rIxD X.prog X.w X.K) := by
  intro value slice pins s σ H x y v u Q I rx ry h hs
  obtain ⟨a, z, rfl, g, q⟩ := h
  cases rx
  rcases g with g | ⟨kvs, k, kd, rfl, e⟩
  · exact tail_any (dict_typeIs I g) PySem.F.slot_dict_getitem.lookup (d_getItem (by omega) I g ry fun w' s3 I3 rw' => ⟨z, H, I3, rw', q⟩) hs
  · obtain ⟨hd, vs, rel, dd⟩ := kd _ I.kIn
    obtain ⟨w', hw, rw'⟩ := RelO.some_of (v := z) (o := valueAt vs k) (by rw [e]; exact rel.val k)
    exact tail_any dd.typeIs PySem.F.slot_dict_getitem.lookup (wpAny_getItem_of (kV_is ry) dd.mapOf hw ⟨z, H, I.tok _, rw', q⟩) hs
noncomputable def uIx (P : Program) (w : World) (K : PySem.W.Frag) : R2 := fun x y H Q => rIx K x y H Q ∨ rIxD P w K x y H Q
theorem ix_U (hu : X.A.units + 64 < cLine) : IxR X (uIx X.prog X.w X.K) := IxR.or ix_seq (ix_dict hu)
/-! ### in, not in -/
noncomputable def uIn (P : Program) (w : World) (K : PySem.W.Frag) (neg : Bool) : RU := fun x y H Q =>
  rIn K neg x y H Q ∨ (∃ i j, x = .str i ∧ y = .str j ∧ Q (.bl (if neg then !(!(Builtin.Str.occurrences j i 0 j.length 1).isEmpty) else !(Builtin.Str.occurrences j i 0 j.length 1).isEmpty)) H) ∨
  ∃ a o, y = .ref a ∧ DGetU P w K H a x o ∧ Q (.bl (if neg then !o.isSome else o.isSome)) H
theorem op_inU (hu : X.A.units + 64 < cLine) : OpR X (compareOp .In) (uIn X.prog X.w X.K false) := by
  intro pins s σ H x y v u Q I rx ry h
  rcases h with h | h | ⟨a, o, rfl, g, q⟩
  · exact op_in_seq pins s σ H x y v u Q I rx ry h
  · exact op_in_str pins s σ H x y v u Q I rx ry h
  · cases ry
    rcases g with g | ⟨kvs, k, kd, rfl, e⟩
    · exact d_in (by omega) I g rx fun s' I' => ⟨.bl _, H, I', rfl, q⟩
    · obtain ⟨hd, vs, rel, dd⟩ := kd _ I.kIn
      refine wpAny_in_of (kV_is rx) hd dd.mapOf ?_
      rw [← (rel.val k).isSome_eq, ← e]
      exact ⟨.bl _, H, I.tok _, rfl, q⟩
theorem op_notInU (hu : X.A.units + 64 < cLine) : OpR X (compareOp .NotIn) (uIn X.prog X.w X.K true) := by
  intro pins s σ H x y v u Q I rx ry h
  rcases h with h | h | ⟨a, o, rfl, g, q⟩
  · exact op_notIn_seq pins s σ H x y v u Q I rx ry h
  · exact op_notIn_str pins s σ H x y v u Q I rx ry h
  · cases ry
    rcases g with g | ⟨kvs, k, kd, rfl, e⟩
    · exact d_notIn (by omega) I g rx fun s' I' => ⟨.bl _, H, I', rfl, q⟩
    · obtain ⟨hd, vs, rel, dd⟩ := kd _ I.kIn
      refine wpAny_notIn_of (kV_is rx) hd dd.mapOf ?_
      rw [← (rel.val k).isSome_eq, ← e]
      exact ⟨.bl _, H, I.tok _, rfl, q⟩

/-! ### slices -/
/-- the whole of a tuple is the tuple itself -/
noncomputable def rSlTU (K : PySem.W.Frag) : V → Option Int → Option Int → Hp → VK → Prop := rSlT K
noncomputable def rSlS : V → Option Int → Option Int → Hp → VK → Prop := fun x lo hi H Q => ∃ z, x = .str z ∧ z.length ≤ sizeLine ∧ Q (.str (Txt.slice z lo hi)) H
noncomputable def uSl (K : PySem.W.Frag) : V → Option Int → Option Int → Hp → VK → Prop := fun x lo hi H Q => rSlL K x lo hi H Q ∨ rSlT K x lo hi H Q
theorem sl_U : SlR X (uSl X.K) := SlR.or sl_list sl_tup

/-! ### len, sum, all, isinstance -/
noncomputable def rLenU (P : Program) (w : World) (K : PySem.W.Frag) : List V → Hp → VK → Prop := fun xs H Q => (∃ p ys, xs = [.ref p] ∧ (SqL K H p ys ∨ SqT K H p ys) ∧ Q (.int ys.length) H) ∨ ∃ z, xs = [.str z] ∧ z.length ≤ sizeLine ∧ Q (.int z.length) H
theorem call_lenU : CallR X (.builtin "len") (rLenU X.prog X.w X.K) := CallR.or call_len_seq call_len_str
noncomputable def rSum (K : PySem.W.Frag) : List V → Hp → VK → Prop := fun xs H Q => ∃ (p : Addr) (ns : List Int), xs = [.ref p] ∧ SqL K H p (ns.map V.int) ∧ Q (.int ns.sum) H
theorem call_sum (hc : X.calm = true) : CallR X (.builtin "sum") (rSum X.K) := by
  intro pins s σ H xs us Q I r h
  obtain ⟨p, ns, rfl, hq, q⟩ := h
  obtain ⟨u, rfl, rx⟩ := vals1 r
  cases rx
  obtain ⟨its, r', pl, hz⟩ := I.list hq
  have hi := intsAre_of r'
  obtain ⟨ys, e⟩ := (hi.allInts : AllInts its.toArray).items
  refine sum_intListG (I.ok.hd hc) (xs := ys) (by rw [← e]; exact pl.isList) fun h' tk t' k => ⟨.int ns.sum, H, I.kept (t' := tk) k, ⟨t', ?_⟩, q⟩
  have e2 : (numsOf its.toArray.toList).sum = ns.sum := by rw [show its.toArray.toList = its from rfl, hi.numsOf]
  rw [← e2, e, nums_intItems, preSum_eq, List.take_of_length_le (by simp)]
noncomputable def rAll (K : PySem.W.Frag) : List V → Hp → VK → Prop := fun xs H Q => ∃ (p : Addr) (bs : List Bool), xs = [.ref p] ∧ SqL K H p (bs.map V.bl) ∧ Q (.bl (bs.all id)) H
noncomputable def tyVal : V → Value
  | .ty n => .type n
  | .ref a => .ref a
  | _ => .none
noncomputable def rIsi (K : PySem.W.Frag) : List V → Hp → VK → Prop := fun xs H Q => ∃ x c t b, xs = [x, c] ∧ ((∃ n, c = .ty n) ∨ ∃ a, c = .ref a) ∧ TyOf K H x t ∧ PySem.W.kitOne K t (tyVal c) = some b ∧ Q (.bl b) H
/-! ### names of the module -/
noncomputable def GV (mg : Str → Option Value) (x : Str) (v : V) : Prop := ∃ u, mg x = some u ∧ RelV v u
theorem pe_gl {x : Str} {v : V} {pos : Pos} (h : GV X.mg x v) (hg : Gl X x := by rfl) (hd : (x == ("__debug__" : Str)) = false := by decide) : PE X (.Name x pos) (tC v) := by
  obtain ⟨u, hm, r⟩ := h
  exact pe_glob hg hm r hd
/-! ### not, as a value -/
theorem pe_notT {a : Expr} {ta : TE} {pos : Pos} (ha : PE X a ta) : PE X (.UnaryOp .Not a pos) (fun σ H Q => ta σ H fun x H1 => ∃ k, TruV X.K x H1 k ∧ Q (.bl (!k)) H1) := by
  intro pins s σ H Q I h
  refine UnaryOp_ (thn (ha pins s σ H _ I h) fun v s1 ⟨x, H1, I1, r1, q1⟩ => ?_)
  exact not_of (thn (tru_ok pins s1 σ H1 x v (fun k H2 => Q (.bl (!k)) H2) I1 r1 q1) fun k s2 ⟨H2, I2, q2⟩ => ⟨.bl (!k), H2, I2, rfl, q2⟩)
/-! ### what a for walks: a list or a tuple -/
noncomputable def iU (K : PySem.W.Frag) (tl : TE) : TI := fun σ H R => tl σ H fun x H1 => ∃ a, x = .ref a ∧ (((∃ xs, SqL K H1 a xs) ∧ R (Itl K a) H1) ∨ ((∃ xs, SqT K H1 a xs) ∧ R (Itt K a) H1))
end
end L2

namespace L2
open PySem PySem.Spec PyProof.Rows
/-- all that was tracked is as it was, but at l -/
noncomputable def SameBut (l : Addr) (H H' : Hp) : Prop := ∀ b o, H b = some o → b ≠ l → H' b = some o
section
variable {t u : TS} {c tA tB' : TT} {te ta tb tc : TE} {g : TG} {tl tr : TA} {nx bk ct : St → Hp → Prop} {rt : VK} {σ : St} {H : Hp} {Q : VK} {QB : Bool → Hp → Prop} {QL : List V → Hp → Prop} {QS : St → Hp → Prop} {i : Nat} {v x y : V} {r : R2}
noncomputable def AllocT (xs : List V) (H : Hp) (Q : VK) : Prop := xs.length ≤ sizeLine ∧ ∀ p, H p = none → Q (.ref p) (upd H p (.tup xs))
noncomputable def AllocL (xs : List V) (H : Hp) (Q : VK) : Prop := xs.length ≤ sizeLine ∧ ∀ p, H p = none → Q (.ref p) (upd H p (.lst xs))
noncomputable def MakeK (C : Addr) (sp : Sp) (E : XK) (vs : List V) (H : Hp) (Q : VK) : Prop := ∀ x dx, H x = none → H dx = none → dx ≠ x → sp (.ref x :: (vs ++ [])) (upd (upd H dx (.own x)) x (.ins C dx [])) (fun v H2 => v = .non ∧ Q (.ref x) H2) E
noncomputable def MethK (P : Program) (w : World) (K : PySem.W.Frag) (mg : Str → Option Value) (base : Heap) (CX : CXT) (k : Nat) (m : Str) (E : XK) (t : TA) (σ : St) (x : V) (H1 : Hp) (Q : VK) : Prop :=
  ∃ a C dx fs sp, x = .ref a ∧ H1 a = some (.ins C dx fs) ∧ Cls K C ∧ MethG P w K mg base CX k C m sp ∧ fs.lookup m = none ∧ t σ H1 fun vs H2 => sp (x :: vs) H2 Q E
noncomputable def FldK (K : PySem.W.Frag) (f : Str) (x : V) (H1 : Hp) (Q : VK) : Prop := ∃ a C dx fs v, x = .ref a ∧ H1 a = some (.ins C dx fs) ∧ Cls K C ∧ NoAttr K C f ∧ fs.lookup f = some v ∧ Q v H1
noncomputable def SFldK (K : PySem.W.Frag) (f : Str) (y x : V) (H2 : Hp) (QS : Hp → Prop) : Prop := ∃ a C dx fs, x = .ref a ∧ H2 a = some (.ins C dx fs) ∧ Cls K C ∧ NoAttr K C f ∧ fs.length < 1000 ∧ QS (upd H2 a (.ins C dx (putF f y fs)))
/-! leaves -/
end
end L2

namespace L2
open PySem PySem.Spec PyProof.Rows

structure InsTy (K : PySem.W.Frag) (C : Addr) : Prop where
  ha : PySem.W.findIn K (.ref C) "__class__" = some (some (.builtin "object.__class__"))
  hn : PySem.W.specialIn K (.builtin "object.__class__") "__get__" = some (some (.builtin "getset_descriptor.__get__"))
  ht : PySem.W.takesIn K (.builtin "object.__class__") = some true
  hm : PySem.W.mroIn K C (.type "object") = some true
section
variable {X : Cx} {pins : List (Addr × Obj)} {σ : St} {H : Hp} {s : Shared} {Q : VK} {C : Addr}
noncomputable def MakeG0 (K : PySem.W.Frag) (mg : Str → Option Value) (x : Str) (C : Addr) : Prop := Mk0 K C ∧ mg x = some (.ref C)
noncomputable def tMk00 (C : Addr) : TE := fun _ H Q => ∀ x dx H', H x = none → Same H H' → H' x = some (.ins C dx []) → Q (.ref x) H'
end
/-! the forms one uses of a for -/
/-- what a for over a list or a tuple wants, once the iterable is known -/
noncomputable def ForK (K : PySem.W.Frag) (g : TG) (tb : TS) (D : Ends) (σ : St) (x : V) (H1 : Hp) : Prop := ∃ a, x = .ref a ∧ (((∃ xs, SqL K H1 a xs) ∧ ∃ W : Nat → Nat → St → Hp → Prop, (∃ m, W 0 m σ H1) ∧ ∀ i m σ H, W i m σ H →
    ((Itl K a).stop i H ∧ D.nx σ H) ∨ ((Itl K a).go i H ∧ ∃ N : St → Hp → Prop, (∀ σ' H', N σ' H' → ∃ m', m' < m ∧ W (i + 1) m' σ' H') ∧ ∀ x H', (Itl K a).yld i H x H' → g x σ H' fun σ2 H2 => tb { D with nx := N, ct := N, bk := D.nx } σ2 H2))
    ∨ ((∃ xs, SqT K H1 a xs) ∧ ∃ W : Nat → Nat → St → Hp → Prop, (∃ m, W 0 m σ H1) ∧ ∀ i m σ H, W i m σ H →
    ((Itt K a).stop i H ∧ D.nx σ H) ∨ ((Itt K a).go i H ∧ ∃ N : St → Hp → Prop, (∀ σ' H', N σ' H' → ∃ m', m' < m ∧ W (i + 1) m' σ' H') ∧ ∀ x H', (Itt K a).yld i H x H' → g x σ H' fun σ2 H2 => tb { D with nx := N, ct := N, bk := D.nx } σ2 H2)))
section
variable {K : PySem.W.Frag} {tl : TE} {g : TG} {tb : TS} {nx bk ct : St → Hp → Prop} {rt : VK} {σ : St} {H : Hp} {a : Addr} {xs : List V}
noncomputable def RngK (g : TG) (tb : TS) (D : Ends) (σ : St) (vs : List V) (H1 : Hp) : Prop := ∃ j : Int, vs = [.int j] ∧ -(2 ^ 62) ≤ j ∧ j < 2 ^ 62 ∧ ∃ W : Nat → Nat → St → Hp → Prop, (∃ m, W 0 m σ H1) ∧ ∀ i m σ H, W i m σ H →
    ((Itr 0 j.toNat).stop i H ∧ D.nx σ H) ∨ ((Itr 0 j.toNat).go i H ∧ ∃ N : St → Hp → Prop, (∀ σ' H', N σ' H' → ∃ m', m' < m ∧ W (i + 1) m' σ' H') ∧ ∀ x H', (Itr 0 j.toNat).yld i H x H' → g x σ H' fun σ2 H2 => tb { D with nx := N, ct := N, bk := D.nx } σ2 H2)
end
end L2

namespace L2
open PySem PySem.Spec PyProof.Rows
theorem bt_len : bootBuiltins "len" = some (.builtin "len") := by decide +kernel
theorem bt_sum : bootBuiltins "sum" = some (.builtin "sum") := by decide +kernel
theorem bt_all : bootBuiltins "all" = some (.builtin "all") := by decide +kernel
theorem bt_isinstance : bootBuiltins "isinstance" = some (.builtin "isinstance") := by decide +kernel
theorem bt_max : bootBuiltins "max" = some (.builtin "max") := by decide +kernel
theorem bt_min : bootBuiltins "min" = some (.builtin "min") := by decide +kernel
theorem bt_int : bootBuiltins "int" = some (.type "int") := by decide +kernel
theorem bt_str : bootBuiltins "str" = some (.type "str") := by decide +kernel
theorem bt_tuple : bootBuiltins "tuple" = some (.type "tuple") := by decide +kernel
theorem bt_ValueError : bootBuiltins "ValueError" = some (.type "ValueError") := by decide +kernel
theorem pe_ty {X : Cx} {x : Str} {n : String} {pos : Pos} (hm : X.mg x = none) (hv : bootBuiltins x = some (.type n)) (hg : Gl X x := by rfl) (hn : x ≠ "__name__" := by decide) (hd : (x == ("__debug__" : Str)) = false := by decide) : PE X (.Name x pos) (tC (.ty n)) := pe_bltn hg hm hv rfl hn hd
/-! isinstance -/
section
variable {K : PySem.W.Frag} {H : Hp} {Q : VK} {b : Bool} {n : String} {c : V}
end
/-! reversed(xs) -/
noncomputable def Itrev (K : PySem.W.Frag) (a : Addr) (xs : List V) : It :=
  ⟨fun i H => SqL K H a xs ∧ i < xs.length, fun i H x H' => H' = H ∧ xs[xs.length - 1 - i]? = some x, fun i H => SqL K H a xs ∧ xs.length ≤ i⟩
noncomputable def iRev (K : PySem.W.Frag) (ta : TA) : TI := fun σ H R => ta σ H fun vs H1 => ∃ a xs, vs = [.ref a] ∧ SqL K H1 a xs ∧ R (Itrev K a xs) H1
noncomputable def RevK (K : PySem.W.Frag) (g : TG) (tb : TS) (D : Ends) (σ : St) (vs : List V) (H1 : Hp) : Prop := ∃ a xs, vs = [.ref a] ∧ SqL K H1 a xs ∧ ∃ W : Nat → Nat → St → Hp → Prop, (∃ m, W 0 m σ H1) ∧ ∀ i m σ H, W i m σ H →
    ((Itrev K a xs).stop i H ∧ D.nx σ H) ∨ ((Itrev K a xs).go i H ∧ ∃ N : St → Hp → Prop, (∀ σ' H', N σ' H' → ∃ m', m' < m ∧ W (i + 1) m' σ' H') ∧ ∀ x H', (Itrev K a xs).yld i H x H' → g x σ H' fun σ2 H2 => tb { D with nx := N, ct := N, bk := D.nx } σ2 H2)
section
variable {K : PySem.W.Frag} {g : TG} {tb : TS} {nx bk ct : St → Hp → Prop} {rt : VK} {σ : St} {H : Hp} {a : Addr} {xs : List V}
end
section
variable {K : PySem.W.Frag} {H : Hp} {Q : VK} {l : Addr} {xs : List V} {y u v : V} {σ : St} {QS : St → Hp → Prop} {i j : Nat}
end
end L2

namespace L2
open PySem PySem.Spec PyProof.Rows
/-- an exception of a class of the text flies behind a call: B is all of the heap but the frames, what is tracked lies in it -/
noncomputable def CXE (P : Program) (w : World) : CXT := fun outer H s E e s' =>
  ∃ (ea C : Addr) (a0 : Value) (B : Heap) (H' : Hp), e = .ref ea ∧ s'.os = s.os ∧ AllBare s'.gens ∧ Un (frs outer) [] H H' s.heap s'.heap ∧ HOk P w H' B ∧ Heap.FlyingW B outer ea (.ref C) a0 s'.heap ∧
    (∀ b o, s.heap.get? b = some o → b ∉ frs outer → ∃ o', B.get? b = some o') ∧ (∀ b o, s.heap.get? b = some o → H b = none → b ∉ frs outer → B.get? b = some o) ∧ E (.ref C) none H'
theorem passE0 {P : Program} {w : World} {X : Cx} : Passes (CXE P w) X E0 := fun _ _ _ _ _ _ _ ⟨_, _, _, _, _, _, _, _, _, _, _, _, _, h⟩ => h.elim

section
variable {P : Program} {w : World} {K : PySem.W.Frag} {mg : Str → Option Value} {base : Heap} {N : List Str} {qual : Str} {scope : Scope} {f : Addr} {cd : Value} {A : Around} {outer : List Env} {s₀ : Shared} {H₀ : Hp} {E : XK}
/-- an exception of a callee leaves this frame -/
theorem passE : Passes (CXE P w) (cxOf (CXE P w) P w K mg base N qual scope f cd A outer s₀ H₀ E) E := by
  intro pins σ H s e s' I h
  obtain ⟨ea, C, a0, B, H', rfl, hos, hg, u, hok, fl, hB, hBk, hE⟩ := h
  have fsE : frs (cxOf (CXE P w) P w K mg base N qual scope f cd A outer s₀ H₀ E).stack = s₀.heap.objs.size :: frs outer := rfl
  have ltL : ∀ {b o}, s₀.heap.get? b = some o → b ≠ s₀.heap.objs.size := fun {b o} q => Nat.ne_of_lt (Heap.lt_size q)
  have nst : ∀ {b o}, s₀.heap.get? b = some o → b ∉ frs outer → b ∉ frs (cxOf (CXE P w) P w K mg base N qual scope f cd A outer s₀ H₀ E).stack := fun {b o} q n hm => by
    rw [fsE] at hm
    rcases List.mem_cons.mp hm with z | z
    · exact ltL q z
    · exact n z
  have bu := I.base
  refine wpAny_leaves_onW (env := envOfC qual scope s₀.heap.objs.size f cd) (outer := outer) (L := s₀.heap.objs.size) I.ok.frames rfl fl fun h'' fl'' sm => ?_
  have nf : ∀ {b}, b ∈ frs (cxOf (CXE P w) P w K mg base N qual scope f cd A outer s₀ H₀ E).stack → ∀ o, s'.heap.get? b = some o → ∀ vs, o.data ≠ .fields vs := fun {b} hb o ho => by
    obtain ⟨_, o', ho', hd⟩ := fl.2.2.1.mem (b := b) hb
    rw [ho] at ho'; cases ho'; exact hd
  refine ⟨ea, C, a0, B, H', rfl, hos.trans I.os, hg, ⟨?_, ?_, ?_, ?_, ?_, ?_, ?_⟩, hok, fl'', ?_, ?_, hE⟩
  · intro b o q n nm _
    have q1 := bu.keep b o q n nm (by simp [cxOf])
    have n1 := bu.free b o q n (by simp [cxOf])
    exact fl''.1 b o (hBk b o q1 n1 (nst q nm))
  · intro b o q n hm _
    obtain ⟨sl, q1⟩ := bu.slot b o q n hm (by simp [cxOf])
    have n1 := bu.free b o q n (by simp [cxOf])
    have hm' : b ∈ frs (cxOf (CXE P w) P w K mg base N qual scope f cd A outer s₀ H₀ E).stack := by rw [fsE]; exact List.mem_cons_of_mem _ hm
    obtain ⟨sl2, q2⟩ := u.slot b _ q1 n1 hm' (by simp)
    obtain ⟨sl3, q3⟩ := sm b _ q2 (nf hm' _ q2)
    exact ⟨sl3, q3⟩
  · intro b o q n _
    have n1 := bu.free b o q n (by simp [cxOf])
    obtain ⟨o1, q1⟩ := bu.there b o q (by simp [cxOf])
    exact u.free b o1 q1 n1 (by simp)
  · intro b o q _
    obtain ⟨o1, q1⟩ := bu.there b o q (by simp [cxOf])
    by_cases hm : b ∈ frs outer
    · have hm' : b ∈ frs (cxOf (CXE P w) P w K mg base N qual scope f cd A outer s₀ H₀ E).stack := by rw [fsE]; exact List.mem_cons_of_mem _ hm
      obtain ⟨o2, q2⟩ := u.there b o1 q1 (by simp)
      obtain ⟨sl3, q3⟩ := sm b _ q2 (nf hm' _ q2)
      exact ⟨_, q3⟩
    · obtain ⟨o2, q2⟩ := hB b o1 q1 (nst q hm)
      exact ⟨o2, fl''.1 b o2 q2⟩
  · intro b xs q; exact u.tups b xs (bu.tups b xs q)
  · intro b o v q; exact u.frzs b o v (bu.frzs b o v q)
  · intro b ps q
    obtain ⟨m1, q1⟩ := bu.tbls b ps q
    obtain ⟨m2, q2⟩ := u.tbls b _ q1
    exact ⟨m1 ++ m2, by rw [q2, Array.append_assoc]⟩
  · intro b o q nm
    obtain ⟨o1, q1⟩ := bu.there b o q (by simp [cxOf])
    exact hB b o1 q1 (nst q nm)
  · intro b o q n nm
    have q1 := bu.keep b o q n nm (by simp [cxOf])
    have n1 := bu.free b o q n (by simp [cxOf])
    exact hBk b o q1 n1 (nst q nm)

/-- an exception that this body raises leaves the frame -/
theorem raiseE {pins : List (Addr × Obj)} {σ : St} {H : Hp} {s : Shared} {h' : Heap} {e C : Addr} {vs : List Value} (I : Inv (cxOf (CXE P w) P w K mg base N qual scope f cd A outer s₀ H₀ E) pins σ H s)
    (hx : Heap.MadeExcOf s.heap h' e (.ref C) vs) (hE : E (.ref C) none H) : (cxOf (CXE P w) P w K mg base N qual scope f cd A outer s₀ H₀ E).xe (.ref e) { s with heap := h' } := by
  have fsE : frs (cxOf (CXE P w) P w K mg base N qual scope f cd A outer s₀ H₀ E).stack = s₀.heap.objs.size :: frs outer := rfl
  have bu := I.base
  have ltL : ∀ {b o}, s₀.heap.get? b = some o → b ≠ s₀.heap.objs.size := fun {b o} q => Nat.ne_of_lt (Heap.lt_size q)
  have nst : ∀ {b o}, s₀.heap.get? b = some o → b ∉ frs outer → b ∉ (s₀.heap.objs.size :: frs outer) := fun {b o} q n hm => by
    rcases List.mem_cons.mp hm with z | z
    · exact ltL q z
    · exact n z
  have hin : ∀ env ∈ (envOfC qual scope s₀.heap.objs.size f cd :: outer), ∀ a, env.frame = some a → a ∈ (s₀.heap.objs.size :: frs outer) := fun env he b hb => by
    rcases List.mem_cons.mp he with rfl | he
    · have : s₀.heap.objs.size = b := Option.some.inj hb
      subst this; exact List.mem_cons_self ..
    · exact List.mem_cons_of_mem _ (List.mem_filterMap.mpr ⟨env, he, hb⟩)
  have stk : s.heap.FunFrames base (envOfC qual scope s₀.heap.objs.size f cd :: outer) := I.stack
  have hl := PySem.W.funFrames_hide (as := s₀.heap.objs.size :: frs outer) stk hin
  refine wpAny_leaves_madeW (base := PySem.W.hideAll s.heap (s₀.heap.objs.size :: frs outer)) (h := s.heap) (env := envOfC qual scope s₀.heap.objs.size f cd) (outer := outer) (L := s₀.heap.objs.size) I.ok.frames rfl
    (fun b o q => PySem.W.of_hideAll _ q) hl hx fun h'' t fl _ _ sm => ?_
  have hide : ∀ {b o}, s.heap.get? b = some o → b ∉ (s₀.heap.objs.size :: frs outer) → (PySem.W.hideAll s.heap (s₀.heap.objs.size :: frs outer)).get? b = some o := fun {b o} q n => PySem.W.hideAll_get _ q n
  have nf : ∀ {b}, b ∈ frs outer → ∀ o, s.heap.get? b = some o → ∀ vs, o.data ≠ .fields vs := fun {b} hb o ho => by
    obtain ⟨_, o', ho', hd⟩ := stk.mem (b := b) (by rw [show List.filterMap (·.frame) (envOfC qual scope s₀.heap.objs.size f cd :: outer) = s₀.heap.objs.size :: frs outer from rfl]; exact List.mem_cons_of_mem _ hb)
    rw [ho] at ho'; cases ho'; exact hd
  have thr : ∀ b o, s₀.heap.get? b = some o → b ∉ frs outer → ∃ o', (PySem.W.hideAll s.heap (s₀.heap.objs.size :: frs outer)).get? b = some o' := fun b o q nm => by
    obtain ⟨o1, q1⟩ := bu.there b o q (by simp [cxOf])
    exact ⟨o1, hide q1 (nst q nm)⟩
  have kpt : ∀ b o, s₀.heap.get? b = some o → H₀ b = none → b ∉ frs outer → (PySem.W.hideAll s.heap (s₀.heap.objs.size :: frs outer)).get? b = some o := fun b o q n nm =>
    hide (bu.keep b o q n nm (by simp [cxOf])) (nst q nm)
  refine ⟨e, C, .ref t, _, H, rfl, I.os, I.bare, ⟨?_, ?_, ?_, ?_, bu.tups, bu.frzs, bu.tbls⟩, ?_, fl, thr, kpt, hE⟩
  · intro b o q n nm _
    exact fl.1 b o (kpt b o q n nm)
  · intro b o q n hm _
    obtain ⟨sl, q1⟩ := bu.slot b o q n hm (by simp [cxOf])
    obtain ⟨sl3, q3⟩ := sm b _ (hx.keeps b _ q1) (nf hm _ q1)
    exact ⟨sl3, q3⟩
  · intro b o q n _; exact bu.free b o q n (by simp [cxOf])
  · intro b o q _
    by_cases hm : b ∈ frs outer
    · obtain ⟨o1, q1⟩ := bu.there b o q (by simp [cxOf])
      obtain ⟨sl3, q3⟩ := sm b _ (hx.keeps b _ q1) (nf hm _ q1)
      exact ⟨_, q3⟩
    · obtain ⟨o2, q2⟩ := thr b o q hm
      exact ⟨o2, fl.1 b o2 q2⟩
  · intro a o q
    have frn := I.stkFree
    rw [fsE] at frn
    refine (I.hok a o q).stay (fun b u hb q' => hide q' fun hm => ?_) (fun _ z => z) fun _ _ z => z
    have n := frn b hm
    rcases hb with rfl | hb
    · rw [q] at n; cases n
    · rw [hb] at n; cases n

/-- an own error class, as the top has made it -/
structure Exc (K : PySem.W.Frag) (mg : Str → Option Value) (x : Str) (C : Addr) : Prop where
  at_ : PySem.W.nsIn K mainGlobals x = some (some (.ref C))
  ex : ∃ bmB newId B initId, PySem.W.excIn K C bmB newId = true ∧ ExcBaseFacts B newId initId bmB
  mg_ : mg x = some (.ref C)
noncomputable def RaiseK (C : Addr) (E : XK) (v : V) (H : Hp) : Prop := ∃ v', [v] = [v'] ∧ E (.ref C) none H
noncomputable def tRaise (C : Addr) (E : XK) (te : TE) : TS := fun _ σ H => te σ H fun v H1 => RaiseK C E v H1
theorem ps_raise {x : Str} {C : Addr} {e₀ : Expr} {te : TE} {np cpos pos : Pos} (O : Exc K mg x C)
    (he : PE (cxOf (CXE P w) P w K mg base N qual scope f cd A outer s₀ H₀ E) e₀ te) (hh : Room 0 (A.deeper (envOfC qual scope s₀.heap.objs.size f cd)))
    (hg : Gl (cxOf (CXE P w) P w K mg base N qual scope f cd A outer s₀ H₀ E) x := by rfl) (hdb : (x == ("__debug__" : Str)) = false := by decide)
    (hst : starEach [e₀] (envOfC qual scope s₀.heap.objs.size f cd) = [(false, eval e₀ (envOfC qual scope s₀.heap.objs.size f cd))] := by rfl) :
    PS (cxOf (CXE P w) P w K mg base N qual scope f cd A outer s₀ H₀ E) (.Raise (some (.Call (.Name x np) [e₀] [] cpos)) none pos) (tRaise C E te) := by
  intro pins s σ H D I h
  obtain ⟨bmB, newId, B, initId, q, FB⟩ := O.ex
  have hC0 : PySem.W.excIn K C bmB newId = true := q
  have cls : ∀ {h : Heap}, K.In h → ∃ bm N nm q bs hdct sn sub ab col dd k0 k1 k2 k3 k5 mN, h.get? C = some (excClassObj nm q C N bs bm hdct sn sub ab col dd k0 k1 k2 k3 k5 newId) ∧ h.Ns N mN ∧ mN "__init__" = none ∧ OwnTail h bmB bm := fun {h} X => by
    unfold PySem.W.excIn at q
    split at q
    · rename_i dd cd sl ho
      split at q
      · rename_i C' bm k0 k1 k2 k3 n k5 hm hs
        simp only [Bool.and_eq_true, beq_iff_eq, Bool.not_eq_true'] at q
        obtain ⟨⟨⟨⟨⟨rfl, rfl⟩, hdel⟩, ht⟩, hok⟩, hni⟩ := q
        obtain ⟨nm, bs, mro, ns, qn, hd, sn, sub, ab, col, del⟩ := cd
        dsimp only at hm hdel hok hni
        subst hm hdel
        have hsl : sl = #[k0, k1, k2, k3, some (.builtin n), k5] := by
          obtain ⟨l⟩ := sl
          simp only at hs
          rw [hs]
        subst hsl
        exact ⟨bm, ns, nm, qn, bs, hd, sn, sub, ab, col, dd, k0, k1, k2, k3, k5, _, X _ _ ho, .of_isNs (PySem.W.isNs_of_in X hok), PySem.W.nsMap_none_of_in X hok hni, PySem.W.tail_of_in X ht⟩
      · cases q
    · cases q
  obtain ⟨tl, Nc, nm, qn, bs, hdct, sn, sub, ab, col, dd, k0, k1, k2, k3, k5, mN, hC, hN, hni, T⟩ := cls I.ok.mod.kin
  refine wpAny_Raise_call_subT (C := C) (nm := nm) (q := qn) (N := Nc) (bs := bs) (bm := tl) (hdct := hdct) (sn := sn) (sub := sub) (ab := ab) (col := col) (dd := dd) (k0 := k0) (k1 := k1) (k2 := k2) (k3 := k3) (k5 := k5)
    FB (mN := mN) (T.hasType FB.hasBase) hh.hd (by show (backTo cpos (starEach [e₀] (envOfC qual scope s₀.heap.objs.size f cd))).any (·.1) = false; rw [hst]; rfl) hni (ld_glob I hg O.mg_ ⟨rfl, ?_⟩ hdb)
  show wpAny _ _ (evalArgs (.ref C) true (backTo cpos (starEach [e₀] (envOfC qual scope s₀.heap.objs.size f cd))) []) _ _ s
  have hA := (pa_cons he pa_nil (by show starEach [e₀] (envOfC qual scope s₀.heap.objs.size f cd) = _; rw [hst]; rfl)) cpos pins s σ H (fun vs H1 => ∃ v, vs = [v] ∧ E (.ref C) none H1) I h
  rw [show starEach [e₀] (cxOf (CXE P w) P w K mg base N qual scope f cd A outer s₀ H₀ E).env = [(false, eval e₀ (envOfC qual scope s₀.heap.objs.size f cd))] from hst] at hA
  rw [hst]
  refine Calls.evalArgs_plain (wpAny_mono hA (fun us s₂ ⟨vs, H1, I1, r, ⟨v, hl, q1⟩⟩ => ?_) fun _ _ y => y)
  have kb := I1.bk
  refine ⟨rfl, by show us.length ≤ sizeLine; rw [← r.length, hl]; exact (by decide : 1 ≤ sizeLine), kb _ _ hC, hN.keeps kb, T.keeps kb, fun h' e hm => raiseE I1 hm q1⟩
theorem Fun.okE {x qual : Str} {st : Stmt} {f : Addr} {fd : FuncData} {N ps : List Str} {k : Nat} {sp : Sp} (F : Fun K x qual st f fd) (S : FnScope N ps (defScope st)) (len : ∀ vs H Q E, sp vs H Q E → vs.length = ps.length)
    (hbody : ∀ (cdv : Value) (A : Around) (outer : List Env) (s : Shared) (H : Hp) (vs : List V) (Q : VK) (E : XK), Room k (A.deeper (envOfC qual (defScope st) s.heap.objs.size f cdv)) → sp vs H Q E →
      ∃ t, PSs (cxOf (CXE P w) P w K mg base N qual (defScope st) f cdv A outer s H E) (defBody st) t ∧ t { nx := fun _ H' => Q .non H', rt := Q } (start N vs) H) : FnOk P w K mg base (CXE P w) (k + 1) f fd ps sp := by
  obtain ⟨oc, od, kV, doc, pm, an, cdv, ct, osl, rfl, lk, hcd⟩ := F.ex
  exact fn_of lk hcd S len fun A outer s H vs Q E hr hsp => hbody cdv A outer s H vs Q E hr hsp
theorem ownE : PassesOwn (model P w) (A.deeper (envOfC qual scope s₀.heap.objs.size f cd)) (envOfC qual scope s₀.heap.objs.size f cd) (cxOf (CXE P w) P w K mg base N qual scope f cd A outer s₀ H₀ E).xe := PassesOwn.leaving
theorem cxe_out {H : Hp} {s : Shared} {e : Value} {s' : Shared} (h : CXE P w [] H s (fun _ _ _ => False) e s') : False := by
  obtain ⟨_, _, _, _, _, _, _, _, _, _, _, _, _, h⟩ := h; exact h
end
end L2

namespace L2
open PySem PySem.Spec PyProof.Rows
/-! ### a text's signs, walked -/
noncomputable def Its (z : Str) : It := ⟨fun i _ => i < z.length, fun i H x H' => H' = H ∧ ∃ c, z.cps[i]? = some c ∧ x = .str ⟨#[c]⟩, fun i _ => z.length ≤ i⟩
theorem turn_strA {P : Program} {w : World} {K : PySem.W.Frag} {tg : Expr} (z : Str) (t : Tok) (it : Addr) : Turn P w K tg (Its z) [it] it (fun i h => h.IsStrIter it "str_ascii_iterator" z t i) where
  mem := by simp
  obj := fun i h st b hb => by
    have e : b = it := by simpa using hb
    subst e
    obtain ⟨o, e, c, d⟩ := st
    exact ⟨o, e, fun v z => by rw [d] at z; cases z⟩
  keep := fun i h h' st k => let ⟨o, ho, r⟩ := st; ⟨o, k it (by simp) o ho, r⟩
  item := by
    intro X hP hw hK hc i pins s σ H E I hf st hg
    subst hP hw hK
    obtain ⟨f0, f1, f2, f3, f4, f5⟩ := hf it (by simp)
    have hi : i < z.cps.size := hg
    refine wpAny_pyNext_ascii_item st (c := z.cps[i]) (by simp [hi]) fun h' st' sb => ?_
    have I1 : Inv X pins σ H { s with heap := h', toks := s.toks + 1 } := I.turned (t' := s.toks + 1) (fun b o hb e => (sb.2 b hb).trans e) f0 f1 f3 f4 f5
    obtain ⟨o, e, c, d⟩ := id st'
    exact ⟨_, rfl, go_of (s := { s with heap := h', toks := s.toks + 1 }) e c d (by decide) ⟨.str ⟨#[z.cps[i]]⟩, H, I1, ⟨_, rfl⟩, ⟨rfl, z.cps[i], by simp [hi], rfl⟩, st', fun b hb => (hf b hb).1⟩⟩
  done := by
    intro X hP hw hK hc i pins s σ H E I hf st hg
    subst hP hw hK
    obtain ⟨f0, f1, f2, f3, f4, f5⟩ := hf it (by simp)
    have hi : z.cps.size ≤ i := hg
    exact wpAny_pyNext_ascii_end (I.ok.hd hc) st (by simp; omega) fun h' eb => ⟨rfl, I.turned (t' := s.toks) (fun b o hb e => eb b o hb e) f0 f1 f3 f4 f5⟩
  self := fun _ _ _ _ _ st h => wpAny_pyIter_striter_ascii st h
theorem turn_strW {P : Program} {w : World} {K : PySem.W.Frag} {tg : Expr} (z : Str) (t : Tok) (it : Addr) : Turn P w K tg (Its z) [it] it (fun i h => h.IsStrIter it "str_iterator" z t i) where
  mem := by simp
  obj := fun i h st b hb => by
    have e : b = it := by simpa using hb
    subst e
    obtain ⟨o, e, c, d⟩ := st
    exact ⟨o, e, fun v z => by rw [d] at z; cases z⟩
  keep := fun i h h' st k => let ⟨o, ho, r⟩ := st; ⟨o, k it (by simp) o ho, r⟩
  item := by
    intro X hP hw hK hc i pins s σ H E I hf st hg
    subst hP hw hK
    obtain ⟨f0, f1, f2, f3, f4, f5⟩ := hf it (by simp)
    have hi : i < z.cps.size := hg
    refine wpAny_pyNext_wide_item st (c := z.cps[i]) (by simp [hi]) fun h' st' sb => ?_
    have I1 : Inv X pins σ H { s with heap := h', toks := s.toks + 1 } := I.turned (t' := s.toks + 1) (fun b o hb e => (sb.2 b hb).trans e) f0 f1 f3 f4 f5
    obtain ⟨o, e, c, d⟩ := id st'
    exact ⟨_, rfl, go_of (s := { s with heap := h', toks := s.toks + 1 }) e c d (by decide) ⟨.str ⟨#[z.cps[i]]⟩, H, I1, ⟨_, rfl⟩, ⟨rfl, z.cps[i], by simp [hi], rfl⟩, st', fun b hb => (hf b hb).1⟩⟩
  done := by
    intro X hP hw hK hc i pins s σ H E I hf st hg
    subst hP hw hK
    obtain ⟨f0, f1, f2, f3, f4, f5⟩ := hf it (by simp)
    have hi : z.cps.size ≤ i := hg
    exact wpAny_pyNext_wide_end (I.ok.hd hc) st (by simp; omega) fun h' eb => ⟨rfl, I.turned (t' := s.toks) (fun b o hb e => eb b o hb e) f0 f1 f3 f4 f5⟩
  self := fun _ _ _ _ _ st h => wpAny_pyIter_striter_wide st h
/-- what a for or a comprehension walks: a list, a tuple or a text -/
noncomputable def iV (K : PySem.W.Frag) (tl : TE) : TI := fun σ H R => tl σ H fun x H1 => (∃ a, x = .ref a ∧ (((∃ xs, SqL K H1 a xs) ∧ R (Itl K a) H1) ∨ ((∃ xs, SqT K H1 a xs) ∧ R (Itt K a) H1))) ∨ ∃ z, x = .str z ∧ R (Its z) H1
section
variable {X : Cx}
theorem pi_V {tg l : Expr} {tl : TE} (hl : PE X l tl) : PI X tg l (iV X.K tl) := by
  intro pins s σ H R I h
  refine thn (hl pins s σ H _ I h) fun v s1 ⟨x, H1, I1, r1, q1⟩ => ?_
  have fp : ∀ b ∈ [s1.heap.objs.size], FpOk X pins H1 b := fun b hb => by
    have e : b = s1.heap.objs.size := by simpa using hb
    subst e
    exact I1.fpOk (Nat.le_refl _) (I1.hok.fresh (Nat.le_refl _))
  rcases q1 with ⟨a, e, q⟩ | ⟨z, e, q⟩
  · subst e
    cases r1
    rcases q with ⟨⟨xs, hq⟩, q⟩ | ⟨⟨xs, hq⟩, q⟩
    · obtain ⟨its, rv, p, hz⟩ := I1.list hq
      refine wpAny_pyIter_list p.isList ?_
      exact ⟨s1.heap.objs.size, [s1.heap.objs.size], _, _, H1, rfl, I1.kept (t' := s1.toks) fun b o e => Heap.get?_push_of_some _ e, turn_list a _, ⟨_, Heap.get?_push_size _ rfl, rfl, rfl⟩, fp, q⟩
    · obtain ⟨its, rv, p, hz⟩ := I1.tuple hq
      refine wpAny_pyIter_tuple (show s1.heap.IsTuple a its.toArray from p) ?_
      exact ⟨s1.heap.objs.size, [s1.heap.objs.size], _, _, H1, rfl, I1.kept (t' := s1.toks) fun b o e => Heap.get?_push_of_some _ e, turn_tuple a _, ⟨_, Heap.get?_push_size _ rfl, rfl, rfl⟩, fp, q⟩
  · subst e
    obtain ⟨t, rfl⟩ := r1
    cases ha : z.cps.all (· < 128)
    · exact wpAny_pyIter_wide ha ⟨s1.heap.objs.size, [s1.heap.objs.size], _, _, H1, rfl, I1.kept (t' := s1.toks) fun b o e => Heap.get?_push_of_some _ e, turn_strW z t _, ⟨_, Heap.get?_push_size _ rfl, rfl, rfl⟩, fp, q⟩
    · exact wpAny_pyIter_ascii ha ⟨s1.heap.objs.size, [s1.heap.objs.size], _, _, H1, rfl, I1.kept (t' := s1.toks) fun b o e => Heap.get?_push_of_some _ e, turn_strA z t _, ⟨_, Heap.get?_push_size _ rfl, rfl, rfl⟩, fp, q⟩
/-! ### all -/
theorem valsBl : ∀ {bs : List Bool} {its : List Value}, Vals (bs.map V.bl) its → its = bs.map Value.bool
  | [], _, .nil => rfl
  | b :: bs, _, .cons r rr => by rw [List.map_cons, ← valsBl rr]; cases r; rfl
theorem call_all (hc : X.calm = true) : CallR X (.builtin "all") (rAll X.K) := by
  intro pins s σ H xs us Q I r h
  obtain ⟨p, bs, rfl, hq, q⟩ := h
  obtain ⟨u, rfl, rx⟩ := vals1 r
  cases rx
  obtain ⟨its, r', pl, hz⟩ := I.list hq
  have e := valsBl r'
  have hh : X.A.in1.handled = none := I.ok.hd hc
  refine call_all_walk (wpAny_pyIter_list pl.isList ?_)
  have hne : p ≠ s.heap.objs.size := by
    obtain ⟨o, ho, _⟩ := pl.isList
    exact Nat.ne_of_lt (Heap.lt_size ho)
  refine ⟨s.heap.objs.size, _, _, _, _, _, fun i => bs.getD i false, rfl, Walks.list hh _ p hne its.toArray, ?_, ?_, fun h' tk hk => ?_⟩
  · exact ⟨⟨_, Heap.get?_push_size _ rfl, rfl, rfl⟩, pl.isList.at fun o e => Heap.get?_push_of_some _ e⟩
  · intro i v s' Q' E' hP hQ
    have hv : its[i]? = some v := by simpa using hP
    rw [e, List.getElem?_map] at hv
    obtain ⟨b, hb, rfl⟩ := Option.map_eq_some_iff.mp hv
    have : bs.getD i false = b := by simp [List.getD, hb]
    have hQ' : Q' (bs.getD i false) s' := hQ
    rw [this] at hQ'
    exact wpAny_truthy_bool hQ'
  · have k : ∀ b o, s.heap.get? b = some o → h'.get? b = some o := fun b o e => hk b o (by
      intro hm
      have : b = s.heap.objs.size := by simpa using hm
      exact absurd (Heap.lt_size e) (by rw [this]; exact Nat.lt_irrefl _)) (Heap.get?_push_of_some _ e)
    refine ⟨.bl (bs.all id), H, I.kept (t' := tk) k, ?_, q⟩
    have hl := r'.length
    simp only [List.length_map] at hl
    have e2 : (List.range its.toArray.size).all (fun i => bs.getD i false) = bs.all id := by
      rw [List.size_toArray, ← hl]
      rw [Bool.eq_iff_iff, List.all_eq_true, List.all_eq_true]
      constructor
      · intro hh x hx
        obtain ⟨i, hi, rfl⟩ := List.getElem_of_mem hx
        have := hh i (List.mem_range.mpr hi)
        simpa [List.getD, hi] using this
      · intro hh i hi
        have hi' := List.mem_range.mp hi
        have := hh bs[i] (List.getElem_mem hi')
        simpa [List.getD, hi'] using this
    rw [e2]; rfl
/-! ### join, split -/
theorem strsAre_of : ∀ {ys : List Str} {its : List Value}, Vals (ys.map V.str) its → StrsAre its ys
  | [], _, .nil => .nil
  | y :: ys, _, .cons r rr => by obtain ⟨t, rfl⟩ := r; exact .cons y t (strsAre_of rr)
noncomputable def rJoin (K : PySem.W.Frag) : V → List V → Hp → VK → Prop := fun x vs H Q => ∃ (z : Str) (p : Addr) (ys : List Str), x = .str z ∧ vs = [.ref p] ∧ SqL K H p (ys.map V.str) ∧ (ys.map (·.length)).sum + ys.length * z.length ≤ 16777216 ∧ Q (.str (Txt.join z ys)) H
theorem mt_join : MtR X "str.join" (rJoin X.K) := by
  intro pins s σ H x xs v us Q I rx rv h
  obtain ⟨z, p, ys, rfl, rfl, hq, hz, q⟩ := h
  obtain ⟨t, rfl⟩ := rx
  obtain ⟨u, rfl, ru⟩ := rv.one
  cases ru
  obtain ⟨its, r', pl, _⟩ := I.list hq
  exact join_list pl.isList (by simpa using strsAre_of r') hz fun t' k => ⟨.str _, H, I.tok k, ⟨t', rfl⟩, q⟩
theorem vals_strs : ∀ (l : List (Str × Tok)), Vals ((l.map (·.1)).map V.str) (strValues l)
  | [] => .nil
  | (x, t) :: r => .cons ⟨t, rfl⟩ (vals_strs r)
noncomputable def rSplit : V → List V → Hp → VK → Prop := fun x vs H Q => ∃ (z y : Str), x = .str z ∧ vs = [.str y] ∧ y.length ≠ 0 ∧ z.length ≤ sizeLine ∧ (Txt.split z y).length ≤ sizeLine ∧ ∀ p H', H p = none → H' p = some (.lst ((Txt.split z y).map V.str)) → Same H H' → Q (.ref p) H'
open Builtin Builtin.Str in
theorem mt_split : MtR X "str.split" rSplit := by
  intro pins s σ H x xs v us Q I rx rv h
  obtain ⟨z, y, rfl, rfl, hy, hz, hl, q⟩ := h
  obtain ⟨t, rfl⟩ := rx
  obtain ⟨w', rfl, u, rfl⟩ := rv.one
  have hy' : (y.length == 0) = false := by simpa using hy
  have fin : ∀ (l : List (Str × Tok)) (tk : Nat), l.map (·.1) = Txt.split z y → EP X pins σ Q (.ref s.heap.objs.size) { s with heap := s.heap.push { cls := .type "list", data := .seq (strValues l).toArray }, toks := tk } := fun l tk e =>
    ⟨.ref s.heap.objs.size, _, I.lnew (t' := tk) (ys := (Txt.split z y).map V.str) (by rw [← e]; exact vals_strs l) (by rw [List.length_map]; exact hl), rfl, q _ _ I.fresh upd_same fun b o e => by rw [upd_ne (ne_of_none e I.fresh)]; exact e⟩
  cases h1 : (decide (z.length < y.length) || decide (strKind z < strKind y))
  · cases hf : (occurrences z y 0 z.length (z.length + 1)).isEmpty
    · have e0 : Txt.split z y = partsBetween z (occurrences z y 0 z.length (z.length + 1)) y.length := (if_neg (ne_true_of_eq_false h1)).trans (if_neg (ne_true_of_eq_false hf))
      refine call_meets F.slot_str_split (typeIs_str _ _ _) F.entry_str_split (F.args_str_split_2 _ _) (meets_str_split_sep z y t u h1 hy' hf hz (by rw [← e0]; exact hl)) ?_
      show wants (EP X pins σ Q) X.xe _ { s with toks := _, heap := s.heap.push { cls := .type "list", data := .seq (strsFrom s.toks (partsBetween z (occurrences z y 0 z.length (z.length + 1)) y.length)).toArray } }
      rw [strsFrom_eq]
      exact fin (numbered s.toks _) _ ((numbered_texts _ _).trans e0.symm)
    · exact call_meets F.slot_str_split (typeIs_str _ _ _) F.entry_str_split (F.args_str_split_2 _ _) (meets_str_split_not_found z y t u h1 hy' hf)
        (fin [(z, t)] s.toks ((if_neg (ne_true_of_eq_false h1)).trans (if_pos hf)).symm)
  · exact call_meets F.slot_str_split (typeIs_str _ _ _) F.entry_str_split (F.args_str_split_2 _ _) (meets_str_split_cannot_occur z y t u h1)
      (fin [(z, t)] s.toks (if_pos h1).symm)
/-! ### int of a text, str of an int -/
noncomputable def rInt : List V → Hp → VK → Prop := fun xs H Q => ((∃ i, xs = [.int i] ∧ Q (.int i) H) ∨ ∃ k, xs = [.bl k] ∧ Q (.int (if k then 1 else 0)) H) ∨ ∃ z n, xs = [.str z] ∧ z.length ≤ 640 ∧ intText? z = some n ∧ Q (.int n) H
theorem call_intU : CallR X (.type "int") rInt := by
  refine CallR.or call_int1 ?_
  intro pins s σ H xs us Q I r h
  obtain ⟨z, n, rfl, hl, hn, q⟩ := h
  obtain ⟨u, rfl, t, rfl⟩ := vals1 r
  exact PySem.W.KIN.call_text hn hl ⟨.int n, H, I.tok _, ⟨_, rfl⟩, q⟩
noncomputable def rStr : List V → Hp → VK → Prop := fun xs H Q => ∃ i, xs = [.int i] ∧ i.natAbs.log2 < 1920 ∧ Q (.str (toString i)) H
theorem call_strU : CallR X (.type "str") rStr := call_str_int
/-! ### f"..{x}.." -/
noncomputable def tJn : Str → TA → TE := fun _ ta σ H Q => ta σ H fun vs H1 => ∃ z, vs = [.str z] ∧ Q (.str z) H1
noncomputable abbrev TJ := Str → St → Hp → (Str → Hp → Prop) → Prop
noncomputable def PJ (X : Cx) (es : List Expr) (t : TJ) : Prop := ∀ (out : Str) (pins : List (Addr × Obj)) (s : Shared) (σ : St) (H : Hp) (Q : VK), Inv X pins σ H s → t out σ H (fun z H' => z.length ≤ sizeLine ∧ Q (.str z) H') →
  wpAny (model X.prog X.w) X.A (joinParts out (evalEach es X.env)) (EP X pins σ Q) X.xe s
noncomputable def tJnil : TJ := fun out _ H Q => Q out H
noncomputable def tJcons (te : TE) (t : TJ) : TJ := fun out σ H Q => te σ H fun x H1 => ∃ y, x = .str y ∧ (out ++ y).length ≤ sizeLine ∧ t (out ++ y) σ H1 Q
noncomputable def tJs (t : TJ) : TE := fun σ H Q => t Str.empty σ H fun z H' => z.length ≤ sizeLine ∧ Q (.str z) H'
/-- {x} of an int or a text -/
noncomputable def tFmt (te : TE) : TE := fun σ H Q => te σ H fun x H1 => (∃ i, x = .int i ∧ i.natAbs.log2 < 1920 ∧ Q (.str (toString i)) H1) ∨ ∃ z, x = .str z ∧ z.length ≤ sizeLine ∧ Q (.str z) H1
end
end L2

namespace L2
open PySem PySem.Spec PyProof.Rows
section
variable {X : Cx}
theorem valsIntAt {ns : List Int} {its : List Value} (r : Vals (ns.map V.int) its) {i : Nat} {v : Value} (h : its[i]? = some v) : ∃ t, v = .int (ns.getD i 0) t ∧ i < ns.length := by
  have hl := r.length
  rw [List.length_map] at hl
  have hi : i < its.length := (List.getElem?_eq_some_iff.mp h).1
  have hx : (ns.map V.int)[i]? = some (.int ns[i]) := by simp [List.getElem?_map, List.getElem?_eq_getElem (show i < ns.length by omega)]
  obtain ⟨u, hu, ⟨t, rfl⟩⟩ := r.get hx
  rw [h] at hu
  refine ⟨t, ?_, by omega⟩
  have : ns.getD i 0 = ns[i] := by simp [List.getD, List.getElem?_eq_getElem (show i < ns.length by omega)]
  rw [this]; exact Option.some.inj hu
theorem getD_in {ns : List Int} {i : Nat} (h : i < ns.length) : ns.getD i 0 ∈ ns := by
  have : ns.getD i 0 = ns[i] := by simp [List.getD, List.getElem?_eq_getElem h]
  rw [this]; exact List.getElem_mem _
/-! max of a tuple, of two -/
noncomputable def rMaxT (K : PySem.W.Frag) : List V → Hp → VK → Prop := fun xs H Q => ∃ (p : Addr) (ns : List Int), xs = [.ref p] ∧ SqT K H p (ns.map V.int) ∧ 0 < ns.length ∧ ∀ M, M ∈ ns → (∀ a ∈ ns, a ≤ M) → Q (.int M) H
theorem call_maxT (hc : X.calm = true) : CallR X (.builtin "max") (rMaxT X.K) := by
  intro pins s σ H xs us Q I r h
  obtain ⟨p, ns, rfl, hq, hn, q⟩ := h
  obtain ⟨u, rfl, rx⟩ := vals1 r
  cases rx
  obtain ⟨its, r', pl, hz⟩ := I.tuple hq
  have hl := r'.length
  rw [List.length_map] at hl
  have hh : X.A.in1.handled = none := I.ok.hd hc
  refine call_max_walk (wpAny_pyIter_tuple (show s.heap.IsTuple p its.toArray from pl) ?_)
  have hne : p ≠ s.heap.objs.size := by
    obtain ⟨o, ho, _⟩ := pl
    exact Nat.ne_of_lt (Heap.lt_size ho)
  have pl' : s.heap.IsTuple p its.toArray := pl
  have hfp : ∀ b ∈ [s.heap.objs.size, p], b < (s.heap.push { cls := .type "tuple_iterator", data := .fields #[.ref p, rawInt 0] }).objs.size := fun b hb => by
    rw [Heap.size_push]
    obtain ⟨o, ho, _⟩ := pl
    have := Heap.lt_size ho
    rcases List.mem_cons.mp hb with rfl | hb
    · exact Nat.lt_succ_self _
    · have e : b = p := by simpa using hb
      subst e; exact Nat.lt_succ_of_lt this
  refine ⟨s.heap.objs.size, _, _, _, _, _, fun i j => decide (ns.getD i 0 > ns.getD j 0), rfl, Walks.tuple hh _ p hne its.toArray, ⟨⟨_, Heap.get?_push_size _ rfl, rfl, rfl⟩, pl'.at fun o e => Heap.get?_push_of_some _ e⟩, hfp, by rw [List.size_toArray]; omega,
    CmpOf.ints_gt (fun i => ns.getD i 0) (fun i v hv => by obtain ⟨t, e, _⟩ := valsIntAt r' (by simpa using hv); exact ⟨t, e⟩), fun v h' tk hP hk => ?_⟩
  have k : ∀ b o, s.heap.get? b = some o → h'.get? b = some o := fun b o e => hk b o (by
    intro hm
    have : b = s.heap.objs.size := by simpa using hm
    exact absurd (Heap.lt_size e) (by rw [this]; exact Nat.lt_irrefl _)) (Heap.get?_push_of_some _ e)
  obtain ⟨t, e, hlt⟩ := valsIntAt r' (by simpa using hP)
  subst e
  obtain ⟨h1, h2⟩ := argBest_gt (fun i => ns.getD i 0) (its.toArray.size - 1)
  refine ⟨.int _, H, I.kept (t' := tk) k, ⟨t, rfl⟩, q _ ?_ fun a ha => ?_⟩
  · exact getD_in hlt
  · obtain ⟨j, hj, rfl⟩ := List.getElem_of_mem ha
    have := h2 j (by rw [List.size_toArray]; omega)
    simpa [List.getD, List.getElem?_eq_getElem hj] using this
noncomputable def rMax (K : PySem.W.Frag) : List V → Hp → VK → Prop := fun xs H Q => (∃ i j, xs = [.int i, .int j] ∧ Q (.int (if j > i then j else i)) H) ∨ rMaxT K xs H Q
theorem call_maxU (hc : X.calm = true) : CallR X (.builtin "max") (rMax X.K) := CallR.or (call_max2 hc) (call_maxT hc)
noncomputable def rMin : List V → Hp → VK → Prop := fun xs H Q => ∃ i j, xs = [.int i, .int j] ∧ Q (.int (if j < i then j else i)) H
theorem call_minU (hc : X.calm = true) : CallR X (.builtin "min") rMin := call_min2 hc
/-! xs[lo::st] of a list of ints: some list of its ints -/
noncomputable def tSlS (K : PySem.W.Frag) (te tl ts : TE) : TE := fun σ H Q => te σ H fun x H1 => tl σ H1 fun l H2 => ts σ H2 fun u H3 => ∃ (a : Addr) (ns : List Int) (i k : Int), x = .ref a ∧ l = .int i ∧ u = .int k ∧ 0 < k ∧ SqL K H3 a (ns.map V.int) ∧
  ∀ p (ms : List Int) H', H3 p = none → H' p = some (.lst (ms.map V.int)) → Same H3 H' → Q (.ref p) H'
end
end L2

namespace L2
open PySem PySem.Spec PyProof.Rows
/-! ### an exception of a callee, caught in this frame -/
/-- an exception of the class at C flies behind a call of this frame: what is held of the state -/
noncomputable def Fly (X : Cx) (pins : List (Addr × Obj)) (σ : St) (H' : Hp) (ea C : Addr) (s' : Shared) : Prop :=
  ∃ (a0 : Value) (B : Heap) (H : Hp) (s : Shared), Inv X pins σ H s ∧ s'.os = s.os ∧ AllBare s'.gens ∧ Un (frs X.stack) [] H H' s.heap s'.heap ∧ HOk X.prog X.w H' B ∧ Heap.FlyingW B X.stack ea (.ref C) a0 s'.heap ∧
    (∀ b o, s.heap.get? b = some o → b ∉ frs X.stack → ∃ o', B.get? b = some o') ∧ (∀ b o, s.heap.get? b = some o → H b = none → b ∉ frs X.stack → B.get? b = some o)
/-- what is wanted of an exception: of the slots, its class, the heap -/
noncomputable abbrev FK := St → Addr → Hp → Prop
noncomputable def XP (X : Cx) (pins : List (Addr × Obj)) (σ : St) (F : Addr → Hp → Prop) (e : Value) (s' : Shared) : Prop :=
  ∃ ea C H', e = .ref ea ∧ Fly X pins σ H' ea C s' ∧ F C H'
theorem ObjOk.there {P : Program} {w : World} {H : Hp} {h : Heap} {a : Addr} {o : HO} (x : ObjOk P w H h a o) : ∃ u, h.get? a = some u := by
  cases o with
  | lst xs => obtain ⟨_, _, _, _, e⟩ := x; exact ⟨_, e⟩
  | tup xs => obtain ⟨_, _, _, o, e, _⟩ := x; exact ⟨_, e⟩
  | dK kvs => obtain ⟨_, _, _, _, o, _, _, e, _⟩ := x; exact ⟨_, e⟩
  | dT kvs => obtain ⟨_, _, _, _, o, _, _, e, _⟩ := x; exact ⟨_, e⟩
  | set S n => obtain ⟨o, _, _, _, e, _⟩ := x; exact ⟨_, e⟩
  | ins C dx fs => obtain ⟨_, _, _, e, _⟩ := x; exact ⟨_, e⟩
  | own y => exact x
  | xd fs => obtain ⟨_, ⟨_, _, _, e, _⟩, _⟩ := x; exact ⟨_, e⟩
  | rng lo hi => obtain ⟨_, _, _, e⟩ := x; exact ⟨_, e⟩
  | frz ob u => obtain ⟨e, _⟩ := x; exact ⟨_, e⟩
  | tbl ps => exact ⟨_, x⟩
  | met f y => exact ⟨_, x⟩
  | ext φ => obtain ⟨_, e, _⟩ := x; exact e
section
variable {X : Cx} {pins : List (Addr × Obj)} {σ : St} {H H' : Hp} {s s' : Shared} {ea C : Addr}
theorem Fly.inv (F : Fly X pins σ H' ea C s') : Inv X pins σ H' s' := by
  obtain ⟨a0, B, H, s, I, ho, hg, u, hok, fl, _, _⟩ := F
  exact I.call' ho u (hok.kept fl.1) hg fun b z => absurd z (by simp)
theorem Fly.there (F : Fly X pins σ H' ea C s') : ∃ o, s'.heap.get? ea = some o ∧ o.cls = .ref C := by
  obtain ⟨a0, B, H, s, I, ho, hg, u, hok, fl, _, _⟩ := F
  exact fl.there
theorem Fly.fresh (F : Fly X pins σ H' ea C s') : H' ea = none := by
  obtain ⟨a0, B, H, s, I, ho, hg, u, hok, fl, _, _⟩ := F
  cases e : H' ea with
  | none => rfl
  | some o =>
    obtain ⟨x, z⟩ := (hok ea o e).there
    rw [fl.2.1] at z; cases z
/-- the exception was not there ahead of the call -/
theorem Fly.new (F : Fly X pins σ H' ea C s') : ∃ (H : Hp) (s : Shared), Inv X pins σ H s ∧ s.heap.get? ea = none := by
  obtain ⟨a0, B, H, s, I, ho, hg, u, hok, fl, hB, hBk⟩ := F
  refine ⟨H, s, I, ?_⟩
  cases e : s.heap.get? ea with
  | none => rfl
  | some o =>
    by_cases hm : ea ∈ frs X.stack
    · obtain ⟨_, o', ho', hd⟩ := fl.2.2.1.mem (b := ea) hm
      obtain ⟨oe, vs, T, oT, ts, he, hc, hdd, _⟩ := fl.2.2.2
      rw [ho'] at he; cases he
      exact absurd hdd (hd _)
    · obtain ⟨o', z⟩ := hB ea o e hm
      rw [fl.2.1] at z; cases z
theorem Fly.step {B : Heap} {a0 : Value} {h : Heap} (I : Inv X pins σ H s) (ho : s'.os = s.os) (hg : AllBare s'.gens) (u : Un (frs X.stack) [] H H' s.heap s'.heap) (hok : HOk X.prog X.w H' B)
    (hB : ∀ b o, s.heap.get? b = some o → b ∉ frs X.stack → ∃ o', B.get? b = some o') (hBk : ∀ b o, s.heap.get? b = some o → H b = none → b ∉ frs X.stack → B.get? b = some o)
    (sm : s'.heap.UpToSlots h) (ff : s'.heap.FunFrames B X.stack) (fl : Heap.FlyingW B X.stack ea (.ref C) a0 h) : Fly X pins σ H' ea C { s' with heap := h } := by
  have nf : ∀ {b}, b ∈ frs X.stack → ∀ o, s'.heap.get? b = some o → ∀ vs, o.data ≠ .fields vs := fun {b} hb o ho => by
    obtain ⟨_, o', ho', hd⟩ := ff.mem (b := b) hb
    rw [ho] at ho'; cases ho'; exact hd
  refine ⟨a0, B, H, s, I, ho, hg, ⟨?_, ?_, u.free, ?_, u.tups, u.frzs, u.tbls⟩, hok, fl, hB, hBk⟩
  · intro b o q n nm _
    exact fl.1 b o (hBk b o q n nm)
  · intro b o q n hm _
    obtain ⟨sl2, q2⟩ := u.slot b _ q n hm (by simp)
    obtain ⟨sl3, q3⟩ := sm b _ q2 (nf hm _ q2)
    exact ⟨sl3, q3⟩
  · intro b o q _
    by_cases hm : b ∈ frs X.stack
    · obtain ⟨o2, q2⟩ := u.there b o q (by simp)
      obtain ⟨sl3, q3⟩ := sm b _ q2 (nf hm _ q2)
      exact ⟨_, q3⟩
    · obtain ⟨o2, q2⟩ := hB b o q hm
      exact ⟨o2, fl.1 b o2 q2⟩
/-- it lands in this frame -/
theorem Fly.lands {M : Model} {A : Around} {E : Value → Shared → Prop} {Q : Unit → Shared → Prop} (F : Fly X pins σ H' ea C s') (hst : X.stack = X.env :: X.outer) (hfr : X.env.frame = some X.env.locals) (hA : A.frames = some X.stack)
    (k : ∀ s2, Fly X pins σ H' ea C s2 → Q () s2) : wpAny M A (noteFrame (.ref ea) X.env) (fun _ s2 => wpAny M A (setFlight (.ref ea) none) Q E s2) E s' := by
  obtain ⟨a0, B, H, s, I, ho, hg, u, hok, fl, hB, hBk⟩ := F
  have ff := fl.2.2.1
  refine wpAny_looks_onW (env := X.env) (outer := X.outer) (L := X.env.locals) (by rw [hA, hst]) hfr (by rw [← hst]; exact fl) fun h₄ hheld₄ hsm₄ => ?_
  refine wpAny_landsW hheld₄ fun h₅ hheld hsm₅ => ?_
  rw [← hst] at hheld
  exact k _ (Fly.step (s' := s') I ho hg u hok hB hBk (hsm₄.trans hsm₅) ff hheld)
theorem Fly.again {M : Model} {A : Around} {E : Value → Shared → Prop} {Q : Unit → Shared → Prop} (F : Fly X pins σ H' ea C s') (k : ∀ s2, Fly X pins σ H' ea C s2 → Q () s2) : wpAny M A (setFlight (.ref ea) none) Q E s' := by
  obtain ⟨a0, B, H, s, I, ho, hg, u, hok, fl, hB, hBk⟩ := F
  exact lands_againW fl fun h₅ hheld hsm => k _ (Fly.step (s' := s') I ho hg u hok hB hBk hsm fl.2.2.1 hheld)
/-- it is tracked from now on: its object stays as it is -/
theorem Fly.track {oe : Obj} (F : Fly X pins σ H' ea C s') (hex : X.ex = []) (he : s'.heap.get? ea = some oe) : Inv X pins σ (upd H' ea (.frz oe (.own 0))) s' := by
  have I' := F.inv
  have fr := F.fresh
  obtain ⟨H, s, I, hn⟩ := F.new
  have n0 : ∀ {b o}, X.s₀.heap.get? b = some o → b ≠ ea := fun {b o} e z => by
    subst z
    obtain ⟨o', q⟩ := I.base.there b o e (by rw [hex]; simp)
    rw [hn] at q; cases q
  have ne : ∀ {b o}, s.heap.get? b = some o → b ≠ ea := fun {b o} e z => by subst z; rw [hn] at e; cases e
  have nl : X.env.locals ≠ ea := by
    obtain ⟨m, ⟨o, _, _, q, _⟩, _⟩ := I.loc
    exact ne q
  refine ⟨I'.ok, I'.os, I'.bare, ⟨I'.base.keep, I'.base.slot, fun b o e n hx => ?_, I'.base.there, fun b xs e => ?_, fun b o u e => ?_, fun b ps e => ?_⟩, I'.loc, I'.cell, ?_, fun x c e => ?_, fun p hp => ?_, fun b o e => ?_, I'.len⟩
  · rw [upd_ne (n0 e)]; exact I'.base.free b o e n hx
  · have q := I'.base.tups b xs e
    rw [upd_ne (ne_of_none q fr)]; exact q
  · have q := I'.base.frzs b o u e
    rw [upd_ne (ne_of_none q fr)]; exact q
  · obtain ⟨m, q⟩ := I'.base.tbls b ps e
    exact ⟨m, by rw [upd_ne (ne_of_none q fr)]; exact q⟩
  · rw [upd_ne nl]; exact I'.free
  · obtain ⟨v, o, q, _⟩ := I.cell x c e
    rw [upd_ne (ne q)]; exact I'.freeC x c e
  · obtain ⟨z1, z2, z3⟩ := I'.pin p hp
    have q := (I.pin p hp).1
    exact ⟨z1, by rw [upd_ne (ne q)]; exact z2, z3⟩
  · by_cases hb : b = ea
    · subst hb
      rw [upd_same] at e; cases e
      exact ⟨he, ⟨_, he⟩⟩
    · rw [upd_ne hb] at e
      exact (I'.hok b o e).stay (fun c v hcc q => q) (fun c q => by rw [upd_ne (ne_of_none q fr)]; exact q) fun c ys q => by rw [upd_ne (ne_of_none q fr)]; exact q
/-- within an except suite -/
noncomputable abbrev Cx.mkd (X : Cx) (ea : Addr) : Cx := { X with A := X.A.mark (some (.ref ea)), calm := false, xe := fun _ _ => False }
theorem Inv.mkd (I : Inv X pins σ H s) (ea : Addr) : Inv (X.mkd ea) pins σ H s :=
  ⟨⟨I.ok.mod, I.ok.kind, I.ok.glob, I.ok.blt, I.ok.above, I.ok.inj, I.ok.has, I.ok.cab, (fun z => nomatch z), I.ok.frames, I.ok.stk, I.ok.exf, I.ok.bs, I.ok.bsz, I.ok.noex, I.ok.exfs, I.ok.funs, I.ok.frf⟩, I.os, I.bare, I.base, I.loc, I.cell, I.free, I.freeC, I.pin, I.hok, I.len⟩
theorem Inv.unmkd (ok : X.Ok) (I : Inv (X.mkd ea) pins σ H s) : Inv X pins σ H s := ⟨ok, I.os, I.bare, I.base, I.loc, I.cell, I.free, I.freeC, I.pin, I.hok, I.len⟩
/-- the name of an except clause goes -/
theorem goes_ok {M : Model} {A : Around} {E : Value → Shared → Prop} {i : Nat} {x : Str} {pos : Pos} {Q : Unit → Shared → Prop} (I : Inv X pins σ H s) (hN : X.N.Nodup) (hi : X.N[i]? = some x) (hk : X.env.scope.names.lookup x = some .local)
    (h : ∀ s', Inv X pins (σ.set i none) H s' → Q () s') : wpAny M A (do bindName X.env x .none; unbindBehindTheSuite X.env x pos) Q E s := by
  obtain ⟨m, hn, hl⟩ := id I.loc
  have hcls : (X.env.scope.kind == .class || (X.env.scope.kind == .module && X.env.locals != X.env.globals)) = false := by rw [I.ok.kind]; rfl
  have hiσ : i < σ.length := by rw [I.len]; exact (List.getElem?_eq_some_iff.mp hi).1
  have cne := I.cne
  refine wpAny_nameGoes_keeps hk hn hcls fun h' v hn' hs => ?_
  obtain ⟨oL, _, _, hoL, _⟩ := id hn
  refine h _ ⟨I.ok, I.os, I.bare, ⟨fun b o e n hb hx => ?_, fun b o e n hb hx => ?_, I.base.free, fun b o e hx => ?_, I.base.tups, I.base.frzs, I.base.tbls⟩, ⟨_, hn', fun j y v' e1 e2 e3 => ?_⟩, fun y c e => ?_, I.free, I.freeC, fun p hp => ?_, fun b ob e => ?_, by simpa using I.len⟩
  · exact (hs.2 b (Nat.ne_of_lt (Nat.lt_of_lt_of_le (Heap.lt_size e) I.ok.above))).trans (I.base.keep b o e n hb hx)
  · obtain ⟨sl, e1⟩ := I.base.slot b o e n hb hx
    exact ⟨sl, (hs.2 b (Nat.ne_of_lt (Nat.lt_of_lt_of_le (Heap.lt_size e) I.ok.above))).trans e1⟩
  · obtain ⟨o', e1⟩ := I.base.there b o e hx
    exact ⟨o', (hs.2 b (Nat.ne_of_lt (Nat.lt_of_lt_of_le (Heap.lt_size e) I.ok.above))).trans e1⟩
  · by_cases hj : j = i
    · subst hj
      rw [List.getElem?_set_self hiσ] at e2
      cases e2
    · rw [List.getElem?_set_ne (Ne.symm hj)] at e2
      obtain ⟨u', r', q⟩ := hl j y v' e1 e2 e3
      refine ⟨u', r', ?_⟩
      rcases q with ⟨k, e⟩ | ⟨k, c, e, z⟩
      · refine .inl ⟨k, ?_⟩
        have : y ≠ x := fun e => hj (nodup_ix hN e1 (e ▸ hi))
        simp [this, e]
      · exact .inr ⟨k, c, e, z.sameBut hs (cne y c e)⟩
  · obtain ⟨w', z⟩ := I.cell y c e
    exact ⟨w', z.sameBut hs (cne y c e)⟩
  · obtain ⟨e, n, ne, nf, d⟩ := I.pin p hp
    exact ⟨(hs.2 p.1 ne).trans e, n, ne, nf, d⟩
  · refine (I.hok b ob e).stay (fun c w' hc q => (hs.2 c ?_).trans q) (fun _ q => q) fun _ _ q => q
    rintro rfl
    rcases hc with hc | hc
    · rw [← hc, I.free] at e; cases e
    · rw [I.free] at hc; cases hc
end
/-! ### the clauses -/
/-- an own class that a clause names -/
structure Clause (K : PySem.W.Frag) (W : Addr) : Prop where
  nt : PySem.W.instIn K (.ref W) (.type "tuple") = some false
  cl : PySem.W.hasDictIn K W = true
  ex : PySem.W.subIn K (.ref W) (.type "BaseException") = some true
theorem excMatches_K {M : Model} {A : Around} {E : Value → Shared → Prop} {K : PySem.W.Frag} {s : Shared} {ea C W : Addr} {oe : Obj} {b : Bool} {Q : Bool → Shared → Prop} (k : K.In s.heap) (c : Clause K W) (he : s.heap.get? ea = some oe) (hc : oe.cls = .ref C)
    (hs : PySem.W.subIn K (.ref C) (.ref W) = some b) (h : Q b s) : wpAny M A (excMatches (.ref ea) (.ref W)) Q E s := by
  obtain ⟨hh, g, d, tk, os⟩ := s
  have k' : K.In hh := k
  have L1 : PySem.W.Looks M hh (isInstance (.ref W) (.type "tuple")) false := PySem.W.looks_instIn k' c.nt
  have L2 : PySem.W.Looks M hh (isType (.ref W)) true := by
    have z0 : (PySem.W.clsIn K W).isSome = true := by obtain ⟨cd, hc, _⟩ := PySem.W.any_some c.cl; rw [hc]; rfl
    unfold PySem.W.clsIn at z0
    split at z0
    · rename_i c' d' cd' sl' ho
      intro A' Q' E' s' kk q
      unfold isType loadHead
      exact wpAny_bind (wpAny_loadPart (kk _ _ (k' _ _ ho)) (wpAny_pure q))
    · cases z0
  have L3 : PySem.W.Looks M hh (isSubtype (.ref W) (.type "BaseException")) true := PySem.W.looks_subIn k' c.ex
  have L4 : PySem.W.Looks M hh (isSubtype (.ref C) (.ref W)) b := PySem.W.looks_subIn k' hs
  have L5 : PySem.W.Looks M hh (typeOf (.ref ea)) (.ref C) := hc ▸ (PySem.W.Looks.ld (h := hh) he).andThen .now
  unfold excMatches isExcClass
  repeat (first | (with_reducible refine L1.at ?_) | (with_reducible refine L2.at ?_) | (with_reducible refine L3.at ?_) | (with_reducible refine L4.at ?_) | (with_reducible refine L5.at ?_) | wp_step)
  cases b <;> (wp_walk; exact h)
section
variable {X : Cx}
/-- clauses: a wish for each class of the exception -/
noncomputable def PH (X : Cx) (hs : List ExceptHandler) (t : Addr → TS) : Prop :=
  ∀ (pins : List (Addr × Obj)) (s : Shared) (σ : St) (H : Hp) (ea C : Addr) (D : Ends), Fly X pins σ H ea C s → t C D σ H → wpAny (model X.prog X.w) X.A (handleBy (.ref ea) X.env hs) (SP X pins D) X.xe s
noncomputable def hNil : Addr → TS := fun _ _ _ _ => False
theorem ph_nil : PH X [] hNil := fun _ _ _ _ _ _ _ _ h => h.elim
/-- behind an except suite the name is gone -/
noncomputable def Ends.gone (D : Ends) (i : Nat) : Ends := ⟨fun σ H => D.nx (σ.set i none) H, D.rt, fun σ H => D.bk (σ.set i none) H, fun σ H => D.ct (σ.set i none) H⟩
noncomputable def hAs (K : PySem.W.Frag) (W : Addr) (i : Nat) (th : TS) (rest : Addr → TS) : Addr → TS := fun C D σ H =>
  ∃ b, PySem.W.subIn K (.ref C) (.ref W) = some b ∧ if b = true then ∀ ea oe, H ea = none → oe.cls = .ref C → th (D.gone i) (σ.set i (some (.ref ea))) (upd H ea (.frz oe (.own 0))) else rest C D σ H
noncomputable def hBare (K : PySem.W.Frag) (W : Addr) (th : TS) (rest : Addr → TS) : Addr → TS := fun C D σ H =>
  ∃ b, PySem.W.subIn K (.ref C) (.ref W) = some b ∧ if b = true then th D σ H else rest C D σ H
theorem ph_as {i : Nat} {y n : Str} {W : Addr} {np pos : Pos} {b₀ : Stmt} {suite : List Stmt} {rest : List ExceptHandler} {th : TS} {tr : Addr → TS} (hex : X.ex = []) (hN : X.N.Nodup) (hi : X.N[i]? = some n) (hk : X.env.scope.names.lookup n = some .local)
    (hg : Gl X y) (hm : X.mg y = some (.ref W)) (hW : Clause X.K W) (hb : ∀ ea, PSs (X.mkd ea) (b₀ :: suite) th) (hr : PH X rest tr) (hd : (y == ("__debug__" : Str)) = false := by decide) :
    PH X (.ExceptHandler (some (.Name y np)) (some n) (b₀ :: suite) pos :: rest) (hAs X.K W i th tr) := by
  intro pins s σ H ea C D F h
  obtain ⟨b, hs, h⟩ := h
  obtain ⟨oe, he, hc⟩ := F.there
  have I := F.inv
  refine wpAny_handleBy_cons (codeAny_handlers_test (ld_glob (X := X.mkd ea) (I.mkd ea) hg hm (excMatches_K I.kIn hW he hc hs ?_) hd)) (by intro q; cases q)
  cases b with
  | false => exact hr pins s σ H ea C D F h
  | true =>
    refine codeAny_handlers_suite_as (F.again fun s2 F2 => ?_)
    obtain ⟨oe2, he2, hc2⟩ := F2.there
    have I2 := F2.track hex he2
    refine store_ok I2 hN hi (.inl hk) (v := .ref ea) (u := .ref ea) rfl (fun s3 I3 => ?_) (.inr hk)
    refine wpAny_mono (hb ea pins s3 _ _ (D.gone i) (I3.mkd ea) (h ea oe2 F2.fresh hc2)) (fun f s4 q => ?_) fun _ _ z => False.elim z
    have ok := I.ok
    cases f with
    | next => obtain ⟨σ', H', I', q⟩ := q; exact goes_ok (I'.unmkd ok) hN hi hk fun s5 I5 => ⟨_, _, I5, q⟩
    | brk => obtain ⟨σ', H', I', q⟩ := q; exact goes_ok (I'.unmkd ok) hN hi hk fun s5 I5 => ⟨_, _, I5, q⟩
    | cont => obtain ⟨σ', H', I', q⟩ := q; exact goes_ok (I'.unmkd ok) hN hi hk fun s5 I5 => ⟨_, _, I5, q⟩
    | ret u => obtain ⟨v, σ', H', I', r, q⟩ := q; exact goes_ok (I'.unmkd ok) hN hi hk fun s5 I5 => ⟨v, _, _, I5, r, q⟩

/-! ### the body of a try: one call that may raise -/
noncomputable def PSX (X : Cx) (st : Stmt) (t : FK → TS) : Prop :=
  ∀ (pins : List (Addr × Obj)) (s : Shared) (σ : St) (H : Hp) (D : Ends) (F : FK), Inv X pins σ H s → t F D σ H → wpAny (model X.prog X.w) X.A (exec st X.env) (SP X pins D) (fun e s' => ∃ σ', XP X pins σ' (F σ') e s') s
noncomputable def PSXs (X : Cx) (st : List Stmt) (t : FK → TS) : Prop :=
  ∀ (pins : List (Addr × Obj)) (s : Shared) (σ : St) (H : Hp) (D : Ends) (F : FK), Inv X pins σ H s → t F D σ H → wpAny (model X.prog X.w) X.A (execs st X.env) (SP X pins D) (fun e s' => ∃ σ', XP X pins σ' (F σ') e s') s
noncomputable def PEX (X : Cx) (e : Expr) (t : (Addr → Hp → Prop) → TE) : Prop :=
  ∀ (pins : List (Addr × Obj)) (s : Shared) (σ : St) (H : Hp) (Q : VK) (F : Addr → Hp → Prop), Inv X pins σ H s → t F σ H Q → wpAny (model X.prog X.w) X.A (eval e X.env) (EP X pins σ Q) (XP X pins σ F) s
/-- the wish about a class as calls take it -/
noncomputable def FE (F : Addr → Hp → Prop) : XK := fun c _ H => ∃ C, c = .ref C ∧ F C H
theorem run_fnX {k : Nat} {f : Addr} {fd : FuncData} {ps : List Str} {sp : Sp} {dvs : List V} {ds : List Value} {pins : List (Addr × Obj)} {σ : St} {H : Hp} {s : Shared} {Q : VK} {us : List Value} {vs : List V} {Fx : Addr → Hp → Prop}
    (F : FnOk X.prog X.w X.K X.mg X.base (CXE X.prog X.w) k f fd ps sp) (hr : Room k X.A) (hb : Binds X.K fd ps ds) (hd : Vals dvs ds)
    (I : Inv X pins σ H s) (r : Vals vs us) (h : sp (vs ++ dvs) H Q (FE Fx)) : wpAny (model X.prog X.w) X.A (call (.ref f) us) (EP X pins σ Q) (XP X pins σ Fx) s := by
  have r2 : Vals (vs ++ dvs) (us ++ ds) := r.append hd
  have hl : (us ++ ds).length = ps.length := by rw [← r2.length]; exact F.len _ _ _ _ h
  refine wpAny_call (codeAny_mono (F.run X.A X.stack s H ⟨us, []⟩ (us ++ ds) (vs ++ dvs) Q (FE Fx) hr I.env0 (hb s us I.kIn hl) r2 h) fun r s' hq => ?_)
  cases r with
  | error e =>
    obtain ⟨ea, C, a0, B, H', rfl, hos, hg, u, hok, fl, hB, hBk, C', hC, hE⟩ := hq
    cases hC
    exact ⟨ea, C, H', rfl, ⟨a0, B, H, s, I, hos, hg, u, hok, fl, hB, hBk⟩, hE⟩
  | ok fl =>
    cases fl with
    | ret u => exact I.after hq
    | next => exact False.elim hq
    | brk => exact False.elim hq
    | cont => exact False.elim hq
theorem nxa {α : Type} {M : Model} {A : Around} {t : Sem α} {Q Q' : α → Shared → Prop} {E : Value → Shared → Prop} {s : Shared} (h : wpAny M A t Q (fun _ _ => False) s) (hQ : ∀ a s, Q a s → Q' a s) : wpAny M A t Q' E s := wpAny_mono h hQ fun _ _ z => False.elim z
noncomputable def xCall (sp : Sp) (dvs : List V) (t : TA) : (Addr → Hp → Prop) → TE := fun F => tCall sp dvs (FE F) t
theorem pex_call {k : Nat} {f : Addr} {fd : FuncData} {ps : List Str} {sp : Sp} {dvs : List V} {ds : List Value} {x : Str} {p pos : Pos} {e : Expr} {es : List Expr} {t : TA}
    (F : FnOk X.prog X.w X.K X.mg X.base (CXE X.prog X.w) k f fd ps sp) (hr : Room k X.A) (hg : Gl X x) (hm : X.mg x = some (.ref f)) (hk : PySem.W.keepIn X.K (.ref f) = true) (hb : Binds X.K fd ps ds) (hd : Vals dvs ds)
    (ha : PA X.nox (e :: es) t) (hdb : (x == ("__debug__" : Str)) = false := by decide) (he : starEach (e :: es) X.env = (false, eval e X.env) :: starEach es X.env := by rfl) (hpl : (backTo pos (starEach es X.env)).any (·.1) = false := by rfl) :
    PEX X (.Call (.Name x p) (e :: es) [] pos) (xCall sp dvs t) := by
  intro pins s σ H Q Fx I h
  refine wpAny_Call_Name_kw (ld_glob I hg hm ?_ hdb)
  refine PySem.W.callWith_K (h₀ := X.base) I.ok.mod.kin hk (nxa (ha pos pins s σ H _ (I.wish _) h) fun us s1 ⟨vs, H1, I1, r, q⟩ => ⟨I1.kIn, ?_⟩) he hpl
  exact run_fnX F hr hb hd I1.unwish r q
theorem pex_g {k : Nat} {x : Str} {sp : Sp} {p pos : Pos} {e : Expr} {es : List Expr} {t : TA} (G : FnG X.prog X.w X.K X.mg X.base (CXE X.prog X.w) k x sp) (hr : Room k X.A) (ha : PA X.nox (e :: es) t) (hg : Gl X x := by rfl) (hdb : (x == ("__debug__" : Str)) = false := by decide)
    (he : starEach (e :: es) X.env = (false, eval e X.env) :: starEach es X.env := by rfl) (hpl : (backTo pos (starEach es X.env)).any (·.1) = false := by rfl) : PEX X (.Call (.Name x p) (e :: es) [] pos) (xCall sp [] t) := by
  obtain ⟨f, fd, ps, F, hm, hk, hb⟩ := G
  exact pex_call F hr hg hm hk hb .nil ha hdb he hpl
noncomputable def xMeth (C : Addr) (m : Str) (sp : Sp) (dvs : List V) (ta : TE) (t : TA) : (Addr → Hp → Prop) → TE := fun F => tMeth C m sp dvs (FE F) ta t
noncomputable def sxDrop (t : (Addr → Hp → Prop) → TE) : FK → TS := fun F D σ H => t (F σ) σ H fun _ H1 => D.nx σ H1
theorem psx_expr {e : Expr} {t : (Addr → Hp → Prop) → TE} {pos : Pos} (he : PEX X e t) (hs : swapsWith e none pos.line X.env = pure false := by rfl) : PSX X (.Expr e pos) (sxDrop t) := by
  intro pins s σ H D F I h
  exact wpAny_Expr_any (wpAny_mono (he pins s σ H _ _ I h) (fun v s1 ⟨x, H1, I1, r1, q1⟩ => ⟨σ, H1, I1, q1⟩) fun _ _ z => ⟨σ, z⟩) I.quiet hs
noncomputable def sxSet (i : Nat) (t : (Addr → Hp → Prop) → TE) : FK → TS := fun F D σ H => t (F σ) σ H fun v H1 => D.nx (σ.set i (some v)) H1
noncomputable def sxRet (t : (Addr → Hp → Prop) → TE) : FK → TS := fun F D σ H => t (F σ) σ H D.rt
noncomputable def sxIf (c : TT) (t u : FK → TS) : FK → TS := fun F D σ H => c σ H fun b H1 => if b = true then t F D σ H1 else u F D σ H1
noncomputable def sxSeq (t u : FK → TS) : FK → TS := fun F D σ H => t F { D with nx := u F D } σ H
theorem psxs_nil : PSXs X [] (fun _ => tNext) := fun _ _ σ H _ _ I h => wpAny_execs_nil ⟨σ, H, I, h⟩
theorem psxs_cons {st : Stmt} {rest : List Stmt} {t u : FK → TS} (h1 : PSX X st t) (h2 : PSXs X rest u) : PSXs X (st :: rest) (sxSeq t u) := by
  intro pins s σ H D F I h
  refine wpAny_execs_cons (thn (h1 pins s σ H { D with nx := u F D } F I h) fun f s1 q => ?_)
  cases f with
  | next => obtain ⟨σ', H', I', q⟩ := q; exact h2 pins s1 σ' H' D F I' q
  | brk => exact q
  | cont => exact q
  | ret u => exact q
/-- try: body, except .. -/
noncomputable def tTry (tb : FK → TS) (th : Addr → TS) : TS := fun D σ H => tb (fun σ1 C H1 => th C D σ1 H1) D σ H
theorem ps_try {body : List Stmt} {h₀ : ExceptHandler} {hs : List ExceptHandler} {pos : Pos} {tb : FK → TS} {th : Addr → TS} (hst : X.stack = X.env :: X.outer) (hfr : X.env.frame = some X.env.locals) (hb : PSXs X body tb) (hh : PH X (h₀ :: hs) th) :
    PS X (.Try body (h₀ :: hs) [] [] pos) (tTry tb th) := by
  intro pins s σ H D I h
  refine wpAny_Try_except (wpAny_mono (hb pins s σ H D _ I h) (fun f s1 q => ?_) fun e s1 q => ?_)
  · cases f with
    | next => exact wpAny_execs_nil q
    | brk => exact q
    | cont => exact q
    | ret u => exact q
  · obtain ⟨σ', ea, C, H', rfl, F, q⟩ := q
    exact F.lands hst hfr I.ok.frames fun s2 F2 => hh pins s2 σ' H' ea C D F2 q
end
end L2

namespace L2
open PySem PySem.Spec PyProof.Rows PySem.Builtin PySem.Builtin.ObjectAttr PySem.Builtin.Getset_descriptor
/-! ### isinstance of a caught exception -/
/-- what an own error class says to isinstance -/
structure IsiC (K : PySem.W.Frag) (C : Addr) : Prop where
  ga : PySem.W.findIn K (.ref C) "__getattribute__" = some (some (.builtin "BaseException.__getattribute__"))
  gt : PySem.W.findIn K (.ref C) "__getattr__" = some none
  cl : PySem.W.findIn K (.ref C) "__class__" = some (some (.builtin "object.__class__"))
  be : PySem.W.subIn K (.ref C) (.type "BaseException") = some true
  ob : PySem.W.mroIn K C (.type "object") = some true
  is : PySem.W.hasDictIn K C = true
section
variable {prog : Program} {w : World} {A : Around} {E : Value → Shared → Prop} {K : PySem.W.Frag} {h : Heap} {g : Array GenState} {d : Drawn} {t : Nat} {os : OsState} {a C : Addr} {o : Obj}
theorem exc_type {M : Model} (hx : h.get? a = some o) (hc : o.cls = .ref C) : PySem.W.Looks M h (typeOf (.ref a)) (.ref C) := hc ▸ (PySem.W.Looks.ld (h := h) hx).andThen .now
theorem exc_class_get {tp : Value} {R : Result → Shared → Prop} (k : K.In h) (c : IsiC K C) (hx : h.get? a = some o) (hc : o.cls = .ref C) (hq : R (.ok (.ret (.ref C))) ⟨h, g, d, t, os⟩) :
    codeAny (model prog w) A (.call (.builtin "getset_descriptor.__get__") ⟨[.builtin "object.__class__", .ref a, tp], []⟩) R ⟨h, g, d, t, os⟩ := by
  have L0 := exc_type (M := model prog w) hx hc
  have L1 := PySem.W.looks_mroIn (M := model prog w) k c.ob
  refine codeAny_call_builtin PySem.W.KF.slot_gs.plain PySem.W.KF.entry_gs (PySem.W.KF.slot_gs.check _ _ _ _ _ _ _ _ PySem.W.KF.type_class (PySem.W.KF.args_gs _ _ _) ?_)
  unfold Builtin.«getset_descriptor.__get__» descrGet
  rw [PySem.W.dga_obj]
  refine wpAny_bind (wpAny_pure ?_)
  unfold descrGetter descrCheckInstance descrNameAndClass isInstance
  simp only [PySem.W.KF.owner_class]
  repeat lk
  refine ⟨Code.quiet_builtin _ (by decide +kernel), codeAny_builtin PySem.W.KF.entry_class ?_⟩
  unfold Builtin.«object.__class__» shownTypeOf
  repeat lk
  all_goals first | exact hq | assumption
theorem exc_entry {tk : Tok} {Q : Fin → Shared → Prop} (k : K.In h) (c : IsiC K C) (hx : h.get? a = some o) (hc : o.cls = .ref C) (hq : Q (.done (.ret (.ref C))) ⟨h, g, d, t, os⟩) :
    wpAny (model prog w) A (Builtin.«object.__getattribute__» ⟨[.ref a, .str "__class__" tk], []⟩) Q E ⟨h, g, d, t, os⟩ := by
  have L0 := exc_type (M := model prog w) hx hc
  have L1 := PySem.W.looks_findIn (M := model prog w) k c.cl
  have hT5 : (⟨h, g, d, t, os⟩ : Shared).TypeIs (.builtin "object.__class__") "getset_descriptor" := F.typeOf_object_class
  have f5 := F.typeOf_object_class
  have f6 := F.slot_gs_get.lookup
  have f7 := F.slot_gs_set.lookup
  repeat (any_goals (first | assumption | (with_reducible refine wpAny_loadPart_at hx ?_; rw [hc]) | (with_reducible refine L1.at ?_) | (with_reducible refine L0.at ?_) | wp_step))
  refine exc_class_get k c hx hc ?_
  repeat (any_goals (first | assumption | wp_step))
theorem exc_check {M : Model} {nameV : Value} {Q : Unit → Shared → Prop} (k : K.In h) (c : IsiC K C) (hx : h.get? a = some o) (hc : o.cls = .ref C) (hq : Q () ⟨h, g, d, t, os⟩) :
    wpAny M A (checkBuiltinCall "BaseException.__getattribute__" ⟨[.ref a, nameV], []⟩) Q E ⟨h, g, d, t, os⟩ := by
  have hk : builtinKind "BaseException.__getattribute__" = some .slot := by decide +kernel
  have hsplit : splitId "BaseException.__getattribute__" = some ("BaseException", "__getattribute__") := by decide +kernel
  have ha := F.args_bexc_ga (.ref a) nameV
  have L2 := PySem.W.looks_subIn (M := M) k c.be
  simp only [checkBuiltinCall, hk, hsplit]
  refine wpAny_bind ?_
  · unfold isInstance
    repeat (first | (with_reducible refine wpAny_loadPart_at hx ?_; rw [hc]) | (with_reducible refine L2.at ?_) | wp_step)
    exact hq
theorem exc_call {tk : Tok} {R : Result → Shared → Prop} (k : K.In h) (c : IsiC K C) (hx : h.get? a = some o) (hc : o.cls = .ref C) (hq : R (.ok (.ret (.ref C))) ⟨h, g, d, t, os⟩) :
    codeAny (model prog w) A (.call (.builtin "BaseException.__getattribute__") ⟨[.ref a, .str "__class__" tk], []⟩) R ⟨h, g, d, t, os⟩ :=
  codeAny_call_builtin F.excAttr_ValueError.ga.plain F.entry_bexc_ga (exc_check k c hx hc (exc_entry k c hx hc hq))
theorem exc_by {tk : Tok} {Q : Value → Shared → Prop} (k : K.In h) (c : IsiC K C) (hx : h.get? a = some o) (hc : o.cls = .ref C) (hq : Q (.ref C) ⟨h, g, d, t, os⟩) :
    wpAny (model prog w) A (getAttrBy (.ref a) (.str "__class__" tk) false) Q E ⟨h, g, d, t, os⟩ := by
  have L1 := PySem.W.looks_findIn (M := model prog w) k c.ga
  have L2 := PySem.W.looks_findIn (M := model prog w) k c.gt
  have f3 := F.excAttr_ValueError.ga.bind (.ref a)
  have hx2 : (Value.builtin "BaseException.__getattribute__" == Value.builtin "object.__getattribute__") = false := by decide +kernel
  have hx1 : (onTheHeap (Value.ref C) && Value.builtin "BaseException.__getattribute__" == Value.builtin "object.__getattribute__") = false := by rw [hx2]; rfl
  repeat (any_goals (first | assumption | (with_reducible refine wpAny_loadPart_at hx ?_; rw [hc]) | (with_reducible refine L1.at ?_) | (with_reducible refine L2.at ?_) | wp_step))
  refine exc_call k c hx hc ?_
  repeat (any_goals (first | assumption | wp_step))
theorem exc_attr {Q : Option Value → Shared → Prop} (k : K.In h) (c : IsiC K C) (hx : h.get? a = some o) (hc : o.cls = .ref C) (hq : Q (some (.ref C)) ⟨h, g, d, t + 1, os⟩) :
    wpAny (model prog w) A (getAttr? (.ref a) "__class__") Q E ⟨h, g, d, t, os⟩ := by
  repeat (any_goals (first | assumption | with_reducible apply exc_by k c hx hc | wp_step))
theorem kitx_exc (c : IsiC K C) (hc : o.cls = .ref C) : PySem.W.KitX K (.ref a) (.ref C) (fun h => h.get? a = some o) where
  ty := fun _ _ _ hx => exc_type hx hc
  it := fun _ _ k _ => by
    have z0 : (PySem.W.clsIn K C).isSome = true := by obtain ⟨cd, hc, _⟩ := PySem.W.any_some c.is; rw [hc]; rfl
    unfold PySem.W.clsIn at z0
    split at z0
    · rename_i c' d' cd' sl' ho
      intro A' Q' E' s' kk q
      unfold isType loadHead
      exact wpAny_bind (wpAny_loadPart (kk _ _ (k _ _ ho)) (wpAny_pure q))
    · cases z0
  ne := fun h tp dd its n sl k htp => by
    refine Bool.eq_false_iff.mpr fun q => ?_
    have e : C = tp := Value.ref.inj (beq_iff_eq.mp q)
    subst e
    have z0 : (PySem.W.clsIn K C).isSome = true := by obtain ⟨cd, hc, _⟩ := PySem.W.any_some c.is; rw [hc]; rfl
    unfold PySem.W.clsIn at z0
    split at z0
    · rename_i c' d' cd' sl' ho
      have z := (k _ _ ho).symm.trans htp
      cases z
    · cases z0
  ca := fun {_ _ _ _ _ s} k hx q => by
    obtain ⟨h, g, d, t, os⟩ := s
    exact exc_attr k c hx hc q
end
section
variable {X : Cx}
/-- isinstance(e, c) of a caught exception -/
theorem isexc_ok {pins : List (Addr × Obj)} {σ : St} {H : Hp} {s : Shared} {A : Around} {E : Value → Shared → Prop} {Q : Value → Shared → Prop} {a C : Addr} {oe : Obj} {u : HO} {cv : Value} {b : Bool} (I : Inv X pins σ H s) (hH : H a = some (.frz oe u)) (hc : oe.cls = .ref C) (c : IsiC X.K C)
    (e : PySem.W.kitOne X.K (.ref C) cv = some b) (h : ∀ tk, Q (.bool b) { s with toks := tk }) : wpAny (model X.prog X.w) A (call (.builtin "isinstance") [.ref a, cv]) Q E s := by
  obtain ⟨he, _⟩ := (show ObjOk X.prog X.w H s.heap a (.frz oe u) from I.hok a _ hH)
  exact PySem.W.kia_one (kitx_exc c hc) I.kIn he e (fun z => nomatch z) h
end
end L2

namespace L2
open PySem PySem.Spec PyProof.Rows
section
variable {X : Cx}
/-! ### texts: find, upper, * n, slices -/
noncomputable def rFind : V → List V → Hp → VK → Prop := fun x vs H Q => ∃ z y : Str, x = .str z ∧ vs = [.str y] ∧ Q (.int (Txt.find z y)) H
noncomputable def rUpper : V → List V → Hp → VK → Prop := fun x vs H Q => ∃ z : Str, x = .str z ∧ vs = [] ∧ (Txt.upper z).length ≤ sizeLine ∧ Q (.str (Txt.upper z)) H
theorem mt_upper : MtR X "str.upper" rUpper := by
  intro pins s σ H x xs v us Q I rx rv h
  obtain ⟨z, rfl, rfl, hz, q⟩ := h
  obtain ⟨t, rfl⟩ := rx
  cases rv
  exact SC.upper (short24 hz) ⟨.str _, H, I.tok _, ⟨_, rfl⟩, q⟩
noncomputable def uMulS : RU := fun x y H Q => match x, y with
  | .int i, .int j => CMul i j ∧ Q (.int (i * j)) H
  | .ref a, .int k => rRep (.ref a) (.int k) H Q
  | .str z, .int n => n.natAbs ≤ 16777216 ∧ z.length * n.toNat ≤ 16777216 ∧ Q (.str (Txt.mul z n)) H
  | _, _ => False
theorem op_mulS : OpR X (binaryOp .Mult) uMulS := by
  intro pins s σ H x y v u Q I rx ry h
  cases x <;> cases y <;> first | exact h.elim | skip
  · exact op_mul pins s σ H _ _ v u Q I rx ry ⟨_, _, rfl, rfl, h.1, h.2⟩
  · obtain ⟨h1, h2, q⟩ := h
    obtain ⟨t, rfl⟩ := rx
    obtain ⟨t', rfl⟩ := ry
    rename_i z n
    refine SB.mul ?_ fun t' k => ⟨.str _, H, I.tok k, ⟨t', rfl⟩, q⟩
    have hp : ¬ n < 1 → z.length * n.toNat ≤ 16777216 := fun _ => h2
    refine ⟨?_, fun h1' _ => ?_, fun h1' _ => ?_⟩
    · have a1 : ¬ n < -(2 ^ 63 : Int) := by omega
      have a2 : ¬ n ≥ (2 ^ 63 : Int) := by omega
      rw [decide_eq_false a1, decide_eq_false a2]; rfl
    · have hpos : 0 < n := by omega
      have e : ((z.length * n.toNat : Nat) : Int) = (z.length : Int) * n := by
        rw [Int.natCast_mul, Int.toNat_of_nonneg (by omega)]
      have h3 : (z.length : Int) * n ≤ 2 ^ 63 - 1 := by rw [← e]; omega
      have h4 : (z.length : Int) ≤ (2 ^ 63 - 1) / n := (Int.le_ediv_iff_mul_le hpos).mpr h3
      omega
    · exact short24 h2
  · exact op_rep pins s σ H _ _ v u Q I rx ry h
theorem sl_txt : SlR X rSlS := by
  intro pins s σ H x v vl vu lo hi sl Q I rx hs pl pu h
  obtain ⟨z, rfl, hz, q⟩ := h
  obtain ⟨t, rfl⟩ := rx
  refine ⟨"str", _, F.slot_str_getitem.lookup, typeIs_str _ _ _, ?_⟩
  obtain ⟨l, rfl, rfl⟩ : ∃ l : Option (Int × Tok), vl = partValue l ∧ lo = l.map (·.1) := by
    cases pl with
    | none => exact ⟨none, rfl, rfl⟩
    | int i t => exact ⟨some (i, t), rfl, rfl⟩
  obtain ⟨u, rfl, rfl⟩ : ∃ l : Option (Int × Tok), vu = partValue l ∧ hi = l.map (·.1) := by
    cases pu with
    | none => exact ⟨none, rfl, rfl⟩
    | int i t => exact ⟨some (i, t), rfl, rfl⟩
  exact wpAny_getItem_str_slice (l := l) (u := u) (st := none) hs rfl (post_val_or_str ⟨Nat.le_trans (Txt.slice_le z _ _) hz, fun t' k => ⟨.str _, H, I.tok k, ⟨t', rfl⟩, q⟩⟩)
noncomputable def uSlS (K : PySem.W.Frag) : V → Option Int → Option Int → Hp → VK → Prop := fun x lo hi H Q => uSl K x lo hi H Q ∨ rSlS x lo hi H Q
theorem sl_S : SlR X (uSlS X.K) := SlR.or sl_U sl_txt
end
/-! ### argument lists whose items bear no star -/
noncomputable def noStar : Expr → Bool
  | .Starred _ _ => false
  | _ => true
end L2

namespace L2
open PySem PySem.Spec PyProof.Rows
/-! ### for k, x in enumerate(list) -/
/-- a pair of the place and the item, each turn a new tuple -/
noncomputable def Ite (K : PySem.W.Frag) (a : Addr) : It :=
  ⟨fun i H => ∃ xs x, SqL K H a xs ∧ xs[i]? = some x, fun i H v H' => ∃ p x, H p = none ∧ (∀ xs, SqL K H a xs → xs[i]? = some x) ∧ v = .ref p ∧ H' = upd H p (.tup [.int i, x]), fun i H => ∃ xs, SqL K H a xs ∧ xs.length ≤ i⟩
noncomputable def iEnum (K : PySem.W.Frag) (ta : TA) : TI := fun σ H R => ta σ H fun vs H1 => ∃ a xs, vs = [.ref a] ∧ SqL K H1 a xs ∧ R (Ite K a) H1
/-! ### a, b = a list -/
section
variable {prog : Program} {w : World} {A : Around} {E : Value → Shared → Prop}
theorem draw_list {it l : Addr} {items : Array Value} (hne : l ≠ it) : ∀ (n i : Nat) (s : Shared) (Q : List Value → Shared → Prop), s.heap.IsListIter it l i → s.heap.IsList l items → i + n ≤ items.size →
    (∀ h', h'.IsListIter it l (i + n) → Heap.SameBut it s.heap h' → Q ((items.toList.drop i).take n) { s with heap := h' }) → wpAny (model prog w) A (draw (.ref it) n) Q E s
  | 0, i, s, Q, hit, _, _, hQ => by
    show wpAny _ _ (pure []) Q E s
    exact wpAny_pure (by simpa using hQ s.heap hit (Heap.SameBut.refl ..))
  | n + 1, i, s, Q, hit, hl, hle, hQ => by
    have hlt : i < items.size := by omega
    show wpAny _ _ (pyNext (.ref it) >>= _) Q E s
    refine wpAny_bind (wpAny_pyNext_list_item hit hl (x := items[i]) (by simp [hlt]) fun h₁ hit₁ hs₁ => ?_)
    refine wpAny_bind (wpAny_holding (draw_list hne n (i + 1) _ _ hit₁ (hl.extBut hs₁.extBut hne) (by omega) fun h₂ hit₂ hs₂ => wpAny_pure ?_))
    have hd : items.toList.drop i = items[i] :: items.toList.drop (i + 1) := by simp [List.drop_eq_getElem_cons, hlt]
    have := hQ h₂ (by rw [show i + (n + 1) = i + 1 + n by omega]; exact hit₂) (hs₁.trans hs₂)
    rw [hd, List.take_succ_cons] at this
    exact this
theorem unpackItems_list {s : Shared} {l : Addr} {items : Array Value} {Q : List Value → Shared → Prop} (hh : A.handled = none) (hl : s.heap.IsList l items)
    (hQ : ∀ h', Heap.ExtBut s.heap.objs.size s.heap h' → Q items.toList { s with heap := h' }) : wpAny (model prog w) A (unpackItems (.ref l) items.size none) Q E s := by
  have hlt : l ≠ s.heap.objs.size := by obtain ⟨o, ho, _⟩ := hl; exact Nat.ne_of_lt (Heap.lt_size ho)
  unfold unpackItems
  refine wpAny_bind ?_
  · unfold notIterableAtAll
    refine wpAny_bind (wpAny_specialOf hl.typeIs slot_list_iter.lookup ?_)
    refine wpAny_pure ?_
    simp only [Bool.false_eq_true, if_false]
    refine wpAny_bind (wpAny_holding (wpAny_pyIter_list hl ?_))
    refine wpAny_bind (wpAny_holding (draw_list hlt items.size 0 _ _ ⟨_, Heap.get?_push_size _ rfl, rfl, rfl⟩ (hl.push _) (by omega) fun h₁ hit₁ hs₁ => ?_))
    have hall : List.take items.size (List.drop 0 items.toList) = items.toList := by
      rw [List.drop_zero]; exact List.take_of_length_le (by simp)
    rw [hall]
    rw [if_neg (by simp)]
    have hl₁ : h₁.IsList l items := (hl.push _).extBut hs₁.extBut hlt
    refine wpAny_bind (wpAny_holding (wpAny_pyNext_list_end hh hit₁ hl₁ (by simp) fun h₂ he₂ => ?_))
    simp only [Option.isSome_none, Bool.false_eq_true, if_false]
    refine wpAny_pure (hQ h₂ fun b o hb e => he₂ b o hb (hs₁.extBut b o hb (Heap.get?_push_of_some _ e)))
end
/-- a, b = a tuple or a list -/
noncomputable def gSeq (K : PySem.W.Frag) (n : Nat) (t : TGs) : TG := fun v σ H Q => ∃ a xs, v = .ref a ∧ (SqT K H a xs ∨ SqL K H a xs) ∧ xs.length = n ∧ t xs σ H Q
theorem pg_seq {X : Cx} {pos : Pos} {es : List Expr} {k : Nat} {t : TGs} {n : Nat} (hc : X.calm = true) (h : PGs X es t)
    (hn : (assignEach es X.env).length = n := by rfl) (hst : (assignEach es X.env).findIdx? (·.1) = none := by rfl) : PG X (.Tuple es k pos) (gSeq X.K n t) := by
  intro pins s σ H v u Q I r hw
  obtain ⟨a, xs, e1, hq, hl, hw⟩ := hw
  subst e1
  rcases hq with hq | hq
  · exact pg_tup (n := n) hc h hn hst pins s σ H (.ref a) u Q I r ⟨a, xs, rfl, hq, hl, hw⟩
  · cases r
    obtain ⟨its, rv, p, hz⟩ := I.list hq
    rw [PyProof.Rows.assign_Tuple]
    refine wpAny_bind (wpAny_standAt ?_)
    unfold unpack
    have hsz : (assignEach es X.env).length = its.toArray.size := by simp [hn, ← hl, rv.length]
    rw [hsz, hst]
    refine wpAny_bind (wpAny_holding (unpackItems_list (I.ok.hd hc) p.isList fun h' hx => ?_))
    have I1 : Inv X pins σ H { s with heap := h' } := I.kept (t' := s.toks) fun b o e => hx b o (Nat.ne_of_lt (Heap.lt_size e)) e
    exact h pins _ σ H xs _ Q I1 (by simpa using rv) hw
theorem pg_seqK {X : Cx} {K : PySem.W.Frag} {tg : Expr} {n : Nat} {t : TGs} (k : X.K = K) (h : PG X tg (gSeq X.K n t)) : PG X tg (gSeq K n t) := by subst k; exact h
/-! ### x is True -/
section
variable {X : Cx}
end
/-- a target of several names that stores in the first nt places alone -/
noncomputable def GOks (nt : Nat) (g : TGs) : Prop := ∀ xs σ H Q (σ0 : St), (σ.length = σ0.length ∧ ∀ i, nt ≤ i → σ[i]? = σ0[i]?) → g xs σ H Q → g xs σ H fun σ' H' => Q σ' H' ∧ σ'.length = σ0.length ∧ ∀ i, nt ≤ i → σ'[i]? = σ0[i]?
end L2

namespace L2
open PySem PySem.Spec PyProof.Rows
/-! list(reversed(xs)) -/
section
variable {prog : Program} {w : World} {A : Around} {s : Shared} {R : Result → Shared → Prop}
variable {I : Addr} {fp wr : List Addr} {G : Array GenState → Array GenState → Prop} {n : Nat} {P : Nat → Value → Prop} {St : Nat → Shared → Prop}
end
section
variable {prog : Program} {w : World} {A : Around} {E : Value → Shared → Prop} {s : Shared}
end
end L2
namespace L2
open PySem PySem.Spec PyProof.Rows
section
variable {X : Cx}
noncomputable def tListRev (K : PySem.W.Frag) (ta : TA) : TE := fun σ H Q => ta σ H fun vs H1 => ∃ a xs, vs = [.ref a] ∧ SqL K H1 a xs ∧ ∀ l, H1 l = none → Q (.ref l) (upd H1 l (.lst xs.reverse))
end
end L2
namespace L2
open PySem PySem.Spec PyProof.Rows
section
variable {X : Cx}
/-- the keys of a dict of ints -/
noncomputable def DKi (H : Hp) (a : Addr) (ns : List Int) : Prop := ∃ kvs : List (Key × V), H a = some (.dK kvs) ∧ kvs.map (·.1) = ns.map Sum.inl
noncomputable def rSumD : List V → Hp → VK → Prop := fun xs H Q => ∃ (a : Addr) (ns : List Int), xs = [.ref a] ∧ DKi H a ns ∧ Q (.int ns.sum) H
noncomputable def rSumU (K : PySem.W.Frag) : List V → Hp → VK → Prop := fun xs H Q => rSum K xs H Q ∨ rSumD xs H Q
/-! sorted -/
noncomputable def SortedOf (ns ms : List Int) : Prop := ms.Perm ns ∧ ms.Pairwise (· ≤ ·)
noncomputable def rSortL (K : PySem.W.Frag) : List V → Hp → VK → Prop := fun xs H Q => ∃ (p : Addr) (ns : List Int), xs = [.ref p] ∧ SqL K H p (ns.map V.int) ∧ ns.length < 64 ∧ ∀ l ms, SortedOf ns ms → H l = none → Q (.ref l) (upd H l (.lst (ms.map V.int)))
noncomputable def rSortD : List V → Hp → VK → Prop := fun xs H Q => ∃ (a : Addr) (ns : List Int), xs = [.ref a] ∧ DKi H a ns ∧ ns.length < 64 ∧ ∀ l ms, SortedOf ns ms → H l = none → Q (.ref l) (upd H l (.lst (ms.map V.int)))
noncomputable def rSortU (K : PySem.W.Frag) : List V → Hp → VK → Prop := fun xs H Q => rSortL K xs H Q ∨ rSortD xs H Q
/-! d.update(e) -/
noncomputable def rUpd : V → List V → Hp → VK → Prop := fun x xs H Q => ∃ (a b : Addr) (kvs more : List (Key × V)), x = .ref a ∧ xs = [.ref b] ∧ a ≠ b ∧ H a = some (.dK kvs) ∧ H b = some (.dK more) ∧ kvs.length + more.length ≤ sizeLine ∧ Q .non (upd H a (.dK (mergeK kvs more)))
/-! i.bit_length() -/
noncomputable def rBits : V → List V → Hp → VK → Prop := fun x xs H Q => ∃ i : Int, x = .int i ∧ xs = [] ∧ Q (.int (Builtin.Int.intBits i : Nat)) H
/-! list(range(n)) -/
noncomputable def tListRng (ta : TA) : TE := fun σ H Q => ta σ H fun vs H1 => ∃ n : Int, vs = [.int n] ∧ n.natAbs ≤ 16777216 ∧ ∀ l, H1 l = none → Q (.ref l) (upd H1 l (.lst ((List.range n.toNat).map fun (k : Nat) => V.int (k : Int))))
end
end L2

namespace Z
open PySem

/-! values without addresses; ref k: the mutable cell k -/
inductive D where
  | non | bl (b : Bool) | int (i : Int) | str (x : Str) | tup (xs : List D) | lst (xs : List D) | arg (ns : List Int) | ref (k : Nat)
  | ty (n : String) | cls (n : String) | exc (n : String) | obj (c : String) (fs : List (Str × D)) | dic (kvs : List (Sum Int Str × D))
inductive Cell where
  | lst (xs : List D) | dct (kvs : List (Sum Int Str × D)) | ins (c : String) (fs : List (Str × D))
noncomputable abbrev MH := List (Option Cell)
noncomputable abbrev Ro := List (Option D)
inductive Res (α : Type) where
  | ok (a : α) (h : MH) | exc (c : String) (h : MH) | stuck
inductive RS where
  | nx (ρ : Ro) (h : MH) | rt (d : D) (h : MH) | bk (ρ : Ro) (h : MH) | ct (ρ : Ro) (h : MH) | exc (c : String) (h : MH) | stuck
noncomputable def Res.bind {α β : Type} (r : Res α) (f : α → MH → Res β) : Res β := match r with
  | .ok a h => f a h | .exc c h => .exc c h | .stuck => .stuck
@[simp] theorem bind_ok {α β : Type} {a : α} {h : MH} {f : α → MH → Res β} : (Res.ok a h).bind f = f a h := rfl
@[simp] theorem bind_exc {α β : Type} {c : String} {h : MH} {f : α → MH → Res β} : (Res.exc c h).bind f = .exc c h := rfl
@[simp] theorem bind_stuck {α β : Type} {f : α → MH → Res β} : (Res.stuck).bind f = .stuck := rfl
noncomputable def Res.toS {α : Type} (r : Res α) (f : α → MH → RS) : RS := match r with
  | .ok a h => f a h | .exc c h => .exc c h | .stuck => .stuck
@[simp] theorem toS_ok {α : Type} {a : α} {h : MH} {f : α → MH → RS} : (Res.ok a h).toS f = f a h := rfl
@[simp] theorem toS_exc {α : Type} {c : String} {h : MH} {f : α → MH → RS} : (Res.exc c h).toS f = .exc c h := rfl
@[simp] theorem toS_stuck {α : Type} {f : α → MH → RS} : (Res.stuck).toS f = .stuck := rfl
noncomputable abbrev ME := Ro → MH → Res D
noncomputable abbrev MT := Ro → MH → Res Bool
noncomputable abbrev ML := Ro → MH → Res (List D)
noncomputable abbrev MO := Ro → MH → Res (Option Int)
/-- what a loop walks: a cell, or none, and the items -/
noncomputable abbrev MI := Ro → MH → Res (Option Nat × List D)
noncomputable abbrev MS := Ro → MH → RS
noncomputable abbrev MG := D → Ro → MH → RS
noncomputable abbrev MF := List D → MH → Res D
noncomputable abbrev B2 := D → D → MH → Res D
/-- a check -/
@[simp] noncomputable def chk {α : Type} (c : Prop) [Decidable c] (r : Res α) : Res α := if c then r else .stuck
@[simp] theorem chk_t {α : Type} {c : Prop} [Decidable c] {r : Res α} (h : c) : chk c r = r := if_pos h

/-! expressions -/
@[simp] noncomputable def mVar (i : Nat) : ME := fun ρ h => match ρ[i]? with
  | some (some d) => .ok d h | _ => .stuck
@[simp] noncomputable def mC (d : D) : ME := fun _ h => .ok d h
@[simp] noncomputable def mBin (f : B2) (a b : ME) : ME := fun ρ h => (a ρ h).bind fun x h1 => (b ρ h1).bind fun y h2 => f x y h2
@[simp] noncomputable def mUn (f : D → MH → Res D) (a : ME) : ME := fun ρ h => (a ρ h).bind f
@[simp] noncomputable def mNil : ML := fun _ h => .ok [] h
@[simp] noncomputable def mCons (a : ME) (l : ML) : ML := fun ρ h => (a ρ h).bind fun x h1 => (l ρ h1).bind fun xs h2 => .ok (x :: xs) h2
@[simp] noncomputable def mTup (l : ML) : ME := fun ρ h => (l ρ h).bind fun xs h1 => chk (xs.length ≤ 16777216) (.ok (.tup xs) h1)
/-- a list display: its items -/
@[simp] noncomputable def lDisp (l : ML) : ML := fun ρ h => (l ρ h).bind fun xs h1 => chk (xs.length ≤ 16777216) (.ok xs h1)
/-- a new list that nobody will change; one that may be changed -/
@[simp] noncomputable def mTree (l : ML) : ME := fun ρ h => (l ρ h).bind fun xs h1 => .ok (.lst xs) h1
@[simp] noncomputable def mCell (l : ML) : ME := fun ρ h => (l ρ h).bind fun xs h1 => .ok (.ref h1.length) (h1 ++ [some (.lst xs)])
@[simp] noncomputable def mCall (z : MF) (l : ML) : ME := fun ρ h => (l ρ h).bind z
@[simp] noncomputable def mFn (f : List D → MH → Res D) (l : ML) : ME := fun ρ h => (l ρ h).bind f
/-! tests -/
@[simp] noncomputable def tB (m : ME) : MT := fun ρ h => (m ρ h).bind fun d h1 => match d with
  | .bl b => .ok b h1 | _ => .stuck
@[simp] noncomputable def tAnd (a b : MT) : MT := fun ρ h => (a ρ h).bind fun c h1 => if c = true then b ρ h1 else .ok false h1
@[simp] noncomputable def tOr (a b : MT) : MT := fun ρ h => (a ρ h).bind fun c h1 => if c = true then .ok true h1 else b ρ h1
@[simp] noncomputable def tNot (a : MT) : MT := fun ρ h => (a ρ h).bind fun c h1 => .ok (!c) h1
@[simp] noncomputable def mIf (t : MT) (a b : ME) : ME := fun ρ h => (t ρ h).bind fun c h1 => if c = true then a ρ h1 else b ρ h1
@[simp] noncomputable def mAnd (a b : ME) : ME := fun ρ h => (a ρ h).bind fun d h1 => match d with
  | .bl c => if c = true then b ρ h1 else .ok (.bl false) h1
  | _ => .stuck
@[simp] noncomputable def mOr (a b : ME) : ME := fun ρ h => (a ρ h).bind fun d h1 => match d with
  | .bl c => if c = true then .ok (.bl true) h1 else b ρ h1
  | _ => .stuck
@[simp] noncomputable def mChain (f g : B2) (a b c : ME) : ME := fun ρ h => (a ρ h).bind fun x h1 => (b ρ h1).bind fun y h2 => (f x y h2).bind fun z h3 => match z with
  | .bl k => if k = true then (c ρ h3).bind fun w h4 => g y w h4 else .ok (.bl false) h3
  | _ => .stuck
/-- what a list is, tree or cell -/
@[simp] noncomputable def asL (h : MH) : D → Option (List D)
  | .lst xs => some xs
  | .ref k => match h[k]? with
    | some (some (.lst xs)) => some xs
    | _ => none
  | _ => none
/-- what may be read as a sequence: (is it a tuple, its items) -/
@[simp] noncomputable def asQ (h : MH) : D → Option (List D)
  | .lst xs => some xs
  | .tup xs => some xs
  | .arg ns => some (ns.map .int)
  | .ref k => match h[k]? with
    | some (some (.lst xs)) => some xs
    | _ => none
  | _ => none
@[simp] noncomputable def asD (h : MH) : D → Option (List (Sum Int Str × D))
  | .dic kvs => some kvs
  | .ref k => match h[k]? with
    | some (some (.dct kvs)) => some kvs
    | _ => none
  | _ => none
@[simp] noncomputable def truth (h : MH) : D → Option Bool
  | .non => some false
  | .bl b => some b
  | .int i => some (i != 0)
  | .str y => if y.length ≤ 16777216 then some ((y.length : Int) != 0) else none
  | d => match asQ h d with
    | some xs => some (!xs.isEmpty)
    | none => match d with
      | .ref _ => (asD h d).map fun kvs => !kvs.isEmpty
      | _ => none
noncomputable def oR {α : Type} (o : Option α) (h : MH) : Res α := match o with
  | some a => .ok a h | none => .stuck
@[simp] theorem oR_some {α : Type} {a : α} {h : MH} : oR (some a) h = .ok a h := rfl
@[simp] theorem oR_none {α : Type} {h : MH} : oR (none : Option α) h = .stuck := rfl
@[simp] noncomputable def tTru (m : ME) : MT := fun ρ h => (m ρ h).bind fun d h1 => oR (truth h1 d) h1
@[simp] noncomputable def mNotV (m : ME) : ME := fun ρ h => (m ρ h).bind fun d h1 => (oR (truth h1 d) h1).bind fun b h2 => .ok (.bl (!b)) h2
/-! operations -/
noncomputable def okMul (i j : Int) : Prop := i.natAbs < 18446744073709551616 ∨ j.natAbs < 18446744073709551616
noncomputable instance (i j : Int) : Decidable (okMul i j) := by unfold okMul; infer_instance
noncomputable def okPow (i j : Int) : Prop := 0 ≤ j ∧ j ≤ 1000000 ∧ i.natAbs < 18446744073709551616
noncomputable instance (i j : Int) : Decidable (okPow i j) := by unfold okPow; infer_instance
@[simp] noncomputable def dAdd : B2 := fun x y h => match x, y with
  | .int i, .int j => .ok (.int (i + j)) h
  | .str a, .str b => chk (a.length + b.length ≤ 16777216) (.ok (.str (a ++ b)) h)
  | .tup a, .tup b => chk (a ≠ [] ∧ a.length + b.length ≤ 16777216) (.ok (.tup (a ++ b)) h)
  | _, _ => (oR (asL h x) h).bind fun a h => (oR (asL h y) h).bind fun b h => chk (a.length + b.length ≤ 16777216) (.ok (.lst (a ++ b)) h)
@[simp] noncomputable def dInt (f : Int → Int → Int) : B2 := fun x y h => match x, y with
  | .int i, .int j => .ok (.int (f i j)) h | _, _ => .stuck
@[simp] noncomputable def dIntC (c : Int → Int → Prop) [∀ i j, Decidable (c i j)] (f : Int → Int → Int) : B2 := fun x y h => match x, y with
  | .int i, .int j => chk (c i j) (.ok (.int (f i j)) h) | _, _ => .stuck
@[simp] noncomputable def dSub : B2 := dInt (· - ·)
@[simp] noncomputable def dMul : B2 := fun x y h => match x, y with
  | .int i, .int j => chk (okMul i j) (.ok (.int (i * j)) h)
  | .str z, .int n => chk (n.natAbs ≤ 16777216 ∧ z.length * n.toNat ≤ 16777216) (.ok (.str (Txt.mul z n)) h)
  | _, .int k => (oR (asL h x) h).bind fun a h => chk (k.natAbs < 9223372036854775808 ∧ a.length * k.toNat ≤ 16777216) (.ok (.lst (List.replicate k.toNat a).flatten) h)
  | _, _ => .stuck
@[simp] noncomputable def dDiv : B2 := dIntC (fun _ j => 0 < j ∧ j < 1073741824) (· / ·)
@[simp] noncomputable def dMod : B2 := dIntC (fun _ j => 0 < j) (· % ·)
@[simp] noncomputable def dPow : B2 := dIntC okPow (fun i j => i ^ j.toNat)
@[simp] noncomputable def dShl : B2 := dIntC okPow (fun i j => i * 2 ^ j.toNat)
@[simp] noncomputable def dShr : B2 := dIntC (fun _ j => 0 ≤ j) (fun i j => i / 2 ^ j.toNat)
@[simp] noncomputable def dAnd : B2 := dInt Builtin.bitAnd
@[simp] noncomputable def dOr : B2 := dInt Builtin.bitOr
@[simp] noncomputable def dXor : B2 := dInt Builtin.bitXor
@[simp] noncomputable def dNeg : D → MH → Res D := fun x h => match x with
  | .int i => .ok (.int (-i)) h | _ => .stuck
@[simp] noncomputable def dInv : D → MH → Res D := fun x h => match x with
  | .int i => .ok (.int (Builtin.bitNot i)) h | _ => .stuck
@[simp] noncomputable def dCmp (f : Int → Int → Bool) : B2 := fun x y h => match x, y with
  | .int i, .int j => .ok (.bl (f i j)) h | _, _ => .stuck
@[simp] noncomputable def dLt : B2 := dCmp fun i j => decide (i < j)
@[simp] noncomputable def dLe : B2 := dCmp fun i j => decide (i ≤ j)
@[simp] noncomputable def dGt : B2 := dCmp fun i j => decide (j < i)
@[simp] noncomputable def dGe : B2 := dCmp fun i j => decide (j ≤ i)
@[simp] noncomputable def isNon : D → Bool
  | .non => true | _ => false
@[simp] noncomputable def dIs : B2 := fun x y h => match x, y with
  | .bl a, .bl b => .ok (.bl (a == b)) h
  | x, .non => .ok (.bl (isNon x)) h
  | _, _ => .stuck
@[simp] noncomputable def dIsNot : B2 := fun x y h => match x, y with
  | .bl a, .bl b => .ok (.bl (!(a == b))) h
  | x, .non => .ok (.bl (!isNon x)) h
  | _, _ => .stuck
/-- data of the library's own kind -/
noncomputable def strOk (x : Str) : Bool := x.cps.all (· < 0x110000)
mutual
noncomputable def D.py : D → Option PyData
  | .non => some .none
  | .bl b => some (.bool b)
  | .int i => some (.int i)
  | .str x => if strOk x then some (.str x) else none
  | .tup xs => (D.pys xs).map .tuple
  | .lst xs => (D.pys xs).map .list
  | _ => none
noncomputable def D.pys : List D → Option (List PyData)
  | [] => some []
  | d :: ds => match D.py d, D.pys ds with
    | some p, some ps => some (p :: ps)
    | _, _ => none
end
mutual
noncomputable def D.deep : D → Nat
  | .tup xs | .lst xs => D.deeps xs + 1
  | _ => 0
noncomputable def D.deeps : List D → Nat
  | [] => 0
  | d :: ds => max (D.deep d) (D.deeps ds)
end
/-! == of two values, structure by structure -/
mutual
noncomputable def D.eq : D → D → Bool
  | .non, .non => true
  | .bl a, .bl b => a == b
  | .bl a, .int j => (if a then 1 else 0) == j
  | .int i, .bl b => i == (if b then 1 else 0)
  | .int i, .int j => i == j
  | .str x, .str y => x == y
  | .tup xs, .tup ys => D.eqs xs ys
  | .lst xs, .lst ys => D.eqs xs ys
  | _, _ => false
noncomputable def D.eqs : List D → List D → Bool
  | [], [] => true
  | x :: xs, y :: ys => D.eq x y && D.eqs xs ys
  | _, _ => false
end
/-- a value that == may be asked of: no cell in it -/
noncomputable def D.dat (d : D) : Bool := d.py.isSome && decide (d.deep ≤ 64)
/-- with the cells in it read -/
noncomputable def res : Nat → MH → D → D
  | 0, _, d => d
  | n + 1, h, .ref k => match h[k]? with
    | some (some (.lst xs)) => .lst (xs.map (res n h))
    | _ => .ref k
  | n + 1, h, .tup xs => .tup (xs.map (res n h))
  | n + 1, h, .lst xs => .lst (xs.map (res n h))
  | _ + 1, _, d => d
noncomputable def see (h : MH) (d : D) : D := res 8 h d
@[simp] noncomputable def flat : D → Bool
  | .non | .bl _ | .int _ | .str _ => true
  | _ => false
@[simp] noncomputable def dEq : B2 := fun x y h => match x, y with
  | .int i, .int j => .ok (.bl (decide (i = j))) h
  | .str i, .str j => .ok (.bl (decide (i = j))) h
  | .bl i, .bl j => .ok (.bl (i == j)) h
  | _, _ => if x.dat = true ∧ y.dat = true then .ok (.bl (x.eq y)) h else chk ((see h x).dat = true ∧ (see h y).dat = true) (.ok (.bl ((see h x).eq (see h y))) h)
@[simp] noncomputable def dNe : B2 := fun x y h => (dEq x y h).bind fun z h => match z with
  | .bl b => .ok (.bl (!b)) h | _ => .stuck

/-- an int written -/
noncomputable def numS (n : Int) : Str := Str.ofString (toString n)
/-! sequences -/
noncomputable def ixN (n : Nat) (i : Int) : Option Nat := if 0 ≤ i then (if i < n then some i.toNat else none) else if -(n : Int) ≤ i then some (i + n).toNat else none
noncomputable def atI {α : Type} (xs : List α) (i : Int) : Option α := (ixN xs.length i).bind fun j => xs[j]?
@[simp] noncomputable def keyOf : D → Option (Sum Int Str)
  | .int i => some (.inl i)
  | .str x => some (.inr x)
  | _ => none
noncomputable def valK (kvs : List (Sum Int Str × D)) (k : Sum Int Str) : Option D := (kvs.find? fun kv => decide (kv.1 = k)).map (·.2)
noncomputable def putK (kvs : List (Sum Int Str × D)) (k : Sum Int Str) (v : D) : List (Sum Int Str × D) :=
  if kvs.any (fun kv => decide (kv.1 = k)) then kvs.map fun kv => if kv.1 = k then (kv.1, v) else kv else kvs ++ [(k, v)]
@[simp] noncomputable def dIx : B2 := fun x y h => match x, y with
  | .str z, .int i => chk (z.length ≤ 16777216) ((oR (atI z.cps.toList i) h).bind fun c h => .ok (.str ⟨#[c]⟩) h)
  | x, y => match asQ h x with
    | some xs => match y with
      | .int i => oR (atI xs i) h
      | _ => .stuck
    | none => match asD h x, keyOf y with
      | some kvs, some k => oR (valK kvs k) h
      | _, _ => .stuck
noncomputable def eqF : D → D → Bool
  | .non, .non => true
  | .bl a, .bl b => a == b
  | .bl a, .int b => (if a then 1 else 0) == b
  | .int a, .bl b => a == (if b then 1 else 0)
  | .int a, .int b => a == b
  | .str a, .str b => a == b
  | _, _ => false
@[simp] noncomputable def dIn (neg : Bool) : B2 := fun x y h => match x, y with
  | .str i, .str j => .ok (.bl (if neg then !(!(Builtin.Str.occurrences j i 0 j.length 1).isEmpty) else !(Builtin.Str.occurrences j i 0 j.length 1).isEmpty)) h
  | x, y => match asQ h y with
    | some ys => chk (flat x = true ∧ ys.all flat = true) (.ok (.bl (if neg then !(ys.any fun y => eqF y x) else ys.any fun y => eqF y x)) h)
    | none => match asD h y, keyOf x with
      | some kvs, some k => .ok (.bl (if neg then !(valK kvs k).isSome else (valK kvs k).isSome)) h
      | _, _ => .stuck
noncomputable def sIx (n d : Nat) : Option Int → Nat
  | none => d
  | some v => if v < 0 then (v + (n : Int)).toNat else min v.toNat n
noncomputable def cut {α : Type} (xs : List α) (lo hi : Option Int) : List α := (xs.drop (sIx xs.length 0 lo)).take (sIx xs.length xs.length hi - sIx xs.length 0 lo)
@[simp] noncomputable def oNo : MO := fun _ h => .ok none h
@[simp] noncomputable def oSo (m : ME) : MO := fun ρ h => (m ρ h).bind fun d h1 => match d with
  | .int i => .ok (some i) h1 | _ => .stuck
@[simp] noncomputable def mSl (m : ME) (lo hi : MO) : ME := fun ρ h => (m ρ h).bind fun d h1 => (lo ρ h1).bind fun l h2 => (hi ρ h2).bind fun u h3 => match d with
  | .tup xs => chk (¬ (sIx xs.length 0 l = 0 ∧ sIx xs.length xs.length u = xs.length)) (.ok (.tup (cut xs l u)) h3)
  | .str z => chk (z.length ≤ 16777216) (.ok (.str (Txt.slice z l u)) h3)
  | d => (oR (asQ h3 d) h3).bind fun xs h4 => .ok (.lst (cut xs l u)) h4
/-- the intsD of a list of intsD -/
@[simp] noncomputable def intsD : List D → Option (List Int)
  | [] => some []
  | .int i :: r => (intsD r).map (i :: ·)
  | _ :: _ => none
@[simp] noncomputable def strsD : List D → Option (List Str)
  | [] => some []
  | .str i :: r => (strsD r).map (i :: ·)
  | _ :: _ => none
@[simp] noncomputable def boolsD : List D → Option (List Bool)
  | [] => some []
  | .bl i :: r => (boolsD r).map (i :: ·)
  | _ :: _ => none
@[simp] noncomputable def asLi (h : MH) (d : D) : Option (List Int) := match d with
  | .arg ns => some ns
  | d => (asL h d).bind intsD
noncomputable def stepCut (ns : List Int) (lo hi : Option Int) (st : Int) : List Int :=
  (sliceRange (sliceBounds lo hi (some st) ns.length).1 (sliceBounds lo hi (some st) ns.length).2.1 (sliceBounds lo hi (some st) ns.length).2.2).filterMap (ns[·]?)
@[simp] noncomputable def mSlS (m : ME) (lo hi st : MO) : ME := fun ρ h => (m ρ h).bind fun d h1 => (lo ρ h1).bind fun l h2 => (hi ρ h2).bind fun u h3 => (st ρ h3).bind fun k h4 => match k with
  | some k => chk (0 < k) ((oR (asLi h4 d) h4).bind fun ns h5 => .ok (.lst ((stepCut ns l u k).map .int)) h5)
  | none => .stuck
@[simp] noncomputable def fLen : List D → MH → Res D := fun l h => match l with
  | [.str z] => chk (z.length ≤ 16777216) (.ok (.int z.length) h)
  | [d] => match asQ h d with
    | some xs => .ok (.int xs.length) h
    | none => match d with
      | .ref _ => (oR (asD h d) h).bind fun kvs h => .ok (.int kvs.length) h
      | _ => .stuck
  | _ => .stuck
@[simp] noncomputable def fSum : List D → MH → Res D := fun l h => match l with
  | [d] => (oR (asLi h d) h).bind fun ns h => .ok (.int ns.sum) h
  | _ => .stuck
noncomputable def maxI : List Int → Int
  | [] => 0
  | [a] => a
  | a :: r => if maxI r > a then maxI r else a
@[simp] noncomputable def fMax : List D → MH → Res D := fun l h => match l with
  | [.int i, .int j] => .ok (.int (if j > i then j else i)) h
  | [.tup xs] => (oR (intsD xs) h).bind fun ns h => chk (0 < ns.length) (.ok (.int (maxI ns)) h)
  | _ => .stuck
@[simp] noncomputable def fMin : List D → MH → Res D := fun l h => match l with
  | [.int i, .int j] => .ok (.int (if j < i then j else i)) h
  | _ => .stuck
@[simp] noncomputable def fAbs : List D → MH → Res D := fun l h => match l with
  | [.int i] => .ok (.int (if i < 0 then -i else i)) h
  | _ => .stuck
@[simp] noncomputable def fAll : List D → MH → Res D := fun l h => match l with
  | [d] => (oR ((asL h d).bind boolsD) h).bind fun bs h => .ok (.bl (bs.all id)) h
  | _ => .stuck
@[simp] noncomputable def fInt : List D → MH → Res D := fun l h => match l with
  | [.int i] => .ok (.int i) h
  | [.bl k] => .ok (.int (if k then 1 else 0)) h
  | [.str z] => chk (z.length ≤ 640) ((oR (intText? z) h).bind fun n h => .ok (.int n) h)
  | _ => .stuck
@[simp] noncomputable def fStr : List D → MH → Res D := fun l h => match l with
  | [.int i] => chk (i.natAbs.log2 < 1920) (.ok (.str (numS i)) h)
  | _ => .stuck
@[simp] noncomputable def fBool : List D → MH → Res D := fun l h => match l with
  | [.int i] => .ok (.bl (i != 0)) h
  | [.bl k] => .ok (.bl k) h
  | _ => .stuck
@[simp] noncomputable def lList (m : ML) : ML := fun ρ h => (m ρ h).bind fun l h1 => match l with
  | [d] => oR (asQ h1 d) h1
  | _ => .stuck
@[simp] noncomputable def fTuple : List D → MH → Res D := fun l h => match l with
  | [.tup xs] => .ok (.tup xs) h
  | [d] => (oR (asQ h d) h).bind fun xs h => .ok (.tup xs) h
  | _ => .stuck
@[simp] noncomputable def tyOf (h : MH) : D → Option String
  | .non => some "NoneType" | .bl _ => some "bool" | .int _ => some "int" | .str _ => some "str" | .tup _ => some "tuple" | .lst _ => some "list"
  | .ref k => match h[k]? with
    | some (some (.lst _)) => some "list"
    | some (some (.dct _)) => some "dict"
    | _ => none
  | _ => none
@[simp] noncomputable def isB (a b : String) : Bool := a == b || (a == "bool" && b == "int")
@[simp] noncomputable def tyKnown (b : String) : Bool := b == "int" || b == "bool" || b == "str" || b == "tuple" || b == "list"
@[simp] noncomputable def fIsi : List D → MH → Res D := fun l h => match l with
  | [d, .ty n] => chk (tyKnown n = true) ((oR (tyOf h d) h).bind fun t h => .ok (.bl (isB t n)) h)
  | _ => .stuck
/-- a method of a text -/
@[simp] noncomputable def mSm (f : Str → List D → MH → Res D) (m : ME) (l : ML) : ME := fun ρ h => (m ρ h).bind fun d h1 => match d with
  | .str z => (l ρ h1).bind fun xs h2 => f z xs h2
  | _ => .stuck
@[simp] noncomputable def fJoin : Str → List D → MH → Res D := fun z l h => match l with
  | [d] => (oR ((asL h d).bind strsD) h).bind fun ys h => chk ((ys.map (·.length)).sum + ys.length * z.length ≤ 16777216) (.ok (.str (Txt.join z ys)) h)
  | _ => .stuck
@[simp] noncomputable def fFind : Str → List D → MH → Res D := fun z l h => match l with
  | [.str y] => .ok (.int (Txt.find z y)) h
  | _ => .stuck
@[simp] noncomputable def fUpper : Str → List D → MH → Res D := fun z l h => match l with
  | [] => chk ((Txt.upper z).length ≤ 16777216) (.ok (.str (Txt.upper z)) h)
  | _ => .stuck
/-- a text's split: the items of the new list -/
@[simp] noncomputable def lSplit (m : ME) (l : ML) : ML := fun ρ h => (m ρ h).bind fun d h1 => match d with
  | .str z => (l ρ h1).bind fun xs h2 => match xs with
    | [.str y] => chk (y.length ≠ 0 ∧ z.length ≤ 16777216 ∧ (Txt.split z y).length ≤ 16777216) (.ok ((Txt.split z y).map .str) h2)
    | _ => .stuck
  | _ => .stuck
/-- f"..{x}..": the parts, in order -/
noncomputable abbrev MJ := Str → Ro → MH → Res Str
@[simp] noncomputable def jNil : MJ := fun out _ h => .ok out h
@[simp] noncomputable def jCons (m : ME) (j : MJ) : MJ := fun out ρ h => (m ρ h).bind fun d h1 => match d with
  | .str y => chk ((out ++ y).length ≤ 16777216) (j (out ++ y) ρ h1)
  | _ => .stuck
@[simp] noncomputable def mJs (j : MJ) : ME := fun ρ h => (j Str.empty ρ h).bind fun z h1 => chk (z.length ≤ 16777216) (.ok (.str z) h1)
@[simp] noncomputable def mFmt (m : ME) : ME := fun ρ h => (m ρ h).bind fun d h1 => match d with
  | .int i => chk (i.natAbs.log2 < 1920) (.ok (.str (numS i)) h1)
  | .str z => chk (z.length ≤ 16777216) (.ok (.str z) h1)
  | _ => .stuck
/-! statements -/
@[simp] noncomputable def sNext : MS := fun ρ h => .nx ρ h
@[simp] noncomputable def sBreak : MS := fun ρ h => .bk ρ h
@[simp] noncomputable def sCont : MS := fun ρ h => .ct ρ h
@[simp] noncomputable def sSeq (a b : MS) : MS := fun ρ h => match a ρ h with
  | .nx ρ1 h1 => b ρ1 h1
  | r => r
@[simp] noncomputable def sIf (t : MT) (a b : MS) : MS := fun ρ h => (t ρ h).toS fun c h1 => if c = true then a ρ h1 else b ρ h1
@[simp] noncomputable def sRet (m : ME) : MS := fun ρ h => (m ρ h).toS .rt
@[simp] noncomputable def sRetN : MS := fun _ h => .rt .non h
@[simp] noncomputable def sDrop (m : ME) : MS := fun ρ h => (m ρ h).toS fun _ h1 => .nx ρ h1
@[simp] noncomputable def sAsg (m : ME) (g : MG) : MS := fun ρ h => (m ρ h).toS fun d h1 => g d ρ h1
@[simp] noncomputable def sRaise (c : String) (m : ME) : MS := fun ρ h => (m ρ h).toS fun _ h1 => .exc c h1
@[simp] noncomputable def gName (i : Nat) : MG := fun d ρ h => .nx (ρ.set i (some d)) h
@[simp] noncomputable def gNames : List Nat → List D → Ro → MH → RS
  | [], [], ρ, h => .nx ρ h
  | i :: is, d :: ds, ρ, h => gNames is ds (ρ.set i (some d)) h
  | _, _, _, _ => .stuck
@[simp] noncomputable def gTup (is : List Nat) : MG := fun d ρ h => match d with
  | .tup xs => gNames is xs ρ h
  | .lst xs => gNames is xs ρ h
  | _ => .stuck
/-- o[i] = v, o a cell -/
@[simp] noncomputable def gSub (mo mi : ME) : MG := fun d ρ h => (mo ρ h).toS fun o h1 => (mi ρ h1).toS fun i h2 => match o with
  | .ref k => match h2[k]? with
    | some (some (.lst xs)) => match i with
      | .int j => match ixN xs.length j with
        | some n => .nx ρ (h2.set k (some (.lst (xs.set n d))))
        | none => .stuck
      | _ => .stuck
    | _ => .stuck
  | _ => .stuck
/-- d[k] = v, d a cell -/
@[simp] noncomputable def sDput (mo mi me : ME) : MS := fun ρ h => (me ρ h).toS fun d h0 => (mo ρ h0).toS fun o h1 => (mi ρ h1).toS fun i h2 => match o with
  | .ref k => match h2[k]? with
    | some (some (.dct kvs)) => match keyOf i with
      | some j => if kvs.length < 16777216 then .nx ρ (h2.set k (some (.dct (putK kvs j d)))) else .stuck
      | none => .stuck
    | _ => .stuck
  | _ => .stuck
@[simp] noncomputable def sAppend (mo me : ME) : MS := fun ρ h => (mo ρ h).toS fun o h1 => match o with
  | .ref k => match h1[k]? with
    | some (some (.lst _)) => (me ρ h1).toS fun d h2 => match h2[k]? with
      | some (some (.lst xs)) => if xs.length < 16777216 then .nx ρ (h2.set k (some (.lst (xs ++ [d])))) else .stuck
      | _ => .stuck
    | _ => .stuck
  | _ => .stuck
/-- from here on the cell at the name i is a tree -/
@[simp] noncomputable def sFreeze (i : Nat) (b : MS) : MS := fun ρ h => match ρ[i]? with
  | some (some (.ref k)) => match h[k]? with
    | some (some (.lst xs)) => b (ρ.set i (some (.lst xs))) (h.set k none)
    | _ => .stuck
  | _ => .stuck
@[simp] noncomputable def mDnew : ME := fun _ h => .ok (.ref h.length) (h ++ [some (.dct [])])
/-! loops -/
noncomputable def sLoop (g : MG) (b : MS) : List D → Ro → MH → RS
  | [], ρ, h => .nx ρ h
  | d :: ds, ρ, h => match g d ρ h with
    | .nx ρ1 h1 => match b ρ1 h1 with
      | .nx ρ2 h2 => sLoop g b ds ρ2 h2
      | .ct ρ2 h2 => sLoop g b ds ρ2 h2
      | .bk ρ2 h2 => .nx ρ2 h2
      | r => r
    | _ => .stuck
/-- the walked cell is as it was -/
noncomputable def okG (q : Option Nat) (all : List D) (h : MH) : Prop := match q with
  | none => True
  | some k => h[k]? = some (some (.lst all))
open Classical in
noncomputable def sLoopG (q : Option Nat) (all : List D) (g : MG) (b : MS) : List D → Ro → MH → RS
  | [], ρ, h => if okG q all h then .nx ρ h else .stuck
  | d :: ds, ρ, h => if okG q all h then (match g d ρ h with
    | .nx ρ1 h1 => match b ρ1 h1 with
      | .nx ρ2 h2 => sLoopG q all g b ds ρ2 h2
      | .ct ρ2 h2 => sLoopG q all g b ds ρ2 h2
      | .bk ρ2 h2 => .nx ρ2 h2
      | r => r
    | _ => .stuck) else .stuck
@[simp] theorem sLoopG_none (all : List D) (g : MG) (b : MS) : ∀ (ds : List D) (ρ : Ro) (h : MH), sLoopG none all g b ds ρ h = sLoop g b ds ρ h
  | [], ρ, h => by unfold sLoopG sLoop; exact if_pos trivial
  | d :: ds, ρ, h => by
    unfold sLoopG sLoop
    rw [if_pos (show okG none all h from trivial)]
    split
    · split
      · exact sLoopG_none all g b ds _ _
      · exact sLoopG_none all g b ds _ _
      · rfl
      · rfl
    · rfl
noncomputable def sFor (l : MI) (g : MG) (b : MS) : MS := fun ρ h => (l ρ h).toS fun s h1 => sLoopG s.1 s.2 g b s.2 ρ h1
@[simp] theorem sFor_def (l : MI) (g : MG) (b : MS) (ρ : Ro) (h : MH) : sFor l g b ρ h = (l ρ h).toS fun s h1 => sLoopG s.1 s.2 g b s.2 ρ h1 := rfl
@[simp] noncomputable def lIt (m : ME) : MI := fun ρ h => (m ρ h).bind fun d h1 => match d with
  | .lst xs => .ok (none, xs) h1
  | .tup xs => .ok (none, xs) h1
  | .arg ns => .ok (none, ns.map .int) h1
  | .str z => .ok (none, z.cps.toList.map fun c => .str ⟨#[c]⟩) h1
  | .ref k => match h1[k]? with
    | some (some (.lst xs)) => .ok (some k, xs) h1
    | _ => .stuck
  | _ => .stuck
noncomputable def rng (lo : Int) (n : Nat) : List D := (List.range n).map fun (k : Nat) => .int (lo + k)
@[simp] noncomputable def lRng1 (m : ML) : MI := fun ρ h => (m ρ h).bind fun l h1 => match l with
  | [.int j] => chk (j.natAbs < 4611686018427387904) (.ok (none, rng 0 j.toNat) h1)
  | _ => .stuck
@[simp] noncomputable def lRng2 (m : ML) : MI := fun ρ h => (m ρ h).bind fun l h1 => match l with
  | [.int i, .int j] => chk (i.natAbs < 4611686018427387904 ∧ j.natAbs < 4611686018427387904) (.ok (none, rng i (j - i).toNat) h1)
  | _ => .stuck
@[simp] noncomputable def lRev (m : ML) : MI := fun ρ h => (m ρ h).bind fun l h1 => match l with
  | [.lst xs] => .ok (none, xs.reverse) h1
  | _ => .stuck
noncomputable def whileN (c : MT) (b : MS) : Nat → Ro → MH → RS
  | 0, _, _ => .stuck
  | n + 1, ρ, h => match c ρ h with
    | .ok true h1 => match b ρ h1 with
      | .nx ρ2 h2 => whileN c b n ρ2 h2
      | .ct ρ2 h2 => whileN c b n ρ2 h2
      | .bk ρ2 h2 => .nx ρ2 h2
      | r => r
    | .ok false h1 => .nx ρ h1
    | .exc e h1 => .exc e h1
    | .stuck => .stuck
open Classical in
noncomputable def sWhile (c : MT) (b : MS) : MS := fun ρ h => if e : ∃ n, whileN c b n ρ h ≠ .stuck then whileN c b e.choose ρ h else .stuck
theorem whileN_mono (c : MT) (b : MS) : ∀ (n k : Nat) (ρ : Ro) (h : MH), whileN c b n ρ h ≠ .stuck → whileN c b (n + k) ρ h = whileN c b n ρ h
  | 0, k, ρ, h, q => absurd rfl q
  | n + 1, k, ρ, h, q => by
    rw [show n + 1 + k = (n + k) + 1 by omega]
    unfold whileN at q ⊢
    cases e : c ρ h with
    | ok b0 h1 =>
      cases b0 with
      | false => rfl
      | true =>
        simp only [e] at q ⊢
        cases e2 : b ρ h1 with
        | nx ρ2 h2 => simp only [e2] at q ⊢; exact whileN_mono c b n k ρ2 h2 q
        | ct ρ2 h2 => simp only [e2] at q ⊢; exact whileN_mono c b n k ρ2 h2 q
        | bk ρ2 h2 => rfl
        | rt d h2 => rfl
        | exc x h2 => rfl
        | stuck => rfl
    | exc x h1 => rfl
    | stuck => rfl
theorem sWhile_of {c : MT} {b : MS} {n : Nat} {ρ : Ro} {h : MH} (q : whileN c b n ρ h ≠ .stuck) : sWhile c b ρ h = whileN c b n ρ h := by
  have e : ∃ n, whileN c b n ρ h ≠ .stuck := ⟨n, q⟩
  unfold sWhile
  rw [dif_pos e]
  have h1 := whileN_mono c b e.choose n ρ h e.choose_spec
  have h2 := whileN_mono c b n e.choose ρ h q
  rw [← h1, ← h2, Nat.add_comm]
theorem sWhile_ne {c : MT} {b : MS} {ρ : Ro} {h : MH} (q : sWhile c b ρ h ≠ .stuck) : ∃ n, whileN c b n ρ h = sWhile c b ρ h := by
  unfold sWhile at q
  by_cases e : ∃ n, whileN c b n ρ h ≠ .stuck
  · exact ⟨e.choose, by unfold sWhile; rw [dif_pos e]⟩
  · rw [dif_neg e] at q; exact absurd rfl q
/-- one turn more -/
theorem sWhile_t {c : MT} {b : MS} {ρ ρ2 : Ro} {h h1 h2 : MH} (ec : c ρ h = .ok true h1) (eb : b ρ h1 = .nx ρ2 h2) : sWhile c b ρ h = sWhile c b ρ2 h2 := by
  by_cases q : sWhile c b ρ2 h2 = .stuck
  · rw [q]
    by_cases q1 : sWhile c b ρ h = .stuck
    · exact q1
    · obtain ⟨n, e⟩ := sWhile_ne q1
      cases n with
      | zero => rw [← e]; rfl
      | succ n =>
        rw [← e] at q1 ⊢
        unfold whileN at q1 ⊢
        simp only [ec, eb] at q1 ⊢
        rw [← sWhile_of q1]; exact q
  · obtain ⟨n, e⟩ := sWhile_ne q
    have e1 : whileN c b (n + 1) ρ h = whileN c b n ρ2 h2 := by
      conv => lhs; unfold whileN
      simp only [ec, eb]
    rw [sWhile_of (n := n + 1) (by rw [e1, e]; exact q), e1, e]
theorem sWhile_f {c : MT} {b : MS} {ρ : Ro} {h h1 : MH} (ec : c ρ h = .ok false h1) : sWhile c b ρ h = .nx ρ h1 := by
  have e1 : whileN c b 1 ρ h = .nx ρ h1 := by unfold whileN; simp only [ec]
  rw [sWhile_of (n := 1) (by rw [e1]; exact fun z => nomatch z), e1]
/-! comprehensions -/
@[simp] noncomputable def caps (idx : List Nat) (ρ : Ro) : Ro := idx.map fun j => (ρ[j]?).getD none
noncomputable def compLoop (g : MG) (t : MT) (m : ME) (ρ0 : Ro) : List D → MH → Res (List D)
  | [], h => .ok [] h
  | d :: ds, h => match g d ρ0 h with
    | .nx ρ1 h1 => match t ρ1 h1 with
      | .ok true h2 => match m ρ1 h2 with
        | .ok y h3 => match compLoop g t m ρ0 ds h3 with
          | .ok ys h4 => .ok (y :: ys) h4
          | _ => .stuck
        | _ => .stuck
      | .ok false h2 => compLoop g t m ρ0 ds h2
      | _ => .stuck
    | _ => .stuck
@[simp] noncomputable def tYes : MT := fun _ h => .ok true h
open Classical in
noncomputable def compLoopG (q : Option Nat) (all : List D) (g : MG) (t : MT) (m : ME) (ρ0 : Ro) : List D → MH → Res (List D)
  | [], h => if okG q all h then .ok [] h else .stuck
  | d :: ds, h => if okG q all h then (match g d ρ0 h with
    | .nx ρ1 h1 => match t ρ1 h1 with
      | .ok true h2 => match m ρ1 h2 with
        | .ok y h3 => match compLoopG q all g t m ρ0 ds h3 with
          | .ok ys h4 => .ok (y :: ys) h4
          | _ => .stuck
        | _ => .stuck
      | .ok false h2 => compLoopG q all g t m ρ0 ds h2
      | _ => .stuck
    | _ => .stuck) else .stuck
@[simp] theorem compLoopG_none (all : List D) (g : MG) (t : MT) (m : ME) (ρ0 : Ro) : ∀ (ds : List D) (h : MH), compLoopG none all g t m ρ0 ds h = compLoop g t m ρ0 ds h
  | [], h => by unfold compLoopG compLoop; exact if_pos trivial
  | d :: ds, h => by
    unfold compLoopG compLoop
    rw [if_pos (show okG none all h from trivial)]
    split
    · split
      · split
        · rw [compLoopG_none all g t m ρ0 ds]
        · rfl
      · exact compLoopG_none all g t m ρ0 ds _
      · rfl
    · rfl
noncomputable def lComp (nt : Nat) (idx : List Nat) (l : MI) (g : MG) (t : MT) (m : ME) : ML := fun ρ h => (l ρ h).bind fun s h1 => chk (s.2.length < 16777216) (compLoopG s.1 s.2 g t m (List.replicate nt none ++ caps idx ρ) s.2 h1)
@[simp] theorem lComp_def (nt : Nat) (idx : List Nat) (l : MI) (g : MG) (t : MT) (m : ME) (ρ : Ro) (h : MH) : lComp nt idx l g t m ρ h = (l ρ h).bind fun s h1 => chk (s.2.length < 16777216) (compLoopG s.1 s.2 g t m (List.replicate nt none ++ caps idx ρ) s.2 h1) := rfl
/-! own objects -/
@[simp] noncomputable def asO (h : MH) : D → Option (String × List (Str × D))
  | .obj c fs => some (c, fs)
  | .ref k => match h[k]? with
    | some (some (.ins c fs)) => some (c, fs)
    | _ => none
  | _ => none
noncomputable def putF (f : Str) (d : D) : List (Str × D) → List (Str × D)
  | [] => [(f, d)]
  | (g, x) :: r => if g = f then (g, d) :: r else (g, x) :: putF f d r
/-- e.f; tab: the classes of which it is a value of the object -/
@[simp] noncomputable def mFld (tab : List String) (f : Str) (m : ME) : ME := fun ρ h => (m ρ h).bind fun d h1 => (oR (asO h1 d) h1).bind fun o h2 => chk (o.1 ∈ tab) (oR (o.2.lookup f) h2)
/-- o.f = e, o a cell -/
@[simp] noncomputable def sFldS (tab : List String) (f : Str) (mo me : ME) : MS := fun ρ h => (me ρ h).toS fun d h1 => (mo ρ h1).toS fun o h2 => match o with
  | .ref k => match h2[k]? with
    | some (some (.ins c fs)) => if c ∈ tab ∧ fs.length < 1000 then .nx ρ (h2.set k (some (.ins c (putF f d fs)))) else .stuck
    | _ => .stuck
  | _ => .stuck
/-- o.m(..), by the class of o -/
@[simp] noncomputable def mMeth (tab : List (String × MF)) (f : Str) (m : ME) (l : ML) : ME := fun ρ h => (m ρ h).bind fun d h1 => (oR (asO h1 d) h1).bind fun o h2 => (oR (tab.lookup o.1) h2).bind fun z h2 => chk (o.2.lookup f = none) ((l ρ h1).bind fun ds h3 => z (d :: ds) h3)
/-- C(..): a new object, its __init__; one that nobody will change behind, and one that may be changed -/
@[simp] noncomputable def mMake (c : String) (z : MF) (l : ML) : ME := fun ρ h => (l ρ h).bind fun ds h1 => (z (.ref h1.length :: ds) (h1 ++ [some (.ins c [])])).bind fun d h2 => match d with
  | .non => match h2[h1.length]? with
    | some (some (.ins c' fs)) => .ok (.obj c' fs) (h2.set h1.length none)
    | _ => .stuck
  | _ => .stuck
@[simp] noncomputable def mMakeC (c : String) (z : MF) (l : ML) : ME := fun ρ h => (l ρ h).bind fun ds h1 => (z (.ref h1.length :: ds) (h1 ++ [some (.ins c [])])).bind fun d h2 => match d with
  | .non => .ok (.ref h1.length) h2
  | _ => .stuck
/-! enumerate -/
noncomputable def enumD (ds : List D) : List D := ds.mapIdx fun i d => .tup [.int i, d]
@[simp] noncomputable def lEnum (m : ML) : MI := fun ρ h => (m ρ h).bind fun l h1 => match l with
  | [.lst xs] => .ok (none, enumD xs) h1
  | [.arg ns] => .ok (none, enumD (ns.map .int)) h1
  | _ => .stuck
/-! exceptions caught -/
noncomputable def Res.noX {α : Type} (r : Res α) : Res α := match r with
  | .ok a h => .ok a h | .exc _ _ => .stuck | .stuck => .stuck
@[simp] theorem noX_ok {α : Type} {a : α} {h : MH} : (Res.ok a h).noX = .ok a h := rfl
@[simp] theorem noX_exc {α : Type} {c : String} {h : MH} : (Res.exc c h : Res α).noX = .stuck := rfl
@[simp] theorem noX_stuck {α : Type} : (Res.stuck : Res α).noX = .stuck := rfl
@[simp] noncomputable def lNox (l : ML) : ML := fun ρ h => (l ρ h).noX
@[simp] noncomputable def mNox (m : ME) : ME := fun ρ h => (m ρ h).noX
@[simp] noncomputable def tNox (m : MT) : MT := fun ρ h => (m ρ h).noX
noncomputable def RS.noX : RS → RS
  | .exc _ _ => .stuck | r => r
@[simp] theorem noXS_nx {ρ : Ro} {h : MH} : (RS.nx ρ h).noX = .nx ρ h := rfl
@[simp] theorem noXS_rt {d : D} {h : MH} : (RS.rt d h).noX = .rt d h := rfl
@[simp] theorem noXS_bk {ρ : Ro} {h : MH} : (RS.bk ρ h).noX = .bk ρ h := rfl
@[simp] theorem noXS_ct {ρ : Ro} {h : MH} : (RS.ct ρ h).noX = .ct ρ h := rfl
@[simp] theorem noXS_exc {c : String} {h : MH} : (RS.exc c h).noX = .stuck := rfl
@[simp] theorem noXS_stuck : RS.stuck.noX = .stuck := rfl
noncomputable def RS.gone (i : Nat) : RS → RS
  | .nx ρ h => .nx (ρ.set i none) h | .bk ρ h => .bk (ρ.set i none) h | .ct ρ h => .ct (ρ.set i none) h | r => r
@[simp] theorem gone_nx {i : Nat} {ρ : Ro} {h : MH} : (RS.nx ρ h).gone i = .nx (ρ.set i none) h := rfl
@[simp] theorem gone_rt {i : Nat} {d : D} {h : MH} : (RS.rt d h).gone i = .rt d h := rfl
@[simp] theorem gone_bk {i : Nat} {ρ : Ro} {h : MH} : (RS.bk ρ h).gone i = .bk (ρ.set i none) h := rfl
@[simp] theorem gone_ct {i : Nat} {ρ : Ro} {h : MH} : (RS.ct ρ h).gone i = .ct (ρ.set i none) h := rfl
@[simp] theorem gone_stuck {i : Nat} : RS.stuck.gone i = .stuck := rfl
@[simp] noncomputable def sTry (b : MS) (f : String → MS) : MS := fun ρ h => match b ρ h with
  | .exc c h1 => f c ρ h1 | r => r
@[simp] noncomputable def cNil : String → MS := fun _ _ _ => .stuck
/-- tab: the classes of exceptions, and whether the clause takes them -/
@[simp] noncomputable def cAs (tab : List (String × Bool)) (i : Nat) (m : MS) (r : String → MS) : String → MS := fun c ρ h => match tab.lookup c with
  | some true => ((m (ρ.set i (some (.exc c))) h).noX).gone i
  | some false => r c ρ h
  | none => .stuck
@[simp] noncomputable def cBare (tab : List (String × Bool)) (m : MS) (r : String → MS) : String → MS := fun c ρ h => match tab.lookup c with
  | some true => (m ρ h).noX
  | some false => r c ρ h
  | none => .stuck
/-- isinstance of a caught exception; tab: its class and the one asked about -/
@[simp] noncomputable def fIsx (tab : List ((String × Bool × String) × Bool)) : List D → MH → Res D := fun l h => match l with
  | [.exc c, .cls n] => (oR (tab.lookup (c, true, n)) h).bind fun b h => .ok (.bl b) h
  | [.exc c, .ty n] => (oR (tab.lookup (c, false, n)) h).bind fun b h => .ok (.bl b) h
  | _ => .stuck
/-! functions -/
mutual
noncomputable def D.bnd (n : Nat) : D → Bool
  | .ref k => k < n
  | .tup xs | .lst xs => D.bnds n xs
  | .obj _ fs => D.bndf n fs
  | _ => true
noncomputable def D.bnds (n : Nat) : List D → Bool
  | [] => true
  | d :: ds => D.bnd n d && D.bnds n ds
noncomputable def D.bndf (n : Nat) : List (Str × D) → Bool
  | [] => true
  | (_, d) :: ds => D.bnd n d && D.bndf n ds
end
noncomputable def Cell.bnd (n : Nat) : Option Cell → Bool
  | none => true
  | some (.lst xs) => D.bnds n xs
  | some (.dct kvs) => D.bnds n (kvs.map (·.2))
  | some (.ins _ fs) => D.bnds n (fs.map (·.2))
/-- a def's end: the cells that it made are forgotten where nothing speaks of them -/
@[simp] noncomputable def fin (n : Nat) (d : D) (h : MH) : Res D :=
  if h.length ≤ n then .ok d h else if (d.bnd n && (h.take n).all (Cell.bnd n)) = true then .ok d (h.take n) else .ok d h
@[simp] noncomputable def mFun (np nn : Nat) (b : MS) : MF := fun ds h => if ds.length = np then match b (ds.map some ++ List.replicate (nn - ds.length) none) h with
  | .nx _ h1 => fin h.length .non h1
  | .rt d h1 => fin h.length d h1
  | .exc c h1 => if h1.length ≤ h.length then .exc c h1 else if (h1.take h.length).all (Cell.bnd h.length) = true then .exc c (h1.take h.length) else .exc c h1
  | _ => .stuck
  else .stuck
end Z

namespace Z
open PySem
/-- two lists one behind the other: the items of the new list -/
@[simp] noncomputable def lAdd (a b : ME) : ML := fun ρ h => (a ρ h).bind fun x h1 => (b ρ h1).bind fun y h2 => (oR (asL h2 x) h2).bind fun xs h3 => (oR (asL h3 y) h3).bind fun ys h4 => chk (xs.length + ys.length ≤ 16777216) (.ok (xs ++ ys) h4)
end Z

namespace Z
open PySem
/-- list(reversed(..)): the items of the new list -/
@[simp] noncomputable def lListRev (m : ML) : ML := fun ρ h => (m ρ h).bind fun l h1 => match l with
  | [d] => (oR (asL h1 d) h1).bind fun xs h2 => .ok xs.reverse h2
  | _ => .stuck
/-- list(range(n)) -/
@[simp] noncomputable def lListRng (m : ML) : ML := fun ρ h => (m ρ h).bind fun l h1 => match l with
  | [.int n] => chk (n.natAbs ≤ 16777216) (.ok ((List.range n.toNat).map fun (k : Nat) => D.int (k : Int)) h1)
  | _ => .stuck
@[simp] noncomputable def keysI : List (Sum Int Str × D) → Option (List Int)
  | [] => some []
  | (.inl i, _) :: r => (keysI r).map (i :: ·)
  | (.inr _, _) :: _ => none
/-- the keys of a dict of ints, a cell -/
@[simp] noncomputable def dKeys (h : MH) : D → Option (List Int)
  | .ref k => match h[k]? with
    | some (some (.dct kvs)) => keysI kvs
    | _ => none
  | _ => none
@[simp] noncomputable def fSumD : List D → MH → Res D := fun l h => match l with
  | [d] => (oR (dKeys h d) h).bind fun ns h => .ok (.int ns.sum) h
  | _ => .stuck
noncomputable def srt (ns : List Int) : List Int := ns.mergeSort (fun a b => decide (a ≤ b))
@[simp] noncomputable def lSort (m : ML) : ML := fun ρ h => (m ρ h).bind fun l h1 => match l with
  | [d] => match asLi h1 d with
    | some ns => chk (ns.length < 64) (.ok ((srt ns).map D.int) h1)
    | none => (oR (dKeys h1 d) h1).bind fun ns h2 => chk (ns.length < 64) (.ok ((srt ns).map D.int) h2)
  | _ => .stuck
noncomputable def mergeD (kvs more : List (Sum Int Str × D)) : List (Sum Int Str × D) := more.foldl (fun acc kv => putK acc kv.1 kv.2) kvs
/-- d.update(e), both cells -/
@[simp] noncomputable def mUpd (mo : ME) (ml : ML) : ME := fun ρ h => (mo ρ h).bind fun o h1 => match o with
  | .ref k => match h1[k]? with
    | some (some (.dct _)) => (ml ρ h1).bind fun l h2 => match l with
      | [.ref j] => match h2[k]? with
        | some (some (.dct kvs)) => match h2[j]? with
          | some (some (.dct more)) => chk (k ≠ j ∧ kvs.length + more.length ≤ 16777216) (.ok .non (h2.set k (some (.dct (mergeD kvs more)))))
          | _ => .stuck
        | _ => .stuck
      | _ => .stuck
    | _ => .stuck
  | _ => .stuck
/-- i.bit_length() -/
@[simp] noncomputable def mBits (m : ME) : ME := fun ρ h => (m ρ h).bind fun d h1 => match d with
  | .int i => .ok (.int (Builtin.Int.intBits i : Nat)) h1
  | _ => .stuck
/-- {k: v}: a new cell -/
@[simp] noncomputable def mDisp1 (mk mv : ME) : ME := fun ρ h => (mk ρ h).bind fun x h1 => (mv ρ h1).bind fun y h2 => match keyOf x with
  | some k => .ok (.ref h2.length) (h2 ++ [some (.dct [(k, y)])])
  | none => .stuck
/-- d.get(k), d a cell; tree or number at the key -/
@[simp] noncomputable def mDget1 (mo mk : ME) : ME := fun ρ h => (mo ρ h).bind fun o h1 => match o with
  | .ref k => match h1[k]? with
    | some (some (.dct _)) => (mk ρ h1).bind fun y h2 => match keyOf y with
      | some j => match h2[k]? with
        | some (some (.dct kvs)) => .ok ((valK kvs j).getD .non) h2
        | _ => .stuck
      | none => .stuck
    | _ => .stuck
  | _ => .stuck
@[simp] noncomputable def mDget2 (mo mk md : ME) : ME := fun ρ h => (mo ρ h).bind fun o h1 => match o with
  | .ref k => match h1[k]? with
    | some (some (.dct _)) => (mk ρ h1).bind fun y h2 => match keyOf y with
      | some j => (md ρ h2).bind fun z h3 => match h3[k]? with
        | some (some (.dct kvs)) => .ok ((valK kvs j).getD z) h3
        | _ => .stuck
      | none => .stuck
    | _ => .stuck
  | _ => .stuck
end Z

set_option maxHeartbeats 4000000
namespace L2
open PySem PySem.Spec
/-! ### values without addresses over the abstract heap -/
structure Ct where
  P : Program
  w : World
  K : PySem.W.Frag
  cm : String → Addr
noncomputable def fv : Z.D → Option V
  | .non => some .non
  | .bl b => some (.bl b)
  | .int i => some (.int i)
  | .str x => some (.str x)
  | _ => none
section
variable (C : Ct)
mutual
noncomputable def RV (bs : List Addr) (G : Hp) : V → Z.D → Prop
  | v, .non => v = .non
  | v, .bl b => v = .bl b
  | v, .int i => v = .int i
  | v, .str x => v = .str x
  | v, .tup ds => ∃ a vs, v = .ref a ∧ G a = some (.tup vs) ∧ RVs bs G vs ds
  | v, .lst ds => ∃ a vs, v = .ref a ∧ G a = some (.lst vs) ∧ RVs bs G vs ds
  | v, .arg ns => ∃ a, v = .ref a ∧ SqL C.K G a (ns.map V.int)
  | v, .ref k => ∃ a, v = .ref a ∧ bs[k]? = some a
  | v, .ty n => v = .ty n
  | v, .cls n => v = .ref (C.cm n)
  | v, .exc c => ∃ a oe u, v = .ref a ∧ G a = some (.frz oe u) ∧ oe.cls = .ref (C.cm c)
  | v, .obj c fs => ∃ a dx fvs, v = .ref a ∧ G a = some (.ins (C.cm c) dx fvs) ∧ RVf bs G fvs fs
  | v, .dic kvs => ∃ a kws, v = .ref a ∧ KDict C.P C.w C.K a kws ∧ kvs.map (fun p => (p.1, fv p.2)) = kws.map (fun p => (p.1, some p.2))
noncomputable def RVs (bs : List Addr) (G : Hp) : List V → List Z.D → Prop
  | [], [] => True
  | v :: vs, d :: ds => RV bs G v d ∧ RVs bs G vs ds
  | _, _ => False
noncomputable def RVf (bs : List Addr) (G : Hp) : List (Str × V) → List (Str × Z.D) → Prop
  | [], [] => True
  | (x, v) :: vs, (y, d) :: ds => x = y ∧ RV bs G v d ∧ RVf bs G vs ds
  | _, _ => False
noncomputable def RVk (bs : List Addr) (G : Hp) : List (Key × V) → List (Sum Int Str × Z.D) → Prop
  | [], [] => True
  | (x, v) :: vs, (y, d) :: ds => x = y ∧ RV bs G v d ∧ RVk bs G vs ds
  | _, _ => False
end
end
theorem Same.sql {K : PySem.W.Frag} {H H' : Hp} {a : Addr} {xs : List V} (e : Same H H') (h : SqL K H a xs) : SqL K H' a xs := by
  rcases h with (h | ⟨o, h⟩) | h
  · exact .inl (.inl (e _ _ h))
  · exact .inl (.inr ⟨o, e _ _ h⟩)
  · exact .inr h
section
variable {C : Ct}
mutual
theorem RV.mono {bs bs' : List Addr} {G G' : Hp} (hb : ∀ (k : Nat) (a : Addr), bs[k]? = some a → bs'[k]? = some a) (hs : Same G G') : ∀ {d : Z.D} {v : V}, RV C bs G v d → RV C bs' G' v d
  | .non, v, h => by simp only [RV] at h ⊢; exact h
  | .bl b, v, h => by simp only [RV] at h ⊢; exact h
  | .int i, v, h => by simp only [RV] at h ⊢; exact h
  | .str x, v, h => by simp only [RV] at h ⊢; exact h
  | .tup ds, v, h => by
    simp only [RV] at h ⊢
    obtain ⟨a, vs, h1, h2, h3⟩ := h
    exact ⟨a, vs, h1, hs _ _ h2, RVs.mono hb hs h3⟩
  | .lst ds, v, h => by
    simp only [RV] at h ⊢
    obtain ⟨a, vs, h1, h2, h3⟩ := h
    exact ⟨a, vs, h1, hs _ _ h2, RVs.mono hb hs h3⟩
  | .arg ns, v, h => by
    simp only [RV] at h ⊢
    obtain ⟨a, h1, h2⟩ := h
    exact ⟨a, h1, hs.sql h2⟩
  | .ref k, v, h => by
    simp only [RV] at h ⊢
    obtain ⟨a, h1, h2⟩ := h
    exact ⟨a, h1, hb _ _ h2⟩
  | .ty n, v, h => by simp only [RV] at h ⊢; exact h
  | .cls n, v, h => by simp only [RV] at h ⊢; exact h
  | .exc n, v, h => by
    simp only [RV] at h ⊢
    obtain ⟨a, oe, u, h1, h2, h3⟩ := h
    exact ⟨a, oe, u, h1, hs _ _ h2, h3⟩
  | .obj c fs, v, h => by
    simp only [RV] at h ⊢
    obtain ⟨a, dx, fvs, h1, h2, h3⟩ := h
    exact ⟨a, dx, fvs, h1, hs _ _ h2, RVf.mono hb hs h3⟩
  | .dic kvs, v, h => by simp only [RV] at h ⊢; exact h
theorem RVs.mono {bs bs' : List Addr} {G G' : Hp} (hb : ∀ (k : Nat) (a : Addr), bs[k]? = some a → bs'[k]? = some a) (hs : Same G G') : ∀ {ds : List Z.D} {vs : List V}, RVs C bs G vs ds → RVs C bs' G' vs ds
  | [], [], _ => by simp only [RVs]
  | d :: ds, v :: vs, h => by
    simp only [RVs] at h ⊢
    exact ⟨RV.mono hb hs h.1, RVs.mono hb hs h.2⟩
  | [], _ :: _, h => by simp only [RVs] at h
  | _ :: _, [], h => by simp only [RVs] at h
theorem RVf.mono {bs bs' : List Addr} {G G' : Hp} (hb : ∀ (k : Nat) (a : Addr), bs[k]? = some a → bs'[k]? = some a) (hs : Same G G') : ∀ {ds : List (Str × Z.D)} {vs : List (Str × V)}, RVf C bs G vs ds → RVf C bs' G' vs ds
  | [], [], _ => by simp only [RVf]
  | (y, d) :: ds, (x, v) :: vs, h => by
    simp only [RVf] at h ⊢
    exact ⟨h.1, RV.mono hb hs h.2.1, RVf.mono hb hs h.2.2⟩
  | [], _ :: _, h => by simp only [RVf] at h
  | _ :: _, [], h => by simp only [RVf] at h
theorem RVk.mono {bs bs' : List Addr} {G G' : Hp} (hb : ∀ (k : Nat) (a : Addr), bs[k]? = some a → bs'[k]? = some a) (hs : Same G G') : ∀ {ds : List (Sum Int Str × Z.D)} {vs : List (Key × V)}, RVk C bs G vs ds → RVk C bs' G' vs ds
  | [], [], _ => by simp only [RVk]
  | (y, d) :: ds, (x, v) :: vs, h => by
    simp only [RVk] at h ⊢
    exact ⟨h.1, RV.mono hb hs h.2.1, RVk.mono hb hs h.2.2⟩
  | [], _ :: _, h => by simp only [RVk] at h
  | _ :: _, [], h => by simp only [RVk] at h
end
/-- the addresses of the living cells -/
noncomputable def lv (bs : List Addr) (h : Z.MH) (a : Addr) : Prop := ∃ (k : Nat) (c : Z.Cell), bs[k]? = some a ∧ h[k]? = some (some c)
open Classical in
/-- what nobody changes -/
noncomputable def gh (ex bs : List Addr) (h : Z.MH) (H : Hp) : Hp := fun a => if a ∈ ex ∨ lv bs h a then none else H a
theorem gh_some {ex bs : List Addr} {h : Z.MH} {H : Hp} {a : Addr} {o : HO} : gh ex bs h H a = some o ↔ a ∉ ex ∧ ¬ lv bs h a ∧ H a = some o := by
  unfold gh
  by_cases q : a ∈ ex ∨ lv bs h a
  · rw [if_pos q]
    constructor
    · intro z; cases z
    · rintro ⟨h1, h2, _⟩
      rcases q with q | q
      · exact absurd q h1
      · exact absurd q h2
  · rw [if_neg q]
    exact ⟨fun z => ⟨fun m => q (.inl m), fun m => q (.inr m), z⟩, fun z => z.2.2⟩
theorem gh_le {ex bs : List Addr} {h : Z.MH} {H : Hp} : Same (gh ex bs h H) H := fun a o e => (gh_some.mp e).2.2
/-- the cell c stands at a -/
noncomputable def CellAt (C : Ct) (bs : List Addr) (G H : Hp) (a : Addr) : Z.Cell → Prop
  | .lst ds => ∃ vs, H a = some (.lst vs) ∧ RVs C bs G vs ds
  | .dct kvs => ∃ kws, H a = some (.dK kws) ∧ RVk C bs G kws kvs
  | .ins c fs => ∃ dx fvs, H a = some (.ins (C.cm c) dx fvs) ∧ RVf C bs G fvs fs
theorem CellAt.mono {bs bs' : List Addr} {G G' H H' : Hp} {a : Addr} {c : Z.Cell} (hb : ∀ (k : Nat) (a : Addr), bs[k]? = some a → bs'[k]? = some a) (hs : Same G G') (e : H' a = H a) (h : CellAt C bs G H a c) : CellAt C bs' G' H' a c := by
  cases c with
  | lst ds => obtain ⟨vs, h1, h2⟩ := h; exact ⟨vs, by rw [e]; exact h1, h2.mono hb hs⟩
  | dct kvs => obtain ⟨vs, h1, h2⟩ := h; exact ⟨vs, by rw [e]; exact h1, h2.mono hb hs⟩
  | ins c fs => obtain ⟨dx, vs, h1, h2⟩ := h; exact ⟨dx, vs, by rw [e]; exact h1, h2.mono hb hs⟩
structure HR (C : Ct) (ex bs : List Addr) (h : Z.MH) (H : Hp) : Prop where
  len : bs.length = h.length
  inj : ∀ (i j : Nat) (a : Addr), bs[i]? = some a → bs[j]? = some a → i = j
  sep : ∀ a ∈ ex, a ∉ bs
  dom : ∀ a ∈ bs, H a ≠ none
  domx : ∀ a ∈ ex, H a ≠ none
  cell : ∀ (k : Nat) (a : Addr) (c : Z.Cell), bs[k]? = some a → h[k]? = some (some c) → CellAt C bs (gh ex bs h H) H a c
structure Ev (C : Ct) (ex bs : List Addr) (h : Z.MH) (H : Hp) (bs' : List Addr) (h' : Z.MH) (H' : Hp) : Prop where
  pre : ∀ (k : Nat) (a : Addr), bs[k]? = some a → bs'[k]? = some a
  hr : HR C ex bs' h' H'
  same : Same (gh ex bs h H) (gh ex bs' h' H')
  exs : ∀ a ∈ ex, H' a = H a
variable {ex bs bs1 bs2 : List Addr} {h h1 h2 : Z.MH} {H H1 H2 : Hp}
theorem Ev.refl (r : HR C ex bs h H) : Ev C ex bs h H bs h H := ⟨fun _ _ e => e, r, Same.refl _, fun _ _ => rfl⟩
theorem Ev.trans (a : Ev C ex bs h H bs1 h1 H1) (b : Ev C ex bs1 h1 H1 bs2 h2 H2) : Ev C ex bs h H bs2 h2 H2 :=
  ⟨fun k x e => b.pre k x (a.pre k x e), b.hr, a.same.trans b.same, fun x hx => (b.exs x hx).trans (a.exs x hx)⟩
theorem RV.ev {v : V} {d : Z.D} (e : Ev C ex bs h H bs1 h1 H1) (r : RV C bs (gh ex bs h H) v d) : RV C bs1 (gh ex bs1 h1 H1) v d := r.mono e.pre e.same
theorem RVs.ev {v : List V} {d : List Z.D} (e : Ev C ex bs h H bs1 h1 H1) (r : RVs C bs (gh ex bs h H) v d) : RVs C bs1 (gh ex bs1 h1 H1) v d := r.mono e.pre e.same
/-- the names -/
noncomputable def RE (C : Ct) (bs : List Addr) (G : Hp) (ρ : Z.Ro) (σ : St) : Prop := ρ.length = σ.length ∧ ∀ (i : Nat) (d : Z.D), ρ[i]? = some (some d) → ∃ v, σ[i]? = some (some v) ∧ RV C bs G v d
theorem RE.ev {ρ : Z.Ro} {σ : St} (e : Ev C ex bs h H bs1 h1 H1) (r : RE C bs (gh ex bs h H) ρ σ) : RE C bs1 (gh ex bs1 h1 H1) ρ σ :=
  ⟨r.1, fun i d q => by obtain ⟨v, h1, h2⟩ := r.2 i d q; exact ⟨v, h1, h2.ev e⟩⟩
theorem RE.set {G : Hp} {ρ : Z.Ro} {σ : St} {i : Nat} {d : Z.D} {v : V} (r : RE C bs G ρ σ) (q : RV C bs G v d) : RE C bs G (ρ.set i (some d)) (σ.set i (some v)) := by
  refine ⟨by simp [r.1], fun j e hj => ?_⟩
  by_cases hij : i = j
  · subst hij
    rw [List.getElem?_set_self' ] at hj
    have hl : i < ρ.length := by
      by_cases hl : i < ρ.length
      · exact hl
      · rw [List.getElem?_eq_none (by omega)] at hj; simp at hj
    rw [List.getElem?_eq_getElem hl] at hj
    simp at hj
    subst hj
    refine ⟨v, ?_, q⟩
    rw [List.getElem?_set_self (by rw [← r.1]; exact hl)]
  · rw [List.getElem?_set_ne hij] at hj
    obtain ⟨u, h1, h2⟩ := r.2 j e hj
    exact ⟨u, by rw [List.getElem?_set_ne hij]; exact h1, h2⟩
/-- what is wanted behind -/
noncomputable def Post (C : Ct) (ex : List Addr) (E : XK) (bs : List Addr) (h : Z.MH) (H : Hp) {α β : Type} (R : List Addr → Hp → β → α → Prop) (r : Z.Res α) (Q : β → Hp → Prop) : Prop := match r with
  | .ok a h' => ∀ b bs' H', Ev C ex bs h H bs' h' H' → R bs' (gh ex bs' h' H') b a → Q b H'
  | .exc c h' => ∀ bs' H', Ev C ex bs h H bs' h' H' → E (.ref (C.cm c)) none H'
  | .stuck => False
variable {E : XK} {α β γ δ : Type} {R : List Addr → Hp → β → α → Prop} {R1 : List Addr → Hp → β → α → Prop} {R3 : List Addr → Hp → δ → γ → Prop}
theorem Post.from {r : Z.Res α} {Q : β → Hp → Prop} (e : Ev C ex bs h H bs1 h1 H1) (p : Post C ex E bs h H R r Q) : Post C ex E bs1 h1 H1 R r Q := by
  cases r with
  | ok a h' => exact fun b bs' H' e' q => p b bs' H' (e.trans e') q
  | exc c h' => exact fun bs' H' e' => p bs' H' (e.trans e')
  | stuck => exact p
theorem Post.bind {r : Z.Res α} {f : α → Z.MH → Z.Res γ} {Q : δ → Hp → Prop} {Q1 : β → Hp → Prop} (p : Post C ex E bs h H R3 (r.bind f) Q)
    (k : ∀ a b h1 bs1 H1, Ev C ex bs h H bs1 h1 H1 → R1 bs1 (gh ex bs1 h1 H1) b a → Post C ex E bs1 h1 H1 R3 (f a h1) Q → Q1 b H1) : Post C ex E bs h H R1 r Q1 := by
  cases r with
  | ok a h' => exact fun b bs' H' e' q => k a b h' bs' H' e' q (Post.from e' p)
  | exc c h' => exact p
  | stuck => exact p
theorem Post.now {a : α} {b : β} {Q : β → Hp → Prop} (hr : HR C ex bs h H) (p : Post C ex E bs h H R (.ok a h) Q) (q : R bs (gh ex bs h H) b a) : Q b H := p b bs H (Ev.refl hr) q
theorem Post.chk {c : Prop} [Decidable c] {r : Z.Res α} {Q : β → Hp → Prop} (p : Post C ex E bs h H R (Z.chk c r) Q) : c ∧ Post C ex E bs h H R r Q := by
  unfold Z.chk at p
  by_cases q : c
  · rw [if_pos q] at p; exact ⟨q, p⟩
  · rw [if_neg q] at p; exact p.elim
theorem Post.oR {o : Option α} {f : α → Z.MH → Z.Res γ} {Q : δ → Hp → Prop} (p : Post C ex E bs h H R3 ((Z.oR o h1).bind f) Q) : ∃ a, o = some a ∧ Post C ex E bs h H R3 (f a h1) Q := by
  cases o with
  | none => exact p.elim
  | some a => exact ⟨a, rfl, p⟩
theorem Post.oR1 {o : Option α} {Q : β → Hp → Prop} (p : Post C ex E bs h H R (Z.oR o h1) Q) : ∃ a, o = some a ∧ Post C ex E bs h H R (.ok a h1) Q := by
  cases o with
  | none => exact p.elim
  | some a => exact ⟨a, rfl, p⟩
/-- the mirror m tells what t does -/
noncomputable def Snd (C : Ct) (E : XK) {α β : Type} (R : List Addr → Hp → β → α → Prop) (t : St → Hp → (β → Hp → Prop) → Prop) (m : Z.Ro → Z.MH → Z.Res α) : Prop :=
  ∀ (ex bs : List Addr) (h : Z.MH) (ρ : Z.Ro) (σ : St) (H : Hp) (Q : β → Hp → Prop), HR C ex bs h H → RE C bs (gh ex bs h H) ρ σ → Post C ex E bs h H R (m ρ h) Q → t σ H Q
noncomputable abbrev SE (C : Ct) (E : XK) (t : TE) (m : Z.ME) : Prop := Snd C E (RV C) t m
noncomputable abbrev SA (C : Ct) (E : XK) (t : TA) (m : Z.ML) : Prop := Snd C E (RVs C) t m
noncomputable def REq {α : Type} : List Addr → Hp → α → α → Prop := fun _ _ b a => b = a
noncomputable abbrev ST (C : Ct) (E : XK) (t : TT) (m : Z.MT) : Prop := Snd C E REq t m
noncomputable abbrev SO (C : Ct) (E : XK) (t : TO) (m : Z.MO) : Prop := Snd C E REq t m
/-- an operation of two values; of one -/
noncomputable def S2 (C : Ct) (r : R2) (f : Z.B2) : Prop := ∀ (ex bs : List Addr) (h : Z.MH) (H : Hp) (E : XK) (x y : V) (dx dy : Z.D) (Q : VK), HR C ex bs h H → RV C bs (gh ex bs h H) x dx → RV C bs (gh ex bs h H) y dy → Post C ex E bs h H (RV C) (f dx dy h) Q → r x y H Q
noncomputable def S1 (C : Ct) (r : V → Hp → VK → Prop) (f : Z.D → Z.MH → Z.Res Z.D) : Prop := ∀ (ex bs : List Addr) (h : Z.MH) (H : Hp) (E : XK) (x : V) (dx : Z.D) (Q : VK), HR C ex bs h H → RV C bs (gh ex bs h H) x dx → Post C ex E bs h H (RV C) (f dx h) Q → r x H Q
noncomputable def SL (C : Ct) (r : List V → Hp → VK → Prop) (f : List Z.D → Z.MH → Z.Res Z.D) : Prop := ∀ (ex bs : List Addr) (h : Z.MH) (H : Hp) (E : XK) (xs : List V) (ds : List Z.D) (Q : VK), HR C ex bs h H → RVs C bs (gh ex bs h H) xs ds → Post C ex E bs h H (RV C) (f ds h) Q → r xs H Q

/-! ### expressions -/
theorem s_var {i : Nat} : SE C E (tVar i) (Z.mVar i) := by
  intro ex bs h ρ σ H Q hr re p
  unfold Z.mVar at p
  cases q : ρ[i]? with
  | none => rw [q] at p; exact p.elim
  | some o =>
    cases o with
    | none => rw [q] at p; exact p.elim
    | some d =>
      rw [q] at p
      obtain ⟨v, h1, h2⟩ := re.2 i d q
      exact ⟨v, h1, p.now hr h2⟩
theorem s_c {v : V} {d : Z.D} (q : ∀ bs G, RV C bs G v d) : SE C E (tC v) (Z.mC d) := fun ex bs h ρ σ H Q hr re p => Post.now hr p (q _ _)
theorem s_int {i : Int} : SE C E (tC (.int i)) (Z.mC (.int i)) := s_c fun _ _ => by simp only [RV]
theorem s_str {i : Str} : SE C E (tC (.str i)) (Z.mC (.str i)) := s_c fun _ _ => by simp only [RV]
theorem s_bl {i : Bool} : SE C E (tC (.bl i)) (Z.mC (.bl i)) := s_c fun _ _ => by simp only [RV]
theorem s_ty {n : String} : SE C E (tC (.ty n)) (Z.mC (.ty n)) := s_c fun _ _ => by simp only [RV]
theorem s_op {r : R2} {f : Z.B2} {ta tb : TE} {ma mb : Z.ME} (o : S2 C r f) (ha : SE C E ta ma) (hb : SE C E tb mb) : SE C E (tOp r ta tb) (Z.mBin f ma mb) := by
  intro ex bs h ρ σ H Q hr re p
  refine ha ex bs h ρ σ H _ hr re (p.bind fun dx x h1 bs1 H1 e1 rx p1 => ?_)
  refine hb ex bs1 h1 ρ σ H1 _ e1.hr (re.ev e1) (p1.bind fun dy y h2 bs2 H2 e2 ry p2 => ?_)
  exact o ex bs2 h2 H2 E x y dx dy Q e2.hr (rx.ev e2) ry p2
theorem s_un {r : V → Hp → VK → Prop} {f : Z.D → Z.MH → Z.Res Z.D} {ta : TE} {ma : Z.ME} (o : S1 C r f) (ha : SE C E ta ma) : SE C E (tUn r ta) (Z.mUn f ma) := by
  intro ex bs h ρ σ H Q hr re p
  refine ha ex bs h ρ σ H _ hr re (p.bind fun dx x h1 bs1 H1 e1 rx p1 => ?_)
  exact o ex bs1 h1 H1 E x dx Q e1.hr rx p1
theorem s_nil : SA C E tNil Z.mNil := fun ex bs h ρ σ H Q hr re p => Post.now hr p (by simp only [RVs])
theorem s_cons {ta : TE} {tl : TA} {ma : Z.ME} {ml : Z.ML} (ha : SE C E ta ma) (hl : SA C E tl ml) : SA C E (tCons ta tl) (Z.mCons ma ml) := by
  intro ex bs h ρ σ H Q hr re p
  refine ha ex bs h ρ σ H _ hr re (p.bind fun dx x h1 bs1 H1 e1 rx p1 => ?_)
  refine hl ex bs1 h1 ρ σ H1 _ e1.hr (re.ev e1) (p1.bind fun dy y h2 bs2 H2 e2 ry p2 => ?_)
  exact Post.now e2.hr p2 (by simp only [RVs]; exact ⟨rx.ev e2, ry⟩)
theorem s_cb {r : List V → Hp → VK → Prop} {f : List Z.D → Z.MH → Z.Res Z.D} {tl : TA} {ml : Z.ML} (o : SL C r f) (hl : SA C E tl ml) : SE C E (tCB r tl) (Z.mFn f ml) := by
  intro ex bs h ρ σ H Q hr re p
  refine hl ex bs h ρ σ H _ hr re (p.bind fun dx x h1 bs1 H1 e1 rx p1 => ?_)
  exact o ex bs1 h1 H1 E x dx Q e1.hr rx p1
theorem RVs.len {bs : List Addr} {G : Hp} : ∀ {ds : List Z.D} {vs : List V}, RVs C bs G vs ds → vs.length = ds.length
  | [], [], _ => rfl
  | d :: ds, v :: vs, h => by simp only [RVs] at h; simp [RVs.len h.2]
  | [], _ :: _, h => by simp only [RVs] at h
  | _ :: _, [], h => by simp only [RVs] at h
/-! ### new objects -/
theorem Ev.alloc {p : Addr} {o : HO} (hr : HR C ex bs h H) (hp : H p = none) : Ev C ex bs h H bs h (upd H p o) ∧ gh ex bs h (upd H p o) p = some o := by
  have nx : p ∉ ex := fun m => hr.domx p m hp
  have nb : p ∉ bs := fun m => hr.dom p m hp
  have nl : ¬ lv bs h p := fun ⟨k, c, e, _⟩ => nb (List.mem_of_getElem? e)
  have ne : ∀ {a}, H a ≠ none → a ≠ p := fun {a} q e => q (by rw [e]; exact hp)
  have sm : Same (gh ex bs h H) (gh ex bs h (upd H p o)) := fun a u e => by
    obtain ⟨h1, h2, h3⟩ := gh_some.mp e
    exact gh_some.mpr ⟨h1, h2, by rw [upd_ne (ne (by rw [h3]; exact fun z => nomatch z))]; exact h3⟩
  refine ⟨⟨fun _ _ e => e, ⟨hr.len, hr.inj, hr.sep, fun a m => ?_, fun a m => ?_, fun k a c e1 e2 => ?_⟩, sm, fun a m => ?_⟩, gh_some.mpr ⟨nx, nl, upd_same⟩⟩
  · rw [upd_ne (ne (hr.dom a m))]; exact hr.dom a m
  · rw [upd_ne (ne (hr.domx a m))]; exact hr.domx a m
  · exact (hr.cell k a c e1 e2).mono (fun _ _ e => e) sm (by rw [upd_ne (ne (hr.dom a (List.mem_of_getElem? e1)))])
  · rw [upd_ne (ne (hr.domx a m))]
theorem s_tup {tl : TA} {ml : Z.ML} (hl : SA C E tl ml) : SE C E (tTup tl) (Z.mTup ml) := by
  intro ex bs h ρ σ H Q hr re p
  refine hl ex bs h ρ σ H _ hr re (p.bind fun ds xs h1 bs1 H1 e1 rx p1 => ?_)
  obtain ⟨hz, p1⟩ := p1.chk
  refine ⟨by rw [rx.len]; exact hz, fun a ha => ?_⟩
  obtain ⟨e2, g⟩ := Ev.alloc (o := .tup xs) e1.hr ha
  exact p1 (.ref a) bs1 _ e2 (by simp only [RV]; exact ⟨a, xs, rfl, g, rx.ev e2⟩)
/-- a new list, at p over the heap H1 -/
noncomputable def PostN (C : Ct) (ex : List Addr) (E : XK) (bs : List Addr) (h : Z.MH) (H : Hp) (r : Z.Res (List Z.D)) (Q : VK) : Prop := match r with
  | .ok ds h' => ∀ p vs bs' H1, Ev C ex bs h H bs' h' H1 → H1 p = none → RVs C bs' (gh ex bs' h' H1) vs ds → Q (.ref p) (upd H1 p (.lst vs))
  | .exc c h' => ∀ bs' H', Ev C ex bs h H bs' h' H' → E (.ref (C.cm c)) none H'
  | .stuck => False
noncomputable def SN (C : Ct) (E : XK) (t : TE) (m : Z.ML) : Prop :=
  ∀ (ex bs : List Addr) (h : Z.MH) (ρ : Z.Ro) (σ : St) (H : Hp) (Q : VK), HR C ex bs h H → RE C bs (gh ex bs h H) ρ σ → PostN C ex E bs h H (m ρ h) Q → t σ H Q
theorem PostN.from {r : Z.Res (List Z.D)} {Q : VK} (e : Ev C ex bs h H bs1 h1 H1) (p : PostN C ex E bs h H r Q) : PostN C ex E bs1 h1 H1 r Q := by
  cases r with
  | ok a h' => exact fun b vs bs' H' e' hn q => p b vs bs' H' (e.trans e') hn q
  | exc c h' => exact fun bs' H' e' => p bs' H' (e.trans e')
  | stuck => exact p
theorem PostN.bind {r : Z.Res α} {f : α → Z.MH → Z.Res (List Z.D)} {Q : VK} {Q1 : β → Hp → Prop} (p : PostN C ex E bs h H (r.bind f) Q)
    (k : ∀ a b h1 bs1 H1, Ev C ex bs h H bs1 h1 H1 → R1 bs1 (gh ex bs1 h1 H1) b a → PostN C ex E bs1 h1 H1 (f a h1) Q → Q1 b H1) : Post C ex E bs h H R1 r Q1 := by
  cases r with
  | ok a h' => exact fun b bs' H' e' q => k a b h' bs' H' e' q (PostN.from e' p)
  | exc c h' => exact p
  | stuck => exact p
theorem PostN.chk {c : Prop} [Decidable c] {r : Z.Res (List Z.D)} {Q : VK} (p : PostN C ex E bs h H (Z.chk c r) Q) : c ∧ PostN C ex E bs h H r Q := by
  unfold Z.chk at p
  by_cases q : c
  · rw [if_pos q] at p; exact ⟨q, p⟩
  · rw [if_neg q] at p; exact p.elim
theorem PostN.now {ds : List Z.D} {Q : VK} {p : Addr} {vs : List V} (hr : HR C ex bs h H) (q : PostN C ex E bs h H (.ok ds h) Q) (hp : H p = none) (r : RVs C bs (gh ex bs h H) vs ds) : Q (.ref p) (upd H p (.lst vs)) := q p vs bs H (Ev.refl hr) hp r
theorem s_tree {t : TE} {m : Z.ML} (hn : SN C E t m) : SE C E t (Z.mTree m) := by
  intro ex bs h ρ σ H Q hr re p
  refine hn ex bs h ρ σ H Q hr re ?_
  unfold Z.mTree at p
  cases e : m ρ h with
  | ok ds h1 =>
    rw [e] at p
    intro a vs bs1 H1 e1 ha rv
    obtain ⟨e2, g⟩ := Ev.alloc (o := .lst vs) e1.hr ha
    exact p (.ref a) bs1 _ (e1.trans e2) (by simp only [RV]; exact ⟨a, vs, rfl, g, rv.ev e2⟩)
  | exc c h1 => rw [e] at p; exact p
  | stuck => rw [e] at p; exact p
theorem getElem?_snoc_lt {α : Type} {l : List α} {a x : α} {k : Nat} (e : l[k]? = some a) : (l ++ [x])[k]? = some a := by
  rw [List.getElem?_append_left (List.getElem?_eq_some_iff.mp e).1]; exact e
theorem getElem?_snoc {α : Type} {l : List α} {a x : α} {k : Nat} (e : (l ++ [x])[k]? = some a) : l[k]? = some a ∨ (k = l.length ∧ a = x) := by
  by_cases hk : k < l.length
  · rw [List.getElem?_append_left hk] at e; exact .inl e
  · rw [List.getElem?_append_right (by omega)] at e
    by_cases hk2 : k = l.length
    · subst hk2; simp at e; exact .inr ⟨rfl, e.symm⟩
    · rw [List.getElem?_eq_none (by simp; omega)] at e; cases e
theorem Ev.cell {p : Addr} {o : HO} {c : Z.Cell} (hr : HR C ex bs h H) (hp : H p = none) (hc : CellAt C bs (gh ex bs h H) (upd H p o) p c) : Ev C ex bs h H (bs ++ [p]) (h ++ [some c]) (upd H p o) := by
  have nx : p ∉ ex := fun m => hr.domx p m hp
  have nb : p ∉ bs := fun m => hr.dom p m hp
  have ne : ∀ {a}, H a ≠ none → a ≠ p := fun {a} q e => q (by rw [e]; exact hp)
  have hb : ∀ (k : Nat) (a : Addr), bs[k]? = some a → (bs ++ [p])[k]? = some a := fun k a e => getElem?_snoc_lt e
  have lvs : ∀ a, lv (bs ++ [p]) (h ++ [some c]) a → lv bs h a ∨ a = p := fun a ⟨k, c', e1, e2⟩ => by
    rcases getElem?_snoc e1 with e1 | ⟨_, e1⟩
    · rcases getElem?_snoc e2 with e2 | ⟨e2, _⟩
      · exact .inl ⟨k, c', e1, e2⟩
      · have := (List.getElem?_eq_some_iff.mp e1).1
        have := hr.len
        omega
    · exact .inr e1
  have sm : Same (gh ex bs h H) (gh ex (bs ++ [p]) (h ++ [some c]) (upd H p o)) := fun a u e => by
    obtain ⟨h1, h2, h3⟩ := gh_some.mp e
    have na : a ≠ p := ne (by rw [h3]; exact fun z => nomatch z)
    refine gh_some.mpr ⟨h1, fun l => ?_, by rw [upd_ne na]; exact h3⟩
    rcases lvs a l with l | l
    · exact h2 l
    · exact na l
  refine ⟨hb, ⟨by simp [hr.len], fun i j a e1 e2 => ?_, fun a m => ?_, fun a m => ?_, fun a m => ?_, fun k a c' e1 e2 => ?_⟩, sm, fun a m => ?_⟩
  · rcases getElem?_snoc e1 with e1 | ⟨k1, e1⟩
    · rcases getElem?_snoc e2 with e2 | ⟨k2, e2⟩
      · exact hr.inj i j a e1 e2
      · rw [e2] at e1; exact absurd (List.mem_of_getElem? e1) nb
    · rcases getElem?_snoc e2 with e2 | ⟨k2, e2⟩
      · rw [e1] at e2; exact absurd (List.mem_of_getElem? e2) nb
      · omega
  · intro z
    rcases List.mem_append.mp z with z | z
    · exact hr.sep a m z
    · exact nx (by rw [← (show a = p by simpa using z)]; exact m)
  · rcases List.mem_append.mp m with m | m
    · rw [upd_ne (ne (hr.dom a m))]; exact hr.dom a m
    · rw [show a = p by simpa using m, upd_same]; exact fun z => nomatch z
  · rw [upd_ne (ne (hr.domx a m))]; exact hr.domx a m
  · rcases getElem?_snoc e1 with e1 | ⟨k1, e1⟩
    · rcases getElem?_snoc e2 with e2 | ⟨k2, e2⟩
      · exact (hr.cell k a c' e1 e2).mono hb sm (by rw [upd_ne (ne (hr.dom a (List.mem_of_getElem? e1)))])
      · have := (List.getElem?_eq_some_iff.mp e1).1
        have := hr.len
        omega
    · rcases getElem?_snoc e2 with e2 | ⟨k2, e2⟩
      · have := (List.getElem?_eq_some_iff.mp e2).1
        have := hr.len
        omega
      · rw [e1]
        injection e2 with e2
        subst e2
        exact hc.mono hb sm rfl
  · rw [upd_ne (ne (hr.domx a m))]
theorem s_cell {t : TE} {m : Z.ML} (hn : SN C E t m) : SE C E t (Z.mCell m) := by
  intro ex bs h ρ σ H Q hr re p
  refine hn ex bs h ρ σ H Q hr re ?_
  unfold Z.mCell at p
  cases e : m ρ h with
  | ok ds h1 =>
    rw [e] at p
    intro a vs bs1 H1 e1 ha rv
    have e2 := Ev.cell (o := .lst vs) (c := .lst ds) e1.hr ha ⟨vs, upd_same, rv⟩
    refine p (.ref a) (bs1 ++ [a]) _ (e1.trans e2) ?_
    simp only [RV]
    exact ⟨a, rfl, by rw [← e1.hr.len]; simp⟩
  | exc c h1 => rw [e] at p; exact p
  | stuck => rw [e] at p; exact p
theorem n_disp {tl : TA} {ml : Z.ML} (hl : SA C E tl ml) : SN C E (tLst tl) (Z.lDisp ml) := by
  intro ex bs h ρ σ H Q hr re p
  refine hl ex bs h ρ σ H _ hr re (PostN.bind p fun ds xs h1 bs1 H1 e1 rx p1 => ?_)
  obtain ⟨hz, p1⟩ := p1.chk
  exact ⟨by rw [rx.len]; exact hz, fun a ha => p1.now e1.hr ha rx⟩
/-! ### cells written, cells made trees -/
theorem lv_set {k : Nat} {a x : Addr} {c c0 : Z.Cell} (hk : bs[k]? = some a) (h0 : h[k]? = some (some c0)) : lv bs (h.set k (some c)) x ↔ lv bs h x := by
  constructor
  · rintro ⟨j, c', e1, e2⟩
    by_cases hj : k = j
    · subst hj; exact ⟨k, c0, e1, h0⟩
    · rw [List.getElem?_set_ne hj] at e2; exact ⟨j, c', e1, e2⟩
  · rintro ⟨j, c', e1, e2⟩
    by_cases hj : k = j
    · subst hj; exact ⟨k, c, e1, by rw [List.getElem?_set_self (List.getElem?_eq_some_iff.mp h0).1]⟩
    · exact ⟨j, c', e1, by rw [List.getElem?_set_ne hj]; exact e2⟩
theorem Ev.put {k : Nat} {a : Addr} {o : HO} {c c0 : Z.Cell} (hr : HR C ex bs h H) (hk : bs[k]? = some a) (h0 : h[k]? = some (some c0)) (hc : CellAt C bs (gh ex bs h H) (upd H a o) a c) :
    Ev C ex bs h H bs (h.set k (some c)) (upd H a o) := by
  have la : lv bs h a := ⟨k, c0, hk, h0⟩
  have ab : a ∈ bs := List.mem_of_getElem? hk
  have ge : gh ex bs (h.set k (some c)) (upd H a o) = gh ex bs h H := by
    funext x
    unfold gh
    by_cases q : x ∈ ex ∨ lv bs h x
    · rw [if_pos q, if_pos (q.imp id (lv_set hk h0).mpr)]
    · rw [if_neg q, if_neg (fun z => q (z.imp id (lv_set hk h0).mp)), upd_ne (fun z => q (.inr (by rw [z]; exact la)))]
  have na : ∀ {x}, x ∈ ex → x ≠ a := fun {x} m z => hr.sep x m (by rw [z]; exact ab)
  refine ⟨fun _ _ e => e, ⟨by simp [hr.len], hr.inj, hr.sep, fun x m => ?_, fun x m => ?_, fun j x c' e1 e2 => ?_⟩, by rw [ge]; exact Same.refl _, fun x m => by rw [upd_ne (na m)]⟩
  · by_cases q : x = a
    · rw [q, upd_same]; exact fun z => nomatch z
    · rw [upd_ne q]; exact hr.dom x m
  · rw [upd_ne (na m)]; exact hr.domx x m
  · rw [ge]
    by_cases hj : k = j
    · subst hj
      rw [hk] at e1; cases e1
      rw [List.getElem?_set_self (List.getElem?_eq_some_iff.mp h0).1] at e2
      cases e2; exact hc
    · rw [List.getElem?_set_ne hj] at e2
      refine (hr.cell j x c' e1 e2).mono (fun _ _ e => e) (Same.refl _) ?_
      rw [upd_ne (fun z => hj (hr.inj k j a hk (by rw [← z]; exact e1)))]
theorem Ev.freeze {k : Nat} {a : Addr} {ds : List Z.D} (hr : HR C ex bs h H) (hk : bs[k]? = some a) (h0 : h[k]? = some (some (.lst ds))) :
    Ev C ex bs h H bs (h.set k none) H ∧ RV C bs (gh ex bs (h.set k none) H) (.ref a) (.lst ds) := by
  have ab : a ∈ bs := List.mem_of_getElem? hk
  have lvs : ∀ x, lv bs (h.set k none) x → lv bs h x ∧ x ≠ a := fun x ⟨j, c', e1, e2⟩ => by
    by_cases hj : k = j
    · subst hj; rw [List.getElem?_set_self (List.getElem?_eq_some_iff.mp h0).1] at e2; cases e2
    · rw [List.getElem?_set_ne hj] at e2
      exact ⟨⟨j, c', e1, e2⟩, fun z => hj (hr.inj k j a hk (by rw [← z]; exact e1))⟩
  have sm : Same (gh ex bs h H) (gh ex bs (h.set k none) H) := fun x u e => by
    obtain ⟨h1, h2, h3⟩ := gh_some.mp e
    exact gh_some.mpr ⟨h1, fun l => h2 (lvs x l).1, h3⟩
  obtain ⟨vs, h1, h2⟩ := hr.cell k a _ hk h0
  refine ⟨⟨fun _ _ e => e, ⟨by simp [hr.len], hr.inj, hr.sep, hr.dom, hr.domx, fun j x c' e1 e2 => ?_⟩, sm, fun _ _ => rfl⟩, ?_⟩
  · by_cases hj : k = j
    · subst hj; rw [List.getElem?_set_self (List.getElem?_eq_some_iff.mp h0).1] at e2; cases e2
    · rw [List.getElem?_set_ne hj] at e2
      exact (hr.cell j x c' e1 e2).mono (fun _ _ e => e) sm rfl
  · simp only [RV]
    exact ⟨a, vs, rfl, gh_some.mpr ⟨fun m => hr.sep a m ab, fun l => (lvs a l).2 rfl, h1⟩, h2.mono (fun _ _ e => e) sm⟩
/-! ### calls -/
noncomputable def spZ (C : Ct) (z : Z.MF) : Sp := fun vs H Q E => ∃ ex bs h ds, HR C ex bs h H ∧ RVs C bs (gh ex bs h H) vs ds ∧ Post C ex E bs h H (RV C) (z ds h) Q
theorem s_call {z : Z.MF} {tl : TA} {ml : Z.ML} (hl : SA C E tl ml) : SE C E (tCall (spZ C z) [] E tl) (Z.mCall z ml) := by
  intro ex bs h ρ σ H Q hr re p
  refine hl ex bs h ρ σ H _ hr re (p.bind fun ds xs h1 bs1 H1 e1 rx p1 => ?_)
  exact ⟨ex, bs1, h1, ds, e1.hr, by rw [List.append_nil]; exact rx, p1⟩
/-! ### tests, and, or, if -/
theorem s_tB {t : TE} {m : Z.ME} (h0 : SE C E t m) : ST C E (tB t) (Z.tB m) := by
  intro ex bs h ρ σ H Q hr re p
  refine h0 ex bs h ρ σ H _ hr re (p.bind fun d x h1 bs1 H1 e1 rx p1 => ?_)
  cases d with
  | bl b => simp only [RV] at rx; exact ⟨b, rx, Post.now e1.hr p1 rfl⟩
  | _ => exact p1.elim
theorem s_tTest {t : TE} {m : Z.ME} (h0 : SE C E t m) : ST C E (tTest t) (Z.tB m) := s_tB h0
theorem s_tAnd {t u : TT} {m n : Z.MT} (ht : ST C E t m) (hu : ST C E u n) : ST C E (tAnd t u) (Z.tAnd m n) := by
  intro ex bs h ρ σ H Q hr re p
  refine ht ex bs h ρ σ H _ hr re (p.bind fun c b h1 bs1 H1 e1 rx p1 => ?_)
  cases rx
  cases c with
  | true => exact hu ex bs1 h1 ρ σ H1 Q e1.hr (re.ev e1) p1
  | false => exact Post.now e1.hr p1 rfl
theorem s_tOr {t u : TT} {m n : Z.MT} (ht : ST C E t m) (hu : ST C E u n) : ST C E (tOr t u) (Z.tOr m n) := by
  intro ex bs h ρ σ H Q hr re p
  refine ht ex bs h ρ σ H _ hr re (p.bind fun c b h1 bs1 H1 e1 rx p1 => ?_)
  cases rx
  cases c with
  | false => exact hu ex bs1 h1 ρ σ H1 Q e1.hr (re.ev e1) p1
  | true => exact Post.now e1.hr p1 rfl
theorem s_tNot {t : TT} {m : Z.MT} (ht : ST C E t m) : ST C E (tNot t) (Z.tNot m) := by
  intro ex bs h ρ σ H Q hr re p
  refine ht ex bs h ρ σ H _ hr re (p.bind fun c b h1 bs1 H1 e1 rx p1 => ?_)
  cases rx
  exact Post.now e1.hr p1 rfl
theorem s_chain {r r' : R2} {f g : Z.B2} {ta tb tc : TE} {ma mb mc : Z.ME} (o : S2 C r f) (o' : S2 C r' g) (ha : SE C E ta ma) (hb : SE C E tb mb) (hc : SE C E tc mc) : SE C E (tChain r r' ta tb tc) (Z.mChain f g ma mb mc) := by
  intro ex bs h ρ σ H Q hr re p
  refine ha ex bs h ρ σ H _ hr re (p.bind fun dx x h1 bs1 H1 e1 rx p1 => ?_)
  refine hb ex bs1 h1 ρ σ H1 _ e1.hr (re.ev e1) (p1.bind fun dy y h2 bs2 H2 e2 ry p2 => ?_)
  refine o ex bs2 h2 H2 E x y dx dy _ e2.hr (rx.ev e2) ry (p2.bind fun dz z h3 bs3 H3 e3 rz p3 => ?_)
  cases dz with
  | bl k =>
    simp only [RV] at rz
    refine ⟨k, rz, ?_⟩
    cases k with
    | false => exact Post.now e3.hr p3 (by simp only [RV])
    | true =>
      refine hc ex bs3 h3 ρ σ H3 _ e3.hr ((re.ev e1).ev (e2.trans e3)) (p3.bind fun dw w' h4 bs4 H4 e4 rw' p4 => ?_)
      exact o' ex bs4 h4 H4 E y w' dy dw Q e4.hr ((ry.ev e3).ev e4) rw' p4
  | _ => exact p3.elim
end
end L2

namespace L2
open PySem PySem.Spec
section
variable {C : Ct} {ex bs bs1 bs2 : List Addr} {h h1 h2 : Z.MH} {H H1 H2 : Hp} {E : XK} {α β : Type} {R1 : List Addr → Hp → β → α → Prop}
/-! ### statements -/
noncomputable def PostS (C : Ct) (ex : List Addr) (E : XK) (bs : List Addr) (h : Z.MH) (H : Hp) (r : Z.RS) (D : Ends) : Prop := match r with
  | .nx ρ' h' => ∀ σ' bs' H', Ev C ex bs h H bs' h' H' → RE C bs' (gh ex bs' h' H') ρ' σ' → D.nx σ' H'
  | .rt d h' => ∀ v bs' H', Ev C ex bs h H bs' h' H' → RV C bs' (gh ex bs' h' H') v d → D.rt v H'
  | .bk ρ' h' => ∀ σ' bs' H', Ev C ex bs h H bs' h' H' → RE C bs' (gh ex bs' h' H') ρ' σ' → D.bk σ' H'
  | .ct ρ' h' => ∀ σ' bs' H', Ev C ex bs h H bs' h' H' → RE C bs' (gh ex bs' h' H') ρ' σ' → D.ct σ' H'
  | .exc c h' => ∀ bs' H', Ev C ex bs h H bs' h' H' → E (.ref (C.cm c)) none H'
  | .stuck => False
noncomputable def SS (C : Ct) (E : XK) (t : TS) (m : Z.MS) : Prop :=
  ∀ (ex bs : List Addr) (h : Z.MH) (ρ : Z.Ro) (σ : St) (H : Hp) (D : Ends), HR C ex bs h H → RE C bs (gh ex bs h H) ρ σ → PostS C ex E bs h H (m ρ h) D → t D σ H
theorem PostS.from {r : Z.RS} {D : Ends} (e : Ev C ex bs h H bs1 h1 H1) (p : PostS C ex E bs h H r D) : PostS C ex E bs1 h1 H1 r D := by
  cases r with
  | nx ρ h' => exact fun b bs' H' e' q => p b bs' H' (e.trans e') q
  | rt d h' => exact fun b bs' H' e' q => p b bs' H' (e.trans e') q
  | bk ρ h' => exact fun b bs' H' e' q => p b bs' H' (e.trans e') q
  | ct ρ h' => exact fun b bs' H' e' q => p b bs' H' (e.trans e') q
  | exc c h' => exact fun bs' H' e' => p bs' H' (e.trans e')
  | stuck => exact p
theorem PostS.bind {r : Z.Res α} {f : α → Z.MH → Z.RS} {D : Ends} {Q1 : β → Hp → Prop} (p : PostS C ex E bs h H (r.toS f) D)
    (k : ∀ a b h1 bs1 H1, Ev C ex bs h H bs1 h1 H1 → R1 bs1 (gh ex bs1 h1 H1) b a → PostS C ex E bs1 h1 H1 (f a h1) D → Q1 b H1) : Post C ex E bs h H R1 r Q1 := by
  cases r with
  | ok a h' => exact fun b bs' H' e' q => k a b h' bs' H' e' q (PostS.from e' p)
  | exc c h' => exact p
  | stuck => exact p
theorem ss_next : SS C E tNext Z.sNext := fun ex bs h ρ σ H D hr re p => p σ bs H (Ev.refl hr) re
theorem ss_seq {t u : TS} {m n : Z.MS} (ht : SS C E t m) (hu : SS C E u n) : SS C E (tSeq t u) (Z.sSeq m n) := by
  intro ex bs h ρ σ H D hr re p
  refine ht ex bs h ρ σ H _ hr re ?_
  unfold Z.sSeq at p
  cases e : m ρ h with
  | nx ρ1 h1 => rw [e] at p; exact fun σ1 bs1 H1 e1 re1 => hu ex bs1 h1 ρ1 σ1 H1 D e1.hr re1 (p.from e1)
  | rt d h1 => rw [e] at p; exact p
  | bk ρ1 h1 => rw [e] at p; exact p
  | ct ρ1 h1 => rw [e] at p; exact p
  | exc c h1 => rw [e] at p; exact p
  | stuck => rw [e] at p; exact p
theorem ss_if {c : TT} {t u : TS} {mc : Z.MT} {m n : Z.MS} (hc : ST C E c mc) (ht : SS C E t m) (hu : SS C E u n) : SS C E (tIfS c t u) (Z.sIf mc m n) := by
  intro ex bs h ρ σ H D hr re p
  refine hc ex bs h ρ σ H _ hr re (p.bind fun c b h1 bs1 H1 e1 rx p1 => ?_)
  cases rx
  cases c with
  | true => exact ht ex bs1 h1 ρ σ H1 D e1.hr (re.ev e1) p1
  | false => exact hu ex bs1 h1 ρ σ H1 D e1.hr (re.ev e1) p1
theorem ss_ret {t : TE} {m : Z.ME} (ht : SE C E t m) : SS C E (tRet t) (Z.sRet m) := by
  intro ex bs h ρ σ H D hr re p
  exact ht ex bs h ρ σ H _ hr re (p.bind fun d x h1 bs1 H1 e1 rx p1 => p1 x bs1 H1 (Ev.refl e1.hr) rx)
theorem ss_drop {t : TE} {m : Z.ME} (ht : SE C E t m) : SS C E (tDrop t) (Z.sDrop m) := by
  intro ex bs h ρ σ H D hr re p
  exact ht ex bs h ρ σ H _ hr re (p.bind fun d x h1 bs1 H1 e1 rx p1 => p1 σ bs1 H1 (Ev.refl e1.hr) (re.ev e1))
/-- a target -/
noncomputable def SG (C : Ct) (E : XK) (g : TG) (m : Z.MG) : Prop :=
  ∀ (ex bs : List Addr) (h : Z.MH) (ρ : Z.Ro) (σ : St) (H : Hp) (v : V) (d : Z.D) (D : Ends), HR C ex bs h H → RE C bs (gh ex bs h H) ρ σ → RV C bs (gh ex bs h H) v d → PostS C ex E bs h H (m d ρ h) D → g v σ H D.nx
theorem ss_asg {t : TE} {m : Z.ME} {g : TG} {mg : Z.MG} (ht : SE C E t m) (hg : SG C E g mg) : SS C E (tAsg t g) (Z.sAsg m mg) := by
  intro ex bs h ρ σ H D hr re p
  exact ht ex bs h ρ σ H _ hr re (p.bind fun d x h1 bs1 H1 e1 rx p1 => hg ex bs1 h1 ρ σ H1 x d D e1.hr (re.ev e1) rx p1)
theorem sg_name {i : Nat} : SG C E (gName i) (Z.gName i) := fun ex bs h ρ σ H v d D hr re rv p => p _ bs H (Ev.refl hr) (re.set rv)
noncomputable def SGs (C : Ct) (E : XK) (g : TGs) (is : List Nat) : Prop :=
  ∀ (ex bs : List Addr) (h : Z.MH) (ρ : Z.Ro) (σ : St) (H : Hp) (vs : List V) (ds : List Z.D) (D : Ends), HR C ex bs h H → RE C bs (gh ex bs h H) ρ σ → RVs C bs (gh ex bs h H) vs ds → PostS C ex E bs h H (Z.gNames is ds ρ h) D → g vs σ H D.nx ∧ vs.length = is.length
theorem sgs_nil : SGs C E gNil [] := by
  intro ex bs h ρ σ H vs ds D hr re rv p
  cases ds with
  | nil =>
    cases vs with
    | nil => exact ⟨⟨rfl, p σ bs H (Ev.refl hr) re⟩, rfl⟩
    | cons _ _ => simp only [RVs] at rv
  | cons d ds => exact p.elim
theorem sgs_cons {g : TGs} {is : List Nat} {i : Nat} (hg : SGs C E g is) : SGs C E (gCons (gName i) g) (i :: is) := by
  intro ex bs h ρ σ H vs ds D hr re rv p
  cases ds with
  | nil => exact p.elim
  | cons d ds =>
    cases vs with
    | nil => simp only [RVs] at rv
    | cons v vs =>
      simp only [RVs] at rv
      have := hg ex bs h (ρ.set i (some d)) (σ.set i (some v)) H vs ds D hr (re.set rv.1) rv.2 p
      exact ⟨⟨v, vs, rfl, this.1⟩, by simp [this.2]⟩
theorem sg_tup {g : TGs} {is : List Nat} {n : Nat} (hn : n = is.length) (hg : SGs C E g is) : SG C E (gSeq C.K n g) (Z.gTup is) := by
  intro ex bs h ρ σ H v d D hr re rv p
  cases d with
  | tup ds =>
    simp only [RV] at rv
    obtain ⟨a, vs, rfl, ga, rs⟩ := rv
    have := hg ex bs h ρ σ H vs ds D hr re rs p
    exact ⟨a, vs, rfl, .inl (SqT.of (gh_le _ _ ga)), by rw [hn]; exact this.2, this.1⟩
  | lst ds =>
    simp only [RV] at rv
    obtain ⟨a, vs, rfl, ga, rs⟩ := rv
    have := hg ex bs h ρ σ H vs ds D hr re rs p
    exact ⟨a, vs, rfl, .inr (SqL.of (gh_le _ _ ga)), by rw [hn]; exact this.2, this.1⟩
  | _ => exact p.elim
/-! ### cells written -/
theorem RVs.set {G : Hp} {v : V} {d : Z.D} (q : RV C bs G v d) : ∀ {ds : List Z.D} {vs : List V} (n : Nat), RVs C bs G vs ds → RVs C bs G (vs.set n v) (ds.set n d)
  | [], [], _, _ => by simp [RVs]
  | d' :: ds, v' :: vs, 0, h => by
    simp only [RVs, List.set_cons_zero] at h ⊢
    exact ⟨q, h.2⟩
  | d' :: ds, v' :: vs, n + 1, h => by
    simp only [RVs, List.set_cons_succ] at h ⊢
    exact ⟨h.1, RVs.set q n h.2⟩
  | [], _ :: _, _, h => by simp only [RVs] at h
  | _ :: _, [], _, h => by simp only [RVs] at h
theorem RVs.append {G : Hp} : ∀ {ds es : List Z.D} {vs ws : List V}, RVs C bs G vs ds → RVs C bs G ws es → RVs C bs G (vs ++ ws) (ds ++ es)
  | [], es, [], ws, _, k => k
  | d :: ds, es, v :: vs, ws, h, k => by
    simp only [RVs, List.cons_append] at h ⊢
    exact ⟨h.1, RVs.append h.2 k⟩
  | [], _, _ :: _, _, h, _ => by simp only [RVs] at h
  | _ :: _, _, [], _, h, _ => by simp only [RVs] at h
theorem RVs.one {G : Hp} {v : V} {d : Z.D} (q : RV C bs G v d) : RVs C bs G [v] [d] := by simp only [RVs]; exact ⟨q, trivial⟩
theorem RVs.get {G : Hp} : ∀ {ds : List Z.D} {vs : List V} {i : Nat} {d : Z.D}, RVs C bs G vs ds → ds[i]? = some d → ∃ v, vs[i]? = some v ∧ RV C bs G v d
  | [], _, i, d, _, e => by simp at e
  | d :: ds, v :: vs, 0, d', h, e => by
    simp only [RVs] at h
    simp at e; subst e
    exact ⟨v, rfl, h.1⟩
  | d :: ds, v :: vs, i + 1, d', h, e => by
    simp only [RVs] at h
    obtain ⟨u, h1, h2⟩ := RVs.get (i := i) (d := d') h.2 (by simpa using e)
    exact ⟨u, by simpa using h1, h2⟩
  | _ :: _, [], _, _, h, _ => by simp only [RVs] at h
theorem RVs.drop {G : Hp} : ∀ {ds : List Z.D} {vs : List V} (n : Nat), RVs C bs G vs ds → RVs C bs G (vs.drop n) (ds.drop n)
  | _, _, 0, h => h
  | [], [], n + 1, h => h
  | d :: ds, v :: vs, n + 1, h => by
    simp only [RVs] at h
    simpa using RVs.drop n h.2
  | [], _ :: _, _ + 1, h => by simp only [RVs] at h
  | _ :: _, [], _ + 1, h => by simp only [RVs] at h
theorem RVs.take {G : Hp} : ∀ {ds : List Z.D} {vs : List V} (n : Nat), RVs C bs G vs ds → RVs C bs G (vs.take n) (ds.take n)
  | _, _, 0, _ => by simp [RVs]
  | [], [], n + 1, h => by simp [RVs]
  | d :: ds, v :: vs, n + 1, h => by
    simp only [RVs] at h
    simp only [List.take_succ_cons, RVs]
    exact ⟨h.1, RVs.take n h.2⟩
  | [], _ :: _, _ + 1, h => by simp only [RVs] at h
  | _ :: _, [], _ + 1, h => by simp only [RVs] at h
theorem sg_sub {to ti : TE} {mo mi : Z.ME} (ho : SE C E to mo) (hi : SE C E ti mi) : SG C E (gSub to ti rSetL) (Z.gSub mo mi) := by
  intro ex bs h ρ σ H v d D hr re rv p
  refine ho ex bs h ρ σ H _ hr re (p.bind fun o x h1 bs1 H1 e1 rx p1 => ?_)
  refine hi ex bs1 h1 ρ σ H1 _ e1.hr (re.ev e1) (p1.bind fun i y h2 bs2 H2 e2 ry p2 => ?_)
  have e := e1.trans e2
  have rv2 := rv.ev e
  have rx2 := rx.ev e2
  cases o with
  | ref k =>
    simp only [RV] at rx2
    obtain ⟨a, rfl, hk⟩ := rx2
    dsimp only at p2
    split at p2
    · rename_i xs hc
      split at p2
      · rename_i j
        split at p2
        · rename_i n hn
          simp only [RV] at ry
          subst ry
          obtain ⟨vs, ha, rs⟩ := e2.hr.cell k a _ hk hc
          refine ⟨a, vs, j, n, rfl, rfl, ha, by rw [rs.len]; exact hn, ?_⟩
          have e3 := Ev.put (o := .lst (vs.set n v)) (c := .lst (xs.set n d)) e2.hr hk hc ⟨_, upd_same, rs.set rv2 n⟩
          exact p2 σ bs2 _ e3 (((re.ev e1).ev e2).ev e3)
        · exact p2.elim
      · exact p2.elim
    · exact p2.elim
  | _ => exact p2.elim
theorem ss_append {to te : TE} {mo me : Z.ME} (ho : SE C E to mo) (he : SE C E te me) : SS C E (tDrop (tBM C.K "list" rAppend to (tCons te tNil))) (Z.sAppend mo me) := by
  intro ex bs h ρ σ H D hr re p
  refine ho ex bs h ρ σ H _ hr re (p.bind fun o x h1 bs1 H1 e1 rx p1 => ?_)
  cases o with
  | ref k =>
    simp only [RV] at rx
    obtain ⟨a, rfl, hk⟩ := rx
    dsimp only at p1
    split at p1
    · rename_i xs0 hc0
      obtain ⟨vs0, ha0, _⟩ := e1.hr.cell k a _ hk hc0
      refine ⟨.inl ⟨rfl, vs0, SqL.of ha0⟩, ?_⟩
      refine he ex bs1 h1 ρ σ H1 _ e1.hr (re.ev e1) (p1.bind fun d y h2 bs2 H2 e2 ry p2 => ?_)
      split at p2
      · rename_i xs hc
        split at p2
        · rename_i hz
          obtain ⟨vs, ha, rs⟩ := e2.hr.cell k a _ (e2.pre k a hk) hc
          refine ⟨a, vs, y, rfl, rfl, ha, by rw [rs.len]; exact hz, ?_⟩
          have e3 := Ev.put (o := .lst (vs ++ [y])) (c := .lst (xs ++ [d])) e2.hr (e2.pre k a hk) hc ⟨_, upd_same, rs.append (.one ry)⟩
          exact p2 σ bs2 _ e3 (((re.ev e1).ev e2).ev e3)
        · exact p2.elim
      · exact p2.elim
    · exact p1.elim
  | _ => exact p1.elim
theorem ss_freeze {i : Nat} {t : TS} {m : Z.MS} (ht : SS C E t m) : SS C E t (Z.sFreeze i m) := by
  intro ex bs h ρ σ H D hr re p
  unfold Z.sFreeze at p
  split at p
  · rename_i k hk
    split at p
    · rename_i xs hc
      obtain ⟨v, hv, rv⟩ := re.2 i _ hk
      simp only [RV] at rv
      obtain ⟨a, rfl, ha⟩ := rv
      obtain ⟨e1, r1⟩ := Ev.freeze hr ha hc
      refine ht ex bs (h.set k none) (ρ.set i (some (.lst xs))) σ H D e1.hr ?_ (p.from e1)
      have r2 := (re.ev e1).set (i := i) r1
      have : σ.set i (some (.ref a)) = σ := List.ext_getElem? fun j => by
        by_cases hj : i = j
        · subst hj; rw [List.getElem?_set_self (List.getElem?_eq_some_iff.mp hv).1, hv]
        · rw [List.getElem?_set_ne hj]
      rw [this] at r2; exact r2
    · exact p.elim
  · exact p.elim
end
end L2

namespace L2
open PySem PySem.Spec
section
variable {C : Ct} {ex bs bs1 bs2 : List Addr} {h h1 h2 : Z.MH} {H H1 H2 : Hp} {E : XK}
/-! ### loops -/
/-- J walks these items, wherever what nobody changes has grown -/
noncomputable def ItOk (C : Ct) (bs : List Addr) (G : Hp) (J : It) (s : Option Nat × List Z.D) : Prop :=
  ∀ (ex2 bs2 : List Addr) (h2 : Z.MH) (H2 : Hp), HR C ex2 bs2 h2 H2 → (∀ (k : Nat) (a : Addr), bs[k]? = some a → bs2[k]? = some a) → Same G (gh ex2 bs2 h2 H2) → Z.okG s.1 s.2 h2 → ∀ i : Nat,
    (∀ d, s.2[i]? = some d → J.go i H2 ∧ ∀ x H3, J.yld i H2 x H3 → Ev C ex2 bs2 h2 H2 bs2 h2 H3 ∧ RV C bs2 (gh ex2 bs2 h2 H3) x d) ∧ (s.2.length ≤ i → J.stop i H2)
noncomputable abbrev SI (C : Ct) (E : XK) (t : TI) (m : Z.MI) : Prop := Snd C E (ItOk C) t m
theorem ss_for {wi : TI} {g : TG} {tb : TS} {l : Z.MI} {mg : Z.MG} {mb : Z.MS} (hi : SI C E wi l) (hg : SG C E g mg) (hb : SS C E tb mb) : SS C E (tFor wi g tb) (Z.sFor l mg mb) := by
  intro ex bs h ρ σ H D hr re p
  refine hi ex bs h ρ σ H _ hr re (p.bind fun src J h1 bs1 H1 e1 it p1 => ?_)
  obtain ⟨gd, items⟩ := src
  dsimp only at p1
  have lo : ∀ (i : Nat) (hl : i < items.length), items.drop i = items[i] :: items.drop (i + 1) := fun i hl => List.drop_eq_getElem_cons hl
  refine ⟨fun i m σ' H' => m = items.length - i ∧ i ≤ items.length ∧ ∃ ρ' bs' h', Ev C ex bs1 h1 H1 bs' h' H' ∧ RE C bs' (gh ex bs' h' H') ρ' σ' ∧ PostS C ex E bs' h' H' (Z.sLoopG gd items mg mb (items.drop i) ρ' h') D,
    ⟨items.length, by simp, Nat.zero_le _, ρ, bs1, h1, Ev.refl e1.hr, re.ev e1, p1⟩, ?_⟩
  rintro i m σ' H' ⟨rfl, hle, ρ', bs', h', ev, re', p'⟩
  by_cases hlt : i < items.length
  · rw [lo i hlt] at p'
    unfold Z.sLoopG at p'
    split at p'
    case isFalse => exact p'.elim
    rename_i okg
    obtain ⟨go, yl⟩ := (it ex bs' h' H' ev.hr ev.pre ev.same okg i).1 items[i] (List.getElem?_eq_getElem hlt)
    refine .inr ⟨go, fun σ2 H2 => ∃ m', m' < items.length - i ∧ (m' = items.length - (i + 1) ∧ i + 1 ≤ items.length ∧ ∃ ρ' bs' h', Ev C ex bs1 h1 H1 bs' h' H2 ∧ RE C bs' (gh ex bs' h' H2) ρ' σ2 ∧ PostS C ex E bs' h' H2 (Z.sLoopG gd items mg mb (items.drop (i + 1)) ρ' h') D), fun _ _ q => q, fun x H3 y => ?_⟩
    obtain ⟨ev3, rx⟩ := yl x H3 y
    have p3 := p'.from ev3
    refine hg ex bs' h' ρ' σ' H3 x items[i] ⟨_, fun _ _ => False, fun _ _ => False, fun _ _ => False⟩ ev3.hr (re'.ev ev3) rx ?_
    cases e : mg items[i] ρ' h' with
    | nx ρ1 h1' =>
      rw [e] at p3
      intro σ2 bs2 H2 ev2 re2
      refine hb ex bs2 h1' ρ1 σ2 H2 _ ev2.hr re2 ?_
      have p4 := p3.from ev2
      have ev4 := (ev.trans ev3).trans ev2
      cases e5 : mb ρ1 h1' with
      | nx ρ2 h2' =>
        dsimp only at p4
        rw [e5] at p4
        exact fun σ5 bs5 H5 ev5 re5 => ⟨_, by omega, rfl, hlt, ρ2, bs5, h2', ev4.trans ev5, re5, p4.from ev5⟩
      | ct ρ2 h2' =>
        dsimp only at p4
        rw [e5] at p4
        exact fun σ5 bs5 H5 ev5 re5 => ⟨_, by omega, rfl, hlt, ρ2, bs5, h2', ev4.trans ev5, re5, p4.from ev5⟩
      | bk ρ2 h2' => dsimp only at p4; rw [e5] at p4; exact p4
      | rt d h2' => dsimp only at p4; rw [e5] at p4; exact p4
      | exc c h2' => dsimp only at p4; rw [e5] at p4; exact p4
      | stuck => dsimp only at p4; rw [e5] at p4; exact p4
    | rt _ _ => rw [e] at p3; exact p3.elim
    | bk _ _ => rw [e] at p3; exact p3.elim
    | ct _ _ => rw [e] at p3; exact p3.elim
    | exc _ _ => rw [e] at p3; exact p3.elim
    | stuck => rw [e] at p3; exact p3.elim
  · have ei : i = items.length := by omega
    subst ei
    rw [List.drop_length] at p'
    unfold Z.sLoopG at p'
    split at p'
    case isFalse => exact p'.elim
    rename_i okg
    exact .inl ⟨(it ex bs' h' H' ev.hr ev.pre ev.same okg items.length).2 (Nat.le_refl _), p' σ' bs' H' (Ev.refl ev.hr) re'⟩
/-! ### comprehensions: the list under way stands aside -/
noncomputable def hid (l : Addr) (H : Hp) : Hp := fun b => if b = l then none else H b
theorem hid_ne {l b : Addr} (n : b ≠ l) : hid l H b = H b := if_neg n
theorem gh_hid {l : Addr} : gh ex bs h (hid l H) = gh (l :: ex) bs h H := by
  funext x
  unfold gh
  by_cases q : x ∈ ex ∨ lv bs h x
  · rw [if_pos q, if_pos (q.imp (List.mem_cons_of_mem _) id)]
  · by_cases e : x = l
    · subst e
      rw [if_neg q, if_pos (.inl (List.mem_cons_self ..))]
      exact if_pos rfl
    · rw [if_neg q, hid_ne e, if_neg]
      rintro (z | z)
      · rcases List.mem_cons.mp z with z | z
        · exact e z
        · exact q (.inl z)
      · exact q (.inr z)
theorem HR.hid {l : Addr} (hl : l ∉ ex) (r : HR C (l :: ex) bs h H) : HR C ex bs h (hid l H) := by
  have lb : l ∉ bs := r.sep l (List.mem_cons_self ..)
  have nb : ∀ {a}, a ∈ bs → a ≠ l := fun {a} m z => lb (by rw [← z]; exact m)
  refine ⟨r.len, r.inj, fun a m => r.sep a (List.mem_cons_of_mem _ m), fun a m => ?_, fun a m => ?_, fun k a c e1 e2 => ?_⟩
  · rw [hid_ne (nb m)]; exact r.dom a m
  · rw [hid_ne (fun z => hl (by rw [← z]; exact m))]; exact r.domx a (List.mem_cons_of_mem _ m)
  · rw [gh_hid]
    exact (r.cell k a c e1 e2).mono (fun _ _ e => e) (Same.refl _) (by rw [hid_ne (nb (List.mem_of_getElem? e1))])
theorem gh_show {l : Addr} {o : HO} (hl : H l = none) : gh (l :: ex) bs h (upd H l o) = gh ex bs h H := by
  rw [← gh_hid]
  have : hid l (upd H l o) = H := by
    funext x
    unfold hid
    by_cases e : x = l
    · rw [if_pos e, e, hl]
    · rw [if_neg e, upd_ne e]
  rw [this]
theorem HR.show {l : Addr} {o : HO} (hl : H l = none) (r : HR C ex bs h H) : HR C (l :: ex) bs h (upd H l o) := by
  have lb : l ∉ bs := fun m => r.dom l m hl
  have lx : l ∉ ex := fun m => r.domx l m hl
  have nb : ∀ {a}, a ∈ bs → a ≠ l := fun {a} m z => lb (by rw [← z]; exact m)
  refine ⟨r.len, r.inj, fun a m => ?_, fun a m => ?_, fun a m => ?_, fun k a c e1 e2 => ?_⟩
  · rcases List.mem_cons.mp m with m | m
    · rw [m]; exact lb
    · exact r.sep a m
  · rw [upd_ne (nb m)]; exact r.dom a m
  · rcases List.mem_cons.mp m with m | m
    · rw [m, upd_same]; exact fun z => nomatch z
    · rw [upd_ne (fun z => lx (by rw [← z]; exact m))]; exact r.domx a m
  · rw [gh_show hl]
    exact (r.cell k a c e1 e2).mono (fun _ _ e => e) (Same.refl _) (by rw [upd_ne (nb (List.mem_of_getElem? e1))])
theorem gh_exput {l : Addr} {o : HO} : gh (l :: ex) bs h (upd H l o) = gh (l :: ex) bs h H := by
  funext x
  unfold gh
  by_cases q : x ∈ l :: ex ∨ lv bs h x
  · rw [if_pos q, if_pos q]
  · rw [if_neg q, if_neg q, upd_ne (fun z => q (.inl (by rw [z]; exact List.mem_cons_self ..)))]
theorem HR.exput {l : Addr} {o : HO} (r : HR C (l :: ex) bs h H) : HR C (l :: ex) bs h (upd H l o) := by
  have lb : l ∉ bs := r.sep l (List.mem_cons_self ..)
  have nb : ∀ {a}, a ∈ bs → a ≠ l := fun {a} m z => lb (by rw [← z]; exact m)
  refine ⟨r.len, r.inj, r.sep, fun a m => ?_, fun a m => ?_, fun k a c e1 e2 => ?_⟩
  · rw [upd_ne (nb m)]; exact r.dom a m
  · by_cases e : a = l
    · rw [e, upd_same]; exact fun z => nomatch z
    · rw [upd_ne e]; exact r.domx a m
  · rw [gh_exput]
    exact (r.cell k a c e1 e2).mono (fun _ _ e => e) (Same.refl _) (by rw [upd_ne (nb (List.mem_of_getElem? e1))])
theorem RE.mono {bs bs' : List Addr} {G G' : Hp} {ρ : Z.Ro} {σ : St} (hb : ∀ (k : Nat) (a : Addr), bs[k]? = some a → bs'[k]? = some a) (hs : Same G G') (r : RE C bs G ρ σ) : RE C bs' G' ρ σ :=
  ⟨r.1, fun i d q => by obtain ⟨v, h1, h2⟩ := r.2 i d q; exact ⟨v, h1, h2.mono hb hs⟩⟩
theorem RE.caps {G : Hp} {ρ : Z.Ro} {σ : St} (nt : Nat) (idx : List Nat) (r : RE C bs G ρ σ) : RE C bs G (List.replicate nt none ++ Z.caps idx ρ) (List.replicate nt none ++ capsOf idx σ) := by
  refine ⟨by simp [Z.caps, capsOf], fun i d hi => ?_⟩
  by_cases hn : i < nt
  · rw [List.getElem?_append_left (by simpa using hn), List.getElem?_replicate] at hi
    simp [hn] at hi
  · rw [List.getElem?_append_right (by simp; omega)] at hi ⊢
    simp only [List.length_replicate] at hi ⊢
    unfold Z.caps at hi
    unfold capsOf
    rw [List.getElem?_map] at hi ⊢
    cases e : idx[i - nt]? with
    | none => rw [e] at hi; cases hi
    | some j =>
      rw [e] at hi
      simp only [Option.map_some, Option.some.injEq] at hi ⊢
      cases e2 : ρ[j]? with
      | none => rw [e2] at hi; cases hi
      | some z =>
        rw [e2] at hi
        simp only [Option.getD_some] at hi
        subst hi
        obtain ⟨v, h1, h2⟩ := r.2 j d e2
        exact ⟨v, by rw [h1]; rfl, h2⟩
theorem compLoop_ne (q : Option Nat) (all : List Z.D) (g : Z.MG) (t : Z.MT) (m : Z.ME) (ρ0 : Z.Ro) : ∀ (ds : List Z.D) (h : Z.MH) (c : String) (h' : Z.MH), Z.compLoopG q all g t m ρ0 ds h ≠ .exc c h'
  | [], h, c, h' => by unfold Z.compLoopG; split <;> exact fun z => nomatch z
  | d :: ds, h, c, h' => by
    unfold Z.compLoopG
    split
    case isFalse => exact fun z => nomatch z
    split
    · split
      · split
        · split
          · exact fun z => nomatch z
          · exact fun z => nomatch z
        · exact fun z => nomatch z
      · exact compLoop_ne q all g t m ρ0 ds _ c h'
      · exact fun z => nomatch z
    · exact fun z => nomatch z
theorem n_comp {nt : Nat} {idx : List Nat} {wi : TI} {g : TG} {tc : TT} {te : TE} {l : Z.MI} {mg : Z.MG} {mt : Z.MT} {me : Z.ME} (hi : SI C E wi l) (hg : SG C E0 g mg) (ht : ST C E0 tc mt) (he : SE C E0 te me) :
    SN C E (tComp nt idx wi g tc te) (Z.lComp nt idx l mg mt me) := by
  intro ex bs h ρ σ H Q hr re p
  refine hi ex bs h ρ σ H _ hr re (PostN.bind p fun src J h1 bs1 H1 e1 it p1 => ?_)
  obtain ⟨gd, items⟩ := src
  intro a ha
  obtain ⟨hz, p1⟩ := p1.chk
  dsimp only at hz p1
  have hax : a ∉ ex := fun m => e1.hr.domx a m ha
  cases ec : Z.compLoopG gd items mg mt me (List.replicate nt none ++ Z.caps idx ρ) items h1 with
  | exc _ _ =>
    exact absurd ec (compLoop_ne _ _ _ _ _ _ items h1 _ _)
  | stuck => rw [ec] at p1; exact p1.elim
  | ok all hf =>
    rw [ec] at p1
    have lo : ∀ (i : Nat) (hl : i < items.length), items.drop i = items[i] :: items.drop (i + 1) := fun i hl => List.drop_eq_getElem_cons hl
    refine ⟨fun i m ys H2 => m = items.length - i ∧ i ≤ items.length ∧ ∃ bs' h' dys rest, HR C (a :: ex) bs' h' H2 ∧ (∀ (k : Nat) (b : Addr), bs1[k]? = some b → bs'[k]? = some b) ∧ Same (gh ex bs1 h1 H1) (gh (a :: ex) bs' h' H2) ∧ (∀ b ∈ ex, H2 b = H1 b) ∧
        H2 a = some (.lst ys) ∧ RVs C bs' (gh (a :: ex) bs' h' H2) ys dys ∧ ys.length ≤ i ∧ Z.compLoopG gd items mg mt me (List.replicate nt none ++ Z.caps idx ρ) (items.drop i) h' = .ok rest hf ∧ dys ++ rest = all,
      ⟨items.length, by simp, Nat.zero_le _, bs1, h1, [], all, e1.hr.show ha, fun _ _ e => e, by rw [gh_show ha]; exact Same.refl _, fun b m => by rw [upd_ne (fun z => hax (by rw [← z]; exact m))], upd_same, by simp only [RVs], Nat.zero_le _, ec, rfl⟩, ?_⟩
    rintro i m ys H2 ⟨rfl, hle, bs', h', dys, rest, hr', pre, sm, exs, hl, rv, hy, er, eall⟩
    refine ⟨hl, by have : sizeLine = 16777216 := rfl; omega, ?_⟩
    by_cases hlt : i < items.length
    · rw [lo i hlt] at er
      unfold Z.compLoopG at er
      split at er
      case isFalse => cases er
      rename_i okg
      obtain ⟨go, yl⟩ := (it (a :: ex) bs' h' H2 hr' pre sm okg i).1 items[i] (List.getElem?_eq_getElem hlt)
      refine .inr ⟨go, fun x H3 y => ?_⟩
      obtain ⟨ev3, rx⟩ := yl x H3 y
      have re0 := ((((re.ev e1).mono pre sm).ev ev3).caps nt idx)
      refine hg (a :: ex) bs' h' _ _ H3 x items[i] ⟨_, fun _ _ => False, fun _ _ => False, fun _ _ => False⟩ ev3.hr re0 rx ?_
      cases e : mg items[i] (List.replicate nt none ++ Z.caps idx ρ) h' with
      | nx ρ1 h1' =>
        rw [e] at er
        dsimp only at er
        intro σ4 bs4 H4 ev4 re4
        refine ht (a :: ex) bs4 h1' ρ1 σ4 H4 _ ev4.hr re4 ?_
        cases e5 : mt ρ1 h1' with
        | exc _ _ => rw [e5] at er; cases er
        | stuck => rw [e5] at er; cases er
        | ok c h5 =>
          rw [e5] at er
          rintro c' bs5 H5 ev5 rfl
          cases c' with
          | false =>
            dsimp only at er
            have ev := (ev3.trans ev4).trans ev5
            exact ⟨_, by omega, rfl, hlt, bs5, h5, dys, rest, ev5.hr, fun k b q => ev.pre k b (pre k b q), sm.trans ev.same, fun b m => (ev.exs b (List.mem_cons_of_mem _ m)).trans (exs b m),
              (ev.exs a (List.mem_cons_self ..)).trans hl, rv.ev ev, by omega, er, eall⟩
          | true =>
            dsimp only at er
            refine he (a :: ex) bs5 h5 ρ1 σ4 H5 _ ev5.hr (re4.ev ev5) ?_
            cases e6 : me ρ1 h5 with
            | exc _ _ => rw [e6] at er; cases er
            | stuck => rw [e6] at er; cases er
            | ok d h6 =>
              rw [e6] at er
              dsimp only at er
              intro v bs6 H6 ev6 rv6
              have ev := ((ev3.trans ev4).trans ev5).trans ev6
              have hl6 := (ev.exs a (List.mem_cons_self ..)).trans hl
              refine ⟨hl6, ?_⟩
              cases e7 : Z.compLoopG gd items mg mt me (List.replicate nt none ++ Z.caps idx ρ) (items.drop (i + 1)) h6 with
              | exc _ _ => rw [e7] at er; cases er
              | stuck => rw [e7] at er; cases er
              | ok rest' hf' =>
                rw [e7] at er
                dsimp only at er
                cases er
                refine ⟨_, by omega, rfl, hlt, bs6, h6, dys ++ [d], rest', ev6.hr.exput, fun k b q => ev.pre k b (pre k b q), by rw [gh_exput]; exact sm.trans ev.same, fun b m => ?_, upd_same, ?_, by simp; omega, e7, by simpa using eall⟩
                · rw [upd_ne (fun z => hax (by rw [← z]; exact m))]
                  exact (ev.exs b (List.mem_cons_of_mem _ m)).trans (exs b m)
                · rw [gh_exput]; exact (rv.ev ev).append (.one rv6)
      | rt _ _ => rw [e] at er; cases er
      | bk _ _ => rw [e] at er; cases er
      | ct _ _ => rw [e] at er; cases er
      | exc _ _ => rw [e] at er; cases er
      | stuck => rw [e] at er; cases er
    · have ei : i = items.length := by omega
      subst ei
      rw [List.drop_length] at er
      unfold Z.compLoopG at er
      split at er
      case isFalse => cases er
      rename_i okg
      cases er
      rw [List.append_nil] at eall
      subst eall
      refine .inl ⟨(it (a :: ex) bs' _ H2 hr' pre sm okg items.length).2 (Nat.le_refl _), ?_⟩
      have q := p1 a ys bs' (hid a H2) ⟨pre, hr'.hid hax, by rw [gh_hid]; exact sm, fun b m => by rw [hid_ne (fun z => hax (by rw [← z]; exact m))]; exact exs b m⟩ (if_pos rfl) (by rw [gh_hid]; exact rv)
      have eq : upd (hid a H2) a (.lst ys) = H2 := by
        funext x
        by_cases e : x = a
        · rw [e, upd_same, hl]
        · rw [upd_ne e, hid_ne e]
      rw [eq] at q; exact q
end
end L2

namespace L2
open PySem PySem.Spec PyProof.Rows
section
variable {C : Ct} {ex bs bs1 bs2 : List Addr} {h h1 h2 : Z.MH} {H H1 H2 : Hp} {E : XK}
/-! ### a def's end -/
theorem take_some {α : Type} {l : List α} {n k : Nat} {a : α} (e : (l.take n)[k]? = some a) : l[k]? = some a ∧ k < n := by
  rw [List.getElem?_take] at e
  by_cases hk : k < n
  · rw [if_pos hk] at e; exact ⟨e, hk⟩
  · rw [if_neg hk] at e; cases e
theorem some_take {α : Type} {l : List α} {n k : Nat} {a : α} (e : l[k]? = some a) (hk : k < n) : (l.take n)[k]? = some a := by
  rw [List.getElem?_take, if_pos hk]; exact e
mutual
theorem RV.bnd {G : Hp} {n : Nat} : ∀ {d : Z.D} {v : V}, RV C bs G v d → Z.D.bnd n d = true → RV C (bs.take n) G v d
  | .non, v, h, _ => by simp only [RV] at h ⊢; exact h
  | .bl b, v, h, _ => by simp only [RV] at h ⊢; exact h
  | .int i, v, h, _ => by simp only [RV] at h ⊢; exact h
  | .str x, v, h, _ => by simp only [RV] at h ⊢; exact h
  | .tup ds, v, h, q => by
    simp only [RV] at h ⊢
    simp only [Z.D.bnd] at q
    obtain ⟨a, vs, h1, h2, h3⟩ := h
    exact ⟨a, vs, h1, h2, RVs.bnd h3 q⟩
  | .lst ds, v, h, q => by
    simp only [RV] at h ⊢
    simp only [Z.D.bnd] at q
    obtain ⟨a, vs, h1, h2, h3⟩ := h
    exact ⟨a, vs, h1, h2, RVs.bnd h3 q⟩
  | .arg ns, v, h, _ => by simp only [RV] at h ⊢; exact h
  | .ref k, v, h, q => by
    simp only [RV] at h ⊢
    simp only [Z.D.bnd, decide_eq_true_eq] at q
    obtain ⟨a, h1, h2⟩ := h
    exact ⟨a, h1, some_take h2 q⟩
  | .ty n, v, h, _ => by simp only [RV] at h ⊢; exact h
  | .cls n, v, h, _ => by simp only [RV] at h ⊢; exact h
  | .exc n, v, h, _ => by simp only [RV] at h ⊢; exact h
  | .obj c fs, v, h, q => by
    simp only [RV] at h ⊢
    simp only [Z.D.bnd] at q
    obtain ⟨a, dx, fvs, h1, h2, h3⟩ := h
    exact ⟨a, dx, fvs, h1, h2, RVf.bnd h3 q⟩
  | .dic kvs, v, h, _ => by simp only [RV] at h ⊢; exact h
theorem RVs.bnd {G : Hp} {n : Nat} : ∀ {ds : List Z.D} {vs : List V}, RVs C bs G vs ds → Z.D.bnds n ds = true → RVs C (bs.take n) G vs ds
  | [], [], _, _ => by simp only [RVs]
  | d :: ds, v :: vs, h, q => by
    simp only [RVs] at h ⊢
    simp only [Z.D.bnds, Bool.and_eq_true] at q
    exact ⟨RV.bnd h.1 q.1, RVs.bnd h.2 q.2⟩
  | [], _ :: _, h, _ => by simp only [RVs] at h
  | _ :: _, [], h, _ => by simp only [RVs] at h
theorem RVf.bnd {G : Hp} {n : Nat} : ∀ {ds : List (Str × Z.D)} {vs : List (Str × V)}, RVf C bs G vs ds → Z.D.bndf n ds = true → RVf C (bs.take n) G vs ds
  | [], [], _, _ => by simp only [RVf]
  | (y, d) :: ds, (x, v) :: vs, h, q => by
    simp only [RVf] at h ⊢
    simp only [Z.D.bndf, Bool.and_eq_true] at q
    exact ⟨h.1, RV.bnd h.2.1 q.1, RVf.bnd h.2.2 q.2⟩
  | [], _ :: _, h, _ => by simp only [RVf] at h
  | _ :: _, [], h, _ => by simp only [RVf] at h
end
theorem bndf_eq {n : Nat} : ∀ (fs : List (Str × Z.D)), Z.D.bndf n fs = Z.D.bnds n (fs.map (·.2))
  | [] => by simp only [Z.D.bndf, List.map_nil, Z.D.bnds]
  | (y, d) :: fs => by simp only [Z.D.bndf, List.map_cons, Z.D.bnds, bndf_eq fs]
theorem RVk.bnd {G : Hp} {n : Nat} : ∀ {ds : List (Sum Int Str × Z.D)} {vs : List (Key × V)}, RVk C bs G vs ds → Z.D.bnds n (ds.map (·.2)) = true → RVk C (bs.take n) G vs ds
  | [], [], _, _ => by simp only [RVk]
  | (y, d) :: ds, (x, v) :: vs, h, q => by
    simp only [RVk] at h ⊢
    simp only [List.map_cons, Z.D.bnds, Bool.and_eq_true] at q
    exact ⟨h.1, RV.bnd h.2.1 q.1, RVk.bnd h.2.2 q.2⟩
  | [], _ :: _, h, _ => by simp only [RVk] at h
  | _ :: _, [], h, _ => by simp only [RVk] at h
theorem CellAt.bnd {G H : Hp} {n : Nat} {a : Addr} {c : Z.Cell} (hc : CellAt C bs G H a c) (q : Z.Cell.bnd n (some c) = true) : CellAt C (bs.take n) G H a c := by
  cases c with
  | lst ds => obtain ⟨vs, h1, h2⟩ := hc; exact ⟨vs, h1, h2.bnd q⟩
  | dct kvs => obtain ⟨vs, h1, h2⟩ := hc; exact ⟨vs, h1, h2.bnd q⟩
  | ins c fs => obtain ⟨dx, vs, h1, h2⟩ := hc; exact ⟨dx, vs, h1, h2.bnd (by rw [bndf_eq]; exact q)⟩
theorem gh_take (n : Nat) : Same (gh ex bs h H) (gh ex (bs.take n) (h.take n) H) := fun a o e => by
  obtain ⟨h1, h2, h3⟩ := gh_some.mp e
  exact gh_some.mpr ⟨h1, fun ⟨k, c, e1, e2⟩ => h2 ⟨k, c, (take_some e1).1, (take_some e2).1⟩, h3⟩
theorem HR.take {n : Nat} (r : HR C ex bs h H) (q : (h.take n).all (Z.Cell.bnd n) = true) : HR C ex (bs.take n) (h.take n) H := by
  refine ⟨by simp [r.len], fun i j a e1 e2 => r.inj i j a (take_some e1).1 (take_some e2).1, fun a m z => r.sep a m (List.mem_of_mem_take z), fun a m => r.dom a (List.mem_of_mem_take m), r.domx, fun k a c e1 e2 => ?_⟩
  have hc := r.cell k a c (take_some e1).1 (take_some e2).1
  have qc : Z.Cell.bnd n (some c) = true := List.all_eq_true.mp q _ (List.mem_of_getElem? e2)
  exact (hc.bnd qc).mono (fun _ _ e => e) (gh_take n) rfl
theorem Ev.take {bs' : List Addr} {h' : Z.MH} {H' : Hp} (hr : HR C ex bs h H) (e : Ev C ex bs h H bs' h' H') (q : (h'.take h.length).all (Z.Cell.bnd h.length) = true) : Ev C ex bs h H (bs'.take h.length) (h'.take h.length) H' :=
  ⟨fun k a z => some_take (e.pre k a z) (by rw [← hr.len]; exact (List.getElem?_eq_some_iff.mp z).1), e.hr.take q, e.same.trans (gh_take _), e.exs⟩
theorem fin_post {d : Z.D} {h' : Z.MH} {Q : VK} {v : V} {bs' : List Addr} {H' : Hp} (hr : HR C ex bs h H) (p : Post C ex E bs h H (RV C) (Z.fin h.length d h') Q) (e : Ev C ex bs h H bs' h' H') (rv : RV C bs' (gh ex bs' h' H') v d) : Q v H' := by
  unfold Z.fin at p
  split at p
  · exact p v bs' H' e rv
  · split at p
    · rename_i q
      rw [Bool.and_eq_true] at q
      exact p v _ H' (e.take hr q.2) ((rv.bnd q.1).mono (fun _ _ e => e) (gh_take _))
    · exact p v bs' H' e rv
theorem RE.start {G : Hp} {vs : List V} {ds : List Z.D} {N : List Str} (r : RVs C bs G vs ds) (hn : ds.length ≤ N.length) : RE C bs G (ds.map some ++ List.replicate (N.length - ds.length) none) (L2.start N vs) := by
  have hl := r.len
  unfold L2.start
  refine ⟨by simp [hl], fun i d hi => ?_⟩
  by_cases hlt : i < ds.length
  · rw [List.getElem?_append_left (by simpa using hlt), List.getElem?_map] at hi
    rw [List.getElem?_append_left (by simp; omega), List.getElem?_map]
    cases e : ds[i]? with
    | none => rw [e] at hi; cases hi
    | some z =>
      rw [e] at hi
      simp at hi; subst hi
      obtain ⟨v, h1, h2⟩ := r.get e
      exact ⟨v, by rw [h1]; rfl, h2⟩
  · rw [List.getElem?_append_right (by simp; omega), List.getElem?_replicate] at hi
    split at hi <;> cases hi
theorem okZ {P : Program} {w : World} {K : PySem.W.Frag} {mg : Str → Option Value} {base : Heap} {x qual : Str} {st : Stmt} {f : Addr} {fd : FuncData} {N ps : List Str} {k np nn : Nat} {b : Z.MS} {z : Z.MF} (F : Fun K x qual st f fd) (S : FnScope N ps (defScope st))
    (hz : z = Z.mFun np nn b) (hp : ps.length = np) (hn : N.length = nn) (hle : np ≤ nn)
    (hb : ∀ (cdv : Value) (A : Around) (outer : List Env) (s : Shared) (H : Hp) (E : XK), Room k (A.deeper (envOfC qual (defScope st) s.heap.objs.size f cdv)) →
      ∃ t, PSs (cxOf (CXE P w) P w K mg base N qual (defScope st) f cdv A outer s H E) (defBody st) t ∧ SS C E t b) : FnOk P w K mg base (CXE P w) (k + 1) f fd ps (spZ C z) := by
  subst hz
  refine F.okE S (fun vs H Q E q => ?_) fun cdv A outer s H vs Q E hr q => ?_
  · obtain ⟨ex, bs, h, ds, hr, rv, p⟩ := q
    unfold Z.mFun at p
    split at p
    · rename_i hd; rw [rv.len, hd, hp]
    · exact p.elim
  · obtain ⟨ex, bs, h, ds, hr', rv, p⟩ := q
    obtain ⟨t, hps, hss⟩ := hb cdv A outer s H E hr
    refine ⟨t, hps, ?_⟩
    unfold Z.mFun at p
    split at p
    · rename_i hd
      refine hss ex bs h (ds.map some ++ List.replicate (nn - ds.length) none) (L2.start N vs) H _ hr' (by rw [← hn]; exact RE.start rv (by omega)) ?_
      cases e : b (ds.map some ++ List.replicate (nn - ds.length) none) h with
      | nx ρ' h' => rw [e] at p; exact fun σ' bs' H' ev re => fin_post hr' p ev (by simp only [RV])
      | rt d h' => rw [e] at p; exact fun v bs' H' ev rv => fin_post hr' p ev rv
      | exc c h' =>
        rw [e] at p
        intro bs' H' ev
        dsimp only at p
        split at p
        · exact p bs' H' ev
        · split at p
          · rename_i q; exact p _ H' (ev.take hr' q)
          · exact p bs' H' ev
      | bk _ _ => rw [e] at p; exact p.elim
      | ct _ _ => rw [e] at p; exact p.elim
      | stuck => rw [e] at p; exact p.elim
    · exact p.elim
/-! ### what loops walk -/
theorem asQ_gh {d : Z.D} {v : V} {xs : List Z.D} (hr : HR C ex bs h H) (r : RV C bs (gh ex bs h H) v d) (e : Z.asQ h d = some xs) : ∃ a vs, v = .ref a ∧ (SqL C.K H a vs ∨ SqT C.K H a vs) ∧ RVs C bs (gh ex bs h H) vs xs := by
  cases d with
  | lst ds =>
    simp only [RV] at r
    obtain ⟨a, vs, rfl, ga, rs⟩ := r
    cases e
    exact ⟨a, vs, rfl, .inl (SqL.of (gh_le _ _ ga)), rs⟩
  | tup ds =>
    simp only [RV] at r
    obtain ⟨a, vs, rfl, ga, rs⟩ := r
    cases e
    exact ⟨a, vs, rfl, .inr (SqT.of (gh_le _ _ ga)), rs⟩
  | arg ns =>
    simp only [RV] at r
    obtain ⟨a, rfl, ga⟩ := r
    cases e
    refine ⟨a, _, rfl, .inl (gh_le.sql ga), ?_⟩
    clear ga hr
    induction ns with
    | nil => simp only [List.map_nil, RVs]
    | cons n ns ih => simp only [List.map_cons, RVs, RV]; exact ⟨trivial, ih⟩
  | ref k =>
    simp only [RV] at r
    obtain ⟨a, rfl, hk⟩ := r
    simp only [Z.asQ] at e
    split at e
    · rename_i ys hc
      cases e
      obtain ⟨vs, ha, rs⟩ := hr.cell k a _ hk hc
      exact ⟨a, vs, rfl, .inl (SqL.of ha), rs⟩
    · cases e
  | _ => cases e
theorem ItOk.list {a : Addr} {vs : List V} {ds : List Z.D} {G : Hp} (hq : SqL C.K G a vs) (r : RVs C bs G vs ds) : ItOk C bs G (Itl C.K a) (none, ds) := by
  intro ex2 bs2 h2 H2 hr pre sm _ i
  have hq2 : SqL C.K H2 a vs := (sm.trans gh_le).sql hq
  refine ⟨fun d e => ?_, fun hle => ⟨vs, hq2, by rw [r.len]; exact hle⟩⟩
  obtain ⟨v, hv, rv⟩ := r.get e
  refine ⟨⟨vs, v, hq2, hv⟩, fun x H3 y => ?_⟩
  obtain ⟨rfl, y⟩ := y
  have := y vs hq2
  rw [hv] at this; cases this
  exact ⟨Ev.refl hr, rv.mono pre sm⟩
theorem Same.sqt {K : PySem.W.Frag} {H H' : Hp} {a : Addr} {xs : List V} (e : Same H H') (h : SqT K H a xs) : SqT K H' a xs := by
  rcases h with (h | ⟨o, h⟩) | h
  · exact .inl (.inl (e _ _ h))
  · exact .inl (.inr ⟨o, e _ _ h⟩)
  · exact .inr h
theorem ItOk.tup {a : Addr} {vs : List V} {ds : List Z.D} {G : Hp} (hq : SqT C.K G a vs) (r : RVs C bs G vs ds) : ItOk C bs G (Itt C.K a) (none, ds) := by
  intro ex2 bs2 h2 H2 hr pre sm _ i
  have hq2 : SqT C.K H2 a vs := (sm.trans gh_le).sqt hq
  refine ⟨fun d e => ?_, fun hle => ⟨vs, hq2, by rw [r.len]; exact hle⟩⟩
  obtain ⟨v, hv, rv⟩ := r.get e
  refine ⟨⟨vs, v, hq2, hv⟩, fun x H3 y => ?_⟩
  obtain ⟨rfl, y⟩ := y
  have := y vs hq2
  rw [hv] at this; cases this
  exact ⟨Ev.refl hr, rv.mono pre sm⟩
theorem ItOk.rng {lo : Int} {n : Nat} {G : Hp} : ItOk C bs G (Itr lo n) (none, Z.rng lo n) := by
  intro ex2 bs2 h2 H2 hr pre sm _ i
  unfold Z.rng
  refine ⟨fun d e => ?_, fun hle => by show n ≤ i; simpa using hle⟩
  rw [List.getElem?_map] at e
  cases e2 : (List.range n)[i]? with
  | none => rw [e2] at e; cases e
  | some j =>
    rw [e2] at e
    simp at e; subst e
    obtain ⟨hi, hj⟩ := List.getElem?_eq_some_iff.mp e2
    simp at hi hj
    subst hj
    refine ⟨hi, fun x H3 y => ?_⟩
    obtain ⟨rfl, rfl⟩ := y
    exact ⟨Ev.refl hr, by simp only [RV]⟩
theorem si_V {t : TE} {m : Z.ME} (ht : SE C E t m) : SI C E (iV C.K t) (Z.lIt m) := by
  intro ex bs h ρ σ H Q hr re p
  refine ht ex bs h ρ σ H _ hr re (p.bind fun d x h1 bs1 H1 e1 rx p1 => ?_)
  cases d with
  | lst ds =>
    simp only [RV] at rx
    obtain ⟨a, vs, rfl, ga, rs⟩ := rx
    exact .inl ⟨a, rfl, .inl ⟨⟨vs, SqL.of (gh_le _ _ ga)⟩, Post.now e1.hr p1 (.list (SqL.of ga) rs)⟩⟩
  | tup ds =>
    simp only [RV] at rx
    obtain ⟨a, vs, rfl, ga, rs⟩ := rx
    exact .inl ⟨a, rfl, .inr ⟨⟨vs, SqT.of (gh_le _ _ ga)⟩, Post.now e1.hr p1 (.tup (SqT.of ga) rs)⟩⟩
  | arg ns =>
    have := asQ_gh e1.hr rx (xs := ns.map .int) rfl
    simp only [RV] at rx
    obtain ⟨a, rfl, ga⟩ := rx
    refine .inl ⟨a, rfl, .inl ⟨⟨_, gh_le.sql ga⟩, Post.now e1.hr p1 (.list ga ?_)⟩⟩
    clear this ga p1 p
    induction ns with
    | nil => simp only [List.map_nil, RVs]
    | cons n ns ih => simp only [List.map_cons, RVs, RV]; exact ⟨trivial, ih⟩
  | str z =>
    simp only [RV] at rx
    subst rx
    refine .inr ⟨z, rfl, Post.now e1.hr p1 ?_⟩
    intro ex2 bs2 h2 H2 hr pre sm _ i
    refine ⟨fun d e => ?_, fun hle => by show z.length ≤ i; simpa [Str.length] using hle⟩
    rw [List.getElem?_map] at e
    cases e2 : z.cps.toList[i]? with
    | none => rw [e2] at e; cases e
    | some c =>
      rw [e2] at e
      simp at e; subst e
      have hi := (List.getElem?_eq_some_iff.mp e2).1
      refine ⟨by show i < z.length; simpa [Str.length] using hi, fun x H3 y => ?_⟩
      obtain ⟨rfl, c', hc, rfl⟩ := y
      have : z.cps[i]? = some c := by simpa using e2
      rw [this] at hc; cases hc
      exact ⟨Ev.refl hr, by simp only [RV]⟩
  | ref k =>
    simp only [RV] at rx
    obtain ⟨a, rfl, hk⟩ := rx
    dsimp only at p1
    split at p1
    · rename_i xs hc
      obtain ⟨vs, ha, rs⟩ := e1.hr.cell k a _ hk hc
      refine .inl ⟨a, rfl, .inl ⟨⟨vs, SqL.of ha⟩, Post.now e1.hr p1 ?_⟩⟩
      intro ex2 bs2 h2 H2 hr pre sm okg i
      obtain ⟨ws, ha2, rs2⟩ := hr.cell k a _ (pre k a hk) okg
      refine ⟨fun d e => ?_, fun hle => ⟨ws, SqL.of ha2, by rw [rs2.len]; exact hle⟩⟩
      obtain ⟨v, hv, rv⟩ := rs2.get e
      refine ⟨⟨ws, v, SqL.of ha2, hv⟩, fun x H3 y => ?_⟩
      obtain ⟨rfl, y⟩ := y
      have := y ws (SqL.of ha2)
      rw [hv] at this; cases this
      exact ⟨Ev.refl hr, rv⟩
    · exact p1.elim
  | _ => exact p1.elim
theorem si_rng1 {t : TA} {m : Z.ML} (ht : SA C E t m) : SI C E (iRng1 t) (Z.lRng1 m) := by
  intro ex bs h ρ σ H Q hr re p
  refine ht ex bs h ρ σ H _ hr re (p.bind fun ds xs h1 bs1 H1 e1 rx p1 => ?_)
  split at p1
  · rename_i j
    obtain ⟨hj, p1⟩ := p1.chk
    cases xs with
    | nil => simp only [RVs] at rx
    | cons v vs =>
      cases vs with
      | cons _ _ => simp only [RVs] at rx; exact rx.2.elim
      | nil =>
        simp only [RVs, RV] at rx
        rw [rx.1]
        exact ⟨j, rfl, by omega, by omega, Post.now e1.hr p1 .rng⟩
  · exact p1.elim
end
end L2

namespace L2
open PySem PySem.Spec PyProof.Rows
section
variable {C : Ct} {ex bs bs1 bs2 : List Addr} {h h1 h2 : Z.MH} {H H1 H2 : Hp} {E : XK}
/-! ### operations upon ints -/
theorem s2_int {f : Int → Int → Int} : S2 C (rI0 fun i j => .int (f i j)) (Z.dInt f) := by
  intro ex bs h H E x y dx dy Q hr rx ry p
  unfold Z.dInt at p
  split at p
  · simp only [RV] at rx ry
    exact ⟨_, _, rx, ry, p.now hr (by simp only [RV])⟩
  · exact p.elim
theorem s2_intC {c c' : Int → Int → Prop} [∀ i j, Decidable (c i j)] {f : Int → Int → Int} (hc : ∀ i j, c i j → c' i j) : S2 C (rI c' fun i j => .int (f i j)) (Z.dIntC c f) := by
  intro ex bs h H E x y dx dy Q hr rx ry p
  unfold Z.dIntC at p
  split at p
  · obtain ⟨q, p⟩ := p.chk
    simp only [RV] at rx ry
    exact ⟨_, _, rx, ry, hc _ _ q, p.now hr (by simp only [RV])⟩
  · exact p.elim
theorem s2_cmp {f : Int → Int → Bool} : S2 C (rI0 fun i j => .bl (f i j)) (Z.dCmp f) := by
  intro ex bs h H E x y dx dy Q hr rx ry p
  unfold Z.dCmp at p
  split at p
  · simp only [RV] at rx ry
    exact ⟨_, _, rx, ry, p.now hr (by simp only [RV])⟩
  · exact p.elim
theorem s2_sub : S2 C (rI0 fun i j => .int (i - j)) Z.dSub := s2_int
theorem s2_div : S2 C (rI CDiv fun i j => .int (i / j)) Z.dDiv := s2_intC fun _ _ q => q
theorem s2_mod : S2 C (rI (fun _ j => 0 < j) fun i j => .int (i % j)) Z.dMod := s2_intC fun _ _ q => q
theorem okPow_of {i j : Int} (q : Z.okPow i j) : CPow i j := by unfold Z.okPow at q; unfold CPow; exact ⟨q.1, q.2.1, by have := q.2.2; omega⟩
theorem okMul_of {i j : Int} (q : Z.okMul i j) : CMul i j := by unfold Z.okMul at q; unfold CMul; omega
theorem s2_pow : S2 C (rI CPow fun i j => .int (i ^ j.toNat)) Z.dPow := s2_intC fun _ _ q => okPow_of q
theorem s2_lt : S2 C (rI0 fun i j => .bl (decide (i < j))) Z.dLt := s2_cmp
theorem s2_le : S2 C (rI0 fun i j => .bl (decide (i ≤ j))) Z.dLe := s2_cmp
theorem s2_gt : S2 C (rI0 fun i j => .bl (decide (j < i))) Z.dGt := s2_cmp
theorem s2_ge : S2 C (rI0 fun i j => .bl (decide (j ≤ i))) Z.dGe := s2_cmp
theorem s1_neg : S1 C (rU fun i => .int (-i)) Z.dNeg := by
  intro ex bs h H E x dx Q hr rx p
  unfold Z.dNeg at p
  split at p
  · simp only [RV] at rx; exact ⟨_, rx, p.now hr (by simp only [RV])⟩
  · exact p.elim
/-! ### lists -/
theorem asL_at {d : Z.D} {v : V} {xs : List Z.D} (hr : HR C ex bs h H) (r : RV C bs (gh ex bs h H) v d) (e : Z.asL h d = some xs) : ∃ a vs, v = .ref a ∧ H a = some (.lst vs) ∧ RVs C bs (gh ex bs h H) vs xs := by
  cases d with
  | lst ds =>
    simp only [RV] at r
    obtain ⟨a, vs, rfl, ga, rs⟩ := r
    cases e
    exact ⟨a, vs, rfl, gh_le _ _ ga, rs⟩
  | ref k =>
    simp only [RV] at r
    obtain ⟨a, rfl, hk⟩ := r
    simp only [Z.asL] at e
    split at e
    · rename_i ys hc
      cases e
      obtain ⟨vs, ha, rs⟩ := hr.cell k a _ hk hc
      exact ⟨a, vs, rfl, ha, rs⟩
    · cases e
  | _ => cases e
/-- a new list as a tree -/
theorem Post.tree {ds : List Z.D} {vs : List V} {p : Addr} {Q : VK} (hr : HR C ex bs h H) (q : Post C ex E bs h H (RV C) (.ok (.lst ds) h) Q) (hp : H p = none) (r : RVs C bs (gh ex bs h H) vs ds) : Q (.ref p) (upd H p (.lst vs)) := by
  obtain ⟨e2, g⟩ := Ev.alloc (o := .lst vs) hr hp
  exact q (.ref p) bs _ e2 (by simp only [RV]; exact ⟨p, vs, rfl, g, r.ev e2⟩)
theorem Post.ttup {ds : List Z.D} {vs : List V} {p : Addr} {Q : VK} (hr : HR C ex bs h H) (q : Post C ex E bs h H (RV C) (.ok (.tup ds) h) Q) (hp : H p = none) (r : RVs C bs (gh ex bs h H) vs ds) : Q (.ref p) (upd H p (.tup vs)) := by
  obtain ⟨e2, g⟩ := Ev.alloc (o := .tup vs) hr hp
  exact q (.ref p) bs _ e2 (by simp only [RV]; exact ⟨p, vs, rfl, g, r.ev e2⟩)
theorem s2_add : S2 C (uAdd C.K) Z.dAdd := by
  intro ex bs h H E x y dx dy Q hr rx ry p
  unfold Z.dAdd at p
  split at p
  · simp only [RV] at rx ry
    subst rx ry
    exact p.now hr (by simp only [RV])
  · obtain ⟨q, p⟩ := p.chk
    simp only [RV] at rx ry
    subst rx ry
    exact ⟨q, p.now hr (by simp only [RV])⟩
  · obtain ⟨q, p⟩ := p.chk
    simp only [RV] at rx ry
    obtain ⟨a, vs, rfl, ga, rs⟩ := rx
    obtain ⟨b, ws, rfl, gb, qs⟩ := ry
    have hl := rs.len
    have hl' := qs.len
    refine .inr ⟨a, b, vs, ws, rfl, rfl, SqT.of (gh_le _ _ ga), SqT.of (gh_le _ _ gb), fun z => q.1 (List.eq_nil_of_length_eq_zero (by rw [← hl, z]; rfl)), by rw [hl, hl']; exact q.2, fun z => ?_, fun _ l hl => Post.ttup hr p hl (rs.append qs)⟩
    subst z
    refine p.now hr ?_
    simp only [RV]
    have := rs.append qs
    rw [List.append_nil] at this
    exact ⟨a, vs, rfl, ga, this⟩
  · obtain ⟨xs, e1, p⟩ := p.oR
    obtain ⟨ys, e2, p⟩ := p.oR
    obtain ⟨q, p⟩ := p.chk
    obtain ⟨a, vs, rfl, ha, rs⟩ := asL_at hr rx e1
    obtain ⟨b, ws, rfl, hb, qs⟩ := asL_at hr ry e2
    exact .inl ⟨a, b, vs, ws, rfl, rfl, ha, hb, by rw [rs.len, qs.len]; exact q, fun l hl => Post.tree hr p hl (rs.append qs)⟩
theorem RVs.rep {G : Hp} {vs : List V} {ds : List Z.D} (r : RVs C bs G vs ds) : ∀ n : Nat, RVs C bs G (List.replicate n vs).flatten (List.replicate n ds).flatten
  | 0 => by simp [RVs]
  | n + 1 => by
    rw [List.replicate_succ, List.replicate_succ, List.flatten_cons, List.flatten_cons]
    exact r.append (RVs.rep r n)
theorem s2_mul : S2 C uMulS Z.dMul := by
  intro ex bs h H E x y dx dy Q hr rx ry p
  unfold Z.dMul at p
  split at p
  · obtain ⟨q, p⟩ := p.chk
    simp only [RV] at rx ry
    subst rx ry
    exact ⟨okMul_of q, p.now hr (by simp only [RV])⟩
  · obtain ⟨q, p⟩ := p.chk
    simp only [RV] at rx ry
    subst rx ry
    exact ⟨q.1, q.2, p.now hr (by simp only [RV])⟩
  · obtain ⟨xs, e1, p⟩ := p.oR
    obtain ⟨q, p⟩ := p.chk
    obtain ⟨a, vs, rfl, ha, rs⟩ := asL_at hr rx e1
    simp only [RV] at ry
    subst ry
    exact ⟨a, _, vs, rfl, rfl, ha, by have := q.1; omega, by have := q.1; omega, by rw [rs.len]; exact q.2, fun l hl => Post.tree hr p hl (rs.rep _)⟩
  · exact p.elim
/-! ### truth -/
theorem RVk.len {G : Hp} : ∀ {ds : List (Sum Int Str × Z.D)} {vs : List (Key × V)}, RVk C bs G vs ds → vs.length = ds.length
  | [], [], _ => rfl
  | (_, _) :: ds, (_, _) :: vs, h => by simp only [RVk] at h; simp [RVk.len h.2.2]
  | [], _ :: _, h => by simp only [RVk] at h
  | _ :: _, [], h => by simp only [RVk] at h
theorem truth_at {d : Z.D} {v : V} {k : Bool} (hr : HR C ex bs h H) (r : RV C bs (gh ex bs h H) v d) (e : Z.truth h d = some k) : TruV C.K v H k := by
  have sq : ∀ {xs : List Z.D}, Z.asQ h d = some xs → k = !xs.isEmpty → TruV C.K v H k := fun {xs} e1 e2 => by
    obtain ⟨a, vs, rfl, hq, rs⟩ := asQ_gh hr r e1
    have : k = !vs.isEmpty := by
      rw [e2]
      have := rs.len
      cases vs <;> cases xs <;> first | rfl | (simp at this)
    rcases hq with hq | hq
    · exact .inl ⟨vs, hq, this⟩
    · exact .inr (.inl ⟨vs, hq, this⟩)
  cases d with
  | non => simp only [RV] at r; subst r; cases e; rfl
  | bl b => simp only [RV] at r; subst r; cases e; rfl
  | int i => simp only [RV] at r; subst r; cases e; rfl
  | str y =>
    simp only [RV] at r; subst r
    simp only [Z.truth] at e
    split at e
    · rename_i hz; cases e; exact ⟨hz, rfl⟩
    · cases e
  | lst xs => simp only [Z.truth, Z.asQ, Option.some.injEq] at e; exact sq rfl e.symm
  | tup xs => simp only [Z.truth, Z.asQ, Option.some.injEq] at e; exact sq rfl e.symm
  | arg ns => simp only [Z.truth, Z.asQ, Option.some.injEq] at e; exact sq rfl e.symm
  | ref j =>
    simp only [Z.truth] at e
    split at e
    · rename_i xs hx
      simp only [Option.some.injEq] at e
      exact sq hx e.symm
    · simp only [Z.asD] at e
      split at e
      · rename_i kvs hc
        simp only [Option.map_some, Option.some.injEq] at e
        simp only [RV] at r
        obtain ⟨a, rfl, hk⟩ := r
        obtain ⟨kws, ha, rk⟩ := hr.cell j a _ hk hc
        refine .inr (.inr ⟨kws, ha, ?_⟩)
        rw [← e]
        have := rk.len
        cases kws <;> cases kvs <;> first | rfl | (simp at this)
      · cases e
  | ty n => simp [Z.truth, Z.asQ] at e
  | cls n => simp [Z.truth, Z.asQ] at e
  | exc n => simp [Z.truth, Z.asQ] at e
  | obj c fs => simp [Z.truth, Z.asQ] at e
  | dic kvs => simp [Z.truth, Z.asQ] at e
theorem s_truth {t : TE} {m : Z.ME} (ht : SE C E t m) : ST C E (fun σ H Q => t σ H fun x H' => ∃ k, TruV C.K x H' k ∧ Q k H') (Z.tTru m) := by
  intro ex bs h ρ σ H Q hr re p
  refine ht ex bs h ρ σ H _ hr re (p.bind fun d x h1 bs1 H1 e1 rx p1 => ?_)
  obtain ⟨k, ek, p1⟩ := p1.oR1
  exact ⟨k, truth_at e1.hr rx ek, Post.now e1.hr p1 rfl⟩
theorem s_notT {t : TE} {m : Z.ME} (ht : SE C E t m) : SE C E (fun σ H Q => t σ H fun x H1 => ∃ k, TruV C.K x H1 k ∧ Q (.bl (!k)) H1) (Z.mNotV m) := by
  intro ex bs h ρ σ H Q hr re p
  refine ht ex bs h ρ σ H _ hr re (p.bind fun d x h1 bs1 H1 e1 rx p1 => ?_)
  obtain ⟨k, ek, p1⟩ := p1.oR
  exact ⟨k, truth_at e1.hr rx ek, p1.now e1.hr (by simp only [RV])⟩
/-! ### == -/
mutual
theorem RV.rep {G : Hp} : ∀ {d : Z.D} {v : V} {q : PyData}, RV C bs G v d → d.py = some q → Rep G v q
  | .non, v, q, h, e => by simp only [RV] at h; simp only [Z.D.py, Option.some.injEq] at e; subst e; simp only [Rep]; exact h
  | .bl b, v, q, h, e => by simp only [RV] at h; simp only [Z.D.py, Option.some.injEq] at e; subst e; simp only [Rep]; exact h
  | .int i, v, q, h, e => by simp only [RV] at h; simp only [Z.D.py, Option.some.injEq] at e; subst e; simp only [Rep]; exact h
  | .str x, v, q, h, e => by
    simp only [RV] at h
    simp only [Z.D.py] at e
    split at e
    · simp only [Option.some.injEq] at e; subst e; simp only [Rep]; exact h
    · cases e
  | .tup ds, v, q, h, e => by
    simp only [RV] at h
    simp only [Z.D.py] at e
    obtain ⟨a, vs, h1, h2, h3⟩ := h
    cases e2 : Z.D.pys ds with
    | none => rw [e2] at e; cases e
    | some ps =>
      rw [e2] at e
      simp only [Option.map_some, Option.some.injEq] at e
      subst e
      simp only [Rep]
      exact ⟨a, vs, h1, h2, RVs.reps h3 e2⟩
  | .lst ds, v, q, h, e => by
    simp only [RV] at h
    simp only [Z.D.py] at e
    obtain ⟨a, vs, h1, h2, h3⟩ := h
    cases e2 : Z.D.pys ds with
    | none => rw [e2] at e; cases e
    | some ps =>
      rw [e2] at e
      simp only [Option.map_some, Option.some.injEq] at e
      subst e
      simp only [Rep]
      exact ⟨a, vs, h1, h2, RVs.reps h3 e2⟩
  | .arg _, _, _, _, e => by simp only [Z.D.py] at e; cases e
  | .ref _, _, _, _, e => by simp only [Z.D.py] at e; cases e
  | .ty _, _, _, _, e => by simp only [Z.D.py] at e; cases e
  | .cls _, _, _, _, e => by simp only [Z.D.py] at e; cases e
  | .exc _, _, _, _, e => by simp only [Z.D.py] at e; cases e
  | .obj _ _, _, _, _, e => by simp only [Z.D.py] at e; cases e
  | .dic _, _, _, _, e => by simp only [Z.D.py] at e; cases e
theorem RVs.reps {G : Hp} : ∀ {ds : List Z.D} {vs : List V} {qs : List PyData}, RVs C bs G vs ds → Z.D.pys ds = some qs → Reps G vs qs
  | [], [], qs, _, e => by simp only [Z.D.pys, Option.some.injEq] at e; subst e; simp only [Reps]
  | d :: ds, v :: vs, qs, h, e => by
    simp only [RVs] at h
    simp only [Z.D.pys] at e
    split at e
    · rename_i p ps e1 e2
      simp only [Option.some.injEq] at e
      subst e
      simp only [Reps]
      exact ⟨RV.rep h.1 e1, RVs.reps h.2 e2⟩
    · cases e
  | [], _ :: _, _, h, _ => by simp only [RVs] at h
  | _ :: _, [], _, h, _ => by simp only [RVs] at h
end
mutual
theorem py_eq : ∀ {d e : Z.D} {p q : PyData}, d.py = some p → e.py = some q → PyData.eqv p q = d.eq e
  | .non, e, p, q, hd, he => by
    simp only [Z.D.py, Option.some.injEq] at hd; subst hd
    cases e <;> simp only [Z.D.py, Option.some.injEq] at he <;> (try cases he) <;> first
      | (subst he; simp [PyData.eqv, Z.D.eq]; done)
      | (split at he <;> first | (cases he; simp [PyData.eqv, Z.D.eq]; done) | cases he)
      | (simp only [Option.map_eq_some_iff] at he; obtain ⟨_, _, rfl⟩ := he; simp [PyData.eqv, Z.D.eq]; done)
      | (simp [PyData.eqv, Z.D.eq]; done)
  | .bl b, e, p, q, hd, he => by
    simp only [Z.D.py, Option.some.injEq] at hd; subst hd
    cases e <;> simp only [Z.D.py, Option.some.injEq] at he <;> (try cases he) <;> first
      | (subst he; simp [PyData.eqv, Z.D.eq]; done)
      | (split at he <;> first | (cases he; simp [PyData.eqv, Z.D.eq]; done) | cases he)
      | (simp only [Option.map_eq_some_iff] at he; obtain ⟨_, _, rfl⟩ := he; simp [PyData.eqv, Z.D.eq]; done)
      | (simp [PyData.eqv, Z.D.eq]; done)
  | .int b, e, p, q, hd, he => by
    simp only [Z.D.py, Option.some.injEq] at hd; subst hd
    cases e <;> simp only [Z.D.py, Option.some.injEq] at he <;> (try cases he) <;> first
      | (subst he; simp [PyData.eqv, Z.D.eq]; done)
      | (split at he <;> first | (cases he; simp [PyData.eqv, Z.D.eq]; done) | cases he)
      | (simp only [Option.map_eq_some_iff] at he; obtain ⟨_, _, rfl⟩ := he; simp [PyData.eqv, Z.D.eq]; done)
      | (simp [PyData.eqv, Z.D.eq]; done)
  | .str b, e, p, q, hd, he => by
    simp only [Z.D.py] at hd
    split at hd
    · cases hd
      cases e <;> simp only [Z.D.py, Option.some.injEq] at he <;> (try cases he) <;> first
        | (subst he; simp [PyData.eqv, Z.D.eq]; done)
        | (split at he <;> first | (cases he; simp [PyData.eqv, Z.D.eq]; done) | cases he)
        | (simp only [Option.map_eq_some_iff] at he; obtain ⟨_, _, rfl⟩ := he; simp [PyData.eqv, Z.D.eq]; done)
        | (simp [PyData.eqv, Z.D.eq]; done)
    · cases hd
  | .tup xs, e, p, q, hd, he => by
    simp only [Z.D.py, Option.map_eq_some_iff] at hd
    obtain ⟨ps, h1, rfl⟩ := hd
    cases e with
    | tup ys =>
      simp only [Z.D.py, Option.map_eq_some_iff] at he
      obtain ⟨qs, h2, rfl⟩ := he
      simp only [PyData.eqv, Z.D.eq]
      exact pys_eq h1 h2
    | _ =>
      simp only [Z.D.py, Option.some.injEq] at he <;> (try cases he) <;> first
        | (subst he; simp [PyData.eqv, Z.D.eq]; done)
        | (split at he <;> first | (cases he; simp [PyData.eqv, Z.D.eq]; done) | cases he)
        | (simp only [Option.map_eq_some_iff] at he; obtain ⟨_, _, rfl⟩ := he; simp [PyData.eqv, Z.D.eq]; done)
        | (simp [PyData.eqv, Z.D.eq]; done)
  | .lst xs, e, p, q, hd, he => by
    simp only [Z.D.py, Option.map_eq_some_iff] at hd
    obtain ⟨ps, h1, rfl⟩ := hd
    cases e with
    | lst ys =>
      simp only [Z.D.py, Option.map_eq_some_iff] at he
      obtain ⟨qs, h2, rfl⟩ := he
      simp only [PyData.eqv, Z.D.eq]
      exact pys_eq h1 h2
    | _ =>
      simp only [Z.D.py, Option.some.injEq] at he <;> (try cases he) <;> first
        | (subst he; simp [PyData.eqv, Z.D.eq]; done)
        | (split at he <;> first | (cases he; simp [PyData.eqv, Z.D.eq]; done) | cases he)
        | (simp only [Option.map_eq_some_iff] at he; obtain ⟨_, _, rfl⟩ := he; simp [PyData.eqv, Z.D.eq]; done)
        | (simp [PyData.eqv, Z.D.eq]; done)
  | .arg _, _, _, _, e, _ => by simp only [Z.D.py] at e; cases e
  | .ref _, _, _, _, e, _ => by simp only [Z.D.py] at e; cases e
  | .ty _, _, _, _, e, _ => by simp only [Z.D.py] at e; cases e
  | .cls _, _, _, _, e, _ => by simp only [Z.D.py] at e; cases e
  | .exc _, _, _, _, e, _ => by simp only [Z.D.py] at e; cases e
  | .obj _ _, _, _, _, e, _ => by simp only [Z.D.py] at e; cases e
  | .dic _, _, _, _, e, _ => by simp only [Z.D.py] at e; cases e
theorem pys_eq : ∀ {ds es : List Z.D} {ps qs : List PyData}, Z.D.pys ds = some ps → Z.D.pys es = some qs → PyData.eqvAll ps qs = Z.D.eqs ds es
  | [], [], ps, qs, h1, h2 => by
    simp only [Z.D.pys, Option.some.injEq] at h1 h2; subst h1 h2; simp only [PyData.eqvAll, Z.D.eqs]
  | d :: ds, e :: es, ps, qs, h1, h2 => by
    simp only [Z.D.pys] at h1 h2
    split at h1
    · split at h2
      · rename_i p1 ps1 a1 a2 _ _ q1 qs1 b1 b2
        simp only [Option.some.injEq] at h1 h2
        subst h1 h2
        simp only [PyData.eqvAll, Z.D.eqs]
        rw [py_eq a1 b1, pys_eq a2 b2]
      · cases h2
    · cases h1
  | [], e :: es, ps, qs, h1, h2 => by
    simp only [Z.D.pys] at h1 h2
    split at h2
    · simp only [Option.some.injEq] at h1 h2; subst h1 h2; simp only [PyData.eqvAll, Z.D.eqs]
    · cases h2
  | d :: ds, [], ps, qs, h1, h2 => by
    simp only [Z.D.pys] at h1 h2
    split at h1
    · simp only [Option.some.injEq] at h1 h2; subst h1 h2; simp only [PyData.eqvAll, Z.D.eqs]
    · cases h1
end
end
end L2

namespace L2
open PySem PySem.Spec PyProof.Rows
section
variable {C : Ct} {ex bs bs1 bs2 : List Addr} {h h1 h2 : Z.MH} {H H1 H2 : Hp} {E : XK}
mutual
theorem py_lay : ∀ {d : Z.D} {q : PyData}, d.py = some q → q.canLay0 = true ∧ q.depth = d.deep
  | .non, q, e => by simp only [Z.D.py, Option.some.injEq] at e; subst e; exact ⟨by simp only [PyData.canLay0], by simp only [PyData.depth, Z.D.deep]⟩
  | .bl b, q, e => by simp only [Z.D.py, Option.some.injEq] at e; subst e; exact ⟨by simp only [PyData.canLay0], by simp only [PyData.depth, Z.D.deep]⟩
  | .int b, q, e => by simp only [Z.D.py, Option.some.injEq] at e; subst e; exact ⟨by simp only [PyData.canLay0], by simp only [PyData.depth, Z.D.deep]⟩
  | .str b, q, e => by
    simp only [Z.D.py] at e
    split at e
    · rename_i hs; cases e; exact ⟨by simp only [PyData.canLay0]; exact hs, by simp only [PyData.depth, Z.D.deep]⟩
    · cases e
  | .tup ds, q, e => by
    simp only [Z.D.py, Option.map_eq_some_iff] at e
    obtain ⟨ps, h1, rfl⟩ := e
    have := pys_lay h1
    exact ⟨by simp only [PyData.canLay0]; exact this.1, by simp only [PyData.depth, Z.D.deep]; rw [this.2]⟩
  | .lst ds, q, e => by
    simp only [Z.D.py, Option.map_eq_some_iff] at e
    obtain ⟨ps, h1, rfl⟩ := e
    have := pys_lay h1
    exact ⟨by simp only [PyData.canLay0]; exact this.1, by simp only [PyData.depth, Z.D.deep]; rw [this.2]⟩
  | .arg _, _, e => by simp only [Z.D.py] at e; cases e
  | .ref _, _, e => by simp only [Z.D.py] at e; cases e
  | .ty _, _, e => by simp only [Z.D.py] at e; cases e
  | .cls _, _, e => by simp only [Z.D.py] at e; cases e
  | .exc _, _, e => by simp only [Z.D.py] at e; cases e
  | .obj _ _, _, e => by simp only [Z.D.py] at e; cases e
  | .dic _, _, e => by simp only [Z.D.py] at e; cases e
theorem pys_lay : ∀ {ds : List Z.D} {qs : List PyData}, Z.D.pys ds = some qs → PyData.canLayAll0 qs = true ∧ PyData.depthAll qs = Z.D.deeps ds
  | [], qs, e => by simp only [Z.D.pys, Option.some.injEq] at e; subst e; exact ⟨by simp only [PyData.canLayAll0], by simp only [PyData.depthAll, Z.D.deeps]⟩
  | d :: ds, qs, e => by
    simp only [Z.D.pys] at e
    split at e
    · rename_i p ps e1 e2
      simp only [Option.some.injEq] at e
      subst e
      have a := py_lay e1
      have b := pys_lay e2
      exact ⟨by simp only [PyData.canLayAll0, a.1, b.1, Bool.and_self], by simp only [PyData.depthAll, Z.D.deeps, a.2, b.2]⟩
    · cases e
end
theorem shaped_of {d : Z.D} (e : d.dat = true) : ∃ q, d.py = some q ∧ Shaped q := by
  unfold Z.D.dat at e
  rw [Bool.and_eq_true, decide_eq_true_eq, Option.isSome_iff_exists] at e
  obtain ⟨⟨q, hq⟩, hd⟩ := e
  refine ⟨q, hq, ?_⟩
  have := py_lay hq
  show SeqAt.shaped q = true
  unfold SeqAt.shaped
  rw [Bool.and_eq_true, decide_eq_true_eq]
  exact ⟨this.1, by rw [this.2]; exact hd⟩
mutual
theorem res_rep (hr : HR C ex bs h H) : ∀ (n : Nat) {d : Z.D} {v : V} {q : PyData}, RV C bs (gh ex bs h H) v d → (Z.res n h d).py = some q → Rep H v q
  | 0, d, v, q, r, e => by unfold Z.res at e; exact (r.rep e).same gh_le
  | n + 1, .ref k, v, q, r, e => by
    unfold Z.res at e
    split at e
    · rename_i xs hc
      simp only [RV] at r
      obtain ⟨a, rfl, hk⟩ := r
      obtain ⟨vs, ha, rs⟩ := hr.cell k a _ hk hc
      simp only [Z.D.py, Option.map_eq_some_iff] at e
      obtain ⟨ps, h1, rfl⟩ := e
      simp only [Rep]
      exact ⟨a, vs, rfl, ha, res_reps hr n rs h1⟩
    · simp only [Z.D.py] at e; cases e
  | n + 1, .tup xs, v, q, r, e => by
    unfold Z.res at e
    simp only [RV] at r
    obtain ⟨a, vs, rfl, ga, rs⟩ := r
    simp only [Z.D.py, Option.map_eq_some_iff] at e
    obtain ⟨ps, h1, rfl⟩ := e
    simp only [Rep]
    exact ⟨a, vs, rfl, gh_le _ _ ga, res_reps hr n rs h1⟩
  | n + 1, .lst xs, v, q, r, e => by
    unfold Z.res at e
    simp only [RV] at r
    obtain ⟨a, vs, rfl, ga, rs⟩ := r
    simp only [Z.D.py, Option.map_eq_some_iff] at e
    obtain ⟨ps, h1, rfl⟩ := e
    simp only [Rep]
    exact ⟨a, vs, rfl, gh_le _ _ ga, res_reps hr n rs h1⟩
  | n + 1, .non, v, q, r, e => by unfold Z.res at e; exact (r.rep e).same gh_le
  | n + 1, .bl _, v, q, r, e => by unfold Z.res at e; exact (r.rep e).same gh_le
  | n + 1, .int _, v, q, r, e => by unfold Z.res at e; exact (r.rep e).same gh_le
  | n + 1, .str _, v, q, r, e => by unfold Z.res at e; exact (r.rep e).same gh_le
  | n + 1, .arg _, v, q, r, e => by unfold Z.res at e; exact (r.rep e).same gh_le
  | n + 1, .ty _, v, q, r, e => by unfold Z.res at e; exact (r.rep e).same gh_le
  | n + 1, .cls _, v, q, r, e => by unfold Z.res at e; exact (r.rep e).same gh_le
  | n + 1, .exc _, v, q, r, e => by unfold Z.res at e; exact (r.rep e).same gh_le
  | n + 1, .obj _ _, v, q, r, e => by unfold Z.res at e; exact (r.rep e).same gh_le
  | n + 1, .dic _, v, q, r, e => by unfold Z.res at e; exact (r.rep e).same gh_le
theorem res_reps (hr : HR C ex bs h H) : ∀ (n : Nat) {ds : List Z.D} {vs : List V} {qs : List PyData}, RVs C bs (gh ex bs h H) vs ds → Z.D.pys (ds.map (Z.res n h)) = some qs → Reps H vs qs
  | n, [], [], qs, _, e => by simp only [List.map_nil, Z.D.pys, Option.some.injEq] at e; subst e; simp only [Reps]
  | n, d :: ds, v :: vs, qs, r, e => by
    simp only [RVs] at r
    simp only [List.map_cons, Z.D.pys] at e
    split at e
    · rename_i p ps e1 e2
      simp only [Option.some.injEq] at e
      subst e
      simp only [Reps]
      exact ⟨res_rep hr n r.1 e1, res_reps hr n r.2 e2⟩
    · cases e
  | n, [], _ :: _, _, r, _ => by simp only [RVs] at r
  | n, _ :: _, [], _, r, _ => by simp only [RVs] at r
end
theorem see_rep {d : Z.D} {v : V} (hr : HR C ex bs h H) (r : RV C bs (gh ex bs h H) v d) (e : (Z.see h d).dat = true) : ∃ q, (Z.see h d).py = some q ∧ Rep H v q ∧ Shaped q := by
  obtain ⟨q, h1, h2⟩ := shaped_of e
  exact ⟨q, h1, res_rep hr 8 r h1, h2⟩
theorem dEq_cases {x y : V} {dx dy : Z.D} (hr : HR C ex bs h H) (rx : RV C bs (gh ex bs h H) x dx) (ry : RV C bs (gh ex bs h H) y dy) : Z.dEq dx dy h = .stuck ∨ ∃ b, Z.dEq dx dy h = .ok (.bl b) h ∧
    ((scal x y = true ∧ decide (x = y) = b) ∨ ∃ d e, Rep H x d ∧ Rep H y e ∧ Shaped d ∧ Shaped e ∧ PyData.eqv d e = b) := by
  unfold Z.dEq
  split
  · simp only [RV] at rx ry; subst rx ry
    exact .inr ⟨_, rfl, .inl ⟨rfl, by simp⟩⟩
  · simp only [RV] at rx ry; subst rx ry
    exact .inr ⟨_, rfl, .inl ⟨rfl, by simp⟩⟩
  · simp only [RV] at rx ry; subst rx ry
    exact .inr ⟨_, rfl, .inl ⟨rfl, dec_bl⟩⟩
  · split
    · rename_i q
      obtain ⟨d, h1, h3⟩ := shaped_of q.1
      obtain ⟨e, k1, k3⟩ := shaped_of q.2
      exact .inr ⟨_, rfl, .inr ⟨d, e, (rx.rep h1).same gh_le, (ry.rep k1).same gh_le, h3, k3, py_eq h1 k1⟩⟩
    · unfold Z.chk
      split
      · rename_i q
        obtain ⟨d, h1, h2, h3⟩ := see_rep hr rx q.1
        obtain ⟨e, k1, k2, k3⟩ := see_rep hr ry q.2
        exact .inr ⟨_, rfl, .inr ⟨d, e, h2, k2, h3, k3, py_eq h1 k1⟩⟩
      · exact .inl rfl
theorem s2_eq : S2 C uEq Z.dEq := by
  intro ex bs h H E x y dx dy Q hr rx ry p
  rcases dEq_cases hr rx ry with e | ⟨b, e, q⟩
  · rw [e] at p; exact p.elim
  · rw [e] at p
    have := p.now (b := .bl b) hr (by simp only [RV])
    rcases q with ⟨q1, q2⟩ | ⟨d, e, h1, h2, h3, h4, h5⟩
    · exact .inl ⟨q1, by rw [q2]; exact this⟩
    · exact .inr ⟨d, e, h1, h2, h3, h4, by rw [h5]; exact this⟩
theorem s2_ne : S2 C uNe Z.dNe := by
  intro ex bs h H E x y dx dy Q hr rx ry p
  unfold Z.dNe at p
  rcases dEq_cases hr rx ry with e | ⟨b, e, q⟩
  · rw [e] at p; exact p.elim
  · rw [e] at p
    have := Post.now (b := .bl (!b)) hr p (by simp only [RV])
    rcases q with ⟨q1, q2⟩ | ⟨d, e, h1, h2, h3, h4, h5⟩
    · exact .inl ⟨q1, by rw [q2]; exact this⟩
    · exact .inr ⟨d, e, h1, h2, h3, h4, by rw [h5]; exact this⟩
/-! ### flat values -/
theorem flat_v {G : Hp} {d : Z.D} {v : V} (r : RV C bs G v d) (f : Z.flat d = true) : fv d = some v ∧ flatV v = true := by
  cases d <;> simp only [RV] at r <;> first | (subst r; exact ⟨rfl, rfl⟩) | (cases f)
theorem fv_v {G : Hp} {d : Z.D} {v : V} (f : fv d = some v) : RV C bs G v d := by
  cases d <;> simp only [fv, Option.some.injEq] at f <;> first | (subst f; simp only [RV]; done) | (cases f)
theorem eqF_v {d e : Z.D} {v u : V} (a : fv d = some v) (b : fv e = some u) : eqV v u = Z.eqF d e := by
  cases d <;> simp only [fv, Option.some.injEq] at a <;> (try cases a) <;> cases e <;> simp only [fv, Option.some.injEq] at b <;> (try cases b) <;> (try subst a) <;> (try subst b) <;> rfl
theorem flats_v {G : Hp} {e : Z.D} {u : V} (b : fv e = some u) : ∀ {ds : List Z.D} {vs : List V}, RVs C bs G vs ds → ds.all Z.flat = true → vs.all flatV = true ∧ (vs.any fun y => eqV y u) = ds.any fun y => Z.eqF y e
  | [], [], _, _ => ⟨rfl, rfl⟩
  | d :: ds, v :: vs, h, f => by
    simp only [RVs] at h
    rw [List.all_cons, Bool.and_eq_true] at f
    obtain ⟨h1, h2⟩ := flat_v h.1 f.1
    obtain ⟨h3, h4⟩ := flats_v b h.2 f.2
    rw [List.all_cons, List.any_cons, List.any_cons, h2, h3, h4, eqF_v h1 b]
    exact ⟨rfl, rfl⟩
  | [], _ :: _, h, _ => by simp only [RVs] at h
  | _ :: _, [], h, _ => by simp only [RVs] at h
/-! ### dicts -/
theorem key_v {G : Hp} {d : Z.D} {v : V} {k : Sum Int Str} (r : RV C bs G v d) (e : Z.keyOf d = some k) : v = kV k := by
  cases d <;> simp only [Z.keyOf, Option.some.injEq] at e <;> (try cases e) <;> simp only [RV] at r <;> exact r
theorem RVk.val {G : Hp} {k : Sum Int Str} : ∀ {ds : List (Sum Int Str × Z.D)} {vs : List (Key × V)}, RVk C bs G vs ds →
    (Z.valK ds k = none ∧ valV vs k = none) ∨ ∃ d v, Z.valK ds k = some d ∧ valV vs k = some v ∧ RV C bs G v d
  | [], [], _ => .inl ⟨rfl, rfl⟩
  | (y, d) :: ds, (x, v) :: vs, h => by
    simp only [RVk] at h
    obtain ⟨rfl, h1, h2⟩ := h
    unfold Z.valK valV
    rw [List.find?_cons, List.find?_cons]
    by_cases e : x = k
    · simp only [e, decide_true]
      exact .inr ⟨d, v, rfl, rfl, h1⟩
    · simp only [e, decide_false]
      exact RVk.val h2
  | [], _ :: _, h => by simp only [RVk] at h
  | _ :: _, [], h => by simp only [RVk] at h
theorem RVk.of {G : Hp} : ∀ {ds : List (Sum Int Str × Z.D)} {vs : List (Key × V)}, ds.map (fun p => (p.1, fv p.2)) = vs.map (fun p => (p.1, some p.2)) → RVk C bs G vs ds
  | [], [], _ => by simp only [RVk]
  | (y, d) :: ds, (x, v) :: vs, e => by
    simp only [List.map_cons, List.cons.injEq, Prod.mk.injEq] at e
    simp only [RVk]
    exact ⟨e.1.1.symm, fv_v e.1.2, RVk.of e.2⟩
  | [], _ :: _, e => by simp at e
  | _ :: _, [], e => by simp at e
theorem asD_at {d : Z.D} {v : V} {kvs : List (Sum Int Str × Z.D)} (hr : HR C ex bs h H) (r : RV C bs (gh ex bs h H) v d) (e : Z.asD h d = some kvs) (k : Sum Int Str) : ∃ a, v = .ref a ∧
    ((Z.valK kvs k = none ∧ DGetU C.P C.w C.K H a (kV k) none) ∨ ∃ d' v', Z.valK kvs k = some d' ∧ DGetU C.P C.w C.K H a (kV k) (some v') ∧ RV C bs (gh ex bs h H) v' d') := by
  cases d with
  | dic kvs' =>
    simp only [RV] at r
    obtain ⟨a, kws, rfl, hk, em⟩ := r
    cases e
    refine ⟨a, rfl, ?_⟩
    rcases RVk.val (k := k) (RVk.of (C := C) (bs := bs) (G := gh ex bs h H) em) with ⟨h1, h2⟩ | ⟨d', v', h1, h2, h3⟩
    · exact .inl ⟨h1, .inr ⟨kws, k, hk, rfl, h2.symm⟩⟩
    · exact .inr ⟨d', v', h1, .inr ⟨kws, k, hk, rfl, h2.symm⟩, h3⟩
  | ref j =>
    simp only [RV] at r
    obtain ⟨a, rfl, hj⟩ := r
    simp only [Z.asD] at e
    split at e
    · rename_i kvs' hc
      cases e
      obtain ⟨kws, ha, rk⟩ := hr.cell j a _ hj hc
      refine ⟨a, rfl, ?_⟩
      rcases rk.val (k := k) with ⟨h1, h2⟩ | ⟨d', v', h1, h2, h3⟩
      · exact .inl ⟨h1, .inl (by rw [← h2]; exact DGet.k ha)⟩
      · exact .inr ⟨d', v', h1, .inl (by rw [← h2]; exact DGet.k ha), h3⟩
    · cases e
  | _ => cases e
theorem s2_in {neg : Bool} : S2 C (uIn C.P C.w C.K neg) (Z.dIn neg) := by
  intro ex bs h H E x y dx dy Q hr rx ry p
  unfold Z.dIn at p
  split at p
  · simp only [RV] at rx ry; subst rx ry
    exact .inr (.inl ⟨_, _, rfl, rfl, p.now hr (by simp only [RV])⟩)
  · split at p
    · rename_i ys hy
      obtain ⟨q, p⟩ := p.chk
      obtain ⟨a, vs, rfl, hq, rs⟩ := asQ_gh hr ry hy
      obtain ⟨fx, fx'⟩ := flat_v rx q.1
      obtain ⟨h1, h2⟩ := flats_v fx rs q.2
      refine .inl ⟨a, vs, rfl, hq, fx', h1, ?_⟩
      unfold inV
      rw [h2]
      exact p.now hr (by simp only [RV])
    · split at p
      · rename_i kvs k e1 e2
        obtain ⟨a, rfl, hd⟩ := asD_at hr ry e1 k
        have ek := key_v rx e2
        subst ek
        rcases hd with ⟨h1, h2⟩ | ⟨d', v', h1, h2, h3⟩
        · refine .inr (.inr ⟨a, none, rfl, h2, ?_⟩)
          rw [h1] at p
          exact p.now hr (by simp only [RV]; rfl)
        · refine .inr (.inr ⟨a, some v', rfl, h2, ?_⟩)
          rw [h1] at p
          exact p.now hr (by simp only [RV]; rfl)
      · exact p.elim
theorem at_v {G : Hp} {ds : List Z.D} {vs : List V} {i : Int} {d : Z.D} (r : RVs C bs G vs ds) (e : Z.atI ds i = some d) : ∃ v, atI vs i = some v ∧ RV C bs G v d := by
  unfold Z.atI at e
  unfold atI
  rw [r.len]
  have : ixN ds.length i = Z.ixN ds.length i := rfl
  rw [this]
  cases e2 : Z.ixN ds.length i with
  | none => rw [e2] at e; cases e
  | some j =>
    rw [e2] at e
    exact r.get e
theorem s2_ix : S2 C (uIx C.P C.w C.K) Z.dIx := by
  intro ex bs h H E x y dx dy Q hr rx ry p
  unfold Z.dIx at p
  split at p
  · obtain ⟨q, p⟩ := p.chk
    obtain ⟨c, e1, p⟩ := p.oR
    simp only [RV] at rx ry; subst rx ry
    exact .inl (.inr (.inr ⟨_, _, c, rfl, rfl, q, e1, p.now hr (by simp only [RV])⟩))
  · split at p
    · rename_i xs hx
      split at p
      · obtain ⟨d, e1, p⟩ := p.oR1
        obtain ⟨a, vs, rfl, hq, rs⟩ := asQ_gh hr rx hx
        obtain ⟨v, hv, rv⟩ := at_v rs e1
        simp only [RV] at ry; subst ry
        rcases hq with hq | hq
        · exact .inl (.inl ⟨a, vs, _, v, rfl, rfl, hq, hv, p.now hr rv⟩)
        · exact .inl (.inr (.inl ⟨a, vs, _, v, rfl, rfl, hq, hv, p.now hr rv⟩))
      · exact p.elim
    · split at p
      · rename_i kvs k e1 e2
        obtain ⟨d, ev, p⟩ := p.oR1
        obtain ⟨a, rfl, hd⟩ := asD_at hr rx e1 k
        have ek := key_v ry e2
        subst ek
        rcases hd with ⟨h1, h2⟩ | ⟨d', v', h1, h2, h3⟩
        · rw [h1] at ev; cases ev
        · rw [h1] at ev; cases ev
          exact .inr ⟨a, v', rfl, h2, p.now hr h3⟩
      · exact p.elim
/-- the rule of an index: as an operation -/
theorem s_ix {ta tb : TE} {ma mb : Z.ME} (ha : SE C E ta ma) (hb : SE C E tb mb) : SE C E (tOp (uIx C.P C.w C.K) ta tb) (Z.mBin Z.dIx ma mb) := s_op s2_ix ha hb
/-! ### slices -/
theorem so_no : SO C E tNoPart Z.oNo := fun ex bs h ρ σ H Q hr re p => Post.now hr p rfl
theorem so_so {t : TE} {m : Z.ME} (ht : SE C E t m) : SO C E (tPart t) (Z.oSo m) := by
  intro ex bs h ρ σ H Q hr re p
  refine ht ex bs h ρ σ H _ hr re (p.bind fun d x h1 bs1 H1 e1 rx p1 => ?_)
  cases d with
  | int i => simp only [RV] at rx; exact ⟨i, rx, Post.now e1.hr p1 rfl⟩
  | _ => exact p1.elim
theorem RVs.cut {G : Hp} {ds : List Z.D} {vs : List V} (r : RVs C bs G vs ds) (l u : Option Int) : RVs C bs G (cutV vs l u) (Z.cut ds l u) := by
  unfold cutV Z.cut
  rw [r.len]
  exact (r.drop _).take _
theorem asQ_nt {d : Z.D} {v : V} {xs : List Z.D} (hr : HR C ex bs h H) (r : RV C bs (gh ex bs h H) v d) (nt : ∀ ds, d = .tup ds → False) (e : Z.asQ h d = some xs) : ∃ a vs, v = .ref a ∧ SqL C.K H a vs ∧ RVs C bs (gh ex bs h H) vs xs := by
  cases d with
  | lst ds =>
    simp only [RV] at r
    obtain ⟨a, vs, rfl, ga, rs⟩ := r
    cases e
    exact ⟨a, vs, rfl, SqL.of (gh_le _ _ ga), rs⟩
  | tup ds => exact (nt ds rfl).elim
  | arg ns =>
    simp only [RV] at r
    obtain ⟨a, rfl, ga⟩ := r
    cases e
    refine ⟨a, _, rfl, gh_le.sql ga, ?_⟩
    clear ga hr nt
    induction ns with
    | nil => simp only [List.map_nil, RVs]
    | cons n ns ih => simp only [List.map_cons, RVs, RV]; exact ⟨trivial, ih⟩
  | ref k =>
    simp only [RV] at r
    obtain ⟨a, rfl, hk⟩ := r
    simp only [Z.asQ] at e
    split at e
    · rename_i ys hc
      cases e
      obtain ⟨vs, ha, rs⟩ := hr.cell k a _ hk hc
      exact ⟨a, vs, rfl, SqL.of ha, rs⟩
    · cases e
  | _ => cases e
theorem s_sl {t : TE} {tl th : TO} {m : Z.ME} {ml mh : Z.MO} (ht : SE C E t m) (hl : SO C E tl ml) (hh : SO C E th mh) : SE C E (tSl (uSlS C.K) t tl th) (Z.mSl m ml mh) := by
  intro ex bs h ρ σ H Q hr re p
  refine ht ex bs h ρ σ H _ hr re (p.bind fun d x h1 bs1 H1 e1 rx p1 => ?_)
  refine hl ex bs1 h1 ρ σ H1 _ e1.hr (re.ev e1) (p1.bind fun l l' h2 bs2 H2 e2 rl p2 => ?_)
  refine hh ex bs2 h2 ρ σ H2 _ e2.hr ((re.ev e1).ev e2) (p2.bind fun u u' h3 bs3 H3 e3 ru p3 => ?_)
  cases rl; cases ru
  have rx3 := (rx.ev e2).ev e3
  split at p3
  · rename_i ds
    obtain ⟨q, p3⟩ := p3.chk
    simp only [RV] at rx3
    obtain ⟨a, vs, rfl, ga, rs⟩ := rx3
    refine .inl (.inr ⟨a, vs, rfl, SqT.of (gh_le _ _ ga), by rw [rs.len]; exact q, fun p hp => Post.ttup e3.hr p3 hp (rs.cut l u)⟩)
  · rename_i z
    obtain ⟨q, p3⟩ := p3.chk
    simp only [RV] at rx3
    exact .inr ⟨z, rx3, q, p3.now e3.hr (by simp only [RV])⟩
  · rename_i hnt hns
    obtain ⟨xs, e4, p3⟩ := p3.oR
    obtain ⟨a, vs, ea, hq, rs⟩ := asQ_nt e3.hr rx3 hnt e4
    subst ea
    exact .inl (.inl ⟨a, vs, rfl, hq, fun p hp => Post.tree e3.hr p3 hp (rs.cut l u)⟩)
/-! ### every kth of a list of ints -/
theorem ints_v {G : Hp} : ∀ {ds : List Z.D} {vs : List V} {ns : List Int}, RVs C bs G vs ds → Z.intsD ds = some ns → vs = ns.map V.int
  | [], [], ns, _, e => by cases e; rfl
  | d :: ds, v :: vs, ns, h, e => by
    simp only [RVs] at h
    cases d <;> simp only [Z.intsD, Option.map_eq_some_iff] at e <;> first
      | (obtain ⟨ms, h1, rfl⟩ := e
         simp only [RV] at h
         rw [List.map_cons, ← ints_v h.2 h1, h.1])
      | cases e
  | [], _ :: _, _, h, _ => by simp only [RVs] at h
  | _ :: _, [], _, h, _ => by simp only [RVs] at h
theorem strs_v {G : Hp} : ∀ {ds : List Z.D} {vs : List V} {ns : List Str}, RVs C bs G vs ds → Z.strsD ds = some ns → vs = ns.map V.str
  | [], [], ns, _, e => by cases e; rfl
  | d :: ds, v :: vs, ns, h, e => by
    simp only [RVs] at h
    cases d <;> simp only [Z.strsD, Option.map_eq_some_iff] at e <;> first
      | (obtain ⟨ms, h1, rfl⟩ := e
         simp only [RV] at h
         rw [List.map_cons, ← strs_v h.2 h1, h.1])
      | cases e
  | [], _ :: _, _, h, _ => by simp only [RVs] at h
  | _ :: _, [], _, h, _ => by simp only [RVs] at h
theorem bools_v {G : Hp} : ∀ {ds : List Z.D} {vs : List V} {ns : List Bool}, RVs C bs G vs ds → Z.boolsD ds = some ns → vs = ns.map V.bl
  | [], [], ns, _, e => by cases e; rfl
  | d :: ds, v :: vs, ns, h, e => by
    simp only [RVs] at h
    cases d <;> simp only [Z.boolsD, Option.map_eq_some_iff] at e <;> first
      | (obtain ⟨ms, h1, rfl⟩ := e
         simp only [RV] at h
         rw [List.map_cons, ← bools_v h.2 h1, h.1])
      | cases e
  | [], _ :: _, _, h, _ => by simp only [RVs] at h
  | _ :: _, [], _, h, _ => by simp only [RVs] at h
theorem ints_rv {G : Hp} : ∀ (ns : List Int), RVs C bs G (ns.map V.int) (ns.map Z.D.int)
  | [] => by simp only [List.map_nil, RVs]
  | n :: ns => by simp only [List.map_cons, RVs, RV]; exact ⟨trivial, ints_rv ns⟩
theorem strs_rv {G : Hp} : ∀ (ns : List Str), RVs C bs G (ns.map V.str) (ns.map Z.D.str)
  | [] => by simp only [List.map_nil, RVs]
  | n :: ns => by simp only [List.map_cons, RVs, RV]; exact ⟨trivial, strs_rv ns⟩
theorem asLi_at {d : Z.D} {v : V} {ns : List Int} (hr : HR C ex bs h H) (r : RV C bs (gh ex bs h H) v d) (e : Z.asLi h d = some ns) : ∃ a, v = .ref a ∧ SqL C.K H a (ns.map V.int) := by
  have gen : (Z.asL h d).bind Z.intsD = some ns → ∃ a, v = .ref a ∧ SqL C.K H a (ns.map V.int) := fun e => by
    cases e2 : Z.asL h d with
    | none => rw [e2] at e; cases e
    | some ds =>
      rw [e2] at e
      obtain ⟨a, vs, rfl, ha, rs⟩ := asL_at hr r e2
      exact ⟨a, rfl, by rw [← ints_v rs e]; exact SqL.of ha⟩
  cases d with
  | arg ms =>
    cases e
    simp only [RV] at r
    obtain ⟨a, rfl, ga⟩ := r
    exact ⟨a, rfl, gh_le.sql ga⟩
  | _ => exact gen e
/-- a heap that has grown -/
theorem Ev.ext {H' : Hp} (hr : HR C ex bs h H) (sm : Same H H') : Ev C ex bs h H bs h H' := by
  have eq : ∀ {a}, H a ≠ none → H' a = H a := fun {a} q => by
    cases e : H a with
    | none => exact absurd e q
    | some o => exact sm a o e
  have sg : Same (gh ex bs h H) (gh ex bs h H') := fun a o e => by
    obtain ⟨h1, h2, h3⟩ := gh_some.mp e
    exact gh_some.mpr ⟨h1, h2, sm a o h3⟩
  exact ⟨fun _ _ e => e, ⟨hr.len, hr.inj, hr.sep, fun a m => by rw [eq (hr.dom a m)]; exact hr.dom a m, fun a m => by rw [eq (hr.domx a m)]; exact hr.domx a m,
    fun k a c e1 e2 => (hr.cell k a c e1 e2).mono (fun _ _ e => e) sg (eq (hr.dom a (List.mem_of_getElem? e1)))⟩, sg, fun a m => eq (hr.domx a m)⟩
theorem same_hid {p : Addr} {H' : Hp} (hp : H p = none) (sm : Same H H') : Same H (hid p H') := fun a o e => by
  rw [hid_ne (fun z => by rw [z, hp] at e; cases e)]; exact sm a o e
theorem upd_hid {p : Addr} {H' : Hp} {o : HO} (e : H' p = some o) : upd (hid p H') p o = H' := by
  funext x
  by_cases q : x = p
  · rw [q, upd_same, e]
  · rw [upd_ne q, hid_ne q]
theorem PostN.ext {ds : List Z.D} {Q : VK} {p : Addr} {vs : List V} {H' : Hp} (hr : HR C ex bs h H) (q : PostN C ex E bs h H (.ok ds h) Q) (hp : H p = none) (e : H' p = some (.lst vs)) (sm : Same H H') (r : RVs C bs (gh ex bs h H) vs ds) : Q (.ref p) H' := by
  have ev := Ev.ext hr (same_hid hp sm)
  have := q p vs bs (hid p H') ev (if_pos rfl) (r.ev ev)
  rw [upd_hid e] at this; exact this
theorem Post.ext {ds : List Z.D} {Q : VK} {p : Addr} {vs : List V} {H' : Hp} (hr : HR C ex bs h H) (q : Post C ex E bs h H (RV C) (.ok (.lst ds) h) Q) (hp : H p = none) (e : H' p = some (.lst vs)) (sm : Same H H') (r : RVs C bs (gh ex bs h H) vs ds) : Q (.ref p) H' := by
  have ev := Ev.ext hr sm
  have np : p ∉ ex := fun m => hr.domx p m hp
  have nb : p ∉ bs := fun m => hr.dom p m hp
  exact q (.ref p) bs H' ev (by simp only [RV]; exact ⟨p, vs, rfl, gh_some.mpr ⟨np, fun ⟨k, c, e1, _⟩ => nb (List.mem_of_getElem? e1), e⟩, r.ev ev⟩)
noncomputable def tSlX (K : PySem.W.Frag) (te : TE) (tl th ts : TO) : TE := fun σ H Q => te σ H fun x H1 => tl σ H1 fun l H2 => th σ H2 fun u H3 => ts σ H3 fun k H4 => ∃ (a : Addr) (ns : List Int) (st : Int), x = .ref a ∧ k = some st ∧ 0 < st ∧ SqL K H4 a (ns.map V.int) ∧
  ∀ p H', H4 p = none → H' p = some (.lst ((Z.stepCut ns l u st).map V.int)) → Same H4 H' → Q (.ref p) H'
theorem filterMap_intsX {its : List Value} {ns : List Int} (r : Vals (ns.map V.int) its) : ∀ (l : List Nat), Vals ((l.filterMap (ns[·]?)).map V.int) (l.filterMap (its.toArray[·]?))
  | [] => .nil
  | i :: l => by
    have ih := filterMap_intsX r l
    have hl := r.length
    rw [List.length_map] at hl
    rw [List.filterMap_cons, List.filterMap_cons]
    by_cases hi : i < ns.length
    · have e1 : ns[i]? = some ns[i] := List.getElem?_eq_getElem hi
      have e2 : its.toArray[i]? = some its[i] := by simp [show i < its.length by omega]
      obtain ⟨t, e3, _⟩ := valsIntAt r (i := i) (v := its[i]) (by simp [show i < its.length by omega])
      rw [e1, e2, e3]
      have e4 : ns.getD i 0 = ns[i] := by simp [List.getD, e1]
      rw [e4, List.map_cons]
      exact .cons ⟨t, rfl⟩ ih
    · have e1 : ns[i]? = none := List.getElem?_eq_none (by omega)
      have e2 : its.toArray[i]? = none := by simp; omega
      rw [e1, e2]
      exact ih
theorem pe_sliceX {X : Cx} {e : Expr} {lo hi : Option Expr} {st : Expr} {te : TE} {tl th ts : TO} {pos p2 : Pos} (he : PE X e te) (hl : PO X lo tl) (hu : PO X hi th) (hs : PO X (some st) ts) :
    PE X (.Subscript e (.Slice lo hi (some st) p2) pos) (tSlX X.K te tl th ts) := by
  intro pins s σ H Q I h
  refine Subscript_ (thn (he pins s σ H _ I h) fun v s1 ⟨x, H1, I1, r1, q1⟩ => ?_)
  refine wpAny_Slice (thn (hl pins s1 σ H1 _ I1 q1) fun vl s2 ⟨l, H2, I2, pl, q2⟩ => thn (hu pins s2 σ H2 _ I2 q2) fun vu s3 ⟨u, H3, I3, pu, q3⟩ => thn (hs pins s3 σ H3 _ I3 q3) fun vk s4 ⟨k, H4, I4, pk, q4⟩ => ?_)
  obtain ⟨a, ns, st', ex, ek, hk, hq, q4⟩ := q4
  subst ex ek
  cases r1
  have I5 : Inv X pins σ H4 { s4 with heap := s4.heap.push { cls := .type "slice", data := .fields #[vl, vu, vk] } } := I4.kept (t' := s4.toks) fun b ob q => Heap.get?_push_of_some _ q
  show wpAny (model X.prog X.w) X.A (subscriptTail e (.Slice lo hi (some st) p2) (.ref a) (.ref s4.heap.objs.size)) (EP X pins σ Q) X.xe { s4 with heap := s4.heap.push { cls := .type "slice", data := .fields #[vl, vu, vk] } }
  obtain ⟨its, r, pl', hz⟩ := I5.list hq
  have hlen := r.length
  rw [List.length_map] at hlen hz
  refine tail_any (ops := [.ref a, .ref s4.heap.objs.size]) pl'.isList.typeIs slot_list_getitem.lookup ?_ (by with_unfolding_all rfl)
  refine wpAny_getItem_list_slice (lo := l) (hi := u) (st := some st') pl'.isList (Heap.IsSliceOf.new ..) pl pu pk (by simp; omega) ?_ (by rw [List.size_toArray] <;> omega)
  have hsz := slicePick_size_le its.toArray l u (some st')
  have e : slicePick its.toArray l u (some st') = ((sliceRange (sliceBounds l u (some st') its.toArray.size).1 (sliceBounds l u (some st') its.toArray.size).2.1 (sliceBounds l u (some st') its.toArray.size).2.2).filterMap (its.toArray[·]?)).toArray := rfl
  have rm := filterMap_intsX r (sliceRange (sliceBounds l u (some st') its.toArray.size).1 (sliceBounds l u (some st') its.toArray.size).2.1 (sliceBounds l u (some st') its.toArray.size).2.2)
  have en : its.toArray.size = ns.length := by rw [List.size_toArray]; exact hlen.symm
  rw [e]
  rw [e, List.size_toArray] at hsz
  have hr := rm.length
  have ec : (sliceRange (sliceBounds l u (some st') its.toArray.size).1 (sliceBounds l u (some st') its.toArray.size).2.1 (sliceBounds l u (some st') its.toArray.size).2.2).filterMap (ns[·]?) = Z.stepCut ns l u st' := by rw [en]; rfl
  rw [ec] at rm hr
  refine ⟨.ref _, _, I5.lnew (t' := s4.toks) rm (by rw [hr]; exact Nat.le_trans hsz (by rw [List.size_toArray]; omega)), rfl, q4 _ _ I5.fresh upd_same fun b o e => by rw [upd_ne (ne_of_none e I5.fresh)]; exact e⟩
theorem s_slX {t : TE} {tl th ts : TO} {m : Z.ME} {ml mh ms : Z.MO} (ht : SE C E t m) (hl : SO C E tl ml) (hh : SO C E th mh) (hs : SO C E ts ms) : SE C E (tSlX C.K t tl th ts) (Z.mSlS m ml mh ms) := by
  intro ex bs h ρ σ H Q hr re p
  refine ht ex bs h ρ σ H _ hr re (p.bind fun d x h1 bs1 H1 e1 rx p1 => ?_)
  refine hl ex bs1 h1 ρ σ H1 _ e1.hr (re.ev e1) (p1.bind fun l l' h2 bs2 H2 e2 rl p2 => ?_)
  refine hh ex bs2 h2 ρ σ H2 _ e2.hr ((re.ev e1).ev e2) (p2.bind fun u u' h3 bs3 H3 e3 ru p3 => ?_)
  refine hs ex bs3 h3 ρ σ H3 _ e3.hr (((re.ev e1).ev e2).ev e3) (p3.bind fun k k' h4 bs4 H4 e4 rk p4 => ?_)
  cases rl; cases ru; cases rk
  have rx4 := ((rx.ev e2).ev e3).ev e4
  cases k with
  | none => exact p4.elim
  | some k =>
    obtain ⟨q, p4⟩ := Post.chk p4
    obtain ⟨ns, e5, p4⟩ := p4.oR
    obtain ⟨a, rfl, hq⟩ := asLi_at e4.hr rx4 e5
    exact ⟨a, ns, k, rfl, rfl, q, hq, fun p H' hp hp' sm => Post.ext e4.hr p4 hp hp' sm (ints_rv _)⟩
end
end L2

namespace L2
open PySem PySem.Spec PyProof.Rows
section
variable {C : Ct} {ex bs bs1 bs2 : List Addr} {h h1 h2 : Z.MH} {H H1 H2 : Hp} {E : XK}
theorem one_v {G : Hp} {d : Z.D} {vs : List V} (r : RVs C bs G vs [d]) : ∃ v, vs = [v] ∧ RV C bs G v d := by
  match vs, r with
  | [v], r => simp only [RVs] at r; exact ⟨v, rfl, r.1⟩
  | [], r => simp only [RVs] at r
  | _ :: _ :: _, r => simp only [RVs] at r; exact r.2.elim
theorem two_v {G : Hp} {d e : Z.D} {vs : List V} (r : RVs C bs G vs [d, e]) : ∃ v u, vs = [v, u] ∧ RV C bs G v d ∧ RV C bs G u e := by
  match vs, r with
  | [v, u], r => simp only [RVs] at r; exact ⟨v, u, rfl, r.1, r.2.1⟩
  | [], r => simp only [RVs] at r
  | [_], r => simp only [RVs] at r; exact r.2.elim
  | _ :: _ :: _ :: _, r => simp only [RVs] at r; exact r.2.2.elim
/-! ### len -/
noncomputable def rLenV (P : Program) (w : World) (K : PySem.W.Frag) : List V → Hp → VK → Prop := fun xs H Q => rLenU P w K xs H Q ∨ ∃ a kvs, xs = [V.ref a] ∧ H a = some (.dK kvs) ∧ Q (.int kvs.length) H
theorem call_lenV {X : Cx} : CallR X (.builtin "len") (rLenV X.prog X.w X.K) := CallR.or call_lenU call_lenD
theorem sl_len : SL C (rLenV C.P C.w C.K) Z.fLen := by
  intro ex bs h H E xs ds Q hr rs p
  unfold Z.fLen at p
  split at p
  · obtain ⟨q, p⟩ := p.chk
    obtain ⟨v, rfl, r⟩ := one_v rs
    simp only [RV] at r; subst r
    exact .inl (.inr ⟨_, rfl, q, p.now hr (by simp only [RV])⟩)
  · obtain ⟨v, rfl, r⟩ := one_v rs
    split at p
    · rename_i ys hy
      obtain ⟨a, vs, rfl, hq, qs⟩ := asQ_gh hr r hy
      exact .inl (.inl ⟨a, vs, rfl, hq, p.now hr (by simp only [RV]; rw [qs.len])⟩)
    · split at p
      · obtain ⟨kvs, e, p⟩ := p.oR
        simp only [Z.asD] at e
        split at e
        · rename_i kvs' hc
          cases e
          simp only [RV] at r
          obtain ⟨a, rfl, hk⟩ := r
          obtain ⟨kws, ha, rk⟩ := hr.cell _ a _ hk hc
          exact .inr ⟨a, kws, rfl, ha, p.now hr (by simp only [RV]; rw [rk.len])⟩
        · cases e
      · exact p.elim
  · exact p.elim
theorem sl_sum : SL C (rSum C.K) Z.fSum := by
  intro ex bs h H E xs ds Q hr rs p
  unfold Z.fSum at p
  split at p
  · obtain ⟨v, rfl, r⟩ := one_v rs
    obtain ⟨ns, e, p⟩ := p.oR
    obtain ⟨a, rfl, hq⟩ := asLi_at hr r e
    exact ⟨a, ns, rfl, hq, p.now hr (by simp only [RV])⟩
  · exact p.elim
theorem maxI_mem : ∀ (ns : List Int), 0 < ns.length → Z.maxI ns ∈ ns
  | [a], _ => by simp [Z.maxI]
  | a :: b :: r, _ => by
    have ih := maxI_mem (b :: r) (by simp)
    unfold Z.maxI
    split
    · exact List.mem_cons_of_mem _ ih
    · exact List.mem_cons_self ..
theorem maxI_ge : ∀ (ns : List Int), ∀ a ∈ ns, a ≤ Z.maxI ns
  | [a], x, hx => by simp at hx; subst hx; simp [Z.maxI]
  | a :: b :: r, x, hx => by
    have ih := maxI_ge (b :: r)
    unfold Z.maxI
    rcases List.mem_cons.mp hx with rfl | hx
    · split <;> omega
    · have := ih x hx
      split <;> omega
theorem sl_max : SL C (rMax C.K) Z.fMax := by
  intro ex bs h H E xs ds Q hr rs p
  unfold Z.fMax at p
  split at p
  · obtain ⟨v, u, rfl, r1, r2⟩ := two_v rs
    simp only [RV] at r1 r2; subst r1 r2
    exact .inl ⟨_, _, rfl, p.now hr (by simp only [RV])⟩
  · obtain ⟨v, rfl, r⟩ := one_v rs
    obtain ⟨ns, e, p⟩ := p.oR
    obtain ⟨q, p⟩ := p.chk
    simp only [RV] at r
    obtain ⟨a, vs, rfl, ga, qs⟩ := r
    have := ints_v qs e
    subst this
    refine .inr ⟨a, ns, rfl, SqT.of (gh_le _ _ ga), q, fun M hm hle => ?_⟩
    have e1 : M = Z.maxI ns := by
      have h1 := maxI_ge ns M hm
      have h2 := hle _ (maxI_mem ns q)
      omega
    rw [e1]
    exact p.now hr (by simp only [RV])
  · exact p.elim
theorem sl_min : SL C rMin Z.fMin := by
  intro ex bs h H E xs ds Q hr rs p
  unfold Z.fMin at p
  split at p
  · obtain ⟨v, u, rfl, r1, r2⟩ := two_v rs
    simp only [RV] at r1 r2; subst r1 r2
    exact ⟨_, _, rfl, p.now hr (by simp only [RV])⟩
  · exact p.elim
theorem sl_all : SL C (rAll C.K) Z.fAll := by
  intro ex bs h H E xs ds Q hr rs p
  unfold Z.fAll at p
  split at p
  · obtain ⟨v, rfl, r⟩ := one_v rs
    obtain ⟨bb, e, p⟩ := p.oR
    rw [Option.bind_eq_some_iff] at e
    obtain ⟨ys, e1, e2⟩ := e
    obtain ⟨a, vs, rfl, ha, qs⟩ := asL_at hr r e1
    have := bools_v qs e2
    subst this
    exact ⟨a, bb, rfl, SqL.of ha, p.now hr (by simp only [RV])⟩
  · exact p.elim
theorem sl_int : SL C rInt Z.fInt := by
  intro ex bs h H E xs ds Q hr rs p
  unfold Z.fInt at p
  split at p
  · obtain ⟨v, rfl, r⟩ := one_v rs
    simp only [RV] at r; subst r
    exact .inl (.inl ⟨_, rfl, p.now hr (by simp only [RV])⟩)
  · obtain ⟨v, rfl, r⟩ := one_v rs
    simp only [RV] at r; subst r
    exact .inl (.inr ⟨_, rfl, p.now hr (by simp only [RV])⟩)
  · obtain ⟨q, p⟩ := p.chk
    obtain ⟨n, e, p⟩ := p.oR
    obtain ⟨v, rfl, r⟩ := one_v rs
    simp only [RV] at r; subst r
    exact .inr ⟨_, n, rfl, q, e, p.now hr (by simp only [RV])⟩
  · exact p.elim
theorem sl_str : SL C rStr Z.fStr := by
  intro ex bs h H E xs ds Q hr rs p
  unfold Z.fStr at p
  split at p
  · obtain ⟨q, p⟩ := p.chk
    obtain ⟨v, rfl, r⟩ := one_v rs
    simp only [RV] at r; subst r
    exact ⟨_, rfl, q, p.now hr (by simp only [RV]; rfl)⟩
  · exact p.elim
theorem sl_tuple : SL C (fun xs H Q => ∃ p ys, xs = [.ref p] ∧ ((SqL C.K H p ys ∧ ∀ l, H l = none → Q (.ref l) (upd H l (.tup ys))) ∨ (SqT C.K H p ys ∧ Q (.ref p) H))) Z.fTuple := by
  intro ex bs h H E xs ds Q hr rs p
  unfold Z.fTuple at p
  split at p
  · obtain ⟨v, rfl, r⟩ := one_v rs
    have r' := r
    simp only [RV] at r
    obtain ⟨a, vs, rfl, ga, qs⟩ := r
    exact ⟨a, vs, rfl, .inr ⟨SqT.of (gh_le _ _ ga), p.now hr r'⟩⟩
  · rename_i d hnt
    obtain ⟨v, rfl, r⟩ := one_v rs
    obtain ⟨ys, e, p⟩ := p.oR
    obtain ⟨a, vs, rfl, hq, qs⟩ := asQ_nt hr r (fun ds z => hnt ds (by rw [z])) e
    exact ⟨a, vs, rfl, .inl ⟨hq, fun l hl => Post.ttup hr p hl qs⟩⟩
  · exact p.elim
/-! ### isinstance -/
/-! ### texts -/
noncomputable def SM (C : Ct) (r : V → List V → Hp → VK → Prop) (f : Str → List Z.D → Z.MH → Z.Res Z.D) : Prop := ∀ (ex bs : List Addr) (h : Z.MH) (H : Hp) (E : XK) (z : Str) (xs : List V) (ds : List Z.D) (Q : VK), HR C ex bs h H → RVs C bs (gh ex bs h H) xs ds → Post C ex E bs h H (RV C) (f z ds h) Q → r (.str z) xs H Q
theorem s_sm {r : V → List V → Hp → VK → Prop} {f : Str → List Z.D → Z.MH → Z.Res Z.D} {to : TE} {tl : TA} {mo : Z.ME} {ml : Z.ML} (o : SM C r f) (ho : SE C E to mo) (hl : SA C E tl ml) : SE C E (tBM C.K "str" r to tl) (Z.mSm f mo ml) := by
  intro ex bs h ρ σ H Q hr re p
  refine ho ex bs h ρ σ H _ hr re (p.bind fun d x h1 bs1 H1 e1 rx p1 => ?_)
  cases d with
  | str z =>
    simp only [RV] at rx; subst rx
    refine ⟨rfl, hl ex bs1 h1 ρ σ H1 _ e1.hr (re.ev e1) (p1.bind fun ds xs h2 bs2 H2 e2 rs p2 => ?_)⟩
    exact o ex bs2 h2 H2 E z xs ds Q e2.hr rs p2
  | _ => exact p1.elim
theorem s_sm0 {r : V → List V → Hp → VK → Prop} {f : Str → List Z.D → Z.MH → Z.Res Z.D} {to : TE} {mo : Z.ME} (o : SM C r f) (ho : SE C E to mo) : SE C E (tBM0 C.K "str" r to) (Z.mSm f mo Z.mNil) := by
  intro ex bs h ρ σ H Q hr re p
  refine ho ex bs h ρ σ H _ hr re (p.bind fun d x h1 bs1 H1 e1 rx p1 => ?_)
  cases d with
  | str z =>
    simp only [RV] at rx; subst rx
    exact ⟨rfl, o ex bs1 h1 H1 E z [] [] Q e1.hr (by simp only [RVs]) p1⟩
  | _ => exact p1.elim
theorem sm_upper : SM C rUpper Z.fUpper := by
  intro ex bs h H E z xs ds Q hr rs p
  unfold Z.fUpper at p
  split at p
  · obtain ⟨q, p⟩ := p.chk
    have : xs = [] := by cases xs with | nil => rfl | cons _ _ => simp only [RVs] at rs
    subst this
    exact ⟨z, rfl, rfl, q, p.now hr (by simp only [RV])⟩
  · exact p.elim
theorem sm_join : SM C (rJoin C.K) Z.fJoin := by
  intro ex bs h H E z xs ds Q hr rs p
  unfold Z.fJoin at p
  split at p
  · obtain ⟨ys, e, p⟩ := p.oR
    obtain ⟨q, p⟩ := p.chk
    obtain ⟨v, rfl, r⟩ := one_v rs
    rw [Option.bind_eq_some_iff] at e
    obtain ⟨ds', e1, e2⟩ := e
    obtain ⟨a, vs, rfl, ha, qs⟩ := asL_at hr r e1
    have := strs_v qs e2
    subst this
    exact ⟨z, a, ys, rfl, rfl, SqL.of ha, q, p.now hr (by simp only [RV])⟩
  · exact p.elim
theorem n_split {to : TE} {tl : TA} {mo : Z.ME} {ml : Z.ML} (ho : SE C E to mo) (hl : SA C E tl ml) : SN C E (tBM C.K "str" rSplit to tl) (Z.lSplit mo ml) := by
  intro ex bs h ρ σ H Q hr re p
  refine ho ex bs h ρ σ H _ hr re (PostN.bind p fun d x h1 bs1 H1 e1 rx p1 => ?_)
  cases d with
  | str z =>
    simp only [RV] at rx; subst rx
    refine ⟨rfl, hl ex bs1 h1 ρ σ H1 _ e1.hr (re.ev e1) (PostN.bind p1 fun ds xs h2 bs2 H2 e2 rs p2 => ?_)⟩
    split at p2
    · rename_i y
      obtain ⟨q, p2⟩ := p2.chk
      obtain ⟨v, rfl, r⟩ := one_v rs
      simp only [RV] at r; subst r
      exact ⟨z, y, rfl, rfl, q.1, q.2.1, q.2.2, fun a H' ha ha' sm => PostN.ext e2.hr p2 ha ha' sm (strs_rv _)⟩
    · exact p2.elim
  | _ => exact p1.elim
/-! ### f-strings -/
noncomputable def SJ (C : Ct) (E : XK) (t : TJ) (m : Z.MJ) : Prop := ∀ out : Str, Snd C E REq (t out) (m out)
/-! ### raise -/
theorem ss_raise {a : Addr} {c : String} {t : TE} {m : Z.ME} (ea : C.cm c = a) (ht : SE C E t m) : SS C E (tRaise a E t) (Z.sRaise c m) := by
  intro ex bs h ρ σ H D hr re p
  refine ht ex bs h ρ σ H _ hr re (p.bind fun d x h1 bs1 H1 e1 rx p1 => ?_)
  exact ⟨x, rfl, by rw [← ea]; exact p1 bs1 H1 (Ev.refl e1.hr)⟩
/-! ### dicts -/
end
end L2

namespace L2
open PySem PySem.Spec PyProof.Rows
/-- the law's own promise -/
noncomputable def spL (K : PySem.W.Frag) : Sp := fun vs H Q _ => ∃ (a : Addr) (ns : List Int), vs = [.ref a] ∧ SqL K H a (ns.map V.int) ∧ ns.length ≤ 63 ∧ ∀ H', Q (.bl true) H'
theorem spL_of (K : PySem.W.Frag) (H : Hp) (a : Addr) (ns : List Int) (hl : ns.length ≤ 63) (hO : Only H) (hS : SqL K H a (ns.map V.int)) : spL K [.ref a] H (fun v _ => v = .bl true) fun _ _ _ => False := ⟨a, ns, rfl, hS, hl, fun _ => rfl⟩
theorem gh_nil {H : Hp} : gh [] [] [] H = H := by
  funext x
  unfold gh
  rw [if_neg]
  rintro (z | ⟨k, c, z, _⟩)
  · cases z
  · simp at z
theorem law_ok {C : Ct} {P : Program} {w : World} {mg : Str → Option Value} {base : Heap} {CX : CXT} {k : Nat} {f : Addr} {fd : FuncData} {ps : List Str} {z : Z.MF} (F : FnOk P w C.K mg base CX k f fd ps (spZ C z))
    (hz : ∀ ns : List Int, ns.length ≤ 63 → ∃ h, z [.arg ns] [] = .ok (.bl true) h) : FnOk P w C.K mg base CX k f fd ps (spL C.K) := by
  refine F.imp fun vs H Q E q => ?_
  obtain ⟨a, ns, rfl, hS, hl, q⟩ := q
  obtain ⟨h, e⟩ := hz ns hl
  refine ⟨[], [], [], [.arg ns], ⟨rfl, fun i j a e => by simp at e, fun a m => (by cases m), fun a m => (by cases m), fun a m => (by cases m), fun k a c e => by simp at e⟩, ?_, ?_⟩
  · rw [gh_nil]; simp only [RVs, RV]; exact ⟨⟨a, rfl, hS⟩, trivial⟩
  · rw [e]
    intro v bs' H' _ rv
    simp only [RV] at rv
    subst rv; exact q H'
theorem walk_ofE {l : PySem.W.OpenLaw} {n k : Nat} {q : Program} {loose : List Str} {XP : (Str → Option Value) → Heap → Prop} {YP : World → Heap → Prop} {d : DefRec} {K : Params → PySem.W.Frag} {CX : World → CXT} {sp : PySem.W.Frag → Sp} {x : Str}
    (hn : l.most = some n) (hn2 : n ≤ sizeLine) (hdf : d.params.defaults = []) (hr : Room k callerA)
    (hY : ∀ (w : World) (h : Heap), YP w h → (K w.params).In h)
    (F : ∀ (w : World) (mg : Str → Option Value) (fa : Addr) (h : Heap), (K w.params).In h → h.Ns mainGlobals mg → mg d.name = some (.ref fa) →
      ∃ fd : FuncData, (∀ (s : Shared) (u : Value), BindsTo s fd ⟨[u], []⟩ [(x, u)]) ∧
        ∀ base : Heap, (K w.params).In base → base.Ns mainGlobals mg → FnOk l.prog w (K w.params) mg base (CX w) k fa fd [x] (sp (K w.params)))
    (hsp : ∀ (K : PySem.W.Frag) (H : Hp) (a : Addr) (ns : List Int), ns.length ≤ n → Only H → SqL K H a (ns.map V.int) → sp K [.ref a] H (fun v _ => v = .bl true) fun _ _ _ => False)
    (hCX : ∀ (w : World) (H : Hp) (s : Shared) (e : Value) (s' : Shared), CX w [] H s (fun _ _ _ => False) e s' → False) :
    PySem.W.WalkO q loose XP YP l.row.toRowW d [] (fun f vs => PySem.call f vs) :=
  walk_of (K := K) (CX := CX) (sp := fun w => sp (K w.params)) hn hn2 hdf hr hY F (fun w H a ns h1 h2 h3 => hsp (K w.params) H a ns h1 h2 h3) hCX
/-! ### a dict of the module -/
noncomputable def EntsLit : List DictEntry → List (Key × V) → Prop
  | [], [] => True
  | e :: es, (k, v) :: r => (∃ x t, e.key = .str x t ∧ k = Sum.inr x) ∧ RelV v e.val ∧ EntsLit es r
  | _, _ => False
theorem ents_pairs {P : Program} {w : World} : ∀ {es : List DictEntry} {kvs : List (Key × V)}, EntsLit es kvs → ∃ vs : List (Key × Value), KV kvs vs ∧ Pairs (mixKind P w) es vs ∧ vs.map (·.1) = kvs.map (·.1)
  | [], [], _ => ⟨[], .nil, .nil, rfl⟩
  | e :: es, (k, v) :: r, h => by
    obtain ⟨⟨x, t, h1, h2⟩, h3, h4⟩ := h
    obtain ⟨vs, a, b, c⟩ := ents_pairs (P := P) (w := w) h4
    refine ⟨(k, e.val) :: vs, .cons ⟨rfl, h3⟩ a, .cons ?_ rfl b, by simp [c]⟩
    rw [h1, h2]
    exact mixKind_str P w x t
  | [], _ :: _, h => h.elim
  | _ :: _, [], h => h.elim
theorem kdict_of {P : Program} {w : World} {K : PySem.W.Frag} {a : Addr} {es : Array DictEntry} {n : Nat} {kvs : List (Key × V)} (hl : K.lookup a = some ⟨.type "dict", none, .dict es n, #[]⟩) (ha : (a == sysModules) = false)
    (hk : PySem.W.KeysLit w.params es.toList) (hp : EntsLit es.toList kvs) (nd : (kvs.map (·.1)).Nodup) : KDict P w K a kvs := by
  intro h X
  obtain ⟨vs, a1, b, c⟩ := ents_pairs (P := P) (w := w) hp
  refine ⟨ha, vs, a1, _, es, n, X _ _ hl, ⟨rfl, rfl, rfl⟩, rfl, fun e he => ?_, b, by rw [c]; exact nd⟩
  obtain ⟨x, t, e1, e2⟩ := hk.all e (Array.mem_toList_iff.mpr he)
  exact ⟨.inr x, by rw [e1]; exact mixKind_str P w x t, e2⟩
theorem s_yes {C : Ct} {E : XK} : ST C E tYes Z.tYes := fun ex bs h ρ σ H Q hr re p => Post.now hr p rfl
/-! ### the rules with the module's part said by name (a comprehension's block must not name its own) -/
section
variable {X : Cx} {P : Program} {w : World} {K : PySem.W.Frag}
theorem op_addK (k : X.K = K) : OpR X (binaryOp .Add) (uAdd K) := by subst k; exact op_addU
theorem ix_K (p : X.prog = P) (w' : X.w = w) (k : X.K = K) (hu : X.A.units + 64 < cLine) : IxR X (uIx P w K) := by subst p w' k; exact ix_U hu
theorem op_inK (p : X.prog = P) (w' : X.w = w) (k : X.K = K) (hu : X.A.units + 64 < cLine) : OpR X (compareOp .In) (uIn P w K false) := by subst p w' k; exact op_inU hu
theorem op_notInK (p : X.prog = P) (w' : X.w = w) (k : X.K = K) (hu : X.A.units + 64 < cLine) : OpR X (compareOp .NotIn) (uIn P w K true) := by subst p w' k; exact op_notInU hu
theorem sl_K (k : X.K = K) : SlR X (uSlS K) := by subst k; exact sl_S
theorem pe_tbm0 {e : Expr} {T : String} {r : V → List V → Hp → VK → Prop} {to : TE} (k : X.K = K) (h : PE X e (tBM0 X.K T r to)) : PE X e (tBM0 K T r to) := by subst k; exact h
theorem pe_sliceXK {e : Expr} {lo hi : Option Expr} {st : Expr} {te : TE} {tl th ts : TO} {pos p2 : Pos} (k : X.K = K) (he : PE X e te) (hl : PO X lo tl) (hu : PO X hi th) (hs : PO X (some st) ts) :
    PE X (.Subscript e (.Slice lo hi (some st) p2) pos) (tSlX K te tl th ts) := by subst k; exact pe_sliceX he hl hu hs
theorem call_lenK (p : X.prog = P) (w' : X.w = w) (k : X.K = K) : CallR X (.builtin "len") (rLenV P w K) := by subst p w' k; exact call_lenV
theorem call_sumK (k : X.K = K) (hc : X.calm = true) : CallR X (.builtin "sum") (rSum K) := by subst k; exact call_sum hc
theorem call_maxK (k : X.K = K) (hc : X.calm = true) : CallR X (.builtin "max") (rMax K) := by subst k; exact call_maxU hc
theorem call_allK (k : X.K = K) (hc : X.calm = true) : CallR X (.builtin "all") (rAll K) := by subst k; exact call_all hc
theorem call_tupleK (k : X.K = K) : CallR X (.type "tuple") (fun xs H Q => ∃ p ys, xs = [.ref p] ∧ ((SqL K H p ys ∧ ∀ l, H l = none → Q (.ref l) (upd H l (.tup ys))) ∨ (SqT K H p ys ∧ Q (.ref p) H))) := by subst k; exact call_tuple_of
theorem mt_joinK (k : X.K = K) : MtR X "str.join" (rJoin K) := by subst k; exact mt_join
theorem pt_truthK {a : Expr} {ta : TE} (k : X.K = K) (ha : PE X a ta) (he : ∀ whole, isTrue a X.env whole = (do let v ← whole; standAt a.pos; holding [v] (truthy v))) :
    PT X a (fun σ H Q => ta σ H fun x H' => ∃ k, TruV K x H' k ∧ Q k H') := by subst k; exact pt_truth ha he
theorem pe_notK {a : Expr} {ta : TE} {pos : Pos} (k : X.K = K) (ha : PE X a ta) : PE X (.UnaryOp .Not a pos) (fun σ H Q => ta σ H fun x H1 => ∃ k, TruV K x H1 k ∧ Q (.bl (!k)) H1) := by subst k; exact pe_notT ha
theorem pi_K {tg l : Expr} {tl : TE} (k : X.K = K) (hl : PE X l tl) : PI X tg l (iV K tl) := by subst k; exact pi_V hl
theorem pe_tbm {e : Expr} {T : String} {r : V → List V → Hp → VK → Prop} {to : TE} {t : TA} (k : X.K = K) (h : PE X e (tBM X.K T r to t)) : PE X e (tBM K T r to t) := by subst k; exact h
end
end L2

namespace L2
open PySem PySem.Spec PyProof.Rows
/-! ### try, except, isinstance of what was caught -/
section
variable {C : Ct} {E : XK} {ex bs bs1 : List Addr} {h : Z.MH} {H : Hp} {α β : Type} {R : List Addr → Hp → β → α → Prop}
theorem Post.noX {r : Z.Res α} {Q : β → Hp → Prop} (p : Post C ex E bs h H R r.noX Q) : Post C ex E0 bs h H R r Q := by
  cases r with
  | ok a h' => exact p
  | exc c h' => exact p.elim
  | stuck => exact p
theorem s_noxA {t : TA} {m : Z.ML} (q : SA C E0 t m) : SA C E t (Z.lNox m) := fun ex bs hh ρ σ H Q hr re p => q ex bs hh ρ σ H Q hr re p.noX
/-- the body of a try -/
noncomputable def SX (C : Ct) (t : FK → TS) (m : Z.MS) : Prop :=
  ∀ (ex bs : List Addr) (h : Z.MH) (ρ : Z.Ro) (σ : St) (H : Hp) (D : Ends) (F : FK), HR C ex bs h H → RE C bs (gh ex bs h H) ρ σ → PostS C ex (FE (F σ)) bs h H (m ρ h) D → t F D σ H
noncomputable def SXE (C : Ct) (t : (Addr → Hp → Prop) → TE) (m : Z.ME) : Prop := ∀ F, SE C (FE F) (t F) m
theorem sxe_call {z : Z.MF} {tl : TA} {ml : Z.ML} (hl : SA C E0 tl ml) : SXE C (xCall (spZ C z) [] tl) (Z.mCall z (Z.lNox ml)) := fun F => s_call (E := FE F) (s_noxA hl)
theorem sx_drop {t : (Addr → Hp → Prop) → TE} {m : Z.ME} (q : SXE C t m) : SX C (sxDrop t) (Z.sDrop m) := fun ex bs h ρ σ H D F hr re p => ss_drop (q (F σ)) ex bs h ρ σ H D hr re p
/-- one statement -/
theorem sx_one {t : FK → TS} {m : Z.MS} (q : SX C t m) : SX C (sxSeq t (fun _ => tNext)) m := fun ex bs h ρ σ H D F hr re p => q ex bs h ρ σ H D F hr re p
/-! the clauses -/
noncomputable def SubOk (C : Ct) (W : Addr) (tab : List (String × Bool)) : Prop := ∀ c b, tab.lookup c = some b → PySem.W.subIn C.K (.ref (C.cm c)) (.ref W) = some b
theorem sub_nil {W : Addr} : SubOk C W [] := fun _ _ e => nomatch e
theorem sub_cons {W : Addr} {c : String} {b : Bool} {tab : List (String × Bool)} (q : PySem.W.subIn C.K (.ref (C.cm c)) (.ref W) = some b) (r : SubOk C W tab) : SubOk C W ((c, b) :: tab) := by
  intro x y e
  by_cases z : x = c
  · subst z
    simp at e; subst e; exact q
  · rw [List.lookup_cons, beq_eq_false_iff_ne.mpr z] at e; exact r x y e
theorem RE.unset {G : Hp} {ρ : Z.Ro} {σ : St} {i : Nat} (r : RE C bs G ρ σ) : RE C bs G (ρ.set i none) (σ.set i none) := by
  refine ⟨by simp [r.1], fun j e hj => ?_⟩
  by_cases hij : i = j
  · subst hij
    rw [List.getElem?_set_self'] at hj
    cases q : ρ[i]? with
    | none => rw [q] at hj; simp at hj
    | some o => rw [q] at hj; simp at hj
  · rw [List.getElem?_set_ne hij] at hj
    obtain ⟨u, h1, h2⟩ := r.2 j e hj
    exact ⟨u, by rw [List.getElem?_set_ne hij]; exact h1, h2⟩
theorem PostS.gone {r : Z.RS} {i : Nat} {D : Ends} (p : PostS C ex E bs h H (r.noX.gone i) D) : PostS C ex E0 bs h H r (D.gone i) := by
  cases r with
  | nx ρ1 h1 => exact fun σ' bs' H' e' re' => p _ bs' H' e' re'.unset
  | bk ρ1 h1 => exact fun σ' bs' H' e' re' => p _ bs' H' e' re'.unset
  | ct ρ1 h1 => exact fun σ' bs' H' e' re' => p _ bs' H' e' re'.unset
  | rt d h1 => exact p
  | exc c h1 => exact p.elim
  | stuck => exact p.elim
theorem sh_nil {c : String} : SS C E (hNil (C.cm c)) (Z.cNil c) := fun ex bs h ρ σ H D hr re p => p.elim
theorem sh_as {W : Addr} {i : Nat} {tab : List (String × Bool)} {th : TS} {m : Z.MS} {rest : Addr → TS} {r : String → Z.MS} (ht : SubOk C W tab) (hm : SS C E0 th m) (hrest : ∀ c, SS C E (rest (C.cm c)) (r c)) (c : String) :
    SS C E (hAs C.K W i th rest (C.cm c)) (Z.cAs tab i m r c) := by
  intro ex bs h ρ σ H D hr re p
  unfold Z.cAs at p
  cases e : tab.lookup c with
  | none => rw [e] at p; exact p.elim
  | some b =>
    rw [e] at p
    refine ⟨b, ht c b e, ?_⟩
    cases b with
    | false => exact hrest c ex bs h ρ σ H D hr re p
    | true =>
      intro ea oe hn hc
      obtain ⟨e2, g⟩ := Ev.alloc (o := .frz oe (.own 0)) hr hn
      exact hm ex bs h _ _ _ (D.gone i) e2.hr ((re.ev e2).set (v := .ref ea) (d := .exc c) (by simp only [RV]; exact ⟨ea, oe, _, rfl, g, hc⟩)) ((PostS.gone p).from e2)
theorem ss_try {tb : FK → TS} {th : Addr → TS} {m : Z.MS} {f : String → Z.MS} (hb : SX C tb m) (hh : ∀ c, SS C E (th (C.cm c)) (f c)) : SS C E (tTry tb th) (Z.sTry m f) := by
  intro ex bs h ρ σ H D hr re p
  refine hb ex bs h ρ σ H D _ hr re ?_
  unfold Z.sTry at p
  cases e : m ρ h with
  | exc c h1 => rw [e] at p; exact fun bs' H' e' => ⟨C.cm c, rfl, hh c ex bs' h1 ρ σ H' D e'.hr (re.ev e') (p.from e')⟩
  | nx ρ1 h1 => rw [e] at p; exact p
  | rt d h1 => rw [e] at p; exact p
  | bk ρ1 h1 => rw [e] at p; exact p
  | ct ρ1 h1 => rw [e] at p; exact p
  | stuck => rw [e] at p; exact p
/-! isinstance -/
noncomputable def rIsx (K : PySem.W.Frag) : List V → Hp → VK → Prop := fun xs H Q => ∃ a v2 cv oe u C b, xs = [.ref a, v2] ∧ ((∃ W, v2 = .ref W ∧ cv = .ref W) ∨ ∃ n, v2 = .ty n ∧ cv = .type n) ∧ H a = some (.frz oe u) ∧ oe.cls = .ref C ∧ IsiC K C ∧ PySem.W.kitOne K (.ref C) cv = some b ∧ Q (.bl b) H
theorem call_isxK {X : Cx} {K : PySem.W.Frag} (k : X.K = K) : CallR X (.builtin "isinstance") (rIsx K) := by
  subst k
  intro pins s σ H xs us Q I r h
  obtain ⟨a, v2, cv, oe, u, C, b, rfl, hv, hH, hc, ic, hk, q⟩ := h
  cases r with
  | cons r1 rr =>
    cases rr with
    | cons r2 rr =>
      cases rr
      cases r1
      rcases hv with ⟨W, rfl, rfl⟩ | ⟨n, rfl, rfl⟩
      · cases r2; exact isexc_ok I hH hc ic hk fun tk => ⟨.bl b, H, I.tok tk, rfl, q⟩
      · cases r2; exact isexc_ok I hH hc ic hk fun tk => ⟨.bl b, H, I.tok tk, rfl, q⟩
noncomputable def IsxOk (C : Ct) (tab : List ((String × Bool × String) × Bool)) : Prop := ∀ c k n b, tab.lookup (c, k, n) = some b → IsiC C.K (C.cm c) ∧ PySem.W.kitOne C.K (.ref (C.cm c)) (if k = true then .ref (C.cm n) else .type n) = some b
theorem isx_nil : IsxOk C [] := fun _ _ _ _ e => nomatch e
theorem isx_cons {c n : String} {k b : Bool} {tab : List ((String × Bool × String) × Bool)} (q : IsiC C.K (C.cm c)) (q2 : PySem.W.kitOne C.K (.ref (C.cm c)) (if k = true then .ref (C.cm n) else .type n) = some b) (r : IsxOk C tab) : IsxOk C (((c, k, n), b) :: tab) := by
  intro x k' n' y e
  by_cases z : (x, k', n') = (c, k, n)
  · cases z
    simp at e; subst e; exact ⟨q, q2⟩
  · rw [List.lookup_cons, beq_eq_false_iff_ne.mpr z] at e; exact r x k' n' y e
theorem sl_isx {tab : List ((String × Bool × String) × Bool)} (ht : IsxOk C tab) : SL C (rIsx C.K) (Z.fIsx tab) := by
  intro ex bs h H E xs ds Q hr rs p
  unfold Z.fIsx at p
  split at p
  · obtain ⟨b, e, p⟩ := p.oR
    obtain ⟨v, u, rfl, r1, r2⟩ := two_v rs
    simp only [RV] at r1 r2; subst r2
    obtain ⟨a, oe, u, rfl, g, hc⟩ := r1
    obtain ⟨i1, i2⟩ := ht _ _ _ _ e
    exact ⟨a, _, _, oe, u, _, b, rfl, .inl ⟨_, rfl, rfl⟩, gh_le _ _ g, hc, i1, by simpa using i2, p.now hr (by simp only [RV])⟩
  · obtain ⟨b, e, p⟩ := p.oR
    obtain ⟨v, u, rfl, r1, r2⟩ := two_v rs
    simp only [RV] at r1 r2; subst r2
    obtain ⟨a, oe, u, rfl, g, hc⟩ := r1
    obtain ⟨i1, i2⟩ := ht _ _ _ _ e
    exact ⟨a, _, _, oe, u, _, b, rfl, .inr ⟨_, rfl, rfl⟩, gh_le _ _ g, hc, i1, by simpa using i2, p.now hr (by simp only [RV])⟩
  · exact p.elim
/-! with another name for the module's part -/
theorem ph_asK {X : Cx} {K : PySem.W.Frag} {hs : List ExceptHandler} {W : Addr} {i : Nat} {th : TS} {tr : Addr → TS} (k : X.K = K) (q : PH X hs (hAs X.K W i th tr)) : PH X hs (hAs K W i th tr) := by subst k; exact q
end
end L2

namespace L2
open PySem PySem.Spec
section
variable {C : Ct} {ex bs bs1 bs2 : List Addr} {h h1 h2 : Z.MH} {H H1 H2 : Hp} {E : XK}
/-! ### own objects -/
/-- the classes of the table have no such name -/
noncomputable def FldOk (C : Ct) (f : Str) (tab : List String) : Prop := ∀ c ∈ tab, Cls C.K (C.cm c) ∧ NoAttr C.K (C.cm c) f
/-- the methods of the table -/
noncomputable def MethT (C : Ct) (mg : Str → Option Value) (base : Heap) (k : Nat) (m : Str) (tab : List (String × Z.MF)) : Prop :=
  ∀ c z, tab.lookup c = some z → Cls C.K (C.cm c) ∧ MethG C.P C.w C.K mg base (CXE C.P C.w) k (C.cm c) m (spZ C z)
/-! ### enumerate -/
end
end L2

namespace L2
open PySem PyProof
variable {C : Ct} {E : XK} {ex bs bs1 : List Addr} {h h1 : Z.MH} {H H1 : Hp}
theorem PostN.oR {α : Type} {o : Option α} {f : α → Z.MH → Z.Res (List Z.D)} {Q : VK} (p : PostN C ex E bs h H ((Z.oR o h1).bind f) Q) : ∃ a, o = some a ∧ PostN C ex E bs h H (f a h1) Q := by
  cases o with
  | none => exact p.elim
  | some a => exact ⟨a, rfl, p⟩
theorem n_add {ta tb : TE} {ma mb : Z.ME} (ha : SE C E ta ma) (hb : SE C E tb mb) : SN C E (tOp (uAdd C.K) ta tb) (Z.lAdd ma mb) := by
  intro ex bs h ρ σ H Q hr re p
  refine ha ex bs h ρ σ H _ hr re (PostN.bind p fun dx x h1 bs1 H1 e1 rx p1 => ?_)
  refine hb ex bs1 h1 ρ σ H1 _ e1.hr (re.ev e1) (PostN.bind p1 fun dy y h2 bs2 H2 e2 ry p2 => ?_)
  obtain ⟨xs, a1, p2⟩ := p2.oR
  obtain ⟨ys, a2, p2⟩ := p2.oR
  obtain ⟨q, p2⟩ := p2.chk
  obtain ⟨a, vs, rfl, ha', rs⟩ := asL_at e2.hr (rx.ev e2) a1
  obtain ⟨b, ws, rfl, hb', qs⟩ := asL_at e2.hr ry a2
  exact .inl ⟨a, b, vs, ws, rfl, rfl, ha', hb', by rw [rs.len, qs.len]; exact q, fun l hl => PostN.now e2.hr p2 hl (rs.append qs)⟩
end L2

namespace L2
open PySem PySem.Spec
section
variable {C : Ct} {ex bs bs1 bs2 : List Addr} {h h1 h2 : Z.MH} {H H1 H2 : Hp} {E : XK}
/-! ### {k: v}, d.get -/
noncomputable def wo (H : Hp) (p : Addr) : Hp := fun a => if a = p then none else H a
end
end L2
namespace L2
open PySem PySem.Spec
section
variable {X : Cx} {K : PySem.W.Frag}
end
end L2

namespace Z
open PySem
/-! ### comprehensions and loops that leave the cells as they are -/
/-- by the place, from the ints of a range or of a list -/
theorem compLoop_mapI {α : Type} {g : MG} {t : MT} {m : ME} {ρ0 : Ro} {h : MH} (e : α → D) (r : α → Ro) (f : α → D) : ∀ (as : List α), (∀ a ∈ as, g (e a) ρ0 h = .nx (r a) h ∧ t (r a) h = .ok true h ∧ m (r a) h = .ok (f a) h) → compLoop g t m ρ0 (as.map e) h = .ok (as.map f) h
  | [], _ => by unfold compLoop; rfl
  | a :: as, q => by
    obtain ⟨h1, h2, h3⟩ := q a (List.mem_cons_self ..)
    rw [List.map_cons]
    unfold compLoop
    simp only [h1, h2, h3, compLoop_mapI e r f as fun b hb => q b (List.mem_cons_of_mem _ hb), List.map_cons]
@[simp] theorem intsD_map (ns : List Int) : intsD (ns.map D.int) = some ns := by
  induction ns with
  | nil => rfl
  | cons n ns ih => simp [ih]
@[simp] theorem boolsD_map (ns : List Bool) : boolsD (ns.map D.bl) = some ns := by
  induction ns with
  | nil => rfl
  | cons n ns ih => simp [ih]
@[simp] theorem rng_length (lo : Int) (n : Nat) : (rng lo n).length = n := by simp [rng]
@[simp] theorem sIx_one (n : Nat) : sIx (n + 1) 0 (some 1) = 1 := by simp [sIx]
@[simp] theorem cut_one {α : Type} (x : α) (xs : List α) : cut (x :: xs) (some 1) none = xs := by
  unfold cut
  rw [show sIx (x :: xs).length 0 (some 1) = 1 by simp [sIx]]
  simp [sIx]
@[simp] theorem atI_zero {α : Type} (a : α) (l : List α) : atI (a :: l) 0 = some a := by simp [atI, ixN]
@[simp] theorem atI_one {α : Type} (a b : α) (l : List α) : atI (a :: b :: l) 1 = some b := by
  unfold atI ixN
  rw [if_pos (by decide), if_pos (by simp only [List.length_cons]; omega)]; rfl
@[simp] theorem atI_two {α : Type} (a b c : α) (l : List α) : atI (a :: b :: c :: l) 2 = some c := by
  unfold atI ixN
  rw [if_pos (by decide), if_pos (by simp only [List.length_cons]; omega)]; rfl
/-! ### texts -/
theorem cut_eq {c : Nat} : ∀ {a b x y : List Nat}, c ∉ a → c ∉ b → a ++ c :: x = b ++ c :: y → a = b ∧ x = y
  | [], [], x, y, _, _, e => ⟨rfl, (List.cons.inj e).2⟩
  | [], k :: b, x, y, _, hb, e => by
    have := (List.cons.inj e).1
    exact absurd (by rw [this]; exact List.mem_cons_self ..) hb
  | k :: a, [], x, y, ha, _, e => by
    have := (List.cons.inj e).1
    exact absurd (by rw [← this]; exact List.mem_cons_self ..) ha
  | k :: a, j :: b, x, y, ha, hb, e => by
    obtain ⟨e1, e2⟩ := List.cons.inj e
    obtain ⟨h1, h2⟩ := cut_eq (fun m => ha (List.mem_cons_of_mem _ m)) (fun m => hb (List.mem_cons_of_mem _ m)) e2
    exact ⟨by rw [e1, h1], h2⟩
theorem no_cut {c : Nat} {a b x : List Nat} (ha : c ∉ a) (e : a = b ++ c :: x) : False := ha (by rw [e]; simp)
theorem str_ext {a b : Str} (h : a.cps.toList = b.cps.toList) : a = b := by
  obtain ⟨⟨x⟩⟩ := a
  obtain ⟨⟨y⟩⟩ := b
  simp at h; rw [h]
theorem join_cons {c : Nat} {p q : Str} {r : List Str} : (Str.join ⟨#[c]⟩ (p :: q :: r)).cps.toList = p.cps.toList ++ c :: (Str.join ⟨#[c]⟩ (q :: r)).cps.toList := by
  show (p ++ ⟨#[c]⟩ ++ Str.join ⟨#[c]⟩ (q :: r)).cps.toList = _
  simp only [Str.cps_append, Array.toList_append]
  simp
theorem join_inj {c : Nat} : ∀ {ps qs : List Str}, ps ≠ [] → qs ≠ [] → (∀ p ∈ ps, c ∉ p.cps.toList) → (∀ q ∈ qs, c ∉ q.cps.toList) → Str.join ⟨#[c]⟩ ps = Str.join ⟨#[c]⟩ qs → ps = qs
  | [], _, h, _, _, _, _ => absurd rfl h
  | _, [], _, h, _, _, _ => absurd rfl h
  | [p], [q], _, _, _, _, e => by rw [show p = q from e]
  | [p], q :: q' :: r, _, _, hp, _, e => by
    have := congrArg (fun z : Str => z.cps.toList) e
    rw [join_cons] at this
    exact (no_cut (hp p (List.mem_cons_self ..)) this).elim
  | p :: p' :: r, [q], _, _, _, hq, e => by
    have := congrArg (fun z : Str => z.cps.toList) e
    rw [join_cons] at this
    exact (no_cut (hq q (List.mem_cons_self ..)) this.symm).elim
  | p :: p' :: r, q :: q' :: r', _, _, hp, hq, e => by
    have := congrArg (fun z : Str => z.cps.toList) e
    rw [join_cons, join_cons] at this
    obtain ⟨h1, h2⟩ := cut_eq (hp p (List.mem_cons_self ..)) (hq q (List.mem_cons_self ..)) this
    have := join_inj (ps := p' :: r) (qs := q' :: r') (fun z => nomatch z) (fun z => nomatch z) (fun a ha => hp a (List.mem_cons_of_mem _ ha)) (fun a ha => hq a (List.mem_cons_of_mem _ ha)) (str_ext h2)
    rw [this, str_ext h1]
theorem split_ne (x y : Str) : Txt.split x y ≠ [] := by
  unfold Txt.split
  split
  · exact fun z => nomatch z
  · split
    · exact fun z => nomatch z
    · rw [StrLaws.partsBetween_eq]
      obtain ⟨p, r, e⟩ := StrLaws.partsFrom_ne x y.length 0 (Builtin.Str.occurrences x y 0 x.length (x.length + 1))
      rw [e]; exact fun z => nomatch z
theorem split_join {c : Nat} {ps : List Str} (h0 : ps ≠ []) (h : ∀ p ∈ ps, c ∉ p.cps.toList) : Txt.split (Str.join ⟨#[c]⟩ ps) ⟨#[c]⟩ = ps :=
  join_inj (split_ne _ _) h0 (StrLaws.split_free _ c) h (StrLaws.join_split _ _)
theorem txt_join (s : Str) (ps : List Str) : Txt.join s ps = Str.join s ps := StrLaws.glued_eq_join s ps
theorem join_len {c : Nat} : ∀ (ps : List Str), ps ≠ [] → (Str.join ⟨#[c]⟩ ps).length + 1 = (ps.map (·.length)).sum + ps.length
  | [], h => absurd rfl h
  | [p], _ => by simp [Str.join]
  | p :: q :: r, _ => by
    have ih := join_len (c := c) (q :: r) (fun z => nomatch z)
    have e : (Str.join ⟨#[c]⟩ (p :: q :: r)).length = p.length + 1 + (Str.join ⟨#[c]⟩ (q :: r)).length := by
      show (p ++ ⟨#[c]⟩ ++ Str.join ⟨#[c]⟩ (q :: r)).length = _
      rw [Str.length_append, Str.length_append]; rfl
    rw [e]
    simp only [List.map_cons, List.sum_cons, List.length_cons] at ih ⊢
    omega
theorem split_len (x : Str) (c : Nat) : (Txt.split x ⟨#[c]⟩).length ≤ x.length + 1 := by
  have h := join_len (c := c) (Txt.split x ⟨#[c]⟩) (split_ne _ _)
  rw [StrLaws.join_split] at h
  omega

/-! ### == with itself -/
mutual
theorem eq_self : ∀ {d : D} {p : PyData}, d.py = some p → d.eq d = true
  | .non, _, _ => by simp [D.eq]
  | .bl b, _, _ => by simp [D.eq]
  | .int i, _, _ => by simp [D.eq]
  | .str x, _, _ => by simp [D.eq]
  | .tup ds, _, e => by
    simp only [D.py, Option.map_eq_some_iff] at e
    obtain ⟨ps, h, _⟩ := e
    simp only [D.eq]; exact eqs_self h
  | .lst ds, _, e => by
    simp only [D.py, Option.map_eq_some_iff] at e
    obtain ⟨ps, h, _⟩ := e
    simp only [D.eq]; exact eqs_self h
  | .arg _, _, e => by simp only [D.py] at e; cases e
  | .ref _, _, e => by simp only [D.py] at e; cases e
  | .ty _, _, e => by simp only [D.py] at e; cases e
  | .cls _, _, e => by simp only [D.py] at e; cases e
  | .exc _, _, e => by simp only [D.py] at e; cases e
  | .obj _ _, _, e => by simp only [D.py] at e; cases e
  | .dic _, _, e => by simp only [D.py] at e; cases e
theorem eqs_self : ∀ {ds : List D} {ps : List PyData}, D.pys ds = some ps → D.eqs ds ds = true
  | [], _, _ => by simp [D.eqs]
  | d :: ds, ps, e => by
    simp only [D.pys] at e
    split at e
    · rename_i p qs e1 e2
      simp only [D.eqs, Bool.and_eq_true]
      exact ⟨eq_self e1, eqs_self e2⟩
    · cases e
end
theorem dat_eq {d : D} (h : d.dat = true) : d.eq d = true := by
  unfold D.dat at h
  rw [Bool.and_eq_true, Option.isSome_iff_exists] at h
  obtain ⟨⟨p, hp⟩, _⟩ := h
  exact eq_self hp
/-- data of lists: each item's data, and its depth -/
theorem dat_items {ds : List D} {n : Nat} (h : ∀ d ∈ ds, d.py.isSome = true ∧ d.deep ≤ n) : (D.pys ds).isSome = true ∧ D.deeps ds ≤ n := by
  induction ds with
  | nil => exact ⟨by simp [D.pys], by simp [D.deeps]⟩
  | cons d ds ih =>
    obtain ⟨h1, h2⟩ := h d (List.mem_cons_self ..)
    obtain ⟨h3, h4⟩ := ih fun e he => h e (List.mem_cons_of_mem _ he)
    rw [Option.isSome_iff_exists] at h1 h3
    obtain ⟨p, hp⟩ := h1
    obtain ⟨ps, hps⟩ := h3
    exact ⟨by simp [D.pys, hp, hps], by simp only [D.deeps]; omega⟩
theorem dat_lst {ds : List D} {n : Nat} (h : ∀ d ∈ ds, d.py.isSome = true ∧ d.deep ≤ n) : (D.lst ds).py.isSome = true ∧ (D.lst ds).deep ≤ n + 1 := by
  obtain ⟨h1, h2⟩ := dat_items h
  exact ⟨by simp only [D.py]; simpa using h1, by simp only [D.deep]; omega⟩
theorem dat_of {d : D} {n : Nat} (h : d.py.isSome = true ∧ d.deep ≤ n) (hn : n ≤ 64) : d.dat = true := by
  unfold D.dat
  rw [h.1, Bool.true_and, decide_eq_true_eq]; omega

mutual
theorem res_id (h : MH) : ∀ (n : Nat) {d : D}, D.bnd 0 d = true → res n h d = d
  | 0, d, _ => by unfold res; rfl
  | n + 1, .ref k, e => by simp [D.bnd] at e
  | n + 1, .tup xs, e => by
    simp only [D.bnd] at e
    unfold res; rw [res_ids h n e]
  | n + 1, .lst xs, e => by
    simp only [D.bnd] at e
    unfold res; rw [res_ids h n e]
  | n + 1, .non, _ => by unfold res; rfl
  | n + 1, .bl _, _ => by unfold res; rfl
  | n + 1, .int _, _ => by unfold res; rfl
  | n + 1, .str _, _ => by unfold res; rfl
  | n + 1, .arg _, _ => by unfold res; rfl
  | n + 1, .ty _, _ => by unfold res; rfl
  | n + 1, .cls _, _ => by unfold res; rfl
  | n + 1, .exc _, _ => by unfold res; rfl
  | n + 1, .obj _ _, _ => by unfold res; rfl
  | n + 1, .dic _, _ => by unfold res; rfl
theorem res_ids (h : MH) : ∀ (n : Nat) {ds : List D}, D.bnds 0 ds = true → ds.map (res n h) = ds
  | n, [], _ => rfl
  | n, d :: ds, e => by
    simp only [D.bnds, Bool.and_eq_true] at e
    rw [List.map_cons, res_id h n e.1, res_ids h n e.2]
end
end Z

namespace Z
open PySem
/-! bits of whole numbers that are no less than 0 -/
end Z

namespace My
noncomputable def v_NUMBERS_BEHIND : Z.D := .dic [(.inr "bars", (.int 1)), (.inr "feed", (.int 1)), (.inr "earth", (.int 1)), (.inr "breaker", (.int 2)), (.inr "splitter", (.int 2))]
noncomputable def w_WardError : List (String × Bool) := [("NoBar", true), ("NoMeasure", true), ("NoRow", true), ("Same", true)]
noncomputable def x_tab : List ((String × Bool × String) × Bool) := [(("NoBar", true, "NoRow"), false), (("NoBar", true, "NoMeasure"), false), (("NoBar", true, "NoBar"), true), (("NoBar", true, "Same"), false), (("NoBar", true, "NoSwitch"), false), (("NoBar", true, "Loaded"), false), (("NoBar", true, "Shorted"), false), (("NoBar", true, "Locked"), false), (("NoBar", true, "Held"), false), (("NoBar", true, "NoLock"), false), (("NoBar", true, "NotOpen"), false), (("NoBar", true, "NotLocked"), false), (("NoBar", true, "NotEarthed"), false), (("NoBar", true, "NotDead"), false), (("NoBar", true, "NoPermit"), false), (("NoBar", false, "ValueError"), true), (("NoMeasure", true, "NoRow"), false), (("NoMeasure", true, "NoMeasure"), true), (("NoMeasure", true, "NoBar"), false), (("NoMeasure", true, "Same"), false), (("NoMeasure", true, "NoSwitch"), false), (("NoMeasure", true, "Loaded"), false), (("NoMeasure", true, "Shorted"), false), (("NoMeasure", true, "Locked"), false), (("NoMeasure", true, "Held"), false), (("NoMeasure", true, "NoLock"), false), (("NoMeasure", true, "NotOpen"), false), (("NoMeasure", true, "NotLocked"), false), (("NoMeasure", true, "NotEarthed"), false), (("NoMeasure", true, "NotDead"), false), (("NoMeasure", true, "NoPermit"), false), (("NoMeasure", false, "ValueError"), true), (("NoRow", true, "NoRow"), true), (("NoRow", true, "NoMeasure"), false), (("NoRow", true, "NoBar"), false), (("NoRow", true, "Same"), false), (("NoRow", true, "NoSwitch"), false), (("NoRow", true, "Loaded"), false), (("NoRow", true, "Shorted"), false), (("NoRow", true, "Locked"), false), (("NoRow", true, "Held"), false), (("NoRow", true, "NoLock"), false), (("NoRow", true, "NotOpen"), false), (("NoRow", true, "NotLocked"), false), (("NoRow", true, "NotEarthed"), false), (("NoRow", true, "NotDead"), false), (("NoRow", true, "NoPermit"), false), (("NoRow", false, "ValueError"), true), (("Same", true, "NoRow"), false), (("Same", true, "NoMeasure"), false), (("Same", true, "NoBar"), false), (("Same", true, "Same"), true), (("Same", true, "NoSwitch"), false), (("Same", true, "Loaded"), false), (("Same", true, "Shorted"), false), (("Same", true, "Locked"), false), (("Same", true, "Held"), false), (("Same", true, "NoLock"), false), (("Same", true, "NotOpen"), false), (("Same", true, "NotLocked"), false), (("Same", true, "NotEarthed"), false), (("Same", true, "NotDead"), false), (("Same", true, "NoPermit"), false), (("Same", false, "ValueError"), true)]
noncomputable def b__law_switch : Z.MS := (Z.sSeq (Z.sAsg (Z.mBin Z.dMod (Z.mBin Z.dDiv (Z.mVar 0) (Z.mC (.int 4))) (Z.mVar 1)) (Z.gName 2))
      (Z.sSeq (Z.sIf (Z.tOr (Z.tB (Z.mBin Z.dEq (Z.mVar 1) (Z.mC (.int 1)))) (Z.tB (Z.mBin Z.dLt (Z.mBin Z.dMod (Z.mVar 0) (Z.mC (.int 4))) (Z.mC (.int 2)))))
      (Z.sRet (Z.mTup (Z.mCons (Z.mBin Z.dIx (Z.mTree (Z.lDisp (Z.mCons (Z.mC (.str "feed")) (Z.mCons (Z.mC (.str "earth")) Z.mNil)))) (Z.mBin Z.dMod (Z.mVar 0) (Z.mC (.int 2)))) (Z.mCons (Z.mVar 2) Z.mNil))))
      Z.sNext)
      (Z.sSeq (Z.sAsg (Z.mBin Z.dMod (Z.mBin Z.dAdd (Z.mBin Z.dAdd (Z.mVar 2) (Z.mC (.int 1))) (Z.mBin Z.dMod (Z.mBin Z.dDiv (Z.mVar 0) (Z.mC (.int 40))) (Z.mBin Z.dSub (Z.mVar 1) (Z.mC (.int 1))))) (Z.mVar 1)) (Z.gName 3))
      (Z.sRet (Z.mTup (Z.mCons (Z.mBin Z.dIx (Z.mTree (Z.lDisp (Z.mCons (Z.mC (.str "breaker")) (Z.mCons (Z.mC (.str "splitter")) Z.mNil)))) (Z.mBin Z.dMod (Z.mVar 0) (Z.mC (.int 2)))) (Z.mCons (Z.mVar 2) (Z.mCons (Z.mVar 3) Z.mNil))))))))
noncomputable def z__law_switch : Z.MF := Z.mFun 2 4 b__law_switch
noncomputable def b__law_cell_at : Z.MS := (Z.sSeq (Z.sIf (Z.tB (Z.mBin Z.dLt (Z.mVar 1) (Z.mFn Z.fLen (Z.mCons (Z.mVar 0) Z.mNil))))
      (Z.sRet (Z.mBin Z.dIx (Z.mVar 0) (Z.mVar 1)))
      Z.sNext)
      (Z.sRet (Z.mC (.int 0))))
noncomputable def z__law_cell_at : Z.MF := Z.mFun 2 2 b__law_cell_at
noncomputable def b__law_rows : Z.MS := (Z.sSeq (Z.sAsg (Z.mBin Z.dAdd (Z.mC (.int 1)) (Z.mBin Z.dMod (Z.mCall z__law_cell_at (Z.mCons (Z.mVar 0) (Z.mCons (Z.mVar 1) Z.mNil))) (Z.mC (.int 10)))) (Z.gName 2))
      (Z.sSeq (Z.sAsg (Z.mCell (Z.lDisp (Z.mCons (Z.mTree (Z.lDisp (Z.mCons (Z.mC (.str "bars")) (Z.mCons (Z.mFn Z.fStr (Z.mCons (Z.mVar 2) Z.mNil)) Z.mNil)))) Z.mNil))) (Z.gName 3))
      (Z.sSeq (Z.sFor (Z.lRng1 (Z.mCons (Z.mFn Z.fMin (Z.mCons (Z.mC (.int 12)) (Z.mCons (Z.mFn Z.fMax (Z.mCons (Z.mC (.int 0)) (Z.mCons (Z.mBin Z.dSub (Z.mBin Z.dSub (Z.mFn Z.fLen (Z.mCons (Z.mVar 0) Z.mNil)) (Z.mVar 1)) (Z.mC (.int 1))) Z.mNil))) Z.mNil))) Z.mNil)) (Z.gName 4)
      (Z.sSeq (Z.sAsg (Z.mCall z__law_switch (Z.mCons (Z.mFn Z.fSum (Z.mCons (Z.mSlS (Z.mVar 0) (Z.oSo (Z.mBin Z.dAdd (Z.mBin Z.dAdd (Z.mVar 1) (Z.mC (.int 1))) (Z.mVar 4))) Z.oNo (Z.oSo (Z.mC (.int 12)))) Z.mNil)) (Z.mCons (Z.mVar 2) Z.mNil))) (Z.gName 5))
      (Z.sAppend (Z.mVar 3) (Z.mBin Z.dAdd (Z.mTree (Z.lDisp (Z.mCons (Z.mBin Z.dIx (Z.mVar 5) (Z.mC (.int 0))) Z.mNil))) (Z.mTree (Z.lComp 1 [] (Z.lIt (Z.mSl (Z.mVar 5) (Z.oSo (Z.mC (.int 1))) Z.oNo)) (Z.gName 0) Z.tYes (Z.mFn Z.fStr (Z.mCons (Z.mVar 0) Z.mNil))))))))
      (Z.sRet (Z.mVar 3)))))
noncomputable def z__law_rows : Z.MF := Z.mFun 2 6 b__law_rows
noncomputable def b__law_bad_number : Z.MS := (Z.sSeq (Z.sAsg (Z.mC (.str " !#&'()*+,-./:;<=>?@ABYZ[]^_abyz{|}~")) (Z.gName 2))
      (Z.sSeq (Z.sAsg (Z.mBin Z.dDiv (Z.mVar 1) (Z.mC (.int 5))) (Z.gName 3))
      (Z.sSeq (Z.sIf (Z.tB (Z.mBin Z.dEq (Z.mBin Z.dMod (Z.mVar 1) (Z.mC (.int 5))) (Z.mC (.int 0))))
      (Z.sRet (Z.mBin Z.dAdd (Z.mC (.str "0")) (Z.mVar 0)))
      Z.sNext)
      (Z.sSeq (Z.sIf (Z.tB (Z.mBin Z.dEq (Z.mBin Z.dMod (Z.mVar 1) (Z.mC (.int 5))) (Z.mC (.int 1))))
      (Z.sRet (Z.mBin Z.dIx (Z.mTree (Z.lDisp (Z.mCons (Z.mC (.str "")) (Z.mCons (Z.mBin Z.dAdd (Z.mC (.str "-")) (Z.mVar 0)) (Z.mCons (Z.mBin Z.dAdd (Z.mC (.str "+")) (Z.mVar 0)) (Z.mCons (Z.mBin Z.dAdd (Z.mVar 0) (Z.mC (.str "e0"))) (Z.mCons (Z.mC (.str "0000000000")) (Z.mCons (Z.mC (.str "1_0")) Z.mNil)))))))) (Z.mBin Z.dMod (Z.mVar 3) (Z.mC (.int 6)))))
      Z.sNext)
      (Z.sSeq (Z.sIf (Z.tB (Z.mBin Z.dEq (Z.mBin Z.dMod (Z.mVar 1) (Z.mC (.int 5))) (Z.mC (.int 2))))
      (Z.sRet (Z.mBin Z.dAdd (Z.mBin Z.dAdd (Z.mC (.str "1")) (Z.mVar 0)) (Z.mC (.str "00000000"))))
      Z.sNext)
      (Z.sSeq (Z.sAsg (Z.mBin Z.dMod (Z.mVar 3) (Z.mBin Z.dAdd (Z.mFn Z.fLen (Z.mCons (Z.mVar 0) Z.mNil)) (Z.mC (.int 1)))) (Z.gName 4))
      (Z.sRet (Z.mBin Z.dAdd (Z.mBin Z.dAdd (Z.mSl (Z.mVar 0) Z.oNo (Z.oSo (Z.mVar 4))) (Z.mBin Z.dIx (Z.mVar 2) (Z.mBin Z.dMod (Z.mBin Z.dDiv (Z.mVar 3) (Z.mC (.int 3))) (Z.mC (.int 36))))) (Z.mSl (Z.mVar 0) (Z.oSo (Z.mVar 4)) Z.oNo)))))))))
noncomputable def z__law_bad_number : Z.MF := Z.mFun 2 5 b__law_bad_number
noncomputable def b__law_no_form : Z.MS := (Z.sSeq (Z.sAsg (Z.mBin Z.dDiv (Z.mVar 1) (Z.mC (.int 6))) (Z.gName 2))
      (Z.sSeq (Z.sAsg (Z.mTree (Z.lDisp (Z.mCons (Z.mC (.str "")) (Z.mCons (Z.mBin Z.dAdd (Z.mBin Z.dIx (Z.mVar 0) (Z.mC (.int 0))) (Z.mC (.str "s"))) (Z.mCons (Z.mSm Z.fUpper (Z.mBin Z.dIx (Z.mVar 0) (Z.mC (.int 0))) Z.mNil) (Z.mCons (Z.mSl (Z.mBin Z.dIx (Z.mVar 0) (Z.mC (.int 0))) (Z.oSo (Z.mC (.int 1))) Z.oNo) (Z.mCons (Z.mC (.str "joiner")) (Z.mCons (Z.mBin Z.dAdd (Z.mSm Z.fUpper (Z.mSl (Z.mBin Z.dIx (Z.mVar 0) (Z.mC (.int 0))) Z.oNo (Z.oSo (Z.mC (.int 1)))) Z.mNil) (Z.mSl (Z.mBin Z.dIx (Z.mVar 0) (Z.mC (.int 0))) (Z.oSo (Z.mC (.int 1))) Z.oNo)) Z.mNil)))))))) (Z.gName 3))
      (Z.sSeq (Z.sAsg (Z.mBin Z.dAdd (Z.mVar 3) (Z.mTree (Z.lDisp (Z.mCons (Z.mBin Z.dIx (Z.mTree (Z.lDisp (Z.mCons (Z.mC (.str "feed")) (Z.mCons (Z.mC (.str "bars")) Z.mNil)))) (Z.mFn Z.fInt (Z.mCons (Z.mBin Z.dNe (Z.mBin Z.dIx (Z.mVar 0) (Z.mC (.int 0))) (Z.mC (.str "bars"))) Z.mNil))) (Z.mCons (Z.mSl (Z.mBin Z.dIx (Z.mVar 0) (Z.mC (.int 0))) Z.oNo (Z.oSo (Z.mBin Z.dAdd (Z.mC (.int 1)) (Z.mBin Z.dMod (Z.mBin Z.dDiv (Z.mVar 2) (Z.mC (.int 8))) (Z.mBin Z.dSub (Z.mFn Z.fLen (Z.mCons (Z.mBin Z.dIx (Z.mVar 0) (Z.mC (.int 0))) Z.mNil)) (Z.mC (.int 1))))))) Z.mNil))))) (Z.gName 3))
      (Z.sSeq (Z.sIf (Z.tB (Z.mBin Z.dEq (Z.mBin Z.dMod (Z.mVar 1) (Z.mC (.int 6))) (Z.mC (.int 0))))
      (Z.sRet (Z.mSl (Z.mVar 0) Z.oNo (Z.oSo (Z.mUn Z.dNeg (Z.mC (.int 1))))))
      Z.sNext)
      (Z.sSeq (Z.sIf (Z.tB (Z.mBin Z.dEq (Z.mBin Z.dMod (Z.mVar 1) (Z.mC (.int 6))) (Z.mC (.int 1))))
      (Z.sRet (Z.mBin Z.dAdd (Z.mVar 0) (Z.mTree (Z.lDisp (Z.mCons (Z.mBin Z.dIx (Z.mTree (Z.lDisp (Z.mCons (Z.mC (.str "")) (Z.mCons (Z.mC (.str "0")) (Z.mCons (Z.mC (.str "1")) Z.mNil))))) (Z.mBin Z.dMod (Z.mVar 2) (Z.mC (.int 3)))) Z.mNil)))))
      Z.sNext)
      (Z.sSeq (Z.sIf (Z.tB (Z.mBin Z.dEq (Z.mBin Z.dMod (Z.mVar 1) (Z.mC (.int 6))) (Z.mC (.int 2))))
      (Z.sRet (Z.mBin Z.dAdd (Z.mTree (Z.lDisp (Z.mCons (Z.mBin Z.dIx (Z.mVar 3) (Z.mBin Z.dMod (Z.mVar 2) (Z.mC (.int 8)))) Z.mNil))) (Z.mSl (Z.mVar 0) (Z.oSo (Z.mC (.int 1))) Z.oNo)))
      Z.sNext)
      (Z.sSeq (Z.sIf (Z.tB (Z.mBin Z.dEq (Z.mBin Z.dMod (Z.mVar 1) (Z.mC (.int 6))) (Z.mC (.int 3))))
      (Z.sRet (Z.mBin Z.dIx (Z.mTree (Z.lDisp (Z.mCons (Z.mTree (Z.lDisp (Z.mCons (Z.mC (.str "")) Z.mNil))) (Z.mCons (Z.mBin Z.dAdd (Z.mTree (Z.lDisp (Z.mCons (Z.mC (.str "")) Z.mNil))) (Z.mVar 0)) (Z.mCons (Z.mSl (Z.mVar 0) Z.oNo (Z.oSo (Z.mC (.int 1)))) (Z.mCons (Z.mBin Z.dAdd (Z.mVar 0) (Z.mVar 0)) Z.mNil)))))) (Z.mBin Z.dMod (Z.mVar 2) (Z.mC (.int 4)))))
      Z.sNext)
      (Z.sSeq (Z.sAsg (Z.mBin Z.dAdd (Z.mC (.int 1)) (Z.mBin Z.dMod (Z.mVar 2) (Z.mBin Z.dSub (Z.mFn Z.fLen (Z.mCons (Z.mVar 0) Z.mNil)) (Z.mC (.int 1))))) (Z.gName 4))
      (Z.sRet (Z.mBin Z.dAdd (Z.mBin Z.dAdd (Z.mSl (Z.mVar 0) Z.oNo (Z.oSo (Z.mVar 4))) (Z.mTree (Z.lDisp (Z.mCons (Z.mCall z__law_bad_number (Z.mCons (Z.mBin Z.dIx (Z.mVar 0) (Z.mVar 4)) (Z.mCons (Z.mBin Z.dDiv (Z.mVar 2) (Z.mC (.int 2))) Z.mNil))) Z.mNil)))) (Z.mSl (Z.mVar 0) (Z.oSo (Z.mBin Z.dAdd (Z.mVar 4) (Z.mC (.int 1)))) Z.oNo)))))))))))
noncomputable def z__law_no_form : Z.MF := Z.mFun 2 5 b__law_no_form
noncomputable def b__law_wrong : Z.MS := (Z.sSeq (Z.sIf (Z.tAnd (Z.tB (Z.mBin Z.dEq (Z.mBin Z.dIx (Z.mVar 0) (Z.mC (.int 0))) (Z.mC (.str "bars")))) (Z.tB (Z.mBin Z.dEq (Z.mVar 2) (Z.mC (.int 1)))))
      (Z.sRet (Z.mTree (Z.lDisp (Z.mCons (Z.mTree (Z.lDisp (Z.mCons (Z.mC (.str "bars")) (Z.mCons (Z.mFn Z.fStr (Z.mCons (Z.mBin Z.dIx (Z.mTree (Z.lDisp (Z.mCons (Z.mC (.int 0)) (Z.mCons (Z.mC (.int 11)) (Z.mCons (Z.mBin Z.dAdd (Z.mC (.int 11)) (Z.mBin Z.dMod (Z.mBin Z.dDiv (Z.mVar 3) (Z.mC (.int 3))) (Z.mBin Z.dSub (Z.mBin Z.dPow (Z.mC (.int 10)) (Z.mC (.int 9))) (Z.mC (.int 11))))) Z.mNil))))) (Z.mBin Z.dMod (Z.mVar 3) (Z.mC (.int 3)))) Z.mNil)) Z.mNil)))) (Z.mCons (Z.mC (.int 1)) Z.mNil)))))
      Z.sNext)
      (Z.sSeq (Z.sIf (Z.tAnd (Z.tB (Z.mBin Z.dNe (Z.mBin Z.dIx (Z.mVar 0) (Z.mC (.int 0))) (Z.mC (.str "bars")))) (Z.tB (Z.mBin Z.dEq (Z.mVar 2) (Z.mC (.int 2)))))
      (Z.sSeq (Z.sAsg (Z.mBin Z.dAdd (Z.mC (.int 1)) (Z.mBin Z.dMod (Z.mVar 3) (Z.mBin Z.dSub (Z.mFn Z.fLen (Z.mCons (Z.mVar 0) Z.mNil)) (Z.mC (.int 1))))) (Z.gName 4))
      (Z.sSeq (Z.sAsg (Z.mFn Z.fStr (Z.mCons (Z.mBin Z.dIx (Z.mTree (Z.lDisp (Z.mCons (Z.mVar 1) (Z.mCons (Z.mBin Z.dAdd (Z.mVar 1) (Z.mBin Z.dMod (Z.mBin Z.dDiv (Z.mVar 3) (Z.mC (.int 6))) (Z.mC (.int 3)))) (Z.mCons (Z.mBin Z.dAdd (Z.mVar 1) (Z.mBin Z.dMod (Z.mBin Z.dDiv (Z.mVar 3) (Z.mC (.int 6))) (Z.mBin Z.dSub (Z.mBin Z.dPow (Z.mC (.int 10)) (Z.mC (.int 9))) (Z.mVar 1)))) Z.mNil))))) (Z.mBin Z.dMod (Z.mBin Z.dDiv (Z.mVar 3) (Z.mC (.int 2))) (Z.mC (.int 3)))) Z.mNil)) (Z.gName 5))
      (Z.sRet (Z.mTree (Z.lDisp (Z.mCons (Z.mBin Z.dAdd (Z.mBin Z.dAdd (Z.mSl (Z.mVar 0) Z.oNo (Z.oSo (Z.mVar 4))) (Z.mTree (Z.lDisp (Z.mCons (Z.mVar 5) Z.mNil)))) (Z.mSl (Z.mVar 0) (Z.oSo (Z.mBin Z.dAdd (Z.mVar 4) (Z.mC (.int 1)))) Z.oNo)) (Z.mCons (Z.mC (.int 2)) Z.mNil)))))))
      Z.sNext)
      (Z.sSeq (Z.sIf (Z.tAnd (Z.tB (Z.mBin Z.dEq (Z.mFn Z.fLen (Z.mCons (Z.mVar 0) Z.mNil)) (Z.mC (.int 3)))) (Z.tB (Z.mBin Z.dEq (Z.mVar 2) (Z.mC (.int 3)))))
      (Z.sRet (Z.mTree (Z.lDisp (Z.mCons (Z.mBin Z.dAdd (Z.mSl (Z.mVar 0) Z.oNo (Z.oSo (Z.mC (.int 1)))) (Z.mBin Z.dMul (Z.mTree (Z.lDisp (Z.mCons (Z.mBin Z.dIx (Z.mVar 0) (Z.mBin Z.dAdd (Z.mC (.int 1)) (Z.mBin Z.dMod (Z.mVar 3) (Z.mC (.int 2))))) Z.mNil))) (Z.mC (.int 2)))) (Z.mCons (Z.mC (.int 3)) Z.mNil)))))
      Z.sNext)
      (Z.sRet (Z.mTree (Z.lDisp (Z.mCons (Z.mCall z__law_no_form (Z.mCons (Z.mVar 0) (Z.mCons (Z.mVar 3) Z.mNil))) (Z.mCons (Z.mC (.int 0)) Z.mNil))))))))
noncomputable def z__law_wrong : Z.MF := Z.mFun 4 6 b__law_wrong
noncomputable def b__law_two_rows : Z.MS := (Z.sSeq (Z.sAsg (Z.mFn Z.fMin (Z.mCons (Z.mVar 2) (Z.mCons (Z.mVar 3) Z.mNil))) (Z.gName 5))
      (Z.sSeq (Z.sAsg (Z.mFn Z.fMax (Z.mCons (Z.mVar 2) (Z.mCons (Z.mVar 3) Z.mNil))) (Z.gName 6))
      (Z.sSeq (Z.sAsg (Z.mBin Z.dIx (Z.mCall z__law_wrong (Z.mCons (Z.mBin Z.dIx (Z.mVar 0) (Z.mVar 6)) (Z.mCons (Z.mVar 1) (Z.mCons (Z.mBin Z.dMod (Z.mBin Z.dDiv (Z.mVar 4) (Z.mC (.int 4))) (Z.mC (.int 4))) (Z.mCons (Z.mBin Z.dAdd (Z.mBin Z.dDiv (Z.mVar 4) (Z.mC (.int 16))) (Z.mVar 2)) Z.mNil))))) (Z.mC (.int 0))) (Z.gSub (Z.mVar 0) (Z.mVar 6)))
      (Z.sSeq (Z.sAsg (Z.mCall z__law_wrong (Z.mCons (Z.mBin Z.dIx (Z.mVar 0) (Z.mVar 5)) (Z.mCons (Z.mVar 1) (Z.mCons (Z.mBin Z.dMod (Z.mVar 4) (Z.mC (.int 4))) (Z.mCons (Z.mBin Z.dDiv (Z.mVar 4) (Z.mC (.int 16))) Z.mNil))))) (Z.gTup [7, 8]))
      (Z.sSeq (Z.sAsg (Z.mVar 7) (Z.gSub (Z.mVar 0) (Z.mVar 5)))
      (Z.sRet (Z.mVar 8)))))))
noncomputable def z__law_two_rows : Z.MF := Z.mFun 5 9 b__law_two_rows
noncomputable def b_is_number : Z.MS := (Z.sSeq (Z.sIf (Z.tNot (Z.tB (Z.mChain Z.dLe Z.dLe (Z.mC (.int 1)) (Z.mFn Z.fLen (Z.mCons (Z.mVar 0) Z.mNil)) (Z.mC (.int 9)))))
      (Z.sRet (Z.mC (.bl false)))
      Z.sNext)
      (Z.sSeq (Z.sIf (Z.tAnd (Z.tB (Z.mBin Z.dEq (Z.mBin Z.dIx (Z.mVar 0) (Z.mC (.int 0))) (Z.mC (.str "0")))) (Z.tB (Z.mBin Z.dGt (Z.mFn Z.fLen (Z.mCons (Z.mVar 0) Z.mNil)) (Z.mC (.int 1)))))
      (Z.sRet (Z.mC (.bl false)))
      Z.sNext)
      (Z.sRet (Z.mFn Z.fAll (Z.mCons (Z.mTree (Z.lComp 1 [] (Z.lIt (Z.mVar 0)) (Z.gName 0) Z.tYes (Z.mBin (Z.dIn false) (Z.mVar 0) (Z.mC (.str "0123456789"))))) Z.mNil)))))
noncomputable def z_is_number : Z.MF := Z.mFun 1 1 b_is_number
noncomputable def b_numbers_told : Z.MS := (Z.sSeq (Z.sIf (Z.tNot (Z.tTru (Z.mFn Z.fAll (Z.mCons (Z.mTree (Z.lComp 1 [] (Z.lIt (Z.mVar 0)) (Z.gName 0) Z.tYes (Z.mCall z_is_number (Z.mCons (Z.mVar 0) Z.mNil)))) Z.mNil))))
      (Z.sRaise "NoRow" (Z.mC (.str "a word of the row is no number")))
      Z.sNext)
      (Z.sRet (Z.mTree (Z.lComp 1 [] (Z.lIt (Z.mVar 0)) (Z.gName 0) Z.tYes (Z.mFn Z.fInt (Z.mCons (Z.mVar 0) Z.mNil))))))
noncomputable def z_numbers_told : Z.MF := Z.mFun 1 1 b_numbers_told
noncomputable def b_parted : Z.MS := (Z.sSeq (Z.sAsg (Z.mTree (Z.lSplit (Z.mVar 0) (Z.mCons (Z.mC (.str " ")) Z.mNil))) (Z.gName 1))
      (Z.sSeq (Z.sAsg (Z.mBin Z.dIx (Z.mVar 1) (Z.mC (.int 0))) (Z.gName 2))
      (Z.sSeq (Z.sIf (Z.tOr (Z.tB (Z.mBin (Z.dIn true) (Z.mVar 2) (Z.mC v_NUMBERS_BEHIND))) (Z.tB (Z.mBin Z.dNe (Z.mFn Z.fLen (Z.mCons (Z.mVar 1) Z.mNil)) (Z.mBin Z.dAdd (Z.mC (.int 1)) (Z.mBin Z.dIx (Z.mC v_NUMBERS_BEHIND) (Z.mVar 2))))))
      (Z.sRaise "NoRow" (Z.mC (.str "no such row")))
      Z.sNext)
      (Z.sRet (Z.mFn Z.fTuple (Z.mCons (Z.mBin Z.dAdd (Z.mTree (Z.lDisp (Z.mCons (Z.mVar 2) Z.mNil))) (Z.mCall z_numbers_told (Z.mCons (Z.mSl (Z.mVar 1) (Z.oSo (Z.mC (.int 1))) Z.oNo) Z.mNil))) Z.mNil))))))
noncomputable def z_parted : Z.MF := Z.mFun 1 3 b_parted
noncomputable def b_count_in : Z.MS := (Z.sSeq (Z.sAsg (Z.mCall z_parted (Z.mCons (Z.mVar 0) Z.mNil)) (Z.gName 1))
      (Z.sSeq (Z.sIf (Z.tB (Z.mBin Z.dNe (Z.mBin Z.dIx (Z.mVar 1) (Z.mC (.int 0))) (Z.mC (.str "bars"))))
      (Z.sRaise "NoRow" (Z.mC (.str "the row of the count is due")))
      Z.sNext)
      (Z.sSeq (Z.sIf (Z.tNot (Z.tB (Z.mChain Z.dLe Z.dLe (Z.mC (.int 1)) (Z.mBin Z.dIx (Z.mVar 1) (Z.mC (.int 1))) (Z.mC (.int 10)))))
      (Z.sRaise "NoMeasure" (Z.mC (.str "the count of the bars is out of its bounds")))
      Z.sNext)
      (Z.sRet (Z.mBin Z.dIx (Z.mVar 1) (Z.mC (.int 1)))))))
noncomputable def z_count_in : Z.MF := Z.mFun 1 2 b_count_in
noncomputable def b_switch_in : Z.MS := (Z.sSeq (Z.sAsg (Z.mCall z_parted (Z.mCons (Z.mVar 0) Z.mNil)) (Z.gName 3))
      (Z.sSeq (Z.sIf (Z.tB (Z.mBin Z.dEq (Z.mBin Z.dIx (Z.mVar 3) (Z.mC (.int 0))) (Z.mC (.str "bars"))))
      (Z.sRaise "NoRow" (Z.mC (.str "the row of a switch is due")))
      Z.sNext)
      (Z.sSeq (Z.sIf (Z.tB (Z.mBin Z.dGe (Z.mVar 2) (Z.mC (.int 12))))
      (Z.sRaise "NoRow" (Z.mC (.str "one switch too many")))
      Z.sNext)
      (Z.sSeq (Z.sIf (Z.tB (Z.mBin Z.dGe (Z.mFn Z.fMax (Z.mCons (Z.mSl (Z.mVar 3) (Z.oSo (Z.mC (.int 1))) Z.oNo) Z.mNil)) (Z.mVar 1)))
      (Z.sRaise "NoBar" (Z.mC (.str "there is no such bar")))
      Z.sNext)
      (Z.sSeq (Z.sIf (Z.tAnd (Z.tB (Z.mBin Z.dEq (Z.mFn Z.fLen (Z.mCons (Z.mVar 3) Z.mNil)) (Z.mC (.int 3)))) (Z.tB (Z.mBin Z.dEq (Z.mBin Z.dIx (Z.mVar 3) (Z.mC (.int 1))) (Z.mBin Z.dIx (Z.mVar 3) (Z.mC (.int 2))))))
      (Z.sRaise "Same" (Z.mC (.str "a switch leads from a bar to itself")))
      Z.sNext)
      (Z.sRet (Z.mVar 3)))))))
noncomputable def z_switch_in : Z.MF := Z.mFun 3 4 b_switch_in
noncomputable def b_read : Z.MS := (Z.sSeq (Z.sAsg (Z.mTree (Z.lSplit (Z.mVar 0) (Z.mCons (Z.mC (.str "\n")) Z.mNil))) (Z.gName 1))
      (Z.sSeq (Z.sAsg (Z.mCall z_count_in (Z.mCons (Z.mBin Z.dIx (Z.mVar 1) (Z.mC (.int 0))) Z.mNil)) (Z.gName 2))
      (Z.sSeq (Z.sAsg (Z.mCell (Z.lDisp Z.mNil)) (Z.gName 3))
      (Z.sSeq (Z.sFor (Z.lIt (Z.mSl (Z.mVar 1) (Z.oSo (Z.mC (.int 1))) Z.oNo)) (Z.gName 4)
      (Z.sAppend (Z.mVar 3) (Z.mCall z_switch_in (Z.mCons (Z.mVar 4) (Z.mCons (Z.mVar 2) (Z.mCons (Z.mFn Z.fLen (Z.mCons (Z.mVar 3) Z.mNil)) Z.mNil))))))
      (Z.sFreeze 3 (Z.sRet (Z.mTup (Z.mCons (Z.mVar 2) (Z.mCons (Z.mVar 3) Z.mNil)))))))))
noncomputable def z_read : Z.MF := Z.mFun 1 5 b_read
noncomputable def b__law_refusal : Z.MS := (Z.sSeq (Z.sAsg (Z.mTree (Z.lDisp Z.mNil)) (Z.gName 1))
      (Z.sSeq (Z.sAsg (Z.mTree (Z.lDisp Z.mNil)) (Z.gName 2))
      (Z.sSeq (Z.sTry (Z.sDrop (Z.mCall z_read (Z.lNox (Z.mCons (Z.mSm Z.fJoin (Z.mC (.str "\n")) (Z.mCons (Z.mTree (Z.lComp 1 [] (Z.lIt (Z.mVar 0)) (Z.gName 0) Z.tYes (Z.mSm Z.fJoin (Z.mC (.str " ")) (Z.mCons (Z.mVar 0) Z.mNil)))) Z.mNil)) Z.mNil)))) (Z.cAs w_WardError 3
      (Z.sSeq (Z.sAsg (Z.mTree (Z.lDisp (Z.mCons (Z.mFn (Z.fIsx x_tab) (Z.mCons (Z.mVar 3) (Z.mCons (Z.mC (.cls "NoRow")) Z.mNil))) (Z.mCons (Z.mFn (Z.fIsx x_tab) (Z.mCons (Z.mVar 3) (Z.mCons (Z.mC (.cls "NoMeasure")) Z.mNil))) (Z.mCons (Z.mFn (Z.fIsx x_tab) (Z.mCons (Z.mVar 3) (Z.mCons (Z.mC (.cls "NoBar")) Z.mNil))) (Z.mCons (Z.mFn (Z.fIsx x_tab) (Z.mCons (Z.mVar 3) (Z.mCons (Z.mC (.cls "Same")) Z.mNil))) Z.mNil)))))) (Z.gName 1))
      (Z.sSeq (Z.sAsg (Z.mTree (Z.lDisp (Z.mCons (Z.mFn (Z.fIsx x_tab) (Z.mCons (Z.mVar 3) (Z.mCons (Z.mC (.cls "NoSwitch")) Z.mNil))) (Z.mCons (Z.mFn (Z.fIsx x_tab) (Z.mCons (Z.mVar 3) (Z.mCons (Z.mC (.cls "Loaded")) Z.mNil))) (Z.mCons (Z.mFn (Z.fIsx x_tab) (Z.mCons (Z.mVar 3) (Z.mCons (Z.mC (.cls "Shorted")) Z.mNil))) (Z.mCons (Z.mFn (Z.fIsx x_tab) (Z.mCons (Z.mVar 3) (Z.mCons (Z.mC (.cls "Locked")) Z.mNil))) Z.mNil)))))) (Z.gName 2))
      (Z.sSeq (Z.sAsg (Z.mBin Z.dAdd (Z.mVar 2) (Z.mTree (Z.lDisp (Z.mCons (Z.mFn (Z.fIsx x_tab) (Z.mCons (Z.mVar 3) (Z.mCons (Z.mC (.cls "Held")) Z.mNil))) (Z.mCons (Z.mFn (Z.fIsx x_tab) (Z.mCons (Z.mVar 3) (Z.mCons (Z.mC (.cls "NoLock")) Z.mNil))) (Z.mCons (Z.mFn (Z.fIsx x_tab) (Z.mCons (Z.mVar 3) (Z.mCons (Z.mC (.cls "NotOpen")) Z.mNil))) Z.mNil)))))) (Z.gName 2))
      (Z.sSeq (Z.sAsg (Z.mBin Z.dAdd (Z.mVar 2) (Z.mTree (Z.lDisp (Z.mCons (Z.mFn (Z.fIsx x_tab) (Z.mCons (Z.mVar 3) (Z.mCons (Z.mC (.cls "NotLocked")) Z.mNil))) (Z.mCons (Z.mFn (Z.fIsx x_tab) (Z.mCons (Z.mVar 3) (Z.mCons (Z.mC (.cls "NotEarthed")) Z.mNil))) (Z.mCons (Z.mFn (Z.fIsx x_tab) (Z.mCons (Z.mVar 3) (Z.mCons (Z.mC (.cls "NotDead")) Z.mNil))) Z.mNil)))))) (Z.gName 2))
      (Z.sAsg (Z.mBin Z.dAdd (Z.mVar 2) (Z.mTree (Z.lDisp (Z.mCons (Z.mFn (Z.fIsx x_tab) (Z.mCons (Z.mVar 3) (Z.mCons (Z.mC (.cls "NoPermit")) Z.mNil))) (Z.mCons (Z.mNotV (Z.mFn (Z.fIsx x_tab) (Z.mCons (Z.mVar 3) (Z.mCons (Z.mC (.ty "ValueError")) Z.mNil)))) Z.mNil))))) (Z.gName 2))))))
      Z.cNil))
      (Z.sRet (Z.mBin Z.dAdd (Z.mVar 1) (Z.mVar 2))))))
noncomputable def z__law_refusal : Z.MF := Z.mFun 1 4 b__law_refusal
noncomputable def b__law_one_bar : Z.MS := (Z.sSeq (Z.sIf (Z.tB (Z.mBin Z.dNe (Z.mCall z__law_refusal (Z.mCons (Z.mTree (Z.lDisp (Z.mCons (Z.mTree (Z.lDisp (Z.mCons (Z.mC (.str "bars")) (Z.mCons (Z.mC (.str "1")) Z.mNil)))) (Z.mCons (Z.mTree (Z.lDisp (Z.mCons (Z.mVar 0) (Z.mCons (Z.mC (.str "0")) (Z.mCons (Z.mC (.str "0")) Z.mNil))))) Z.mNil)))) Z.mNil)) (Z.mTree (Z.lComp 1 [] (Z.lRng1 (Z.mCons (Z.mC (.int 16)) Z.mNil)) (Z.gName 0) Z.tYes (Z.mBin Z.dEq (Z.mVar 0) (Z.mC (.int 3)))))))
      (Z.sRet (Z.mC (.bl false)))
      Z.sNext)
      (Z.sSeq (Z.sIf (Z.tB (Z.mBin Z.dNe (Z.mCall z__law_refusal (Z.mCons (Z.mTree (Z.lDisp (Z.mCons (Z.mTree (Z.lDisp (Z.mCons (Z.mC (.str "bars")) (Z.mCons (Z.mC (.str "1")) Z.mNil)))) (Z.mCons (Z.mTree (Z.lDisp (Z.mCons (Z.mVar 0) (Z.mCons (Z.mC (.str "0")) (Z.mCons (Z.mC (.str "1")) Z.mNil))))) Z.mNil)))) Z.mNil)) (Z.mTree (Z.lComp 1 [] (Z.lRng1 (Z.mCons (Z.mC (.int 16)) Z.mNil)) (Z.gName 0) Z.tYes (Z.mBin Z.dEq (Z.mVar 0) (Z.mC (.int 2)))))))
      (Z.sRet (Z.mC (.bl false)))
      Z.sNext)
      (Z.sRet (Z.mBin Z.dEq (Z.mCall z__law_refusal (Z.mCons (Z.mTree (Z.lDisp (Z.mCons (Z.mTree (Z.lDisp (Z.mCons (Z.mC (.str "bars")) (Z.mCons (Z.mC (.str "1")) Z.mNil)))) (Z.mCons (Z.mTree (Z.lDisp (Z.mCons (Z.mVar 0) (Z.mCons (Z.mC (.str "1")) (Z.mCons (Z.mC (.str "1")) Z.mNil))))) Z.mNil)))) Z.mNil)) (Z.mTree (Z.lComp 1 [] (Z.lRng1 (Z.mCons (Z.mC (.int 16)) Z.mNil)) (Z.gName 0) Z.tYes (Z.mBin Z.dEq (Z.mVar 0) (Z.mC (.int 2)))))))))
noncomputable def z__law_one_bar : Z.MF := Z.mFun 1 1 b__law_one_bar
noncomputable def b__law_thirteen : Z.MS := (Z.sSeq (Z.sAsg (Z.mBin Z.dIx (Z.mTree (Z.lDisp (Z.mCons (Z.mTree (Z.lDisp (Z.mCons (Z.mC (.str "feed")) (Z.mCons (Z.mC (.str "10")) Z.mNil)))) (Z.mCons (Z.mTree (Z.lDisp (Z.mCons (Z.mC (.str "breaker")) (Z.mCons (Z.mC (.str "0")) (Z.mCons (Z.mC (.str "0")) Z.mNil))))) (Z.mCons (Z.mTree (Z.lDisp (Z.mCons (Z.mC (.str "splitter")) (Z.mCons (Z.mC (.str "10")) (Z.mCons (Z.mC (.str "10")) Z.mNil))))) (Z.mCons (Z.mTree (Z.lDisp (Z.mCons (Z.mC (.str "earth")) (Z.mCons (Z.mC (.str "01")) Z.mNil)))) Z.mNil)))))) (Z.mBin Z.dMod (Z.mVar 1) (Z.mC (.int 4)))) (Z.gName 2))
      (Z.sSeq (Z.sAsg (Z.mBin Z.dAdd (Z.mSl (Z.mVar 0) (Z.oSo (Z.mC (.int 1))) Z.oNo) (Z.mBin Z.dMul (Z.mTree (Z.lDisp (Z.mCons (Z.mTree (Z.lDisp (Z.mCons (Z.mC (.str "feed")) (Z.mCons (Z.mC (.str "0")) Z.mNil)))) (Z.mCons (Z.mTree (Z.lDisp (Z.mCons (Z.mC (.str "earth")) (Z.mCons (Z.mC (.str "0")) Z.mNil)))) (Z.mCons (Z.mTree (Z.lDisp (Z.mCons (Z.mC (.str "earth")) (Z.mCons (Z.mC (.str "0")) Z.mNil)))) (Z.mCons (Z.mTree (Z.lDisp (Z.mCons (Z.mC (.str "feed")) (Z.mCons (Z.mC (.str "0")) Z.mNil)))) Z.mNil)))))) (Z.mC (.int 3)))) (Z.gName 3))
      (Z.sRet (Z.mCell (Z.lAdd (Z.mBin Z.dAdd (Z.mSl (Z.mVar 0) Z.oNo (Z.oSo (Z.mC (.int 1)))) (Z.mSl (Z.mVar 3) Z.oNo (Z.oSo (Z.mC (.int 12))))) (Z.mTree (Z.lDisp (Z.mCons (Z.mVar 2) Z.mNil))))))))
noncomputable def z__law_thirteen : Z.MF := Z.mFun 2 4 b__law_thirteen
noncomputable def b_law : Z.MS := (Z.sSeq (Z.sIf (Z.tOr (Z.tNot (Z.tTru (Z.mCall z__law_one_bar (Z.mCons (Z.mC (.str "breaker")) Z.mNil)))) (Z.tNot (Z.tTru (Z.mCall z__law_one_bar (Z.mCons (Z.mC (.str "splitter")) Z.mNil)))))
      (Z.sRet (Z.mC (.bl false)))
      Z.sNext)
      (Z.sSeq (Z.sAsg (Z.mCall z__law_rows (Z.mCons (Z.mVar 0) (Z.mCons (Z.mC (.int 4)) Z.mNil))) (Z.gName 1))
      (Z.sSeq (Z.sAsg (Z.mBin Z.dAdd (Z.mC (.int 1)) (Z.mBin Z.dMod (Z.mCall z__law_cell_at (Z.mCons (Z.mVar 0) (Z.mCons (Z.mC (.int 4)) Z.mNil))) (Z.mC (.int 10)))) (Z.gName 2))
      (Z.sSeq (Z.sAsg (Z.mBin Z.dMod (Z.mCall z__law_cell_at (Z.mCons (Z.mVar 0) (Z.mCons (Z.mC (.int 0)) Z.mNil))) (Z.mFn Z.fLen (Z.mCons (Z.mVar 1) Z.mNil))) (Z.gName 3))
      (Z.sSeq (Z.sAsg (Z.mCall z__law_cell_at (Z.mCons (Z.mVar 0) (Z.mCons (Z.mC (.int 1)) Z.mNil))) (Z.gName 4))
      (Z.sSeq (Z.sAsg (Z.mCall z__law_cell_at (Z.mCons (Z.mVar 0) (Z.mCons (Z.mC (.int 2)) Z.mNil))) (Z.gName 5))
      (Z.sSeq (Z.sAsg (Z.mBin Z.dMod (Z.mCall z__law_cell_at (Z.mCons (Z.mVar 0) (Z.mCons (Z.mC (.int 3)) Z.mNil))) (Z.mC (.int 5))) (Z.gName 6))
      (Z.sSeq (Z.sAsg (Z.mC (.int 0)) (Z.gName 7))
      (Z.sSeq (Z.sIf (Z.tAnd (Z.tB (Z.mBin Z.dLt (Z.mVar 6) (Z.mC (.int 2)))) (Z.tB (Z.mBin Z.dGt (Z.mFn Z.fLen (Z.mCons (Z.mVar 1) Z.mNil)) (Z.mC (.int 1)))))
      (Z.sSeq (Z.sAsg (Z.mBin Z.dMod (Z.mBin Z.dAdd (Z.mBin Z.dAdd (Z.mVar 3) (Z.mC (.int 1))) (Z.mBin Z.dMod (Z.mVar 4) (Z.mBin Z.dSub (Z.mFn Z.fLen (Z.mCons (Z.mVar 1) Z.mNil)) (Z.mC (.int 1))))) (Z.mFn Z.fLen (Z.mCons (Z.mVar 1) Z.mNil))) (Z.gName 8))
      (Z.sAsg (Z.mCall z__law_two_rows (Z.mCons (Z.mVar 1) (Z.mCons (Z.mVar 2) (Z.mCons (Z.mVar 3) (Z.mCons (Z.mVar 8) (Z.mCons (Z.mVar 5) Z.mNil)))))) (Z.gName 7)))
      (Z.sIf (Z.tB (Z.mBin Z.dEq (Z.mVar 6) (Z.mC (.int 2))))
      (Z.sSeq (Z.sAsg (Z.mCall z__law_thirteen (Z.mCons (Z.mVar 1) (Z.mCons (Z.mVar 4) Z.mNil))) (Z.gName 1))
      (Z.sIf (Z.tB (Z.mBin Z.dEq (Z.mBin Z.dMod (Z.mVar 5) (Z.mC (.int 2))) (Z.mC (.int 1))))
      (Z.sSeq (Z.sAsg (Z.mBin Z.dMod (Z.mBin Z.dDiv (Z.mVar 5) (Z.mC (.int 2))) (Z.mC (.int 13))) (Z.gName 3))
      (Z.sSeq (Z.sAsg (Z.mCall z__law_wrong (Z.mCons (Z.mBin Z.dIx (Z.mVar 1) (Z.mVar 3)) (Z.mCons (Z.mVar 2) (Z.mCons (Z.mBin Z.dMod (Z.mBin Z.dDiv (Z.mVar 5) (Z.mC (.int 26))) (Z.mC (.int 4))) (Z.mCons (Z.mBin Z.dDiv (Z.mVar 5) (Z.mC (.int 104))) Z.mNil))))) (Z.gTup [9, 7]))
      (Z.sAsg (Z.mVar 9) (Z.gSub (Z.mVar 1) (Z.mVar 3)))))
      Z.sNext))
      (Z.sIf (Z.tAnd (Z.tB (Z.mBin Z.dEq (Z.mVar 6) (Z.mC (.int 3)))) (Z.tB (Z.mBin Z.dEq (Z.mFn Z.fLen (Z.mCons (Z.mBin Z.dIx (Z.mVar 1) (Z.mVar 3)) Z.mNil)) (Z.mC (.int 3)))))
      (Z.sSeq (Z.sAsg (Z.mC (.int 2)) (Z.gName 7))
      (Z.sSeq (Z.sAsg (Z.mFn Z.fStr (Z.mCons (Z.mBin Z.dAdd (Z.mVar 2) (Z.mBin Z.dMod (Z.mVar 4) (Z.mBin Z.dSub (Z.mBin Z.dPow (Z.mC (.int 10)) (Z.mC (.int 9))) (Z.mVar 2)))) Z.mNil)) (Z.gName 10))
      (Z.sAsg (Z.mTree (Z.lDisp (Z.mCons (Z.mBin Z.dIx (Z.mBin Z.dIx (Z.mVar 1) (Z.mVar 3)) (Z.mC (.int 0))) (Z.mCons (Z.mVar 10) (Z.mCons (Z.mVar 10) Z.mNil))))) (Z.gSub (Z.mVar 1) (Z.mVar 3)))))
      (Z.sSeq (Z.sAsg (Z.mBin Z.dAdd (Z.mC (.int 1)) (Z.mBin Z.dMod (Z.mVar 4) (Z.mC (.int 3)))) (Z.gName 6))
      (Z.sSeq (Z.sAsg (Z.mCall z__law_wrong (Z.mCons (Z.mBin Z.dIx (Z.mVar 1) (Z.mVar 3)) (Z.mCons (Z.mVar 2) (Z.mCons (Z.mVar 6) (Z.mCons (Z.mBin Z.dDiv (Z.mVar 4) (Z.mC (.int 3))) Z.mNil))))) (Z.gName 11))
      (Z.sSeq (Z.sAsg (Z.mBin Z.dIx (Z.mVar 11) (Z.mC (.int 0))) (Z.gSub (Z.mVar 1) (Z.mVar 3)))
      (Z.sIf (Z.tB (Z.mBin Z.dGt (Z.mBin Z.dIx (Z.mVar 11) (Z.mC (.int 1))) (Z.mC (.int 0))))
      (Z.sAsg (Z.mCall z__law_no_form (Z.mCons (Z.mBin Z.dIx (Z.mVar 11) (Z.mC (.int 0))) (Z.mCons (Z.mVar 5) Z.mNil))) (Z.gSub (Z.mVar 1) (Z.mVar 3)))
      Z.sNext)))))))
      (Z.sRet (Z.mBin Z.dEq (Z.mCall z__law_refusal (Z.mCons (Z.mVar 1) Z.mNil)) (Z.mTree (Z.lComp 1 [7] (Z.lRng1 (Z.mCons (Z.mC (.int 16)) Z.mNil)) (Z.gName 0) Z.tYes (Z.mBin Z.dEq (Z.mVar 0) (Z.mVar 1)))))))))))))))
noncomputable def z_law : Z.MF := Z.mFun 1 12 b_law
end My

namespace My
open Z PySem
/-- a switch by its word and its bars -/
noncomputable def sd (s : Str × List Int) : D := .tup (.str s.1 :: s.2.map .int)
theorem e32 : Str.ofString " " = ⟨#[32]⟩ := by decide +kernel
noncomputable def digit (c : Nat) : Bool := decide (48 ≤ c ∧ c ≤ 57)
noncomputable def isNum (w : Str) : Bool := decide (1 ≤ w.length) && decide (w.length ≤ 9) && !(decide (w.cps.toList[0]? = some 48) && decide (1 < w.length)) && w.cps.toList.all digit
theorem figs (c : Nat) : (!(Builtin.Str.occurrences (Str.ofString "0123456789") ⟨#[c]⟩ 0 (Str.ofString "0123456789").length 1).isEmpty) = digit c := by
  rw [StrLaws.found_one]
  have e : (Str.ofString "0123456789").cps.toList = [48, 49, 50, 51, 52, 53, 54, 55, 56, 57] := by decide +kernel
  rw [e]
  unfold digit
  by_cases h : 48 ≤ c ∧ c ≤ 57
  · rw [decide_eq_true h, decide_eq_true]
    simp; omega
  · rw [decide_eq_false h, decide_eq_false]
    simp; omega
theorem one_eq (c : Nat) : decide ((⟨#[c]⟩ : Str) = Str.ofString "0") = decide (c = 48) := by
  have e : Str.ofString "0" = ⟨#[48]⟩ := by decide +kernel
  rw [e]; simp
theorem is_number (w : Str) (h : MH) (hw : w.length < 16777216) : z_is_number [.str w] h = .ok (.bl (isNum w)) h := by
  have hl : w.cps.toList.length = w.length := by simp [Str.length]
  have hle : w.length ≤ 16777216 := by omega
  have hsz : w.cps.size < 16777216 := hw
  have comp : compLoop (gName 0) tYes (mBin (dIn false) (mVar 0) (mC (.str "0123456789"))) [none] (w.cps.toList.map fun c => D.str ⟨#[c]⟩) h = .ok ((w.cps.toList.map digit).map D.bl) h := by
    have := compLoop_mapI (g := gName 0) (t := tYes) (h := h) (m := mBin (dIn false) (mVar 0) (mC (.str "0123456789"))) (ρ0 := [none]) (fun c : Nat => D.str ⟨#[c]⟩) (fun c => [some (D.str ⟨#[c]⟩)]) (fun c => D.bl (digit c)) w.cps.toList (fun c hm => by
      refine ⟨by simp, by simp, ?_⟩
      simp only [mBin, mVar, mC, dIn, bind_ok, List.getElem?_cons_zero]
      have := figs c
      simp only [Bool.false_eq_true, if_false]
      rw [this])
    rw [this, List.map_map]; rfl
  have hlt : (w.cps.toList.map fun c => D.str ⟨#[c]⟩).length < 16777216 := by rw [List.length_map, hl]; exact hw
  have e9 : ((w.length : Int) ≤ 9) ↔ w.length ≤ 9 := by omega
  have eall : (w.cps.toList.map digit).all id = w.cps.toList.all digit := by simp [List.all_map]
  simp only [z_is_number, b_is_number]
  unfold isNum
  by_cases h1 : 1 ≤ w.length
  · by_cases h2 : w.length ≤ 9
    · obtain ⟨c, r, ec⟩ : ∃ c r, w.cps.toList = c :: r := by
        cases e : w.cps.toList with
        | nil => rw [e] at hl; simp at hl; omega
        | cons c r => exact ⟨c, r, rfl⟩
      have i0 : atI w.cps.toList 0 = some c := by rw [ec]; simp
      have g0 : w.cps.toList[0]? = some c := by rw [ec]; rfl
      have h1' : (1 : Int) ≤ (w.length : Int) := by omega
      have h2' : (w.length : Int) ≤ 9 := by omega
      by_cases h3 : c = 48
      · by_cases h4 : 1 < w.length
        · have h4' : (1 : Int) < (w.length : Int) := by omega
          simp [-List.map_map, -Array.toList_map, chk, hle, h1, h2, h1', h2', i0, one_eq, h3, h4, h4', g0]
        · have h4' : ¬ (1 : Int) < (w.length : Int) := by omega
          simp [-List.map_map, -Array.toList_map, chk, hle, h1, h2, h1', h2', i0, one_eq, h3, h4, h4', g0, comp, hsz]
      · simp [-List.map_map, -Array.toList_map, chk, hle, h1, h2, h1', h2', i0, one_eq, h3, g0, comp, hsz]
    · have h2' : ¬ (w.length : Int) ≤ 9 := by omega
      have h1' : (1 : Int) ≤ (w.length : Int) := by omega
      simp [chk, hle, h1, h2, h1', h2']
  · have h1' : ¬ (1 : Int) ≤ (w.length : Int) := by omega
    simp [chk, hle, h1, h1']

noncomputable def cntK (k : Str) : Option Int := if k = "bars" then some 1 else if k = "feed" then some 1 else if k = "earth" then some 1 else if k = "breaker" then some 2 else if k = "splitter" then some 2 else none
theorem val_nb (k : Str) : ∃ kvs, v_NUMBERS_BEHIND = .dic kvs ∧ valK kvs (.inr k) = (cntK k).map D.int := by
  refine ⟨_, rfl, ?_⟩
  unfold valK cntK
  simp only [List.find?_cons, List.find?_nil]
  by_cases h1 : k = "bars"
  · subst h1; simp
  by_cases h2 : k = "feed"
  · subst h2; rfl
  by_cases h3 : k = "earth"
  · subst h3; rfl
  by_cases h4 : k = "breaker"
  · subst h4; rfl
  by_cases h5 : k = "splitter"
  · subst h5; rfl
  have e : ∀ x : Str, k ≠ x → ¬ (x = k) := fun x hx z => hx z.symm
  simp [e _ h1, e _ h2, e _ h3, e _ h4, e _ h5, h1, h2, h3, h4, h5]
noncomputable def numV (w : Str) : Int := (intText? w).getD 0
theorem num_of {w : Str} (h : isNum w = true) : intText? w = some (numV w) ∧ w.length ≤ 640 := by
  unfold isNum at h
  simp only [Bool.and_eq_true, decide_eq_true_eq] at h
  obtain ⟨⟨⟨h1, h2⟩, _⟩, h4⟩ := h
  have hd : PySem.NumText.AllDigits w.cps.toList := by
    intro c hc
    have := List.all_eq_true.mp h4 c hc
    unfold digit at this
    exact of_decide_eq_true this
  have hne : w.cps.toList ≠ [] := by
    intro e
    have : w.cps.toList.length = w.length := by simp [Str.length]
    rw [e] at this; simp at this; omega
  have := intText_digits hd hne (by omega)
  unfold numV
  rw [this]
  exact ⟨rfl, by omega⟩
noncomputable def partedF (ws : List Str) : Option (Str × List Int) := match ws with
  | [] => none
  | k :: r => match cntK k with
    | none => none
    | some n => if (r.length : Int) = n then (if r.all isNum = true then some (k, r.map numV) else none) else none
theorem sum_mem {l : List Nat} {x : Nat} (h : x ∈ l) : x ≤ l.sum := by
  induction l with
  | nil => cases h
  | cons a l ih =>
    rcases List.mem_cons.mp h with rfl | h
    · simp
    · have := ih h; simp; omega
theorem split_short {x : Str} {c : Nat} {p : Str} (h : p ∈ Txt.split x ⟨#[c]⟩) : p.length ≤ x.length := by
  have e := join_len (c := c) (Txt.split x ⟨#[c]⟩) (split_ne _ _)
  rw [StrLaws.join_split] at e
  have h1 : p.length ≤ ((Txt.split x ⟨#[c]⟩).map (·.length)).sum := sum_mem (List.mem_map.mpr ⟨p, h, rfl⟩)
  have h2 : (Txt.split x ⟨#[c]⟩).length ≠ 0 := fun z => split_ne x ⟨#[c]⟩ (List.eq_nil_of_length_eq_zero z)
  omega
theorem numbers_told (r : List Str) (h : MH) (hs : ∀ w ∈ r, w.length < 16777216) (hl : r.length < 16777216) : z_numbers_told [.lst (r.map D.str)] h = if r.all isNum = true then .ok (.lst ((r.map numV).map D.int)) h else .exc "NoRow" h := by
  have comp : compLoop (gName 0) tYes (mCall z_is_number (mCons (mVar 0) mNil)) [none] (r.map D.str) h = .ok ((r.map isNum).map D.bl) h := by
    have := compLoop_mapI (g := gName 0) (t := tYes) (h := h) (m := mCall z_is_number (mCons (mVar 0) mNil)) (ρ0 := [none]) (fun w : Str => D.str w) (fun w => [some (D.str w)]) (fun w => D.bl (isNum w)) r (fun w hm => by
      refine ⟨by simp, by simp, ?_⟩
      simp
      exact is_number w h (hs w hm))
    rw [this, List.map_map]; rfl
  have compI : r.all isNum = true → compLoop (gName 0) tYes (mFn fInt (mCons (mVar 0) mNil)) [none] (r.map D.str) h = .ok ((r.map numV).map D.int) h := fun hall => by
    have := compLoop_mapI (g := gName 0) (t := tYes) (h := h) (m := mFn fInt (mCons (mVar 0) mNil)) (ρ0 := [none]) (fun w : Str => D.str w) (fun w => [some (D.str w)]) (fun w => D.int (numV w)) r (fun w hm => by
      refine ⟨by simp, by simp, ?_⟩
      obtain ⟨q1, q2⟩ := num_of (List.all_eq_true.mp hall w hm)
      simp [chk, q1, q2])
    rw [this, List.map_map]; rfl
  have eall : (r.map isNum).all id = r.all isNum := by simp [List.all_map]
  by_cases hall : r.all isNum = true
  · simp [-List.map_map, -List.all_eq_true, z_numbers_told, b_numbers_told, chk, hall, comp, compI hall, hl, eall]
  · simp [-List.map_map, -List.all_eq_true, z_numbers_told, b_numbers_told, chk, hall, comp, hl, eall]
theorem parted (row : Str) (h : MH) (hr : row.length + 1 < 16777216) : z_parted [.str row] h = match partedF (Txt.split row ⟨#[32]⟩) with
    | some s => .ok (sd s) h
    | none => .exc "NoRow" h := by
  have hsl := split_len row 32
  have hsh := fun p (hp : p ∈ Txt.split row ⟨#[32]⟩) => split_short hp
  have hne := split_ne row ⟨#[32]⟩
  generalize ew : Txt.split row ⟨#[32]⟩ = ws at *
  have l32 : ¬ ((⟨#[32]⟩ : Str).length = 0) := by decide
  have hr0 : row.length ≤ 16777216 := by omega
  have hw0 : ws.length ≤ 16777216 := by omega
  have es : lSplit (mVar 0) (mCons (mC (.str " ")) mNil) [some (.str row), none, none] h = .ok (ws.map D.str) h := by
    simp [e32, chk, l32, hr0, ew, hw0]
  cases ws with
  | nil => exact absurd rfl hne
  | cons k r =>
    obtain ⟨kvs, ek, ev⟩ := val_nb k
    have hrl : r.length < 16777216 := by simp at hw0; omega
    have nt := numbers_told r h (fun w hm => by have := hsh w (List.mem_cons_of_mem _ hm); omega) hrl
    have es' : lSplit (mVar 0) (mCons (mC (.str " ")) mNil) [some (.str row), none, none] h = .ok (D.str k :: r.map D.str) h := es
    unfold partedF
    simp only [z_parted, b_parted, mFun, List.length_cons, List.length_nil, if_pos, List.map_cons, List.map_nil, sSeq, sAsg, mTree]
    simp only [List.replicate, List.cons_append, List.nil_append, Nat.reduceAdd, Nat.reduceSub, es', bind_ok, toS_ok, gName, List.set_cons_succ, List.set_cons_zero]
    cases ec : cntK k with
    | none =>
      rw [ec] at ev
      simp [ek, ev, chk]
    | some n =>
      rw [ec] at ev
      have hcm : n + 1 = 1 + n := Int.add_comm ..
      by_cases hl : (r.length : Int) = n
      · by_cases hall : r.all isNum = true
        · rw [if_pos hall] at nt
          simp [-List.map_map, -List.all_eq_true, ek, ev, chk, hl, hcm, hall, nt, hrl, show 1 + r.length ≤ 16777216 by omega, sd]
        · rw [if_neg hall] at nt
          simp [-List.map_map, -List.all_eq_true, ek, ev, chk, hl, hcm, hall, nt, hrl]
      · have hl' : ¬ ((r.length : Int) + 1 = 1 + n) := by omega
        simp [-List.map_map, ek, ev, chk, hl, hl']

end My

namespace My
open Z PySem
theorem e10 : Str.ofString "\n" = ⟨#[10]⟩ := by decide +kernel
theorem str_assoc (a b c : Str) : a ++ b ++ c = a ++ (b ++ c) := str_ext (by simp [Str.cps_append])
theorem join_two (c : Nat) (p q : Str) (r : List Str) : Str.join ⟨#[c]⟩ (p :: q :: r) = p ++ ⟨#[c]⟩ ++ Str.join ⟨#[c]⟩ (q :: r) := rfl
theorem join_snoc (c : Nat) (y : Str) : ∀ (xs : List Str), xs ≠ [] → Str.join ⟨#[c]⟩ (xs ++ [y]) = Str.join ⟨#[c]⟩ xs ++ ⟨#[c]⟩ ++ y
  | [], h => absurd rfl h
  | [x], _ => rfl
  | x :: x' :: xs, _ => by
    have ih := join_snoc c y (x' :: xs) (fun z => nomatch z)
    show x ++ ⟨#[c]⟩ ++ Str.join ⟨#[c]⟩ ((x' :: xs) ++ [y]) = x ++ ⟨#[c]⟩ ++ Str.join ⟨#[c]⟩ (x' :: xs) ++ ⟨#[c]⟩ ++ y
    rw [ih]
    simp only [str_assoc]
/-- the words of a text -/
noncomputable abbrev wds (w : Str) : List Str := Txt.split w ⟨#[32]⟩
theorem split_cons {k w : Str} (hk : 32 ∉ k.cps.toList) : wds (k ++ ⟨#[32]⟩ ++ w) = k :: wds w := by
  have hw := StrLaws.join_split w ⟨#[32]⟩
  have hf := StrLaws.split_free w 32
  have hne := split_ne w ⟨#[32]⟩
  cases e : Txt.split w ⟨#[32]⟩ with
  | nil => exact absurd e hne
  | cons q r =>
    rw [e] at hw hf
    have : k ++ ⟨#[32]⟩ ++ w = Str.join ⟨#[32]⟩ (k :: q :: r) := by rw [join_two, hw]
    rw [this]
    show Txt.split _ _ = _
    rw [split_join (ps := k :: q :: r) (by simp) (fun p hp => by
      rcases List.mem_cons.mp hp with rfl | hp
      · exact hk
      · exact hf p hp)]
    show k :: q :: r = k :: Txt.split w ⟨#[32]⟩
    rw [e]
theorem split_snoc {y w : Str} (hy : 32 ∉ y.cps.toList) : wds (w ++ ⟨#[32]⟩ ++ y) = wds w ++ [y] := by
  have hw := StrLaws.join_split w ⟨#[32]⟩
  have hf := StrLaws.split_free w 32
  have hne := split_ne w ⟨#[32]⟩
  have : w ++ ⟨#[32]⟩ ++ y = Str.join ⟨#[32]⟩ (Txt.split w ⟨#[32]⟩ ++ [y]) := by rw [join_snoc _ _ _ hne, hw]
  rw [this]
  show Txt.split _ _ = _
  exact split_join (ps := Txt.split w ⟨#[32]⟩ ++ [y]) (by simp) (fun p hp => by
    rcases List.mem_append.mp hp with hp | hp
    · exact hf p hp
    · have : p = y := by simpa using hp
      subst this; exact hy)
theorem rows_one {x : Str} (h : 10 ∉ x.cps.toList) : Txt.split x ⟨#[10]⟩ = [x] := by
  have := split_join (c := 10) (ps := [x]) (by simp) (fun p hp => by
    have : p = x := by simpa using hp
    subst this; exact h)
  exact this
theorem rows_two {x y : Str} (h : 10 ∉ x.cps.toList) (h' : 10 ∉ y.cps.toList) : Txt.split (x ++ ⟨#[10]⟩ ++ y) ⟨#[10]⟩ = [x, y] := by
  have := split_join (c := 10) (ps := [x, y]) (by simp) (fun p hp => by
    rcases List.mem_cons.mp hp with rfl | hp
    · exact h
    · have : p = y := by simpa using hp
      subst this; exact h')
  exact this
theorem num_free {w : Str} (h : isNum w = true) : 32 ∉ w.cps.toList := fun m => by
  unfold isNum at h
  simp only [Bool.and_eq_true] at h
  have := List.all_eq_true.mp h.2 32 m
  simp [digit] at this
/-- the words of a text that has no blank, or of one that has -/
theorem wds_case (w : Str) : wds w = [w] ∨ (isNum w = false ∧ 2 ≤ (wds w).length) := by
  have hw := StrLaws.join_split w ⟨#[32]⟩
  have hne := split_ne w ⟨#[32]⟩
  show Txt.split w ⟨#[32]⟩ = [w] ∨ _
  cases e : Txt.split w ⟨#[32]⟩ with
  | nil => exact absurd e hne
  | cons q r =>
    cases r with
    | nil =>
      rw [e] at hw
      have : q = w := hw
      subst this; exact .inl rfl
    | cons q' r =>
      refine .inr ⟨?_, by show 2 ≤ (Txt.split w ⟨#[32]⟩).length; rw [e]; simp⟩
      cases hn : isNum w with
      | false => rfl
      | true =>
        refine absurd ?_ (num_free hn)
        rw [e, join_two] at hw
        rw [← hw]
        simp [Str.cps_append]
theorem pf1 {k w : Str} (hk : cntK k = some 1) : partedF (k :: wds w) = if isNum w = true then some (k, [numV w]) else none := by
  unfold partedF
  simp only [hk]
  rcases wds_case w with e | ⟨e1, e2⟩
  · rw [e]; simp
  · rw [if_neg (by omega)]; simp [e1]
theorem pf2 {k w y : Str} (hk : cntK k = some 2) (hy : isNum y = true) : partedF (k :: (wds w ++ [y])) = if isNum w = true then some (k, [numV w, numV y]) else none := by
  unfold partedF
  simp only [hk]
  rcases wds_case w with e | ⟨e1, e2⟩
  · rw [e]; simp [hy]
  · rw [if_neg (by simp; omega)]; simp [e1]
theorem pf3 {k w y : Str} (hk : cntK k = some 2) (hy : isNum y = true) : partedF (k :: y :: wds w) = if isNum w = true then some (k, [numV y, numV w]) else none := by
  unfold partedF
  simp only [hk]
  rcases wds_case w with e | ⟨e1, e2⟩
  · rw [e]; simp [hy]
  · rw [if_neg (by simp; omega)]; simp [e1]
/-- a number by its figures -/
theorem numV_digits {w : Str} (h : isNum w = true) : numV w = ((PySem.NumText.digitsVal w.cps.toList : Nat) : Int) := by
  unfold isNum at h
  simp only [Bool.and_eq_true, decide_eq_true_eq] at h
  obtain ⟨⟨⟨h1, h2⟩, _⟩, h4⟩ := h
  have hd : PySem.NumText.AllDigits w.cps.toList := by
    intro c hc
    have := List.all_eq_true.mp h4 c hc
    unfold digit at this
    exact of_decide_eq_true this
  have hne : w.cps.toList ≠ [] := by
    intro e
    have : w.cps.toList.length = w.length := by simp [Str.length]
    rw [e] at this; simp at this; omega
  unfold numV
  rw [intText_digits hd hne (by omega)]; rfl
theorem find_fin : ∀ i : Fin 10, Txt.find (Str.ofString "0123456789") ⟨#[48 + i.val]⟩ = (i.val : Int) := by decide +kernel
theorem find_digit {c : Nat} (h : digit c = true) : Txt.find (Str.ofString "0123456789") ⟨#[c]⟩ = ((c - 48 : Nat) : Int) := by
  unfold digit at h
  have := of_decide_eq_true h
  have e := find_fin ⟨c - 48, by omega⟩
  simp only at e
  rw [show 48 + (c - 48) = c by omega] at e
  exact e
noncomputable def fB : MS := (Z.sSeq (Z.sIf (Z.tB (Z.mBin (Z.dIn true) (Z.mVar 2) (Z.mC (.str "0123456789")))) (Z.sRet (Z.mUn Z.dNeg (Z.mC (.int 1)))) Z.sNext)
      (Z.sAsg (Z.mBin Z.dAdd (Z.mBin Z.dMul (Z.mC (.int 10)) (Z.mVar 1)) (Z.mSm Z.fFind (Z.mC (.str "0123456789")) (Z.mCons (Z.mVar 2) Z.mNil))) (Z.gName 1)))
theorem fB_no (a b : Option D) (c : Nat) (h : digit c = false) (hh : MH) : fB [a, b, some (.str ⟨#[c]⟩)] hh = .rt (.int (-1)) hh := by
  have e := figs c
  rw [h] at e
  simp only [fB, sSeq, sIf, tB, mBin, mVar, mC, dIn, bind_ok, List.getElem?_cons_succ, List.getElem?_cons_zero, if_true]
  rw [e]
  simp
theorem fB_yes (a : Option D) (v : Nat) (c : Nat) (h : digit c = true) (hh : MH) : fB [a, some (.int v), some (.str ⟨#[c]⟩)] hh = .nx [a, some (.int (v * 10 + (c - 48) : Nat)), some (.str ⟨#[c]⟩)] hh := by
  have e := figs c
  rw [h] at e
  have f := find_digit h
  have o : okMul 10 (v : Int) := .inl (by decide)
  simp only [fB, sSeq, sIf, tB, mBin, mVar, mC, dIn, bind_ok, List.getElem?_cons_succ, List.getElem?_cons_zero, if_true]
  rw [e]
  simp [o, f]
  omega
theorem num_loop (a : Option D) (h : MH) : ∀ (cs : List Nat) (v : Nat) (x : Option D), (cs.all digit = true → ∃ x', sLoop (gName 2) fB (cs.map fun c => D.str ⟨#[c]⟩) [a, some (.int v), x] h = .nx [a, some (.int (cs.foldl (fun acc c => acc * 10 + (c - 48)) v : Nat)), x'] h) ∧ (cs.all digit = false → sLoop (gName 2) fB (cs.map fun c => D.str ⟨#[c]⟩) [a, some (.int v), x] h = .rt (.int (-1)) h)
  | [], v, x => ⟨fun _ => ⟨x, rfl⟩, fun z => by simp at z⟩
  | c :: cs, v, x => by
    have ih := num_loop a h cs (v * 10 + (c - 48)) (some (.str ⟨#[c]⟩))
    cases q : digit c with
    | true =>
      have e1 := fB_yes a v c q h
      have e0 : sLoop (gName 2) fB ((c :: cs).map fun c => D.str ⟨#[c]⟩) [a, some (.int v), x] h = sLoop (gName 2) fB (cs.map fun c => D.str ⟨#[c]⟩) [a, some (.int (v * 10 + (c - 48) : Nat)), some (.str ⟨#[c]⟩)] h := by
        rw [List.map_cons]
        conv => lhs; unfold sLoop
        simp [e1]
      rw [e0]
      simp only [List.all_cons, q, Bool.true_and, List.foldl_cons]
      exact ih
    | false =>
      have e1 := fB_no a (some (.int v)) c q h
      refine ⟨fun z => by simp [q] at z, fun _ => ?_⟩
      rw [List.map_cons]
      unfold sLoop
      simp [e1]
noncomputable def lawNum (w : Str) : Int := if isNum w = true then numV w else -1
end My

namespace My
open Z PySem
theorem cell_at (ns : List Int) (k : Nat) (h : MH) : z__law_cell_at [.arg ns, .int k] h = .ok (.int (ns.getD k 0)) h := by
  by_cases hk : k < ns.length
  · simp [z__law_cell_at, b__law_cell_at, hk, Z.atI, Z.ixN]
  · simp [z__law_cell_at, b__law_cell_at, hk]
noncomputable def SwOk (c : Int) (s : Str × List Int) : Prop :=
  (∃ b, 0 ≤ b ∧ b < c ∧ (s = (("feed" : Str), [b]) ∨ s = (("earth" : Str), [b]))) ∨ ∃ a b, 0 ≤ a ∧ a < c ∧ 0 ≤ b ∧ b < c ∧ a ≠ b ∧ (s = (("breaker" : Str), [a, b]) ∨ s = (("splitter" : Str), [a, b]))
noncomputable def swOf (n c : Int) : Str × List Int :=
  if c = 1 ∨ n % 4 < 2 then (if n % 2 = 0 then "feed" else "earth", [n / 4 % c]) else (if n % 2 = 0 then "breaker" else "splitter", [n / 4 % c, (n / 4 % c + 1 + n / 40 % (c - 1)) % c])
theorem law_switch (n c : Int) (h : MH) (h1 : 1 ≤ c) (h2 : c ≤ 10) : z__law_switch [.int n, .int c] h = .ok (sd (swOf n c)) h := by
  have hc : 0 < c := by omega
  have e2 : n % 2 = 0 ∨ n % 2 = 1 := by omega
  unfold swOf
  by_cases q1 : c = 1
  · rcases e2 with e2 | e2 <;> simp [z__law_switch, b__law_switch, q1, e2, sd, chk]
  · by_cases q2 : n % 4 < 2
    · rcases e2 with e2 | e2 <;> simp [z__law_switch, b__law_switch, q1, q2, e2, sd, chk, hc]
    · have hc2 : 1 < c := by omega
      rcases e2 with e2 | e2 <;> simp [z__law_switch, b__law_switch, q1, q2, e2, sd, chk, hc, hc2]
theorem swOf_ok (n c : Int) (h1 : 1 ≤ c) (h2 : c ≤ 10) : SwOk c (swOf n c) := by
  have a1 : 0 ≤ n / 4 % c := Int.emod_nonneg _ (by omega)
  have a2 : n / 4 % c < c := Int.emod_lt_of_pos _ (by omega)
  unfold swOf
  by_cases q : c = 1 ∨ n % 4 < 2
  · rw [if_pos q]
    refine .inl ⟨_, a1, a2, ?_⟩
    by_cases e : n % 2 = 0
    · exact .inl (by rw [if_pos e])
    · exact .inr (by rw [if_neg e])
  · rw [if_neg q]
    have b1 : 0 ≤ (n / 4 % c + 1 + n / 40 % (c - 1)) % c := Int.emod_nonneg _ (by omega)
    have b2 : (n / 4 % c + 1 + n / 40 % (c - 1)) % c < c := Int.emod_lt_of_pos _ (by omega)
    refine .inr ⟨_, _, a1, a2, b1, b2, ?_, ?_⟩
    · have c1 : 0 ≤ n / 40 % (c - 1) := Int.emod_nonneg _ (by omega)
      have c2 : n / 40 % (c - 1) < c - 1 := Int.emod_lt_of_pos _ (by omega)
      generalize n / 4 % c = x at *
      generalize n / 40 % (c - 1) = y at *
      intro e
      by_cases z : x + 1 + y < c
      · rw [Int.emod_eq_of_lt (by omega) z] at e; omega
      · have : (x + 1 + y) % c = x + 1 + y - c := by
          rw [← Int.sub_emod_right, Int.emod_eq_of_lt (by omega) (by omega)]
        omega
    · by_cases e : n % 2 = 0
      · exact .inl (by rw [if_pos e])
      · exact .inr (by rw [if_neg e])
noncomputable abbrev W (n : Int) : Str := numS n
theorem w_fin : ∀ n : Fin 11, (W n.val).cps.toList.length ≤ 2 ∧ 1 ≤ (W n.val).cps.toList.length ∧ (32 ∉ (W n.val).cps.toList) ∧ (10 ∉ (W n.val).cps.toList) := by decide +kernel
theorem w_of {n : Int} (h0 : 0 ≤ n) (h1 : n ≤ 10) : (W n).length ≤ 2 ∧ 1 ≤ (W n).length ∧ (32 ∉ (W n).cps.toList) ∧ (10 ∉ (W n).cps.toList) := by
  obtain ⟨m, rfl⟩ : ∃ m : Nat, n = m := ⟨n.toNat, by omega⟩
  have := w_fin ⟨m, by omega⟩
  simpa [Str.length] using this
theorem sum_le {l : List Nat} {m : Nat} (h : ∀ x ∈ l, x ≤ m) : l.sum ≤ l.length * m := by
  induction l with
  | nil => simp
  | cons a l ih =>
    have h1 := h a (List.mem_cons_self ..)
    have h2 := ih fun x hx => h x (List.mem_cons_of_mem _ hx)
    simp only [List.sum_cons, List.length_cons, Nat.succ_mul]
    omega
end My

namespace My
open Z PySem
theorem pf_some {ws : List Str} {k : Str} {vs : List Int} (e : partedF ws = some (k, vs)) : cntK k = some (vs.length : Int) := by
  unfold partedF at e
  cases ws with
  | nil => simp at e
  | cons k' r =>
    simp only at e
    cases ec : cntK k' with
    | none => simp [ec] at e
    | some n =>
      rw [ec] at e
      simp only at e
      split at e
      · split at e
        · injection e with e
          injection e with e1 e2
          subst e1 e2
          rw [ec, List.length_map]
          congr 1
          omega
        · cases e
      · cases e
theorem cnt_le {k : Str} {n : Int} (h : cntK k = some n) : n = 1 ∨ n = 2 := by
  unfold cntK at h
  (repeat' split at h) <;> simp at h <;> omega
theorem one_of {vs : List Int} (h : (vs.length : Int) = 1) : ∃ v, vs = [v] := by
  cases vs with
  | nil => simp at h
  | cons v r => cases r with
    | nil => exact ⟨v, rfl⟩
    | cons w r => simp at h; omega
theorem two_of {vs : List Int} (h : (vs.length : Int) = 2) : ∃ v w, vs = [v, w] := by
  cases vs with
  | nil => simp at h
  | cons v r => cases r with
    | nil => simp at h
    | cons w r => cases r with
      | nil => exact ⟨v, w, rfl⟩
      | cons x r => simp at h; omega
/-- the count that a row tells -/
noncomputable def cntC : Option (Str × List Int) → Except String Int
  | none => .error "NoRow"
  | some (k, vs) => if k = Str.ofString "bars" then (if 1 ≤ vs.headD 0 ∧ vs.headD 0 ≤ 10 then .ok (vs.headD 0) else .error "NoMeasure") else .error "NoRow"
noncomputable def rI (e : Except String Int) (h : MH) : Res D := match e with
  | .ok v => .ok (.int v) h
  | .error c => .exc c h
theorem count_in (row : Str) (hr : row.length + 1 < 16777216) (h : MH) : z_count_in [.str row] h = rI (cntC (partedF (wds row))) h := by
  have p := parted row h hr
  cases e : partedF (wds row) with
  | none =>
    have e' : partedF (Txt.split row ⟨#[32]⟩) = none := e
    rw [e'] at p
    simp at p
    simp [z_count_in, b_count_in, p, cntC, rI]
  | some s =>
    have e' : partedF (Txt.split row ⟨#[32]⟩) = some s := e
    rw [e'] at p
    obtain ⟨k, vs⟩ := s
    have hk := pf_some e
    unfold cntC rI
    simp only
    by_cases q : k = Str.ofString "bars"
    · subst q
      have : (1 : Int) = (vs.length : Int) := by
        have h2 : cntK (Str.ofString "bars") = some 1 := by decide +kernel
        rw [h2] at hk; injection hk
      obtain ⟨v, rfl⟩ := one_of this.symm
      simp [sd] at p
      by_cases q1 : 1 ≤ v
      · by_cases q2 : v ≤ 10
        · simp [z_count_in, b_count_in, p, q1, q2]
        · simp [z_count_in, b_count_in, p, q1, q2]
      · simp [z_count_in, b_count_in, p, q1]
    · rw [if_neg q]
      simp [sd] at p
      simp [z_count_in, b_count_in, p, q]
noncomputable def swC (n : Int) (a : Nat) : Option (Str × List Int) → Except String (Str × List Int)
  | none => .error "NoRow"
  | some (k, vs) => if k = Str.ofString "bars" then .error "NoRow" else if 12 ≤ a then .error "NoRow" else if n ≤ maxI vs then .error "NoBar" else if vs.length = 2 ∧ vs[0]? = vs[1]? then .error "Same" else .ok (k, vs)
noncomputable def rS (e : Except String (Str × List Int)) (h : MH) : Res D := match e with
  | .ok s => .ok (sd s) h
  | .error c => .exc c h
theorem switch_in (row : Str) (hr : row.length + 1 < 16777216) (n : Int) (a : Nat) (h : MH) : z_switch_in [.str row, .int n, .int a] h = rS (swC n a (partedF (wds row))) h := by
  have p := parted row h hr
  cases e : partedF (wds row) with
  | none =>
    have e' : partedF (Txt.split row ⟨#[32]⟩) = none := e
    rw [e'] at p
    simp at p
    simp [z_switch_in, b_switch_in, p, swC, rS]
  | some s =>
    have e' : partedF (Txt.split row ⟨#[32]⟩) = some s := e
    rw [e'] at p
    obtain ⟨k, vs⟩ := s
    have hk := pf_some e
    unfold swC rS
    simp only
    by_cases q : k = Str.ofString "bars"
    · rw [if_pos q]
      simp [sd] at p
      simp [z_switch_in, b_switch_in, p, q]
    · rw [if_neg q]
      by_cases qa : 12 ≤ a
      · rw [if_pos qa]
        have qa' : (12 : Int) ≤ (a : Int) := by omega
        simp [sd] at p
        simp [z_switch_in, b_switch_in, p, q, qa']
      · rw [if_neg qa]
        have qa' : ¬ (12 : Int) ≤ (a : Int) := by omega
        rcases cnt_le hk with h1 | h2
        · obtain ⟨v, rfl⟩ := one_of h1
          simp [sd] at p
          by_cases q1 : n ≤ v
          · simp [z_switch_in, b_switch_in, p, q, qa', q1, maxI]
          · simp [z_switch_in, b_switch_in, p, q, qa', q1, maxI, sd]
        · obtain ⟨v, w, rfl⟩ := two_of h2
          simp [sd] at p
          by_cases q1 : n ≤ (if w > v then w else v)
          · simp [z_switch_in, b_switch_in, p, q, qa', q1, maxI]
          · by_cases q2 : v = w
            · subst q2
              have q1' : ¬ n ≤ v := by simpa using q1
              simp [z_switch_in, b_switch_in, p, q, qa', q1', maxI]
            · simp [z_switch_in, b_switch_in, p, q, qa', q1, maxI, q2, sd]
noncomputable def walkC (n : Int) : Nat → List Str → Option String
  | _, [] => none
  | a, r :: rs => match swC n a (partedF (wds r)) with
    | .error c => some c
    | .ok _ => walkC n (a + 1) rs
noncomputable def rdB : MS := (Z.sAppend (Z.mVar 3) (Z.mCall z_switch_in (Z.mCons (Z.mVar 4) (Z.mCons (Z.mVar 2) (Z.mCons (Z.mFn Z.fLen (Z.mCons (Z.mVar 3) Z.mNil)) Z.mNil)))))
theorem read_walk (n : Int) (c : String) (h : MH) (t w : Option D) : ∀ (rs : List Str) (dn : List D) (x : Option D), (∀ r ∈ rs, r.length + 1 < 16777216) → dn.length + rs.length < 16777216 → walkC n dn.length rs = some c →
    ∃ d, sLoop (gName 4) rdB (rs.map D.str) [t, w, some (.int n), some (.ref h.length), x] (h ++ [some (.lst dn)]) = .exc c (h ++ [d])
  | [], dn, x, _, _, e => by simp [walkC] at e
  | r :: rs, dn, x, hr, hl, e => by
    have s := switch_in r (hr r (List.mem_cons_self ..)) n dn.length (h ++ [some (.lst dn)])
    unfold walkC at e
    simp only [List.length_cons] at hl
    rw [List.map_cons]
    unfold sLoop
    cases q : swC n dn.length (partedF (wds r)) with
    | error c' =>
      rw [q] at e s
      simp only [Option.some.injEq] at e
      subst e
      refine ⟨some (.lst dn), ?_⟩
      simp [rS] at s
      simp [rdB, s]
    | ok v =>
      rw [q] at e s
      simp only at e
      obtain ⟨d, ih⟩ := read_walk n c h t w rs (dn ++ [sd v]) (some (.str r)) (fun r' m => hr r' (List.mem_cons_of_mem _ m)) (by simp; omega) (by simpa using e)
      refine ⟨d, ?_⟩
      simp [rS] at s
      have hl2 : dn.length < 16777216 := by omega
      have fb : rdB [t, w, some (.int n), some (.ref h.length), some (.str r)] (h ++ [some (.lst dn)]) = .nx [t, w, some (.int n), some (.ref h.length), some (.str r)] (h ++ [some (.lst (dn ++ [sd v]))]) := by
        simp [rdB, s, hl2]
      simp [fb]
      exact ih
/-- the class of the first fault of a text's rows -/
noncomputable def firstC (rs : List Str) : Option String := match rs with
  | [] => none
  | r :: rs => match cntC (partedF (wds r)) with
    | .error c => some c
    | .ok n => walkC n 0 rs
theorem read_bad {t : Str} {rs : List Str} (hs : Txt.split t ⟨#[10]⟩ = rs) (ht : t.length + 1 < 16777216) {c : String} (H : firstC rs = some c) (h : MH) (hb : h.all (Cell.bnd h.length) = true) : z_read [.str t] h = .exc c h := by
  have l10 : ¬ ((⟨#[10]⟩ : Str).length = 0) := by decide
  have hsh := fun p (hp : p ∈ Txt.split t ⟨#[10]⟩) => split_short hp
  have hsl := split_len t 10
  have hr0 : t.length ≤ 16777216 := by omega
  have hb' : ∀ x ∈ h, Cell.bnd h.length x = true := by simpa using hb
  rw [hs] at hsh hsl
  cases rs with
  | nil => exact absurd hs (split_ne _ _)
  | cons r rs =>
    have hl : rs.length + 1 ≤ 16777216 := by simp at hsl; omega
    have cI := count_in r (by have := hsh r (List.mem_cons_self ..); omega) h
    have es : lSplit (mVar 0) (mCons (mC (.str "\n")) mNil) [some (.str t), none, none, none, none] h = .ok (D.str r :: rs.map D.str) h := by
      simp [e10, chk, l10, hr0, hs]; omega
    have eb : b_read = (Z.sSeq (Z.sAsg (Z.mTree (Z.lSplit (Z.mVar 0) (Z.mCons (Z.mC (.str "\n")) Z.mNil))) (Z.gName 1))
      (Z.sSeq (Z.sAsg (Z.mCall z_count_in (Z.mCons (Z.mBin Z.dIx (Z.mVar 1) (Z.mC (.int 0))) Z.mNil)) (Z.gName 2))
      (Z.sSeq (Z.sAsg (Z.mCell (Z.lDisp Z.mNil)) (Z.gName 3))
      (Z.sSeq (Z.sFor (Z.lIt (Z.mSl (Z.mVar 1) (Z.oSo (Z.mC (.int 1))) Z.oNo)) (Z.gName 4) rdB)
      (Z.sFreeze 3 (Z.sRet (Z.mTup (Z.mCons (Z.mVar 2) (Z.mCons (Z.mVar 3) Z.mNil))))))))) := rfl
    unfold firstC at H
    simp only at H
    simp only [z_read, eb, mFun, List.length_cons, List.length_nil, if_pos, List.map_cons, List.map_nil, sSeq, sAsg, mTree]
    simp only [List.replicate, List.cons_append, List.nil_append, Nat.reduceAdd, Nat.reduceSub, es, bind_ok, toS_ok, gName, List.set_cons_succ, List.set_cons_zero]
    cases q : cntC (partedF (wds r)) with
    | error c' =>
      rw [q] at H cI
      simp only [Option.some.injEq] at H
      subst H
      simp [rI] at cI
      simp [cI]
    | ok n =>
      rw [q] at H cI
      simp only at H
      simp [rI] at cI
      obtain ⟨d, e⟩ := read_walk n c h (some (.str t)) (some (.lst (.str r :: rs.map D.str))) rs [] none (fun r' m => by have := hsh r' (List.mem_cons_of_mem _ m); omega) (by simp; omega) (by simpa using H)
      simp [-List.map_map, cI, e]
      rw [if_pos hb', if_neg (by omega)]
end My

namespace My
open Z PySem
/-- a word that may stand in a row -/
noncomputable def Wd (w : Str) : Prop := w.length ≤ 60 ∧ 10 ∉ w.cps.toList
theorem mem_app {c : Nat} {a b : Str} (h1 : c ∉ a.cps.toList) (h2 : c ∉ b.cps.toList) : c ∉ (a ++ b).cps.toList := by
  intro m
  rw [Str.cps_append] at m
  simp at m h1 h2
  rcases m with m | m
  · exact h1 m
  · exact h2 m
theorem slice_wd {x : Str} {n : Nat} (h : x.length ≤ n ∧ 10 ∉ x.cps.toList) (l u : Option Int) : (Txt.slice x l u).length ≤ n ∧ 10 ∉ (Txt.slice x l u).cps.toList := by
  refine ⟨Nat.le_trans (Txt.slice_le x l u) h.1, ?_⟩
  unfold Txt.slice
  split
  · exact h.2
  · intro m
    simp only [List.mem_filterMap] at m
    obtain ⟨i, _, hi⟩ := m
    refine h.2 ?_
    rw [Array.mem_toList_iff]
    exact Array.mem_of_getElem? hi
theorem wd_app {a b : Str} {n m : Nat} (ha : a.length ≤ n ∧ 10 ∉ a.cps.toList) (hb : b.length ≤ m ∧ 10 ∉ b.cps.toList) : (a ++ b).length ≤ n + m ∧ 10 ∉ (a ++ b).cps.toList := ⟨by rw [Str.length_append]; omega, mem_app ha.2 hb.2⟩
theorem num_facts {w : Str} (h : isNum w = true) : 1 ≤ w.length ∧ w.length ≤ 9 ∧ 10 ∉ w.cps.toList ∧ 32 ∉ w.cps.toList := by
  refine ⟨?_, ?_, ?_, num_free h⟩
  · unfold isNum at h
    simp only [Bool.and_eq_true, decide_eq_true_eq] at h
    exact h.1.1.1
  · unfold isNum at h
    simp only [Bool.and_eq_true, decide_eq_true_eq] at h
    exact h.1.1.2
  · intro m
    unfold isNum at h
    simp only [Bool.and_eq_true] at h
    have := List.all_eq_true.mp h.2 10 m
    simp [digit] at this
theorem no_mem {w : Str} {c : Nat} (hc : c ∈ w.cps.toList) (hd : digit c = false) : isNum w = false := by
  cases h : isNum w with
  | false => rfl
  | true =>
    unfold isNum at h
    simp only [Bool.and_eq_true] at h
    have := List.all_eq_true.mp h.2 c hc
    rw [hd] at this; cases this
theorem no_long {w : Str} (hl : 9 < w.length) : isNum w = false := by
  unfold isNum
  rw [show decide (w.length ≤ 9) = false from decide_eq_false (by omega)]
  simp
theorem val_lt : ∀ (cs : List Nat) (v : Nat), (∀ c ∈ cs, 48 ≤ c ∧ c ≤ 57) → cs.foldl (fun acc c => acc * 10 + (c - 48)) v < (v + 1) * 10 ^ cs.length
  | [], v, _ => by simp
  | c :: cs, v, h => by
    have ih := val_lt cs (v * 10 + (c - 48)) fun d m => h d (List.mem_cons_of_mem _ m)
    have hc := h c (List.mem_cons_self ..)
    rw [List.foldl_cons, List.length_cons, Nat.pow_succ]
    refine Nat.lt_of_lt_of_le ih ?_
    rw [show (v + 1) * (10 ^ cs.length * 10) = ((v + 1) * 10) * 10 ^ cs.length by rw [Nat.mul_comm (10 ^ cs.length) 10, Nat.mul_assoc]]
    exact Nat.mul_le_mul_right _ (by omega)
theorem w_big {n : Int} (h0 : 0 ≤ n) (h1 : n < 1000000000) : isNum (numS n) = true ∧ numV (numS n) = n := by
  have hr := PySem.W.KIN.num_reads (n := n) h0 (by omega)
  have hl := PyProof.Rows.toString_length_le h0 (k := 9) (by decide) (by omega)
  obtain ⟨m, rfl⟩ := Int.eq_ofNat_of_zero_le h0
  have hsg := PySem.W.KIN.signs_num m
  have hL : ∀ k, 0 < k → (m : Int) < 10 ^ k → (numS (m : Int)).length ≤ k := fun k hk h => PyProof.Rows.toString_length_le h0 hk h
  have hd : PySem.NumText.AllDigits (numS (m : Int)).cps.toList := by
    intro c hc
    unfold numS at hc
    rw [hsg] at hc
    obtain ⟨ch, hch, e⟩ := List.mem_map.mp hc
    have r := Nat.isDigit_of_mem_toDigits (b := 10) (by decide) (by decide) hch
    simp only [Char.isDigit, Bool.and_eq_true, decide_eq_true_eq] at r
    have r1 : 48 ≤ ch.toNat := r.1
    have r2 : ch.toNat ≤ 57 := r.2
    omega
  have hne : (numS (m : Int)).cps.toList ≠ [] := by
    unfold numS
    rw [hsg]
    intro z
    exact Nat.toDigits_ne_nil (List.map_eq_nil_iff.mp z)
  have hll : (numS (m : Int)).cps.toList.length = (numS (m : Int)).length := by simp [Str.length]
  have hv := intText_digits hd hne (by unfold numS; omega)
  have hval : m = PySem.NumText.digitsVal (numS (m : Int)).cps.toList := by
    unfold numS at hv
    rw [hr] at hv
    injection hv with hv
    exact Int.ofNat.inj hv
  refine ⟨?_, ?_⟩
  · unfold isNum
    have a1 : 1 ≤ (numS (m : Int)).length := by
      rw [← hll]
      exact List.length_pos_iff.mpr hne
    have a2 : (numS (m : Int)).length ≤ 9 := hl
    have a3 : (numS (m : Int)).cps.toList.all digit = true := List.all_eq_true.mpr fun c hc => by
      have := hd c hc
      unfold digit
      exact decide_eq_true this
    rw [decide_eq_true a1, decide_eq_true a2, a3]
    simp only [Bool.and_true, Bool.true_and, Bool.not_eq_true', Bool.and_eq_false_iff, decide_eq_false_iff_not]
    apply Decidable.byContradiction
    intro q
    have q1 : (numS (m : Int)).cps.toList[0]? = some 48 := Decidable.byContradiction fun z => q (.inl z)
    have q2 : 1 < (numS (m : Int)).length := Decidable.byContradiction fun z => q (.inr z)
    cases e : (numS (m : Int)).cps.toList with
    | nil => exact hne e
    | cons c r =>
      rw [e] at q1 hval hll hd
      have : c = 48 := by simpa using q1
      subst this
      have hb := val_lt r 0 fun d md => hd d (List.mem_cons_of_mem _ md)
      have hv2 : m = r.foldl (fun acc c => acc * 10 + (c - 48)) 0 := by rw [hval]; rfl
      rw [← hv2] at hb
      simp only [List.length_cons] at hll
      have := hL r.length (by omega) (by
        have h3 : m < 10 ^ r.length := by simpa using hb
        have h4 : ((10 ^ r.length : Nat) : Int) = 10 ^ r.length := by simp
        omega)
      omega
  · unfold numV numS
    rw [hr]; rfl
/-! a number that is written otherwise -/
noncomputable def sg4 : Str := Str.ofString " !#&'()*+,-./:;<=>?@ABYZ[]^_abyz{|}~"
theorem sg4_len : sg4.length = 36 := by decide +kernel
theorem sg4_all : ∀ i : Fin 36, sg4.cps.toList[i.val]?.isSome = true ∧ sg4.cps.toList[i.val]? ≠ some 10 ∧ (sg4.cps.toList[i.val]?.all fun c => !digit c) = true := by decide +kernel
theorem sg4_at (n : Int) : ∃ c : Nat, atI sg4.cps.toList (n % 36) = some c ∧ c ≠ 10 ∧ digit c = false := by
  obtain ⟨k, ek⟩ : ∃ k : Nat, n % 36 = k := ⟨(n % 36).toNat, by omega⟩
  have hk : k < 36 := by omega
  obtain ⟨h1, h2, h3⟩ := sg4_all ⟨k, hk⟩
  obtain ⟨c, hc⟩ := Option.isSome_iff_exists.mp h1
  refine ⟨c, ?_, fun z => h2 (by rw [hc, z]), by simp only at hc h3; rw [hc] at h3; simpa using h3⟩
  rw [ek]
  simp only at hc
  have e2 : sg4.cps[k]? = some c := by simpa using hc
  obtain ⟨hl, e3⟩ := Array.getElem?_eq_some_iff.mp e2
  simp [atI, ixN, hl, e3]
noncomputable def bnB (S : Str) : MS := (Z.sSeq (Z.sAsg (Z.mC (.str S)) (Z.gName 2))
      (Z.sSeq (Z.sAsg (Z.mBin Z.dDiv (Z.mVar 1) (Z.mC (.int 5))) (Z.gName 3))
      (Z.sSeq (Z.sIf (Z.tB (Z.mBin Z.dEq (Z.mBin Z.dMod (Z.mVar 1) (Z.mC (.int 5))) (Z.mC (.int 0))))
      (Z.sRet (Z.mBin Z.dAdd (Z.mC (.str "0")) (Z.mVar 0)))
      Z.sNext)
      (Z.sSeq (Z.sIf (Z.tB (Z.mBin Z.dEq (Z.mBin Z.dMod (Z.mVar 1) (Z.mC (.int 5))) (Z.mC (.int 1))))
      (Z.sRet (Z.mBin Z.dIx (Z.mTree (Z.lDisp (Z.mCons (Z.mC (.str "")) (Z.mCons (Z.mBin Z.dAdd (Z.mC (.str "-")) (Z.mVar 0)) (Z.mCons (Z.mBin Z.dAdd (Z.mC (.str "+")) (Z.mVar 0)) (Z.mCons (Z.mBin Z.dAdd (Z.mVar 0) (Z.mC (.str "e0"))) (Z.mCons (Z.mC (.str "0000000000")) (Z.mCons (Z.mC (.str "1_0")) Z.mNil)))))))) (Z.mBin Z.dMod (Z.mVar 3) (Z.mC (.int 6)))))
      Z.sNext)
      (Z.sSeq (Z.sIf (Z.tB (Z.mBin Z.dEq (Z.mBin Z.dMod (Z.mVar 1) (Z.mC (.int 5))) (Z.mC (.int 2))))
      (Z.sRet (Z.mBin Z.dAdd (Z.mBin Z.dAdd (Z.mC (.str "1")) (Z.mVar 0)) (Z.mC (.str "00000000"))))
      Z.sNext)
      (Z.sSeq (Z.sAsg (Z.mBin Z.dMod (Z.mVar 3) (Z.mBin Z.dAdd (Z.mFn Z.fLen (Z.mCons (Z.mVar 0) Z.mNil)) (Z.mC (.int 1)))) (Z.gName 4))
      (Z.sRet (Z.mBin Z.dAdd (Z.mBin Z.dAdd (Z.mSl (Z.mVar 0) Z.oNo (Z.oSo (Z.mVar 4))) (Z.mBin Z.dIx (Z.mVar 2) (Z.mBin Z.dMod (Z.mBin Z.dDiv (Z.mVar 3) (Z.mC (.int 3))) (Z.mC (.int 36))))) (Z.mSl (Z.mVar 0) (Z.oSo (Z.mVar 4)) Z.oNo)))))))))
/-- words that are no numbers -/
noncomputable def Bad (w : Str) : Prop := isNum w = false ∧ w.length ≤ 60 ∧ 10 ∉ w.cps.toList
theorem bad_0 {u : Str} (hu : isNum u = true) : Bad (Str.ofString "0" ++ u) := by
  have f := num_facts hu
  have z : (Str.ofString "0").length = 1 ∧ 10 ∉ (Str.ofString "0").cps.toList ∧ (Str.ofString "0").cps.toList = [48] := by decide +kernel
  refine ⟨?_, by rw [Str.length_append, z.1]; omega, mem_app z.2.1 f.2.2.1⟩
  unfold isNum
  have h1 : (Str.ofString "0" ++ u).cps.toList[0]? = some 48 := by rw [Str.cps_append]; simp [z.2.2]
  have h2 : 1 < (Str.ofString "0" ++ u).length := by rw [Str.length_append, z.1]; omega
  rw [decide_eq_true h1, decide_eq_true h2]
  simp
theorem bad_pre {p u : Str} (c : Nat) (hp : c ∈ p.cps.toList) (hc : digit c = false) (hl : p.length ≤ 9) (h10 : 10 ∉ p.cps.toList) (hu : isNum u = true) : Bad (p ++ u) ∧ Bad (u ++ p) := by
  have f := num_facts hu
  refine ⟨⟨no_mem (c := c) (by rw [Str.cps_append]; simp at hp ⊢; exact .inl hp) hc, by rw [Str.length_append]; omega, mem_app h10 f.2.2.1⟩, ⟨no_mem (c := c) (by rw [Str.cps_append]; simp at hp ⊢; exact .inr hp) hc, by rw [Str.length_append]; omega, mem_app f.2.2.1 h10⟩⟩
theorem bad_lits : Bad (Str.ofString "") ∧ Bad (Str.ofString "0000000000") ∧ Bad (Str.ofString "1_0") := by
  refine ⟨⟨?_, ?_, ?_⟩, ⟨?_, ?_, ?_⟩, ⟨?_, ?_, ?_⟩⟩ <;> decide +kernel
theorem bad_2 {u : Str} (hu : isNum u = true) : Bad (Str.ofString "1" ++ u ++ Str.ofString "00000000") := by
  have f := num_facts hu
  have z : (Str.ofString "1").length = 1 ∧ 10 ∉ (Str.ofString "1").cps.toList := by decide +kernel
  have y : (Str.ofString "00000000").length = 8 ∧ 10 ∉ (Str.ofString "00000000").cps.toList := by decide +kernel
  exact ⟨no_long (by rw [Str.length_append, Str.length_append, z.1, y.1]; omega), by rw [Str.length_append, Str.length_append, z.1, y.1]; omega, mem_app (mem_app z.2 f.2.2.1) y.2⟩
theorem bn_ok (S : Str) (sl : S.length = 36) (u : Str) (hu : isNum u = true) (c : Int) (s : Nat) (es : atI S.cps.toList (c / 5 / 3 % 36) = some s) (hs : s ≠ 10) (sd' : digit s = false) (h : MH) : ∃ w, Bad w ∧ mFun 2 5 (bnB S) [.str u, .int c] h = .ok (.str w) h := by
  have f := num_facts hu
  have ul : u.length ≤ 16777216 := by omega
  have l0 : (Str.ofString "0").length + u.length ≤ 16777216 := by rw [show (Str.ofString "0").length = 1 by decide +kernel]; omega
  have lm : (Str.ofString "-").length + u.length ≤ 16777216 := by rw [show (Str.ofString "-").length = 1 by decide +kernel]; omega
  have lp : (Str.ofString "+").length + u.length ≤ 16777216 := by rw [show (Str.ofString "+").length = 1 by decide +kernel]; omega
  have le : u.length + (Str.ofString "e0").length ≤ 16777216 := by rw [show (Str.ofString "e0").length = 2 by decide +kernel]; omega
  have l1 : (Str.ofString "1").length + u.length ≤ 16777216 := by rw [show (Str.ofString "1").length = 1 by decide +kernel]; omega
  have l2 : (Str.ofString "1" ++ u).length + (Str.ofString "00000000").length ≤ 16777216 := by rw [Str.length_append, show (Str.ofString "1").length = 1 by decide +kernel, show (Str.ofString "00000000").length = 8 by decide +kernel]; omega
  by_cases q0 : c % 5 = 0
  · exact ⟨_, bad_0 hu, by simp [bnB, q0, l0]⟩
  by_cases q1 : c % 5 = 1
  · have m := bad_pre 45 (p := Str.ofString "-") (by decide +kernel) (by decide +kernel) (by decide +kernel) (by decide +kernel) hu
    have p := bad_pre 43 (p := Str.ofString "+") (by decide +kernel) (by decide +kernel) (by decide +kernel) (by decide +kernel) hu
    have x := bad_pre 101 (p := Str.ofString "e0") (by decide +kernel) (by decide +kernel) (by decide +kernel) (by decide +kernel) hu
    have r : c / 5 % 6 = 0 ∨ c / 5 % 6 = 1 ∨ c / 5 % 6 = 2 ∨ c / 5 % 6 = 3 ∨ c / 5 % 6 = 4 ∨ c / 5 % 6 = 5 := by omega
    rcases r with r | r | r | r | r | r
    · exact ⟨_, bad_lits.1, by simp [bnB, q1, r, lm, lp, le, atI, ixN]⟩
    · exact ⟨_, m.1, by simp [bnB, q1, r, lm, lp, le, atI, ixN]⟩
    · exact ⟨_, p.1, by simp [bnB, q1, r, lm, lp, le, atI, ixN]⟩
    · exact ⟨_, x.2, by simp [bnB, q1, r, lm, lp, le, atI, ixN]⟩
    · exact ⟨_, bad_lits.2.1, by simp [bnB, q1, r, lm, lp, le, atI, ixN]⟩
    · exact ⟨_, bad_lits.2.2, by simp [bnB, q1, r, lm, lp, le, atI, ixN]⟩
  by_cases q2 : c % 5 = 2
  · exact ⟨_, bad_2 hu, by simp [bnB, q2, l1, l2]⟩
  have hp : (0 : Int) < (u.length : Int) + 1 := by omega
  generalize ea : c / 5 % ((u.length : Int) + 1) = a
  have hA := slice_wd ⟨f.2.1, f.2.2.1⟩ none (some a)
  have hB := slice_wd ⟨f.2.1, f.2.2.1⟩ (some a) none
  generalize eA : Txt.slice u none (some a) = A at hA
  generalize eB : Txt.slice u (some a) none = B at hB
  have hS : (⟨#[s]⟩ : Str).length ≤ 1 ∧ 10 ∉ (⟨#[s]⟩ : Str).cps.toList := ⟨Nat.le_refl _, by simpa using fun z => hs z.symm⟩
  have h1 := wd_app hA hS
  have h2 := wd_app h1 hB
  refine ⟨A ++ ⟨#[s]⟩ ++ B, ⟨no_mem (c := s) (by rw [Str.cps_append, Str.cps_append]; simp) sd', by have := h2.1; omega, h2.2⟩, ?_⟩
  have hS2 : S.length ≤ 16777216 := by omega
  have n1 : A.length + (⟨#[s]⟩ : Str).length ≤ 16777216 := by have := hA.1; have := hS.1; omega
  have n2 : (A ++ ⟨#[s]⟩).length + B.length ≤ 16777216 := by have := h1.1; have := hB.1; omega
  simp [bnB, q0, q1, q2, ul, hp, ea, eA, eB, hS2, es, n1, n2]
theorem bad_number (u : Str) (hu : isNum u = true) (c : Int) (h : MH) : ∃ w, Bad w ∧ z__law_bad_number [.str u, .int c] h = .ok (.str w) h := by
  obtain ⟨s, e1, e2, e3⟩ := sg4_at (c / 5 / 3)
  exact bn_ok sg4 sg4_len u hu c s e1 e2 e3 h
end My

namespace My
open Z PySem
noncomputable def rD (ws : List Str) : D := .lst (ws.map .str)
/-- the text of a row -/
noncomputable def jR (ws : List Str) : Str := Str.join ⟨#[32]⟩ ws
noncomputable def pf (ws : List Str) : Option (Str × List Int) := partedF (wds (jR ws))
theorem wds_app (k w : Str) : wds (k ++ ⟨#[32]⟩ ++ w) = wds k ++ wds w := by
  have hw := StrLaws.join_split w ⟨#[32]⟩
  have hf := StrLaws.split_free w 32
  have hne := split_ne w ⟨#[32]⟩
  have kw := StrLaws.join_split k ⟨#[32]⟩
  have kf := StrLaws.split_free k 32
  have kne := split_ne k ⟨#[32]⟩
  have app : ∀ (xs ys : List Str), xs ≠ [] → ys ≠ [] → Str.join ⟨#[32]⟩ (xs ++ ys) = Str.join ⟨#[32]⟩ xs ++ ⟨#[32]⟩ ++ Str.join ⟨#[32]⟩ ys := by
    intro xs
    induction xs with
    | nil => intro ys h; exact absurd rfl h
    | cons x xs ih =>
      intro ys _ hy
      cases xs with
      | nil =>
        cases ys with
        | nil => exact absurd rfl hy
        | cons y ys => rfl
      | cons x' xs =>
        have := ih ys (List.cons_ne_nil _ _) hy
        show x ++ ⟨#[32]⟩ ++ Str.join ⟨#[32]⟩ ((x' :: xs) ++ ys) = x ++ ⟨#[32]⟩ ++ Str.join ⟨#[32]⟩ (x' :: xs) ++ ⟨#[32]⟩ ++ Str.join ⟨#[32]⟩ ys
        rw [this]
        simp only [str_assoc]
  show Txt.split _ _ = Txt.split k ⟨#[32]⟩ ++ Txt.split w ⟨#[32]⟩
  rw [← split_join (c := 32) (ps := Txt.split k ⟨#[32]⟩ ++ Txt.split w ⟨#[32]⟩) (by simp [kne]) (fun p hp => by
    rcases List.mem_append.mp hp with hp | hp
    · exact kf p hp
    · exact hf p hp), app _ _ kne hne, kw, hw]
theorem wds_join : ∀ (ws : List Str), ws ≠ [] → wds (jR ws) = ws.flatMap wds
  | [], h => absurd rfl h
  | [w], _ => by show wds w = _; simp
  | w :: w' :: ws, _ => by
    have ih := wds_join (w' :: ws) (List.cons_ne_nil _ _)
    show wds (w ++ ⟨#[32]⟩ ++ jR (w' :: ws)) = _
    rw [wds_app, ih]
    rfl
theorem wds_free {w : Str} (h : 32 ∉ w.cps.toList) : wds w = [w] := by
  have := split_join (c := 32) (ps := [w]) (by simp) (fun p hp => by
    have : p = w := by simpa using hp
    subst this; exact h)
  exact this
theorem flat_free : ∀ (ws : List Str), (∀ w ∈ ws, 32 ∉ w.cps.toList) → ws.flatMap wds = ws
  | [], _ => rfl
  | w :: ws, h => by
    rw [List.flatMap_cons, wds_free (h w (List.mem_cons_self ..)), flat_free ws fun x m => h x (List.mem_cons_of_mem _ m)]
    rfl
theorem pf_free {ws : List Str} (h0 : ws ≠ []) (h : ∀ w ∈ ws, 32 ∉ w.cps.toList) : pf ws = partedF ws := by
  unfold pf
  rw [wds_join ws h0, flat_free ws h]
/-- a row by its first word and its numbers -/
structure Rk (ws : List Str) (k : Str) (us : List Str) : Prop where
  e : ws = k :: us
  c : cntK k = some (us.length : Int)
  n : ∀ u ∈ us, isNum u = true
noncomputable abbrev bars : Str := Str.ofString "bars"
/-- first words -/
structure Kn (k : Str) : Prop where
  b : 32 ∉ k.cps.toList
  t : 10 ∉ k.cps.toList
  l : k.length ≤ 8
  g : 4 ≤ k.length
  u : (Txt.upper k).length ≤ 100 ∧ (Txt.upper (Txt.slice k none (some 1))).length ≤ 100
theorem kind_of {k : Str} {n : Int} (h : cntK k = some n) : k = Str.ofString "bars" ∨ k = Str.ofString "feed" ∨ k = Str.ofString "earth" ∨ k = Str.ofString "breaker" ∨ k = Str.ofString "splitter" := by
  unfold cntK at h
  by_cases h1 : k = Str.ofString "bars"
  · exact .inl h1
  by_cases h2 : k = Str.ofString "feed"
  · exact .inr (.inl h2)
  by_cases h3 : k = Str.ofString "earth"
  · exact .inr (.inr (.inl h3))
  by_cases h4 : k = Str.ofString "breaker"
  · exact .inr (.inr (.inr (.inl h4)))
  by_cases h5 : k = Str.ofString "splitter"
  · exact .inr (.inr (.inr (.inr h5)))
  rw [if_neg h1, if_neg h2, if_neg h3, if_neg h4, if_neg h5] at h
  cases h
theorem kn_of {k : Str} {n : Int} (h : cntK k = some n) : Kn k := by
  rcases kind_of h with rfl | rfl | rfl | rfl | rfl <;> exact ⟨by decide +kernel, by decide +kernel, by decide +kernel, by decide +kernel, by decide +kernel⟩
theorem Rk.pf {ws us : List Str} {k : Str} (r : Rk ws k us) : pf ws = some (k, us.map numV) := by
  have hk := kn_of r.c
  rw [pf_free (by rw [r.e]; exact List.cons_ne_nil _ _) (fun w hw => by
    rw [r.e] at hw
    rcases List.mem_cons.mp hw with rfl | hw
    · exact hk.b
    · exact num_free (r.n w hw)), r.e]
  unfold partedF
  simp only [r.c]
  rw [if_pos trivial, if_pos (List.all_eq_true.mpr r.n)]
/-- a row that is short -/
structure Bd (ws : List Str) : Prop where
  z : ws ≠ []
  n : ws.length ≤ 6
  w : ∀ w ∈ ws, w.length ≤ 60 ∧ 10 ∉ w.cps.toList
theorem Rk.len {ws us : List Str} {k : Str} (r : Rk ws k us) : (∃ u, us = [u] ∧ isNum u = true) ∨ ∃ u v, us = [u, v] ∧ isNum u = true ∧ isNum v = true := by
  have n := r.n
  rcases cnt_le r.c with h | h
  · cases us with
    | nil => simp at h
    | cons u t => cases t with
      | nil => exact .inl ⟨u, rfl, n u (List.mem_cons_self ..)⟩
      | cons v t => simp at h; omega
  · cases us with
    | nil => simp at h
    | cons u t => cases t with
      | nil => simp at h
      | cons v t => cases t with
        | nil => exact .inr ⟨u, v, rfl, n u (List.mem_cons_self ..), n v (List.mem_cons_of_mem _ (List.mem_cons_self ..))⟩
        | cons x t => simp at h; omega
theorem Rk.bd {ws us : List Str} {k : Str} (r : Rk ws k us) : Bd ws := by
  have hk := kn_of r.c
  refine ⟨(by rw [r.e]; exact List.cons_ne_nil _ _), ?_, fun w hw => ?_⟩
  · rw [r.e]
    rcases r.len with ⟨u, rfl, _⟩ | ⟨u, v, rfl, _⟩ <;> simp
  · rw [r.e] at hw
    rcases List.mem_cons.mp hw with rfl | hw
    · exact ⟨by have := hk.l; omega, hk.t⟩
    · have := num_facts (r.n w hw)
      exact ⟨by omega, this.2.2.1⟩
/-- a row of no form, where b: a count's is due -/
noncomputable def NF (b : Prop) (ws : List Str) : Prop := pf ws = none ∨ ∃ k vs, pf ws = some (k, vs) ∧ (k = bars ↔ ¬ b)
theorem NF.cnt {b : Prop} {ws : List Str} (h : NF b ws) (hb : b) : cntC (pf ws) = .error "NoRow" := by
  rcases h with e | ⟨k, vs, e, i⟩
  · rw [e]; rfl
  · rw [e]
    unfold cntC
    have : ¬ k = Str.ofString "bars" := fun z => (i.mp z) hb
    simp only [if_neg this]
theorem NF.sw {b : Prop} {ws : List Str} (h : NF b ws) (hb : ¬ b) (n : Int) (a : Nat) : swC n a (pf ws) = .error "NoRow" := by
  rcases h with e | ⟨k, vs, e, i⟩
  · rw [e]; rfl
  · rw [e]
    unfold swC
    have : k = Str.ofString "bars" := i.mpr hb
    simp only [if_pos this]
theorem pf_head (o : Str) (r : List Str) : partedF (o :: r) = none ∨ ∃ vs, partedF (o :: r) = some (o, vs) := by
  unfold partedF
  simp only
  split
  · exact .inl rfl
  · split
    · split
      · exact .inr ⟨_, rfl⟩
      · exact .inl rfl
    · exact .inl rfl
theorem pf_short {k : Str} {n : Int} {r : List Str} (hk : cntK k = some n) (h : (r.length : Int) ≠ n) : partedF (k :: r) = none := by
  unfold partedF
  simp only [hk]
  rw [if_neg h]
/-- another first word -/
noncomputable def Oth (k o : Str) : Prop := 32 ∉ o.cps.toList ∧ (o.length ≤ 60 ∧ 10 ∉ o.cps.toList) ∧ (cntK o = none ∨ (o = bars ↔ ¬ k = bars))
noncomputable instance (k o : Str) : Decidable (Oth k o) := by unfold Oth; infer_instance
/-- the eight other first words -/
noncomputable def ols (k : Str) (p : Int) : List Str := [Str.ofString "", k ++ Str.ofString "s", Txt.upper k, Txt.slice k (some 1) none, Str.ofString "joiner", Txt.upper (Txt.slice k none (some 1)) ++ Txt.slice k (some 1) none, if k = bars then Str.ofString "feed" else bars, Txt.slice k none (some p)]
theorem ols_k {k : Str} (hk : k = Str.ofString "bars" ∨ k = Str.ofString "feed" ∨ k = Str.ofString "earth" ∨ k = Str.ofString "breaker" ∨ k = Str.ofString "splitter") : ∀ p : Fin 8, 1 ≤ p.val → p.val < k.length → ∀ o ∈ ols k (p.val : Int), Oth k o := by
  rcases hk with rfl | rfl | rfl | rfl | rfl <;> decide +kernel
theorem ols_oth {k : Str} {n : Int} (hk : cntK k = some n) {p : Int} (h1 : 1 ≤ p) (h2 : p < k.length) : ∀ o ∈ ols k p, Oth k o := by
  have := (kn_of hk).l
  obtain ⟨q, rfl⟩ : ∃ q : Nat, p = q := ⟨p.toNat, by omega⟩
  exact ols_k (kind_of hk) ⟨q, by omega⟩ (by simp; omega) (by simp; omega)
noncomputable def nfR : MS := (Z.sSeq (Z.sIf (Z.tB (Z.mBin Z.dEq (Z.mBin Z.dMod (Z.mVar 1) (Z.mC (.int 6))) (Z.mC (.int 0))))
      (Z.sRet (Z.mSl (Z.mVar 0) Z.oNo (Z.oSo (Z.mUn Z.dNeg (Z.mC (.int 1))))))
      Z.sNext)
      (Z.sSeq (Z.sIf (Z.tB (Z.mBin Z.dEq (Z.mBin Z.dMod (Z.mVar 1) (Z.mC (.int 6))) (Z.mC (.int 1))))
      (Z.sRet (Z.mBin Z.dAdd (Z.mVar 0) (Z.mTree (Z.lDisp (Z.mCons (Z.mBin Z.dIx (Z.mTree (Z.lDisp (Z.mCons (Z.mC (.str "")) (Z.mCons (Z.mC (.str "0")) (Z.mCons (Z.mC (.str "1")) Z.mNil))))) (Z.mBin Z.dMod (Z.mVar 2) (Z.mC (.int 3)))) Z.mNil)))))
      Z.sNext)
      (Z.sSeq (Z.sIf (Z.tB (Z.mBin Z.dEq (Z.mBin Z.dMod (Z.mVar 1) (Z.mC (.int 6))) (Z.mC (.int 2))))
      (Z.sRet (Z.mBin Z.dAdd (Z.mTree (Z.lDisp (Z.mCons (Z.mBin Z.dIx (Z.mVar 3) (Z.mBin Z.dMod (Z.mVar 2) (Z.mC (.int 8)))) Z.mNil))) (Z.mSl (Z.mVar 0) (Z.oSo (Z.mC (.int 1))) Z.oNo)))
      Z.sNext)
      (Z.sSeq (Z.sIf (Z.tB (Z.mBin Z.dEq (Z.mBin Z.dMod (Z.mVar 1) (Z.mC (.int 6))) (Z.mC (.int 3))))
      (Z.sRet (Z.mBin Z.dIx (Z.mTree (Z.lDisp (Z.mCons (Z.mTree (Z.lDisp (Z.mCons (Z.mC (.str "")) Z.mNil))) (Z.mCons (Z.mBin Z.dAdd (Z.mTree (Z.lDisp (Z.mCons (Z.mC (.str "")) Z.mNil))) (Z.mVar 0)) (Z.mCons (Z.mSl (Z.mVar 0) Z.oNo (Z.oSo (Z.mC (.int 1)))) (Z.mCons (Z.mBin Z.dAdd (Z.mVar 0) (Z.mVar 0)) Z.mNil)))))) (Z.mBin Z.dMod (Z.mVar 2) (Z.mC (.int 4)))))
      Z.sNext)
      (Z.sSeq (Z.sAsg (Z.mBin Z.dAdd (Z.mC (.int 1)) (Z.mBin Z.dMod (Z.mVar 2) (Z.mBin Z.dSub (Z.mFn Z.fLen (Z.mCons (Z.mVar 0) Z.mNil)) (Z.mC (.int 1))))) (Z.gName 4))
      (Z.sRet (Z.mBin Z.dAdd (Z.mBin Z.dAdd (Z.mSl (Z.mVar 0) Z.oNo (Z.oSo (Z.mVar 4))) (Z.mTree (Z.lDisp (Z.mCons (Z.mCall z__law_bad_number (Z.mCons (Z.mBin Z.dIx (Z.mVar 0) (Z.mVar 4)) (Z.mCons (Z.mBin Z.dDiv (Z.mVar 2) (Z.mC (.int 2))) Z.mNil))) Z.mNil)))) (Z.mSl (Z.mVar 0) (Z.oSo (Z.mBin Z.dAdd (Z.mVar 4) (Z.mC (.int 1)))) Z.oNo))))))))
theorem fc {P : Str → Prop} {a : Str} {l : List Str} (h : P a) (t : ∀ w ∈ l, P w) : ∀ w ∈ a :: l, P w := fun w m => by
  rcases List.mem_cons.mp m with rfl | m
  · exact h
  · exact t w m
theorem fn {P : Str → Prop} : ∀ w ∈ ([] : List Str), P w := fun w m => nomatch m
theorem nf_free {b : Prop} {k : Str} {n : Int} {r : List Str} (hk : cntK k = some n) (hf : ∀ w ∈ k :: r, 32 ∉ w.cps.toList) (h : (r.length : Int) ≠ n) : NF b (k :: r) := by
  refine .inl ?_
  rw [pf_free (List.cons_ne_nil _ _) hf]
  exact pf_short hk h
theorem lit3 : (32 ∉ (Str.ofString "").cps.toList ∧ (Str.ofString "").length ≤ 60 ∧ 10 ∉ (Str.ofString "").cps.toList) ∧ (32 ∉ (Str.ofString "0").cps.toList ∧ (Str.ofString "0").length ≤ 60 ∧ 10 ∉ (Str.ofString "0").cps.toList) ∧ (32 ∉ (Str.ofString "1").cps.toList ∧ (Str.ofString "1").length ≤ 60 ∧ 10 ∉ (Str.ofString "1").cps.toList) := by decide +kernel
theorem nf_empty {b : Prop} {r : List Str} (h : ∀ w ∈ r, 32 ∉ w.cps.toList) : NF b (Str.ofString "" :: r) := by
  refine .inl ?_
  rw [pf_free (List.cons_ne_nil _ _) (fun w hw => by
    rcases List.mem_cons.mp hw with rfl | hw
    · exact lit3.1.1
    · exact h w hw)]
  unfold partedF
  have : cntK (Str.ofString "") = none := by decide +kernel
  simp only [this]
theorem num_bd {u : Str} (h : isNum u = true) : u.length ≤ 60 ∧ 10 ∉ u.cps.toList := by
  have := num_facts h
  exact ⟨by omega, this.2.2.1⟩
theorem nfR_ok {ws us : List Str} {k : Str} (r : Rk ws k us) (c f : Int) (os : List Str) (ho : os.length = 8) (hos : ∀ o ∈ os, Oth k o) (h : MH) :
    ∃ ws', NF (k = bars) ws' ∧ Bd ws' ∧ nfR [some (rD ws), some (.int c), some (.int f), some (.lst (os.map D.str)), none] h = .rt (rD ws') h := by
  have hk := kn_of r.c
  have kb : k.length ≤ 60 ∧ 10 ∉ k.cps.toList := ⟨by have := hk.l; omega, hk.t⟩
  have rc := r.c
  have re := r.e
  have rl := r.len
  subst re
  obtain ⟨o, hom, eo⟩ : ∃ o, o ∈ os ∧ atI (os.map D.str) (f % 8) = some (.str o) := by
    obtain ⟨j, ej⟩ : ∃ j : Nat, f % 8 = j := ⟨(f % 8).toNat, by omega⟩
    have hj : j < os.length := by omega
    refine ⟨os[j], List.getElem_mem hj, ?_⟩
    rw [ej]
    simp [atI, ixN, hj]
  have oth := hos o hom
  have r3 : f % 3 = 0 ∨ f % 3 = 1 ∨ f % 3 = 2 := by omega
  have r4 : f % 4 = 0 ∨ f % 4 = 1 ∨ f % 4 = 2 ∨ f % 4 = 3 := by omega
  have noth : ∀ us', (∀ u ∈ us', isNum u = true) → NF (k = bars) (o :: us') := fun us' hu => by
    have e := pf_free (ws := o :: us') (List.cons_ne_nil _ _) (fun w hw => by
      rcases List.mem_cons.mp hw with rfl | hw
      · exact oth.1
      · exact num_free (hu w hw))
    unfold NF
    rw [e]
    rcases oth.2.2 with z | z
    · left
      unfold partedF
      simp only [z]
    · rcases pf_head o us' with y | ⟨vs, y⟩
      · exact .inl y
      · exact .inr ⟨o, vs, y, z⟩
  rcases rl with ⟨u, rfl, hu⟩ | ⟨u, v, rfl, hu, hv⟩
  · have uf := num_free hu
    have ub := num_bd hu
    have c1 : cntK k = some 1 := rc
    by_cases q0 : c % 6 = 0
    · exact ⟨[k], nf_free c1 (fc hk.b fn) (by simp), ⟨List.cons_ne_nil _ _, by simp, (fc kb fn)⟩, by simp [nfR, rD, q0, cut, sIx]⟩
    by_cases q1 : c % 6 = 1
    · rcases r3 with r3 | r3 | r3
      · exact ⟨[k, u, Str.ofString ""], nf_free c1 (fc hk.b (fc uf (fc lit3.1.1 fn))) (by simp), ⟨List.cons_ne_nil _ _, by simp, (fc kb (fc ub (fc lit3.1.2 fn)))⟩, by simp [nfR, rD, q1, r3, atI, ixN]⟩
      · exact ⟨[k, u, Str.ofString "0"], nf_free c1 (fc hk.b (fc uf (fc lit3.2.1.1 fn))) (by simp), ⟨List.cons_ne_nil _ _, by simp, (fc kb (fc ub (fc lit3.2.1.2 fn)))⟩, by simp [nfR, rD, q1, r3, atI, ixN]⟩
      · exact ⟨[k, u, Str.ofString "1"], nf_free c1 (fc hk.b (fc uf (fc lit3.2.2.1 fn))) (by simp), ⟨List.cons_ne_nil _ _, by simp, (fc kb (fc ub (fc lit3.2.2.2 fn)))⟩, by simp [nfR, rD, q1, r3, atI, ixN]⟩
    by_cases q2 : c % 6 = 2
    · exact ⟨[o, u], noth [u] (fc hu fn), ⟨List.cons_ne_nil _ _, by simp, (fc oth.2.1 (fc ub fn))⟩, by simp [nfR, rD, q2, eo, cut, sIx]⟩
    by_cases q3 : c % 6 = 3
    · rcases r4 with r4 | r4 | r4 | r4
      · exact ⟨[Str.ofString ""], nf_empty fn, ⟨List.cons_ne_nil _ _, by simp, (fc lit3.1.2 fn)⟩, by simp [nfR, rD, q3, r4, atI, ixN, cut, sIx]⟩
      · exact ⟨[Str.ofString "", k, u], nf_empty (fc hk.b (fc uf fn)), ⟨List.cons_ne_nil _ _, by simp, (fc lit3.1.2 (fc kb (fc ub fn)))⟩, by simp [nfR, rD, q3, r4, atI, ixN, cut, sIx]⟩
      · exact ⟨[k], nf_free c1 (fc hk.b fn) (by simp), ⟨List.cons_ne_nil _ _, by simp, (fc kb fn)⟩, by simp [nfR, rD, q3, r4, atI, ixN, cut, sIx]⟩
      · exact ⟨[k, u, k, u], nf_free c1 (fc hk.b (fc uf (fc hk.b (fc uf fn)))) (by simp), ⟨List.cons_ne_nil _ _, by simp, (fc kb (fc ub (fc kb (fc ub fn))))⟩, by simp [nfR, rD, q3, r4, atI, ixN, cut, sIx]⟩
    obtain ⟨w, bw, ew⟩ := bad_number u hu (f / 2) h
    refine ⟨[k, w], .inl ?_, ⟨List.cons_ne_nil _ _, by simp, (fc kb (fc bw.2 fn))⟩, by simp [nfR, rD, q0, q1, q2, q3, cut, sIx, ew]⟩
    unfold pf
    rw [wds_join _ (List.cons_ne_nil _ _)]
    simp only [List.flatMap_cons, List.flatMap_nil, List.append_nil, wds_free hk.b, List.singleton_append]
    rw [pf1 c1, bw.1]; rfl
  · have uf := num_free hu
    have ub := num_bd hu
    have vf := num_free hv
    have vb := num_bd hv
    have c1 : cntK k = some 2 := rc
    by_cases q0 : c % 6 = 0
    · exact ⟨[k, u], nf_free c1 (fc hk.b (fc uf fn)) (by simp), ⟨List.cons_ne_nil _ _, by simp, (fc kb (fc ub fn))⟩, by simp [nfR, rD, q0, cut, sIx]⟩
    by_cases q1 : c % 6 = 1
    · rcases r3 with r3 | r3 | r3
      · exact ⟨[k, u, v, Str.ofString ""], nf_free c1 (fc hk.b (fc uf (fc vf (fc lit3.1.1 fn)))) (by simp), ⟨List.cons_ne_nil _ _, by simp, (fc kb (fc ub (fc vb (fc lit3.1.2 fn))))⟩, by simp [nfR, rD, q1, r3, atI, ixN]⟩
      · exact ⟨[k, u, v, Str.ofString "0"], nf_free c1 (fc hk.b (fc uf (fc vf (fc lit3.2.1.1 fn)))) (by simp), ⟨List.cons_ne_nil _ _, by simp, (fc kb (fc ub (fc vb (fc lit3.2.1.2 fn))))⟩, by simp [nfR, rD, q1, r3, atI, ixN]⟩
      · exact ⟨[k, u, v, Str.ofString "1"], nf_free c1 (fc hk.b (fc uf (fc vf (fc lit3.2.2.1 fn)))) (by simp), ⟨List.cons_ne_nil _ _, by simp, (fc kb (fc ub (fc vb (fc lit3.2.2.2 fn))))⟩, by simp [nfR, rD, q1, r3, atI, ixN]⟩
    by_cases q2 : c % 6 = 2
    · exact ⟨[o, u, v], noth [u, v] (fc hu (fc hv fn)), ⟨List.cons_ne_nil _ _, by simp, (fc oth.2.1 (fc ub (fc vb fn)))⟩, by simp [nfR, rD, q2, eo, cut, sIx]⟩
    by_cases q3 : c % 6 = 3
    · rcases r4 with r4 | r4 | r4 | r4
      · exact ⟨[Str.ofString ""], nf_empty fn, ⟨List.cons_ne_nil _ _, by simp, (fc lit3.1.2 fn)⟩, by simp [nfR, rD, q3, r4, atI, ixN, cut, sIx]⟩
      · exact ⟨[Str.ofString "", k, u, v], nf_empty (fc hk.b (fc uf (fc vf fn))), ⟨List.cons_ne_nil _ _, by simp, (fc lit3.1.2 (fc kb (fc ub (fc vb fn))))⟩, by simp [nfR, rD, q3, r4, atI, ixN, cut, sIx]⟩
      · exact ⟨[k], nf_free c1 (fc hk.b fn) (by simp), ⟨List.cons_ne_nil _ _, by simp, (fc kb fn)⟩, by simp [nfR, rD, q3, r4, atI, ixN, cut, sIx]⟩
      · exact ⟨[k, u, v, k, u, v], nf_free c1 (fc hk.b (fc uf (fc vf (fc hk.b (fc uf (fc vf fn)))))) (by simp), ⟨List.cons_ne_nil _ _, by simp, (fc kb (fc ub (fc vb (fc kb (fc ub (fc vb fn))))))⟩, by simp [nfR, rD, q3, r4, atI, ixN, cut, sIx]⟩
    rcases (show f % 2 = 0 ∨ f % 2 = 1 by omega) with r2 | r2
    · obtain ⟨w, bw, ew⟩ := bad_number u hu (f / 2) h
      refine ⟨[k, w, v], .inl ?_, ⟨List.cons_ne_nil _ _, by simp, (fc kb (fc bw.2 (fc vb fn)))⟩, by simp [nfR, rD, q0, q1, q2, q3, r2, cut, sIx, atI, ixN, ew]⟩
      unfold pf
      rw [wds_join _ (List.cons_ne_nil _ _)]
      simp only [List.flatMap_cons, List.flatMap_nil, List.append_nil, wds_free hk.b, wds_free vf, List.singleton_append]
      rw [pf2 c1 hv, bw.1]; rfl
    · obtain ⟨w, bw, ew⟩ := bad_number v hv (f / 2) h
      refine ⟨[k, u, w], .inl ?_, ⟨List.cons_ne_nil _ _, by simp, (fc kb (fc ub (fc bw.2 fn)))⟩, by simp [nfR, rD, q0, q1, q2, q3, r2, cut, sIx, atI, ixN, ew]⟩
      unfold pf
      rw [wds_join _ (List.cons_ne_nil _ _)]
      simp only [List.flatMap_cons, List.flatMap_nil, List.append_nil, wds_free hk.b, wds_free uf, List.singleton_append]
      rw [pf3 c1 hu, bw.1]; rfl
theorem no_form {ws us : List Str} {k : Str} (r : Rk ws k us) (c : Int) (h : MH) : ∃ ws', NF (k = bars) ws' ∧ Bd ws' ∧ z__law_no_form [rD ws, .int c] h = .ok (rD ws') h := by
  have hk := kn_of r.c
  have hl := hk.l
  have hg := hk.g
  have p1 : (1 : Int) < (k.length : Int) := by omega
  have p2 : (k.length : Int) < 1073741824 := by omega
  have a0 := Int.emod_nonneg (c / 6 / 8) (show (k.length : Int) - 1 ≠ 0 by omega)
  have a1 := Int.emod_lt_of_pos (c / 6 / 8) (show (0 : Int) < (k.length : Int) - 1 by omega)
  generalize ep : c / 6 / 8 % ((k.length : Int) - 1) = p at a0 a1
  obtain ⟨ws', h1, h2, h3⟩ := nfR_ok r c (c / 6) (ols k (1 + p)) rfl (ols_oth r.c (by omega) (by omega)) h
  refine ⟨ws', h1, h2, ?_⟩
  have u1 : (Txt.upper k).length ≤ 16777216 := by have := hk.u; omega
  have s1 := Txt.slice_le k none (some 1)
  have s2 := Txt.slice_le k (some 1) none
  have u2 : (Txt.upper (Txt.slice k none (some 1))).length ≤ 16777216 := by have := hk.u; omega
  have u3 : (Txt.upper (Txt.slice k none (some 1))).length + (Txt.slice k (some 1) none).length ≤ 16777216 := by have := hk.u; omega
  have l1 : k.length + (Str.ofString "s").length ≤ 16777216 := by rw [show (Str.ofString "s").length = 1 by decide +kernel]; omega
  have l2 : k.length ≤ 16777216 := by omega
  have eb : b__law_no_form = sSeq (Z.sAsg (Z.mBin Z.dDiv (Z.mVar 1) (Z.mC (.int 6))) (Z.gName 2))
      (Z.sSeq (Z.sAsg (Z.mTree (Z.lDisp (Z.mCons (Z.mC (.str "")) (Z.mCons (Z.mBin Z.dAdd (Z.mBin Z.dIx (Z.mVar 0) (Z.mC (.int 0))) (Z.mC (.str "s"))) (Z.mCons (Z.mSm Z.fUpper (Z.mBin Z.dIx (Z.mVar 0) (Z.mC (.int 0))) Z.mNil) (Z.mCons (Z.mSl (Z.mBin Z.dIx (Z.mVar 0) (Z.mC (.int 0))) (Z.oSo (Z.mC (.int 1))) Z.oNo) (Z.mCons (Z.mC (.str "joiner")) (Z.mCons (Z.mBin Z.dAdd (Z.mSm Z.fUpper (Z.mSl (Z.mBin Z.dIx (Z.mVar 0) (Z.mC (.int 0))) Z.oNo (Z.oSo (Z.mC (.int 1)))) Z.mNil) (Z.mSl (Z.mBin Z.dIx (Z.mVar 0) (Z.mC (.int 0))) (Z.oSo (Z.mC (.int 1))) Z.oNo)) Z.mNil)))))))) (Z.gName 3))
      (Z.sSeq (Z.sAsg (Z.mBin Z.dAdd (Z.mVar 3) (Z.mTree (Z.lDisp (Z.mCons (Z.mBin Z.dIx (Z.mTree (Z.lDisp (Z.mCons (Z.mC (.str "feed")) (Z.mCons (Z.mC (.str "bars")) Z.mNil)))) (Z.mFn Z.fInt (Z.mCons (Z.mBin Z.dNe (Z.mBin Z.dIx (Z.mVar 0) (Z.mC (.int 0))) (Z.mC (.str "bars"))) Z.mNil))) (Z.mCons (Z.mSl (Z.mBin Z.dIx (Z.mVar 0) (Z.mC (.int 0))) Z.oNo (Z.oSo (Z.mBin Z.dAdd (Z.mC (.int 1)) (Z.mBin Z.dMod (Z.mBin Z.dDiv (Z.mVar 2) (Z.mC (.int 8))) (Z.mBin Z.dSub (Z.mFn Z.fLen (Z.mCons (Z.mBin Z.dIx (Z.mVar 0) (Z.mC (.int 0))) Z.mNil)) (Z.mC (.int 1))))))) Z.mNil))))) (Z.gName 3)) nfR)) := rfl
  have re := r.e
  subst re
  unfold ols at h3
  unfold rD at h3 ⊢
  by_cases q : k = bars
  · rw [if_pos q] at h3
    have q' : Str.ofString "bars" = k := q.symm
    simp only [List.map_cons, List.map_nil] at h3 ⊢
    simp [z__law_no_form, eb, ep, p1, p2, u1, u2, u3, l1, l2, h3, q']
  · rw [if_neg q] at h3
    have q' : ¬ k = Str.ofString "bars" := q
    simp only [List.map_cons, List.map_nil] at h3 ⊢
    simp [z__law_no_form, eb, ep, p1, p2, u1, u2, u3, l1, l2, h3, q']
end My

namespace My
open Z PySem
theorem log_ok {n : Int} (h0 : 0 ≤ n) (h1 : n < 10000000000) : n.natAbs.log2 < 1920 := by
  have h : n.natAbs < 2 ^ 1920 := Nat.lt_of_lt_of_le (m := 10000000000) (by omega) (Nat.le_trans (m := 2 ^ 64) (by decide) (Nat.pow_le_pow_right (by decide) (by decide)))
  by_cases z : n.natAbs = 0
  · rw [z]; decide
  · exact (Nat.log2_lt z).mpr h
/-- a row with another fault than one of form -/
structure Sp (ws : List Str) (k : Str) (cnt d : Int) : Prop where
  b : Bd ws
  f : (d = 0 ∧ NF (k = bars) ws) ∨ ∃ us, Rk ws k us ∧ ((d = 1 ∧ k = bars ∧ ∃ v, us.map numV = [v] ∧ ¬ (1 ≤ v ∧ v ≤ 10)) ∨ (d = 2 ∧ k ≠ bars ∧ cnt ≤ maxI (us.map numV)) ∨ (d = 3 ∧ k ≠ bars ∧ ∃ v, us.map numV = [v, v] ∧ v < cnt))
theorem rk1 {k : Str} (v : Int) (hk : cntK k = some 1) (h0 : 0 ≤ v) (h1 : v < 1000000000) : Rk [k, numS v] k [numS v] := ⟨rfl, hk, by simpa using (w_big h0 h1).1⟩
noncomputable def barE : ME := (Z.mFn Z.fStr (Z.mCons (Z.mBin Z.dIx (Z.mTree (Z.lDisp (Z.mCons (Z.mVar 1) (Z.mCons (Z.mBin Z.dAdd (Z.mVar 1) (Z.mBin Z.dMod (Z.mBin Z.dDiv (Z.mVar 3) (Z.mC (.int 6))) (Z.mC (.int 3)))) (Z.mCons (Z.mBin Z.dAdd (Z.mVar 1) (Z.mBin Z.dMod (Z.mBin Z.dDiv (Z.mVar 3) (Z.mC (.int 6))) (Z.mBin Z.dSub (Z.mBin Z.dPow (Z.mC (.int 10)) (Z.mC (.int 9))) (Z.mVar 1)))) Z.mNil))))) (Z.mBin Z.dMod (Z.mBin Z.dDiv (Z.mVar 3) (Z.mC (.int 2))) (Z.mC (.int 3)))) Z.mNil))
theorem wrong_ok {ws us : List Str} {k : Str} (r : Rk ws k us) (n : Int) (h1 : 1 ≤ n) (h2 : n ≤ 10) (hu : k ≠ bars → ∀ u ∈ us, numV u < n) (due c : Int) (h : MH) :
    ∃ ws' d, Sp ws' k n d ∧ z__law_wrong [rD ws, .int n, .int due, .int c] h = .ok (.lst [rD ws', .int d]) h := by
  have ebw : b__law_wrong = (Z.sSeq (Z.sIf (Z.tAnd (Z.tB (Z.mBin Z.dEq (Z.mBin Z.dIx (Z.mVar 0) (Z.mC (.int 0))) (Z.mC (.str "bars")))) (Z.tB (Z.mBin Z.dEq (Z.mVar 2) (Z.mC (.int 1)))))
      (Z.sRet (Z.mTree (Z.lDisp (Z.mCons (Z.mTree (Z.lDisp (Z.mCons (Z.mC (.str "bars")) (Z.mCons (Z.mFn Z.fStr (Z.mCons (Z.mBin Z.dIx (Z.mTree (Z.lDisp (Z.mCons (Z.mC (.int 0)) (Z.mCons (Z.mC (.int 11)) (Z.mCons (Z.mBin Z.dAdd (Z.mC (.int 11)) (Z.mBin Z.dMod (Z.mBin Z.dDiv (Z.mVar 3) (Z.mC (.int 3))) (Z.mBin Z.dSub (Z.mBin Z.dPow (Z.mC (.int 10)) (Z.mC (.int 9))) (Z.mC (.int 11))))) Z.mNil))))) (Z.mBin Z.dMod (Z.mVar 3) (Z.mC (.int 3)))) Z.mNil)) Z.mNil)))) (Z.mCons (Z.mC (.int 1)) Z.mNil)))))
      Z.sNext)
      (Z.sSeq (Z.sIf (Z.tAnd (Z.tB (Z.mBin Z.dNe (Z.mBin Z.dIx (Z.mVar 0) (Z.mC (.int 0))) (Z.mC (.str "bars")))) (Z.tB (Z.mBin Z.dEq (Z.mVar 2) (Z.mC (.int 2)))))
      (Z.sSeq (Z.sAsg (Z.mBin Z.dAdd (Z.mC (.int 1)) (Z.mBin Z.dMod (Z.mVar 3) (Z.mBin Z.dSub (Z.mFn Z.fLen (Z.mCons (Z.mVar 0) Z.mNil)) (Z.mC (.int 1))))) (Z.gName 4))
      (Z.sSeq (Z.sAsg barE (Z.gName 5))
      (Z.sRet (Z.mTree (Z.lDisp (Z.mCons (Z.mBin Z.dAdd (Z.mBin Z.dAdd (Z.mSl (Z.mVar 0) Z.oNo (Z.oSo (Z.mVar 4))) (Z.mTree (Z.lDisp (Z.mCons (Z.mVar 5) Z.mNil)))) (Z.mSl (Z.mVar 0) (Z.oSo (Z.mBin Z.dAdd (Z.mVar 4) (Z.mC (.int 1)))) Z.oNo)) (Z.mCons (Z.mC (.int 2)) Z.mNil)))))))
      Z.sNext)
      (Z.sSeq (Z.sIf (Z.tAnd (Z.tB (Z.mBin Z.dEq (Z.mFn Z.fLen (Z.mCons (Z.mVar 0) Z.mNil)) (Z.mC (.int 3)))) (Z.tB (Z.mBin Z.dEq (Z.mVar 2) (Z.mC (.int 3)))))
      (Z.sRet (Z.mTree (Z.lDisp (Z.mCons (Z.mBin Z.dAdd (Z.mSl (Z.mVar 0) Z.oNo (Z.oSo (Z.mC (.int 1)))) (Z.mBin Z.dMul (Z.mTree (Z.lDisp (Z.mCons (Z.mBin Z.dIx (Z.mVar 0) (Z.mBin Z.dAdd (Z.mC (.int 1)) (Z.mBin Z.dMod (Z.mVar 3) (Z.mC (.int 2))))) Z.mNil))) (Z.mC (.int 2)))) (Z.mCons (Z.mC (.int 3)) Z.mNil)))))
      Z.sNext)
      (Z.sRet (Z.mTree (Z.lDisp (Z.mCons (Z.mCall z__law_no_form (Z.mCons (Z.mVar 0) (Z.mCons (Z.mVar 3) Z.mNil))) (Z.mCons (Z.mC (.int 0)) Z.mNil)))))))) := rfl
  have re := r.e
  have rc := r.c
  have rn := r.n
  have rl := r.len
  by_cases q : k = bars ∧ due = 1
  · obtain ⟨q, rfl⟩ := q
    subst q
    have c1 : cntK bars = some 1 := by decide +kernel
    have m0 := Int.emod_nonneg (c / 3) (show (999999989 : Int) ≠ 0 by decide)
    have m1 := Int.emod_lt_of_pos (c / 3) (show (0 : Int) < 999999989 by decide)
    have fin : ∀ v, 0 ≤ v → v < 1000000000 → ¬ (1 ≤ v ∧ v ≤ 10) → Sp [bars, numS v] bars n 1 := fun v a b e => ⟨(rk1 v c1 a b).bd, .inr ⟨_, rk1 v c1 a b, .inl ⟨rfl, rfl, v, by simp [(w_big a b).2], e⟩⟩⟩
    subst re
    rcases (show c % 3 = 0 ∨ c % 3 = 1 ∨ c % 3 = 2 by omega) with r3 | r3 | r3
    · exact ⟨_, _, fin 0 (by decide) (by decide) (by decide), by simp [z__law_wrong, b__law_wrong, rD, r3, atI, ixN, okPow]⟩
    · exact ⟨_, _, fin 11 (by decide) (by decide) (by decide), by simp [z__law_wrong, b__law_wrong, rD, r3, atI, ixN, okPow, show Nat.log2 11 < 1920 by decide +kernel]⟩
    · have lo := log_ok (n := 11 + c / 3 % 999999989) (by omega) (by omega)
      exact ⟨_, _, fin (11 + c / 3 % 999999989) (by omega) (by omega) (by omega), by simp [z__law_wrong, b__law_wrong, rD, r3, atI, ixN, okPow, lo]⟩
  by_cases q2 : k ≠ bars ∧ due = 2
  · obtain ⟨q2, rfl⟩ := q2
    have m0 := Int.emod_nonneg (c / 6) (show (1000000000 - n : Int) ≠ 0 by omega)
    have m1 := Int.emod_lt_of_pos (c / 6) (show (0 : Int) < 1000000000 - n by omega)
    have p0 : (0 : Int) < 1000000000 - n := by omega
    have p0' : n < 1000000000 := by omega
    obtain ⟨b, b0, b1, eb⟩ : ∃ b : Int, n ≤ b ∧ b < 1000000000 ∧ ∀ ρ : Ro, ρ[1]? = some (some (.int n)) → ρ[3]? = some (some (.int c)) → barE ρ h = .ok (.str (numS b)) h := by
      rcases (show c / 2 % 3 = 0 ∨ c / 2 % 3 = 1 ∨ c / 2 % 3 = 2 by omega) with r3 | r3 | r3
      · have lo := log_ok (n := n) (by omega) (by omega)
        exact ⟨n, by omega, by omega, fun ρ e1 e3 => by simp [barE, e1, e3, r3, atI, ixN, okPow, p0', lo]⟩
      · have lo := log_ok (n := n + c / 6 % 3) (by omega) (by omega)
        exact ⟨n + c / 6 % 3, by omega, by omega, fun ρ e1 e3 => by simp [barE, e1, e3, r3, atI, ixN, okPow, p0', lo]⟩
      · have lo := log_ok (n := n + c / 6 % (1000000000 - n)) (by omega) (by omega)
        exact ⟨n + c / 6 % (1000000000 - n), by omega, by omega, fun ρ e1 e3 => by simp [barE, e1, e3, r3, atI, ixN, okPow, p0', lo]⟩
    have wb := w_big (n := b) (by omega) b1
    subst re
    rcases rl with ⟨u, rfl, hu1⟩ | ⟨u, v, rfl, hu1, hv1⟩
    · have e5 := eb [some (rD [k, u]), some (.int n), some (.int 2), some (.int c), some (.int 1), none] rfl rfl
      refine ⟨[k, numS b], 2, ⟨(rk1 b rc (by omega) b1).bd, .inr ⟨_, rk1 b rc (by omega) b1, .inr (.inl ⟨rfl, q2, by simp [wb.2, maxI]; omega⟩)⟩⟩, ?_⟩
      have q2' : ¬ k = Str.ofString "bars" := q2
      simp only [rD, List.map_cons, List.map_nil] at e5
      simp [z__law_wrong, ebw, rD, q2', e5, cut, sIx]
    · have q2' : ¬ k = Str.ofString "bars" := q2
      rcases (show c % 2 = 0 ∨ c % 2 = 1 by omega) with r2 | r2
      · have rk : Rk [k, numS b, v] k [numS b, v] := ⟨rfl, rc, by simpa using ⟨wb.1, hv1⟩⟩
        have e5 := eb [some (rD [k, u, v]), some (.int n), some (.int 2), some (.int c), some (.int 1), none] rfl rfl
        refine ⟨[k, numS b, v], 2, ⟨rk.bd, .inr ⟨_, rk, .inr (.inl ⟨rfl, q2, by simp [wb.2, maxI]; split <;> omega⟩)⟩⟩, ?_⟩
        simp only [rD, List.map_cons, List.map_nil] at e5
        simp [z__law_wrong, ebw, rD, q2', e5, r2, cut, sIx]
      · have rk : Rk [k, u, numS b] k [u, numS b] := ⟨rfl, rc, by simpa using ⟨hu1, wb.1⟩⟩
        have e5 := eb [some (rD [k, u, v]), some (.int n), some (.int 2), some (.int c), some (.int 2), none] rfl rfl
        refine ⟨[k, u, numS b], 2, ⟨rk.bd, .inr ⟨_, rk, .inr (.inl ⟨rfl, q2, by simp [wb.2, maxI]; split <;> omega⟩)⟩⟩, ?_⟩
        simp only [rD, List.map_cons, List.map_nil] at e5
        simp [z__law_wrong, ebw, rD, q2', e5, r2, cut, sIx]
  obtain ⟨wn, n1, n2, n3⟩ := no_form r c h
  by_cases q3 : (us.length = 2) ∧ due = 3
  · obtain ⟨q3, rfl⟩ := q3
    rcases rl with ⟨u, rfl, hu1⟩ | ⟨u, v, rfl, hu1, hv1⟩
    · simp at q3
    · have kb : k ≠ bars := fun z => by
        subst z
        have : cntK bars = some 1 := by decide +kernel
        rw [this] at rc
        simp at rc
      have q2' : ¬ k = Str.ofString "bars" := kb
      subst re
      rcases (show c % 2 = 0 ∨ c % 2 = 1 by omega) with r2 | r2
      · have rk : Rk [k, u, u] k [u, u] := ⟨rfl, rc, by simpa using hu1⟩
        refine ⟨[k, u, u], 3, ⟨rk.bd, .inr ⟨_, rk, .inr (.inr ⟨rfl, kb, numV u, by simp, hu kb u (by simp)⟩)⟩⟩, ?_⟩
        simp [z__law_wrong, b__law_wrong, rD, q2', r2, cut, sIx, atI, ixN]
      · have rk : Rk [k, v, v] k [v, v] := ⟨rfl, rc, by simpa using hv1⟩
        refine ⟨[k, v, v], 3, ⟨rk.bd, .inr ⟨_, rk, .inr (.inr ⟨rfl, kb, numV v, by simp, hu kb v (by simp)⟩)⟩⟩, ?_⟩
        simp [z__law_wrong, b__law_wrong, rD, q2', r2, cut, sIx, atI, ixN]
  · refine ⟨wn, 0, ⟨n2, .inl ⟨rfl, n1⟩⟩, ?_⟩
    subst re
    have q' : ¬ (k = Str.ofString "bars" ∧ due = 1) := q
    have q2' : ¬ (¬ k = Str.ofString "bars" ∧ due = 2) := q2
    have l3 : (((us.length : Nat) : Int) + 1 = 3) ↔ us.length = 2 := by omega
    unfold rD at n3 ⊢
    simp only [List.map_cons] at n3 ⊢
    by_cases a1 : k = Str.ofString "bars"
    · have a2 : ¬ due = 1 := fun z => q' ⟨a1, z⟩
      by_cases a3 : us.length = 2
      · have a4 : ¬ due = 3 := fun z => q3 ⟨a3, z⟩
        simp [z__law_wrong, b__law_wrong, a1, a2, l3, a3, a4] at n3 ⊢
        simp [n3]
      · simp [z__law_wrong, b__law_wrong, a1, a2, l3, a3] at n3 ⊢
        simp [n3]
    · have a2 : ¬ due = 2 := fun z => q2' ⟨a1, z⟩
      by_cases a3 : us.length = 2
      · have a4 : ¬ due = 3 := fun z => q3 ⟨a3, z⟩
        simp [z__law_wrong, b__law_wrong, a1, a2, l3, a3, a4] at n3 ⊢
        simp [n3]
      · simp [z__law_wrong, b__law_wrong, a1, a2, l3, a3] at n3 ⊢
        simp [n3]
end My

namespace My
open Z PySem
/-! rows of a yard -/
structure GoodC (ws : List Str) (n : Int) : Prop where
  r : ∃ u, Rk ws bars [u] ∧ numV u = n
structure GoodS (n : Int) (ws : List Str) : Prop where
  r : ∃ k us, Rk ws k us ∧ k ≠ bars ∧ (∀ u ∈ us, numV u < n) ∧ (∀ u v, us = [u, v] → numV u ≠ numV v)
theorem GoodC.cnt {ws : List Str} {n : Int} (g : GoodC ws n) (h1 : 1 ≤ n) (h2 : n ≤ 10) : cntC (pf ws) = .ok n := by
  obtain ⟨u, r, rfl⟩ := g.r
  rw [r.pf]
  unfold cntC
  simp [h1, h2]
theorem max_lt {n : Int} {us : List Str} (h : ∀ u ∈ us, numV u < n) (l : (∃ u, us = [u] ∧ isNum u = true) ∨ ∃ u v, us = [u, v] ∧ isNum u = true ∧ isNum v = true) : ¬ n ≤ maxI (us.map numV) := by
  rcases l with ⟨u, rfl, _⟩ | ⟨u, v, rfl, _⟩
  · have := h u (by simp)
    simp [maxI]; omega
  · have := h u (by simp)
    have := h v (by simp)
    simp [maxI]; split <;> omega
theorem GoodS.sw {ws : List Str} {n : Int} (g : GoodS n ws) {a : Nat} (ha : a < 12) : ∃ s, swC n a (pf ws) = .ok s := by
  obtain ⟨k, us, r, h1, h2, h3⟩ := g.r
  have h1' : ¬ k = Str.ofString "bars" := h1
  rw [r.pf]
  unfold swC
  have hm := max_lt h2 r.len
  refine ⟨(k, us.map numV), ?_⟩
  simp only [if_neg h1', if_neg (show ¬ 12 ≤ a by omega), if_neg hm]
  rw [if_neg]
  rintro ⟨z, y⟩
  rcases r.len with ⟨u, rfl, _⟩ | ⟨u, v, rfl, _⟩
  · simp at z
  · simp at y; exact h3 u v rfl y
theorem GoodS.th {ws : List Str} {n : Int} (g : GoodS n ws) {a : Nat} (ha : 12 ≤ a) : swC n a (pf ws) = .error "NoRow" := by
  obtain ⟨k, us, r, h1, h2, h3⟩ := g.r
  have h1' : ¬ k = Str.ofString "bars" := h1
  rw [r.pf]
  unfold swC
  simp only [if_neg h1', if_pos ha]
theorem walk_pre {n : Int} : ∀ (pre : List (List Str)) (a : Nat) (post : List Str), (∀ ws ∈ pre, GoodS n ws) → a + pre.length ≤ 12 → walkC n a (pre.map jR ++ post) = walkC n (a + pre.length) post
  | [], a, post, _, _ => by simp
  | ws :: pre, a, post, hg, hl => by
    simp only [List.length_cons] at hl
    obtain ⟨s, e⟩ := (hg ws (List.mem_cons_self ..)).sw (a := a) (by omega)
    rw [List.map_cons, List.cons_append]
    conv => lhs; unfold walkC
    have e' : swC n a (partedF (wds (jR ws))) = .ok s := e
    rw [e']
    simp only
    rw [walk_pre pre (a + 1) post (fun w m => hg w (List.mem_cons_of_mem _ m)) (by omega)]
    rw [List.length_cons, show a + 1 + pre.length = a + (pre.length + 1) by omega]
theorem walk_bad {n : Int} {a : Nat} {ws : List Str} {c : String} {post : List Str} (e : swC n a (pf ws) = .error c) : walkC n a (jR ws :: post) = some c := by
  unfold walkC
  have e' : swC n a (partedF (wds (jR ws))) = .error c := e
  rw [e']
theorem walk_13 {n : Int} (ws : List (List Str)) (hg : ∀ w ∈ ws, GoodS n w) (hl : 13 ≤ ws.length) : walkC n 0 (ws.map jR) = some "NoRow" := by
  have e : ws = ws.take 12 ++ ws.drop 12 := (List.take_append_drop 12 ws).symm
  rw [e, List.map_append, walk_pre (ws.take 12) 0 _ (fun w m => hg w (List.mem_of_mem_take m)) (by simp; omega)]
  cases q : ws.drop 12 with
  | nil =>
    have := congrArg List.length q
    simp at this; omega
  | cons w r =>
    rw [List.map_cons]
    exact walk_bad ((hg w (List.mem_of_mem_drop (by rw [q]; exact List.mem_cons_self ..))).th (by simp; omega))
/-- the first fault of rows -/
noncomputable def fst (rows : List (List Str)) : Option String := firstC (rows.map jR)
theorem fst_0 {ws : List Str} {rows : List (List Str)} {c : String} (e : cntC (pf ws) = .error c) : fst (ws :: rows) = some c := by
  unfold fst firstC
  have e' : cntC (partedF (wds (jR ws))) = .error c := e
  simp only [List.map_cons, e']
theorem fst_c {ws : List Str} {n : Int} (g : GoodC ws n) (h1 : 1 ≤ n) (h2 : n ≤ 10) (rows : List (List Str)) : fst (ws :: rows) = walkC n 0 (rows.map jR) := by
  have e := g.cnt h1 h2
  unfold fst firstC
  have e' : cntC (partedF (wds (jR ws))) = .ok n := e
  simp only [List.map_cons, e']
theorem fst_s {w0 : List Str} {n : Int} (g : GoodC w0 n) (h1 : 1 ≤ n) (h2 : n ≤ 10) {pre post : List (List Str)} {ws : List Str} {c : String} (hg : ∀ w ∈ pre, GoodS n w) (hl : pre.length ≤ 12) (e : swC n pre.length (pf ws) = .error c) : fst (w0 :: (pre ++ ws :: post)) = some c := by
  rw [fst_c g h1 h2, List.map_append, walk_pre pre 0 _ hg (by omega), List.map_cons]
  exact walk_bad (by rw [Nat.zero_add]; exact e)
end My

namespace My
open Z PySem
theorem wt_NoRow : w_WardError.lookup "NoRow" = some true := by decide +kernel
theorem xv_NoRow : x_tab.lookup ("NoRow", false, "ValueError") = some true := by decide +kernel
theorem xt_NoRow_NoRow : x_tab.lookup ("NoRow", true, "NoRow") = some true := by decide +kernel
theorem xt_NoRow_NoMeasure : x_tab.lookup ("NoRow", true, "NoMeasure") = some false := by decide +kernel
theorem xt_NoRow_NoBar : x_tab.lookup ("NoRow", true, "NoBar") = some false := by decide +kernel
theorem xt_NoRow_Same : x_tab.lookup ("NoRow", true, "Same") = some false := by decide +kernel
theorem xt_NoRow_NoSwitch : x_tab.lookup ("NoRow", true, "NoSwitch") = some false := by decide +kernel
theorem xt_NoRow_Loaded : x_tab.lookup ("NoRow", true, "Loaded") = some false := by decide +kernel
theorem xt_NoRow_Shorted : x_tab.lookup ("NoRow", true, "Shorted") = some false := by decide +kernel
theorem xt_NoRow_Locked : x_tab.lookup ("NoRow", true, "Locked") = some false := by decide +kernel
theorem xt_NoRow_Held : x_tab.lookup ("NoRow", true, "Held") = some false := by decide +kernel
theorem xt_NoRow_NoLock : x_tab.lookup ("NoRow", true, "NoLock") = some false := by decide +kernel
theorem xt_NoRow_NotOpen : x_tab.lookup ("NoRow", true, "NotOpen") = some false := by decide +kernel
theorem xt_NoRow_NotLocked : x_tab.lookup ("NoRow", true, "NotLocked") = some false := by decide +kernel
theorem xt_NoRow_NotEarthed : x_tab.lookup ("NoRow", true, "NotEarthed") = some false := by decide +kernel
theorem xt_NoRow_NotDead : x_tab.lookup ("NoRow", true, "NotDead") = some false := by decide +kernel
theorem xt_NoRow_NoPermit : x_tab.lookup ("NoRow", true, "NoPermit") = some false := by decide +kernel
theorem wt_NoMeasure : w_WardError.lookup "NoMeasure" = some true := by decide +kernel
theorem xv_NoMeasure : x_tab.lookup ("NoMeasure", false, "ValueError") = some true := by decide +kernel
theorem xt_NoMeasure_NoRow : x_tab.lookup ("NoMeasure", true, "NoRow") = some false := by decide +kernel
theorem xt_NoMeasure_NoMeasure : x_tab.lookup ("NoMeasure", true, "NoMeasure") = some true := by decide +kernel
theorem xt_NoMeasure_NoBar : x_tab.lookup ("NoMeasure", true, "NoBar") = some false := by decide +kernel
theorem xt_NoMeasure_Same : x_tab.lookup ("NoMeasure", true, "Same") = some false := by decide +kernel
theorem xt_NoMeasure_NoSwitch : x_tab.lookup ("NoMeasure", true, "NoSwitch") = some false := by decide +kernel
theorem xt_NoMeasure_Loaded : x_tab.lookup ("NoMeasure", true, "Loaded") = some false := by decide +kernel
theorem xt_NoMeasure_Shorted : x_tab.lookup ("NoMeasure", true, "Shorted") = some false := by decide +kernel
theorem xt_NoMeasure_Locked : x_tab.lookup ("NoMeasure", true, "Locked") = some false := by decide +kernel
theorem xt_NoMeasure_Held : x_tab.lookup ("NoMeasure", true, "Held") = some false := by decide +kernel
theorem xt_NoMeasure_NoLock : x_tab.lookup ("NoMeasure", true, "NoLock") = some false := by decide +kernel
theorem xt_NoMeasure_NotOpen : x_tab.lookup ("NoMeasure", true, "NotOpen") = some false := by decide +kernel
theorem xt_NoMeasure_NotLocked : x_tab.lookup ("NoMeasure", true, "NotLocked") = some false := by decide +kernel
theorem xt_NoMeasure_NotEarthed : x_tab.lookup ("NoMeasure", true, "NotEarthed") = some false := by decide +kernel
theorem xt_NoMeasure_NotDead : x_tab.lookup ("NoMeasure", true, "NotDead") = some false := by decide +kernel
theorem xt_NoMeasure_NoPermit : x_tab.lookup ("NoMeasure", true, "NoPermit") = some false := by decide +kernel
theorem wt_NoBar : w_WardError.lookup "NoBar" = some true := by decide +kernel
theorem xv_NoBar : x_tab.lookup ("NoBar", false, "ValueError") = some true := by decide +kernel
theorem xt_NoBar_NoRow : x_tab.lookup ("NoBar", true, "NoRow") = some false := by decide +kernel
theorem xt_NoBar_NoMeasure : x_tab.lookup ("NoBar", true, "NoMeasure") = some false := by decide +kernel
theorem xt_NoBar_NoBar : x_tab.lookup ("NoBar", true, "NoBar") = some true := by decide +kernel
theorem xt_NoBar_Same : x_tab.lookup ("NoBar", true, "Same") = some false := by decide +kernel
theorem xt_NoBar_NoSwitch : x_tab.lookup ("NoBar", true, "NoSwitch") = some false := by decide +kernel
theorem xt_NoBar_Loaded : x_tab.lookup ("NoBar", true, "Loaded") = some false := by decide +kernel
theorem xt_NoBar_Shorted : x_tab.lookup ("NoBar", true, "Shorted") = some false := by decide +kernel
theorem xt_NoBar_Locked : x_tab.lookup ("NoBar", true, "Locked") = some false := by decide +kernel
theorem xt_NoBar_Held : x_tab.lookup ("NoBar", true, "Held") = some false := by decide +kernel
theorem xt_NoBar_NoLock : x_tab.lookup ("NoBar", true, "NoLock") = some false := by decide +kernel
theorem xt_NoBar_NotOpen : x_tab.lookup ("NoBar", true, "NotOpen") = some false := by decide +kernel
theorem xt_NoBar_NotLocked : x_tab.lookup ("NoBar", true, "NotLocked") = some false := by decide +kernel
theorem xt_NoBar_NotEarthed : x_tab.lookup ("NoBar", true, "NotEarthed") = some false := by decide +kernel
theorem xt_NoBar_NotDead : x_tab.lookup ("NoBar", true, "NotDead") = some false := by decide +kernel
theorem xt_NoBar_NoPermit : x_tab.lookup ("NoBar", true, "NoPermit") = some false := by decide +kernel
theorem wt_Same : w_WardError.lookup "Same" = some true := by decide +kernel
theorem xv_Same : x_tab.lookup ("Same", false, "ValueError") = some true := by decide +kernel
theorem xt_Same_NoRow : x_tab.lookup ("Same", true, "NoRow") = some false := by decide +kernel
theorem xt_Same_NoMeasure : x_tab.lookup ("Same", true, "NoMeasure") = some false := by decide +kernel
theorem xt_Same_NoBar : x_tab.lookup ("Same", true, "NoBar") = some false := by decide +kernel
theorem xt_Same_Same : x_tab.lookup ("Same", true, "Same") = some true := by decide +kernel
theorem xt_Same_NoSwitch : x_tab.lookup ("Same", true, "NoSwitch") = some false := by decide +kernel
theorem xt_Same_Loaded : x_tab.lookup ("Same", true, "Loaded") = some false := by decide +kernel
theorem xt_Same_Shorted : x_tab.lookup ("Same", true, "Shorted") = some false := by decide +kernel
theorem xt_Same_Locked : x_tab.lookup ("Same", true, "Locked") = some false := by decide +kernel
theorem xt_Same_Held : x_tab.lookup ("Same", true, "Held") = some false := by decide +kernel
theorem xt_Same_NoLock : x_tab.lookup ("Same", true, "NoLock") = some false := by decide +kernel
theorem xt_Same_NotOpen : x_tab.lookup ("Same", true, "NotOpen") = some false := by decide +kernel
theorem xt_Same_NotLocked : x_tab.lookup ("Same", true, "NotLocked") = some false := by decide +kernel
theorem xt_Same_NotEarthed : x_tab.lookup ("Same", true, "NotEarthed") = some false := by decide +kernel
theorem xt_Same_NotDead : x_tab.lookup ("Same", true, "NotDead") = some false := by decide +kernel
theorem xt_Same_NoPermit : x_tab.lookup ("Same", true, "NoPermit") = some false := by decide +kernel
theorem jR_free {c : Nat} (hc : c ≠ 32) : ∀ (ws : List Str), (∀ w ∈ ws, c ∉ w.cps.toList) → c ∉ (jR ws).cps.toList
  | [], _ => by show c ∉ (Str.join ⟨#[32]⟩ []).cps.toList; simp [Str.join, Str.empty]
  | [w], h => h w (List.mem_cons_self ..)
  | w :: w' :: ws, h => by
    have ih := jR_free hc (w' :: ws) fun x m => h x (List.mem_cons_of_mem _ m)
    show c ∉ (Str.join ⟨#[32]⟩ (w :: w' :: ws)).cps.toList
    rw [join_cons]
    intro m
    rcases List.mem_append.mp m with m | m
    · exact h w (List.mem_cons_self ..) m
    · rcases List.mem_cons.mp m with m | m
      · exact hc m
      · exact ih m
theorem sum_bd {ws : List Str} (b : Bd ws) : (ws.map (·.length)).sum ≤ 360 := by
  have h := sum_le (l := ws.map (·.length)) (m := 60) (fun x hx => by
    obtain ⟨w, hw, rfl⟩ := List.mem_map.mp hx
    exact (b.w w hw).1)
  rw [List.length_map] at h
  have := b.n
  omega
theorem jR_len {ws : List Str} (b : Bd ws) : (jR ws).length ≤ 366 := by
  have h := join_len (c := 32) ws b.z
  have := sum_bd b
  have := b.n
  show (Str.join ⟨#[32]⟩ ws).length ≤ 366
  omega
/-- what the law keeps of a refusal -/
noncomputable def bls (d : Nat) : List Bool := (List.range 16).map fun k => decide (k = d)
noncomputable def clD (d : Nat) : String := match d with
  | 0 => "NoRow" | 1 => "NoMeasure" | 2 => "NoBar" | _ => "Same"
theorem compLoopG_mapI {α : Type} {q : Option Nat} {all : List D} {g : MG} {t : MT} {m : ME} {ρ0 : Ro} {h : MH} (ok : okG q all h) (e : α → D) (r : α → Ro) (f : α → D) : ∀ (as : List α), (∀ a ∈ as, g (e a) ρ0 h = .nx (r a) h ∧ t (r a) h = .ok true h ∧ m (r a) h = .ok (f a) h) → compLoopG q all g t m ρ0 (as.map e) h = .ok (as.map f) h
  | [], _ => by rw [List.map_nil]; unfold compLoopG; rw [if_pos ok]; rfl
  | a :: as, q' => by
    obtain ⟨h1, h2, h3⟩ := q' a (List.mem_cons_self ..)
    rw [List.map_cons]
    unfold compLoopG
    rw [if_pos ok]
    simp only [h1, h2, h3, compLoopG_mapI ok e r f as fun b hb => q' b (List.mem_cons_of_mem _ hb), List.map_cons]
theorem strs_map (ws : List Str) : strsD (ws.map D.str) = some ws := by
  induction ws with
  | nil => rfl
  | cons w ws ih => simp [strsD, ih]
noncomputable def hdl : MS := (Z.sSeq (Z.sAsg (Z.mTree (Z.lDisp (Z.mCons (Z.mFn (Z.fIsx x_tab) (Z.mCons (Z.mVar 3) (Z.mCons (Z.mC (.cls "NoRow")) Z.mNil))) (Z.mCons (Z.mFn (Z.fIsx x_tab) (Z.mCons (Z.mVar 3) (Z.mCons (Z.mC (.cls "NoMeasure")) Z.mNil))) (Z.mCons (Z.mFn (Z.fIsx x_tab) (Z.mCons (Z.mVar 3) (Z.mCons (Z.mC (.cls "NoBar")) Z.mNil))) (Z.mCons (Z.mFn (Z.fIsx x_tab) (Z.mCons (Z.mVar 3) (Z.mCons (Z.mC (.cls "Same")) Z.mNil))) Z.mNil)))))) (Z.gName 1))
      (Z.sSeq (Z.sAsg (Z.mTree (Z.lDisp (Z.mCons (Z.mFn (Z.fIsx x_tab) (Z.mCons (Z.mVar 3) (Z.mCons (Z.mC (.cls "NoSwitch")) Z.mNil))) (Z.mCons (Z.mFn (Z.fIsx x_tab) (Z.mCons (Z.mVar 3) (Z.mCons (Z.mC (.cls "Loaded")) Z.mNil))) (Z.mCons (Z.mFn (Z.fIsx x_tab) (Z.mCons (Z.mVar 3) (Z.mCons (Z.mC (.cls "Shorted")) Z.mNil))) (Z.mCons (Z.mFn (Z.fIsx x_tab) (Z.mCons (Z.mVar 3) (Z.mCons (Z.mC (.cls "Locked")) Z.mNil))) Z.mNil)))))) (Z.gName 2))
      (Z.sSeq (Z.sAsg (Z.mBin Z.dAdd (Z.mVar 2) (Z.mTree (Z.lDisp (Z.mCons (Z.mFn (Z.fIsx x_tab) (Z.mCons (Z.mVar 3) (Z.mCons (Z.mC (.cls "Held")) Z.mNil))) (Z.mCons (Z.mFn (Z.fIsx x_tab) (Z.mCons (Z.mVar 3) (Z.mCons (Z.mC (.cls "NoLock")) Z.mNil))) (Z.mCons (Z.mFn (Z.fIsx x_tab) (Z.mCons (Z.mVar 3) (Z.mCons (Z.mC (.cls "NotOpen")) Z.mNil))) Z.mNil)))))) (Z.gName 2))
      (Z.sSeq (Z.sAsg (Z.mBin Z.dAdd (Z.mVar 2) (Z.mTree (Z.lDisp (Z.mCons (Z.mFn (Z.fIsx x_tab) (Z.mCons (Z.mVar 3) (Z.mCons (Z.mC (.cls "NotLocked")) Z.mNil))) (Z.mCons (Z.mFn (Z.fIsx x_tab) (Z.mCons (Z.mVar 3) (Z.mCons (Z.mC (.cls "NotEarthed")) Z.mNil))) (Z.mCons (Z.mFn (Z.fIsx x_tab) (Z.mCons (Z.mVar 3) (Z.mCons (Z.mC (.cls "NotDead")) Z.mNil))) Z.mNil)))))) (Z.gName 2))
      (Z.sAsg (Z.mBin Z.dAdd (Z.mVar 2) (Z.mTree (Z.lDisp (Z.mCons (Z.mFn (Z.fIsx x_tab) (Z.mCons (Z.mVar 3) (Z.mCons (Z.mC (.cls "NoPermit")) Z.mNil))) (Z.mCons (Z.mNotV (Z.mFn (Z.fIsx x_tab) (Z.mCons (Z.mVar 3) (Z.mCons (Z.mC (.ty "ValueError")) Z.mNil)))) Z.mNil))))) (Z.gName 2))))))
theorem hdl_ok (x : Option D) (d : Nat) (hd : d < 4) (h : MH) : cAs w_WardError 3 hdl cNil (clD d) [x, some (.lst []), some (.lst []), none] h = .nx [x, some (.lst (((bls d).take 4).map D.bl)), some (.lst (((bls d).drop 4).map D.bl)), none] h := by
  rcases (show d = 0 ∨ d = 1 ∨ d = 2 ∨ d = 3 by omega) with rfl | rfl | rfl | rfl
  · simp [hdl, clD, bls, wt_NoRow, xv_NoRow, xt_NoRow_NoRow, xt_NoRow_NoMeasure, xt_NoRow_NoBar, xt_NoRow_Same, xt_NoRow_NoSwitch, xt_NoRow_Loaded, xt_NoRow_Shorted, xt_NoRow_Locked, xt_NoRow_Held, xt_NoRow_NoLock, xt_NoRow_NotOpen, xt_NoRow_NotLocked, xt_NoRow_NotEarthed, xt_NoRow_NotDead, xt_NoRow_NoPermit]; exact ⟨rfl, rfl⟩
  · simp [hdl, clD, bls, wt_NoMeasure, xv_NoMeasure, xt_NoMeasure_NoRow, xt_NoMeasure_NoMeasure, xt_NoMeasure_NoBar, xt_NoMeasure_Same, xt_NoMeasure_NoSwitch, xt_NoMeasure_Loaded, xt_NoMeasure_Shorted, xt_NoMeasure_Locked, xt_NoMeasure_Held, xt_NoMeasure_NoLock, xt_NoMeasure_NotOpen, xt_NoMeasure_NotLocked, xt_NoMeasure_NotEarthed, xt_NoMeasure_NotDead, xt_NoMeasure_NoPermit]; exact ⟨rfl, rfl⟩
  · simp [hdl, clD, bls, wt_NoBar, xv_NoBar, xt_NoBar_NoRow, xt_NoBar_NoMeasure, xt_NoBar_NoBar, xt_NoBar_Same, xt_NoBar_NoSwitch, xt_NoBar_Loaded, xt_NoBar_Shorted, xt_NoBar_Locked, xt_NoBar_Held, xt_NoBar_NoLock, xt_NoBar_NotOpen, xt_NoBar_NotLocked, xt_NoBar_NotEarthed, xt_NoBar_NotDead, xt_NoBar_NoPermit]; exact ⟨rfl, rfl⟩
  · simp [hdl, clD, bls, wt_Same, xv_Same, xt_Same_NoRow, xt_Same_NoMeasure, xt_Same_NoBar, xt_Same_Same, xt_Same_NoSwitch, xt_Same_Loaded, xt_Same_Shorted, xt_Same_Locked, xt_Same_Held, xt_Same_NoLock, xt_Same_NotOpen, xt_Same_NotLocked, xt_Same_NotEarthed, xt_Same_NotDead, xt_Same_NoPermit]; exact ⟨rfl, rfl⟩
theorem refusal {d : D} {q : Option Nat} {rows : List (List Str)} {h : MH} (hi : lIt (mVar 0) [some d, some (.lst []), some (.lst []), none] h = .ok (q, rows.map rD) h) (hg : okG q (rows.map rD) h) (hb : h.all (Cell.bnd h.length) = true) (hr : ∀ ws ∈ rows, Bd ws) (h0 : rows ≠ []) (hl : rows.length ≤ 400) {c : Nat} (hc : c < 4) (hf : fst rows = some (clD c)) : z__law_refusal [d] h = .ok (.lst ((bls c).map D.bl)) h := by
  have comp : compLoopG q (rows.map rD) (gName 0) tYes (mSm fJoin (mC (.str " ")) (mCons (mVar 0) mNil)) [none] (rows.map rD) h = .ok ((rows.map jR).map D.str) h := by
    have := compLoopG_mapI (q := q) (all := rows.map rD) (g := gName 0) (t := tYes) (h := h) (m := mSm fJoin (mC (.str " ")) (mCons (mVar 0) mNil)) (ρ0 := [none]) hg rD (fun ws => [some (rD ws)]) (fun ws => D.str (jR ws)) rows (fun ws hm => by
      refine ⟨by simp, by simp, ?_⟩
      have b := hr ws hm
      have s := sum_bd b
      have n := b.n
      have sm := strs_map ws
      have e1 : (⟨#[32]⟩ : Str).length = 1 := rfl
      simp [-List.map_map, rD, sm, e32, e1, txt_join, jR]
      omega)
    rw [this, List.map_map]; rfl
  have hs : Txt.split (Str.join ⟨#[10]⟩ (rows.map jR)) ⟨#[10]⟩ = rows.map jR := split_join (by simpa using h0) fun p hp => by
    obtain ⟨ws, hw, rfl⟩ := List.mem_map.mp hp
    exact jR_free (by decide) ws fun w m => ((hr ws hw).w w m).2
  have hsum : ((rows.map jR).map (·.length)).sum ≤ 146400 := by
    have h := sum_le (l := (rows.map jR).map (·.length)) (m := 366) (fun x hx => by
      obtain ⟨y, hy, rfl⟩ := List.mem_map.mp hx
      obtain ⟨ws, hw, rfl⟩ := List.mem_map.mp hy
      exact jR_len (hr ws hw))
    simp only [List.length_map] at h
    omega
  have hlen : (Str.join ⟨#[10]⟩ (rows.map jR)).length + 1 < 16777216 := by
    have := join_len (c := 10) (rows.map jR) (by simpa using h0)
    simp only [List.length_map] at this
    omega
  have rd := read_bad hs hlen (c := clD c) hf h hb
  have sm := strs_map (rows.map jR)
  have e1 : (⟨#[10]⟩ : Str).length = 1 := rfl
  have hj : mSm fJoin (mC (.str "\n")) (mCons (mTree (lComp 1 [] (lIt (mVar 0)) (gName 0) tYes (mSm fJoin (mC (.str " ")) (mCons (mVar 0) mNil)))) mNil) [some d, some (.lst []), some (.lst []), none] h = .ok (.str (Str.join ⟨#[10]⟩ (rows.map jR))) h := by
    simp [-List.map_map, -lIt, hi, comp, sm, e10, e1, txt_join, show rows.length < 16777216 by omega]
    simp only [List.map_map] at hsum ⊢
    omega
  have hd := hdl_ok (some d) c hc h
  have eb : b__law_refusal = (Z.sSeq (Z.sAsg (Z.mTree (Z.lDisp Z.mNil)) (Z.gName 1))
      (Z.sSeq (Z.sAsg (Z.mTree (Z.lDisp Z.mNil)) (Z.gName 2))
      (Z.sSeq (Z.sTry (Z.sDrop (Z.mCall z_read (Z.lNox (Z.mCons (Z.mSm Z.fJoin (Z.mC (.str "\n")) (Z.mCons (Z.mTree (Z.lComp 1 [] (Z.lIt (Z.mVar 0)) (Z.gName 0) Z.tYes (Z.mSm Z.fJoin (Z.mC (.str " ")) (Z.mCons (Z.mVar 0) Z.mNil)))) Z.mNil)) Z.mNil)))) (Z.cAs w_WardError 3 hdl Z.cNil))
      (Z.sRet (Z.mBin Z.dAdd (Z.mVar 1) (Z.mVar 2)))))) := rfl
  have ht : (bls c).map D.bl = ((bls c).take 4).map D.bl ++ ((bls c).drop 4).map D.bl := by rw [← List.map_append, List.take_append_drop]
  have l16 : (((bls c).take 4).map D.bl).length + (((bls c).drop 4).map D.bl).length ≤ 16777216 := by rw [← List.length_append, ← ht]; simp [bls]
  rw [ht]
  generalize ((bls c).take 4).map D.bl = A at *
  generalize ((bls c).drop 4).map D.bl = B at *
  simp [-cAs, -mSm, z__law_refusal, eb, hj, rd, hd, l16]
end My

namespace My
open Z PySem
noncomputable def swW (s : Str × List Int) : List Str := s.1 :: s.2.map numS
theorem numS_log {b : Int} (h0 : 0 ≤ b) (h1 : b ≤ 10) : b.natAbs.log2 < 1920 := log_ok h0 (by omega)
noncomputable def lrB : MS := (Z.sSeq (Z.sAsg (Z.mCall z__law_switch (Z.mCons (Z.mFn Z.fSum (Z.mCons (Z.mSlS (Z.mVar 0) (Z.oSo (Z.mBin Z.dAdd (Z.mBin Z.dAdd (Z.mVar 1) (Z.mC (.int 1))) (Z.mVar 4))) Z.oNo (Z.oSo (Z.mC (.int 12)))) Z.mNil)) (Z.mCons (Z.mVar 2) Z.mNil))) (Z.gName 5))
      (Z.sAppend (Z.mVar 3) (Z.mBin Z.dAdd (Z.mTree (Z.lDisp (Z.mCons (Z.mBin Z.dIx (Z.mVar 5) (Z.mC (.int 0))) Z.mNil))) (Z.mTree (Z.lComp 1 [] (Z.lIt (Z.mSl (Z.mVar 5) (Z.oSo (Z.mC (.int 1))) Z.oNo)) (Z.gName 0) Z.tYes (Z.mFn Z.fStr (Z.mCons (Z.mVar 0) Z.mNil)))))))
theorem lrB_ok (ns : List Int) (a j : Nat) (c : Int) (c1 : 1 ≤ c) (c2 : c ≤ 10) (rows : List (List Str)) (hl : rows.length < 100) (x5 : Option D) : ∃ s, SwOk c s ∧
    lrB [some (.arg ns), some (.int a), some (.int c), some (.ref 0), some (.int (0 + (j : Int))), x5] [some (.lst (rows.map rD))] = .nx [some (.arg ns), some (.int a), some (.int c), some (.ref 0), some (.int (0 + (j : Int))), some (sd s)] [some (.lst ((rows ++ [swW s]).map rD))] := by
  have hs := law_switch (stepCut ns (some ((a : Int) + 1 + (0 + (j : Int)))) none 12).sum c [some (.lst (rows.map rD))] c1 c2
  have ok := swOf_ok (stepCut ns (some ((a : Int) + 1 + (0 + (j : Int)))) none 12).sum c c1 c2
  generalize swOf (stepCut ns (some ((a : Int) + 1 + (0 + (j : Int)))) none 12).sum c = s at hs ok
  refine ⟨s, ok, ?_⟩
  have hl2 : rows.length < 16777216 := by omega
  have e1 : mCall z__law_switch (mCons (mFn fSum (mCons (mSlS (mVar 0) (oSo (mBin dAdd (mBin dAdd (mVar 1) (mC (.int 1))) (mVar 4))) oNo (oSo (mC (.int 12)))) mNil)) (mCons (mVar 2) mNil)) [some (.arg ns), some (.int a), some (.int c), some (.ref 0), some (.int (0 + (j : Int))), x5] [some (.lst (rows.map rD))] = .ok (sd s) [some (.lst (rows.map rD))] := by
    simp at hs
    simp [hs]
  simp only [lrB, sSeq, sAsg]
  rw [e1]
  rcases ok with ⟨b, h0, h1, rfl | rfl⟩ | ⟨x, b, h0, h1, h2, h3, _, rfl | rfl⟩
  · have lb := numS_log h0 (show b ≤ 10 by omega)
    simp [-List.map_map, sd, swW, rD, cut, sIx, compLoop, hl2, lb]
  · have lb := numS_log h0 (show b ≤ 10 by omega)
    simp [-List.map_map, sd, swW, rD, cut, sIx, compLoop, hl2, lb]
  · have lb := numS_log h0 (show x ≤ 10 by omega)
    have lc := numS_log h2 (show b ≤ 10 by omega)
    simp [-List.map_map, sd, swW, rD, cut, sIx, compLoop, hl2, lb, lc]
  · have lb := numS_log h0 (show x ≤ 10 by omega)
    have lc := numS_log h2 (show b ≤ 10 by omega)
    simp [-List.map_map, sd, swW, rD, cut, sIx, compLoop, hl2, lb, lc]
theorem rows_loop (ns : List Int) (a : Nat) (c : Int) (c1 : 1 ≤ c) (c2 : c ≤ 10) : ∀ (js : List Nat) (rows : List (List Str)) (x4 x5 : Option D), rows.length + js.length < 100 → ∃ (sws : List (Str × List Int)) (y4 y5 : Option D), (∀ s ∈ sws, SwOk c s) ∧ sws.length = js.length ∧
    sLoop (gName 4) lrB (js.map fun (j : Nat) => D.int (0 + (j : Int))) [some (.arg ns), some (.int a), some (.int c), some (.ref 0), x4, x5] [some (.lst (rows.map rD))] = .nx [some (.arg ns), some (.int a), some (.int c), some (.ref 0), y4, y5] [some (.lst ((rows ++ sws.map swW).map rD))]
  | [], rows, x4, x5, _ => ⟨[], x4, x5, by simp, rfl, by simp [sLoop]⟩
  | j :: js, rows, x4, x5, hl => by
    simp only [List.length_cons] at hl
    obtain ⟨s, ok, e⟩ := lrB_ok ns a j c c1 c2 rows (by omega) x5
    obtain ⟨sws, y4, y5, h1, h2, h3⟩ := rows_loop ns a c c1 c2 js (rows ++ [swW s]) (some (.int (0 + (j : Int)))) (some (sd s)) (by simp; omega)
    refine ⟨s :: sws, y4, y5, fun x m => ?_, by simp [h2], ?_⟩
    · rcases List.mem_cons.mp m with rfl | m
      · exact ok
      · exact h1 x m
    · rw [List.map_cons]
      unfold sLoop
      have g : gName 4 (.int (0 + (j : Int))) [some (.arg ns), some (.int a), some (.int c), some (.ref 0), x4, x5] [some (.lst (rows.map rD))] = .nx [some (.arg ns), some (.int a), some (.int c), some (.ref 0), some (.int (0 + (j : Int))), x5] [some (.lst (rows.map rD))] := rfl
      rw [g]
      simp only [e, h3]
      simp [List.append_assoc]
theorem law_rows (ns : List Int) (hn : ns.length ≤ 63) (a : Nat) (ha : a ≤ 10) : ∃ sws : List (Str × List Int), (∀ s ∈ sws, SwOk (1 + ns.getD a 0 % 10) s) ∧ sws.length ≤ 12 ∧ z__law_rows [.arg ns, .int a] [] = .ok (.ref 0) [some (.lst (([bars, numS (1 + ns.getD a 0 % 10)] :: sws.map swW).map rD))] := by
  have e0 := cell_at ns a []
  generalize ns.getD a 0 = g at e0
  have lc := numS_log (b := 1 + g % 10) (by omega) (by omega)
  let m : Nat := min 12 (ns.length - a - 1)
  have em : (if (if 1 < (ns.length : Int) - (a : Int) then (ns.length : Int) - (a : Int) - 1 else 0) < 12 then (if 1 < (ns.length : Int) - (a : Int) then (ns.length : Int) - (a : Int) - 1 else 0) else 12) = ((m : Nat) : Int) := by
    show _ = ((min 12 (ns.length - a - 1) : Nat) : Int)
    split <;> split <;> omega
  have hm : m ≤ 12 := by show min 12 _ ≤ 12; omega
  obtain ⟨sws, y4, y5, h1, h2, h3⟩ := rows_loop ns a (1 + g % 10) (by omega) (by omega) (List.range m) [[bars, numS (1 + g % 10)]] none none (by simp; omega)
  refine ⟨sws, h1, by rw [h2]; simp; exact hm, ?_⟩
  have hb3 : m < 4611686018427387904 := by omega
  have er : rng 0 m = (List.range m).map fun (j : Nat) => D.int (0 + (j : Int)) := rfl
  rw [← er] at h3
  clear_value m
  have eb : b__law_rows = (Z.sSeq (Z.sAsg (Z.mBin Z.dAdd (Z.mC (.int 1)) (Z.mBin Z.dMod (Z.mCall z__law_cell_at (Z.mCons (Z.mVar 0) (Z.mCons (Z.mVar 1) Z.mNil))) (Z.mC (.int 10)))) (Z.gName 2))
      (Z.sSeq (Z.sAsg (Z.mCell (Z.lDisp (Z.mCons (Z.mTree (Z.lDisp (Z.mCons (Z.mC (.str "bars")) (Z.mCons (Z.mFn Z.fStr (Z.mCons (Z.mVar 2) Z.mNil)) Z.mNil)))) Z.mNil))) (Z.gName 3))
      (Z.sSeq (Z.sFor (Z.lRng1 (Z.mCons (Z.mFn Z.fMin (Z.mCons (Z.mC (.int 12)) (Z.mCons (Z.mFn Z.fMax (Z.mCons (Z.mC (.int 0)) (Z.mCons (Z.mBin Z.dSub (Z.mBin Z.dSub (Z.mFn Z.fLen (Z.mCons (Z.mVar 0) Z.mNil)) (Z.mVar 1)) (Z.mC (.int 1))) Z.mNil))) Z.mNil))) Z.mNil)) (Z.gName 4) lrB)
      (Z.sRet (Z.mVar 3))))) := rfl
  simp [-List.map_map, rD] at h3
  simp [-List.map_map, z__law_rows, eb, e0, lc, em, hb3, h3, D.bnd, rD]
theorem SwOk.good {c : Int} {s : Str × List Int} (ok : SwOk c s) (c2 : c ≤ 10) : GoodS c (swW s) := by
  refine ⟨s.1, s.2.map numS, ⟨rfl, ?_, ?_⟩, ?_, ?_, ?_⟩
  · rcases ok with ⟨b, h0, h1, rfl | rfl⟩ | ⟨x, b, h0, h1, h2, h3, _, rfl | rfl⟩ <;> simp <;> decide +kernel
  · intro u hu
    obtain ⟨b, hb, rfl⟩ := List.mem_map.mp hu
    have : 0 ≤ b ∧ b < c := by
      rcases ok with ⟨y, h0, h1, rfl | rfl⟩ | ⟨x, y, h0, h1, h2, h3, _, rfl | rfl⟩ <;> simp at hb <;> omega
    exact (w_big this.1 (by omega)).1
  · rcases ok with ⟨b, h0, h1, rfl | rfl⟩ | ⟨x, b, h0, h1, h2, h3, _, rfl | rfl⟩ <;> simp only <;> decide +kernel
  · intro u hu
    obtain ⟨b, hb, rfl⟩ := List.mem_map.mp hu
    have : 0 ≤ b ∧ b < c := by
      rcases ok with ⟨y, h0, h1, rfl | rfl⟩ | ⟨x, y, h0, h1, h2, h3, _, rfl | rfl⟩ <;> simp at hb <;> omega
    rw [(w_big this.1 (by omega)).2]
    exact this.2
  · intro u v e
    rcases ok with ⟨y, h0, h1, rfl | rfl⟩ | ⟨x, y, h0, h1, h2, h3, ne, rfl | rfl⟩
    · simp at e
    · simp at e
    · simp at e
      rw [← e.1, ← e.2, (w_big h0 (by omega)).2, (w_big h2 (by omega)).2]
      exact ne
    · simp at e
      rw [← e.1, ← e.2, (w_big h0 (by omega)).2, (w_big h2 (by omega)).2]
      exact ne
theorem good_c {c : Int} (c1 : 1 ≤ c) (c2 : c ≤ 10) : GoodC [bars, numS c] c := ⟨numS c, rk1 c (by decide +kernel) (by omega) (by omega), (w_big (by omega) (by omega)).2⟩
theorem GoodS.bd {n : Int} {ws : List Str} (g : GoodS n ws) : Bd ws := by
  obtain ⟨k, us, r, _⟩ := g.r
  exact r.bd
theorem GoodC.bd {n : Int} {ws : List Str} (g : GoodC ws n) : Bd ws := by
  obtain ⟨u, r, _⟩ := g.r
  exact r.bd
end My

namespace My
open Z PySem
theorem good_ff {n : Int} (h1 : 1 ≤ n) (k : Str) (hk : k = Str.ofString "feed" ∨ k = Str.ofString "earth") : GoodS n [k, Str.ofString "0"] := by
  have z : isNum (Str.ofString "0") = true ∧ numV (Str.ofString "0") = 0 := by
    have h : isNum (Str.ofString "0") = true := by decide +kernel
    exact ⟨h, by rw [numV_digits h]; decide +kernel⟩
  refine ⟨k, [Str.ofString "0"], ⟨rfl, ?_, fc z.1 fn⟩, ?_, ?_, fun u v e => by simp at e⟩
  · rcases hk with rfl | rfl <;> decide +kernel
  · rcases hk with rfl | rfl <;> decide +kernel
  · exact fc (by rw [z.2]; omega) fn
theorem pf_bars10 : pf [bars, Str.ofString "10"] = some (bars, [10]) := by
  have h : isNum (Str.ofString "10") = true := by decide +kernel
  have r : Rk [bars, Str.ofString "10"] bars [Str.ofString "10"] := ⟨rfl, by decide +kernel, fc h fn⟩
  rw [r.pf]
  have : numV (Str.ofString "10") = 10 := by rw [numV_digits h]; decide +kernel
  simp [this]
theorem bd_10 : Bd [bars, Str.ofString "10"] := ⟨List.cons_ne_nil _ _, by simp, fc (by decide +kernel) (fc (by decide +kernel) fn)⟩
theorem bd_e : Bd [Str.ofString ""] := ⟨List.cons_ne_nil _ _, by simp, fc lit3.1.2 fn⟩
theorem cut_rows (rows : List (List Str)) (lo hi : Option Int) : cut (rows.map rD) lo hi = (cut rows lo hi).map rD := by simp [cut, List.map_drop, List.map_take]
theorem mem_cut {α : Type} {xs : List α} {lo hi : Option Int} {x : α} (h : x ∈ cut xs lo hi) : x ∈ xs := List.mem_of_mem_drop (List.mem_of_mem_take h)
noncomputable def f3 : List (List Str) := [[Str.ofString "feed", Str.ofString "0"], [Str.ofString "earth", Str.ofString "0"], [Str.ofString "feed", Str.ofString "0"]]
theorem cut_lo {α : Type} (xs : List α) (k : Nat) (hk : k ≤ xs.length) : cut xs none (some (k : Int)) = xs.take k := by
  have e : sIx xs.length xs.length (some (k : Int)) = k := by
    unfold sIx
    simp only
    rw [if_neg (by omega), Int.toNat_natCast, Nat.min_eq_left hk]
  have e2 : sIx xs.length 0 none = 0 := rfl
  unfold cut
  rw [e, e2, List.drop_zero, Nat.sub_zero]
theorem cut_hi {α : Type} (xs : List α) (k : Nat) (hk : k ≤ xs.length) : cut xs (some (k : Int)) none = xs.drop k := by
  have e : sIx xs.length 0 (some (k : Int)) = k := by
    unfold sIx
    simp only
    rw [if_neg (by omega), Int.toNat_natCast, Nat.min_eq_left hk]
  have e2 : sIx xs.length xs.length none = xs.length := rfl
  unfold cut
  rw [e, e2]
  exact List.take_of_length_le (by simp)
theorem repl_len {α : Type} (n : Nat) (xs : List α) : (List.replicate n xs).flatten.length = n * xs.length := by simp
theorem mem_repl {α : Type} {n : Nat} {xs : List α} {x : α} (h : x ∈ (List.replicate n xs).flatten) : x ∈ xs := by
  obtain ⟨l, hl, hx⟩ := List.mem_flatten.mp h
  rw [(List.mem_replicate.mp hl).2] at hx
  exact hx
end My

namespace My
open Z PySem
theorem fst_set {w0 : List Str} {S : List (List Str)} {n : Int} (g : GoodC w0 n) (h1 : 1 ≤ n) (h2 : n ≤ 10) (gs : ∀ w ∈ S, GoodS n w) (hl : S.length ≤ 12) (i : Nat) (hi : i < S.length + 1) (ws : List Str) (c : String) (H0 : i = 0 → cntC (pf ws) = .error c) (H1 : ∀ j, i = j + 1 → swC n j (pf ws) = .error c) : fst ((w0 :: S).set i ws) = some c := by
  cases i with
  | zero => exact fst_0 (H0 rfl)
  | succ j =>
    rw [List.set_cons_succ, List.set_eq_take_append_cons_drop, if_pos (by omega)]
    refine fst_s g h1 h2 (fun w hw => gs w (List.mem_of_mem_take hw)) (by simp; omega) ?_
    rw [List.length_take, Nat.min_eq_left (by omega)]
    exact H1 j rfl
theorem bd_set {R : List (List Str)} (h : ∀ w ∈ R, Bd w) {ws : List Str} (b : Bd ws) (i : Nat) : ∀ w ∈ R.set i ws, Bd w := fun w hw => by
  rcases List.mem_or_eq_of_mem_set hw with hw | rfl
  · exact h w hw
  · exact b
theorem Sp.d4 {ws : List Str} {k : Str} {n d : Int} (s : Sp ws k n d) : ∃ e : Nat, e < 4 ∧ d = e := by
  rcases s.f with ⟨rfl, _⟩ | ⟨us, _, ⟨rfl, _⟩ | ⟨rfl, _⟩ | ⟨rfl, _⟩⟩
  · exact ⟨0, by decide, rfl⟩
  · exact ⟨1, by decide, rfl⟩
  · exact ⟨2, by decide, rfl⟩
  · exact ⟨3, by decide, rfl⟩
theorem Sp.cnt {ws : List Str} {n : Int} {d : Nat} (s : Sp ws bars n d) : cntC (pf ws) = .error (clD d) := by
  rcases s.f with ⟨e, f⟩ | ⟨us, r, ⟨e, _, v, ev, nv⟩ | ⟨e, nb, _⟩ | ⟨e, nb, _⟩⟩
  · have : d = 0 := by omega
    subst this
    exact f.cnt rfl
  · have : d = 1 := by omega
    subst this
    rw [r.pf, ev]
    unfold cntC
    simp [nv, clD]
  · exact absurd rfl nb
  · exact absurd rfl nb
theorem Sp.sw {ws : List Str} {k : Str} {n : Int} {d : Nat} (s : Sp ws k n d) (hk : k ≠ bars) {a : Nat} (ha : a < 12) : swC n a (pf ws) = .error (clD d) := by
  have hk' : ¬ k = Str.ofString "bars" := hk
  rcases s.f with ⟨e, f⟩ | ⟨us, r, ⟨e, b, _⟩ | ⟨e, nb, m⟩ | ⟨e, nb, v, ev, lv⟩⟩
  · have : d = 0 := by omega
    subst this
    exact f.sw hk n a
  · exact absurd b hk
  · have : d = 2 := by omega
    subst this
    rw [r.pf]
    unfold swC
    simp only [if_neg hk', if_neg (show ¬ 12 ≤ a by omega), if_pos m]
    rfl
  · have : d = 3 := by omega
    subst this
    rw [r.pf, ev]
    unfold swC
    have hm : ¬ n ≤ maxI [v, v] := by simp [maxI]; omega
    simp only [if_neg hk', if_neg (show ¬ 12 ≤ a by omega), if_neg hm]
    simp [clD]
theorem bls_comp (d : Nat) (h : MH) : compLoop (gName 0) tYes (mBin dEq (mVar 0) (mVar 1)) [none, some (.int d)] (rng 0 16) h = .ok ((bls d).map D.bl) h := by
  have := compLoop_mapI (g := gName 0) (t := tYes) (h := h) (m := mBin dEq (mVar 0) (mVar 1)) (ρ0 := [none, some (.int d)]) (fun (k : Nat) => D.int (0 + (k : Int))) (fun k => [some (.int (0 + (k : Int))), some (.int d)]) (fun k => D.bl (decide (k = d))) (List.range 16) (fun k _ => by
    refine ⟨by simp, by simp, ?_⟩
    by_cases q : k = d
    · subst q; simp
    · have : ¬ (k : Int) = d := by omega
      simp [q, this])
  unfold rng
  rw [this]
  unfold bls
  rw [List.map_map]; rfl
theorem bls_eq (bs : List Bool) (h : MH) : dEq (.lst (bs.map D.bl)) (.lst (bs.map D.bl)) h = .ok (.bl true) h := by
  have h1 : (D.lst (bs.map D.bl)).dat = true := dat_of (n := 1) (dat_lst fun d hd => by
    obtain ⟨b, _, rfl⟩ := List.mem_map.mp hd
    exact ⟨by simp [D.py], by simp [D.deep]⟩) (by omega)
  have h2 := dat_eq h1
  simp only [dEq, h1, and_self, if_true, h2]
/-- the row at a place -/
theorem row_at {w0 : List Str} {S : List (List Str)} {n : Int} (g : GoodC w0 n) (gs : ∀ w ∈ S, GoodS n w) (i : Nat) (hi : i < S.length + 1) : ∃ ws k us, (w0 :: S)[i]? = some ws ∧ Rk ws k us ∧ (k = bars ↔ i = 0) ∧ (k ≠ bars → ∀ u ∈ us, numV u < n) := by
  cases i with
  | zero =>
    obtain ⟨u, r, _⟩ := g.r
    exact ⟨w0, bars, [u], rfl, r, by simp, fun z => absurd rfl z⟩
  | succ j =>
    have hj : j < S.length := by omega
    obtain ⟨k, us, r, h1, h2, _⟩ := (gs S[j] (List.getElem_mem hj)).r
    exact ⟨S[j], k, us, by simp [hj], r, ⟨fun z => absurd z h1, fun z => by omega⟩, fun _ => h2⟩
theorem bnd_rows (n : Nat) (R : List (List Str)) : Cell.bnd n (some (.lst (R.map rD))) = true := by
  have hs : ∀ ws : List Str, D.bnds n (ws.map D.str) = true := fun ws => by
    induction ws with
    | nil => simp [D.bnds]
    | cons w ws ih => simp [D.bnds, D.bnd, ih]
  have hr : ∀ R : List (List Str), D.bnds n (R.map rD) = true := fun R => by
    induction R with
    | nil => simp [D.bnds]
    | cons w ws ih => simp [D.bnds, D.bnd, rD, hs w, ih]
  simp [Cell.bnd, hr R]
end My

namespace My
open Z PySem
theorem fst_at {w0 : List Str} {S R : List (List Str)} {n : Int} (g : GoodC w0 n) (h1 : 1 ≤ n) (h2 : n ≤ 10) (gs : ∀ w ∈ S, GoodS n w) (i : Nat) (hi : i ≤ S.length) (hl : i ≤ 13) {ws : List Str} {c : String} (ht : R.take i = (w0 :: S).take i) (hr : R[i]? = some ws) (H0 : i = 0 → cntC (pf ws) = .error c) (H1 : ∀ j, i = j + 1 → swC n j (pf ws) = .error c) : fst R = some c := by
  have hlt := (List.getElem?_eq_some_iff.mp hr).1
  have e : R = R.take i ++ ws :: R.drop (i + 1) := by
    have h3 := List.take_append_drop i R
    rw [List.drop_eq_getElem_cons hlt] at h3
    rw [(List.getElem?_eq_some_iff.mp hr).2] at h3
    exact h3.symm
  rw [e, ht]
  cases i with
  | zero => exact fst_0 (H0 rfl)
  | succ j =>
    rw [List.take_succ_cons, List.cons_append]
    refine fst_s g h1 h2 (fun w hw => gs w (List.mem_of_mem_take hw)) (by simp; omega) ?_
    rw [List.length_take, Nat.min_eq_left (by omega)]
    exact H1 j rfl
noncomputable def fnE : ME := (Z.mBin Z.dEq (Z.mCall z__law_refusal (Z.mCons (Z.mVar 1) Z.mNil)) (Z.mTree (Z.lComp 1 [7] (Z.lRng1 (Z.mCons (Z.mC (.int 16)) Z.mNil)) (Z.gName 0) Z.tYes (Z.mBin Z.dEq (Z.mVar 0) (Z.mVar 1)))))
theorem fn_ok {ρ : Ro} {d : D} {e : Nat} {h : MH} (r1 : ρ[1]? = some (some d)) (r7 : ρ[7]? = some (some (.int e))) (hr : z__law_refusal [d] h = .ok (.lst ((bls e).map D.bl)) h) : fnE ρ h = .ok (.bl true) h := by
  have c := bls_comp e h
  have q := bls_eq (bls e) h
  simp [-List.map_map, -dEq, fnE, r1, r7, hr, c, q, caps]
/-- a yard of one bar -/
theorem one_row {k : Str} (hk : cntK k = some 2) (a b : Str) (ha : isNum a = true) (hb : isNum b = true) : Rk [k, a, b] k [a, b] := ⟨rfl, hk, fc ha (fc hb fn)⟩
theorem lit01 : (isNum (Str.ofString "0") = true ∧ numV (Str.ofString "0") = 0) ∧ (isNum (Str.ofString "1") = true ∧ numV (Str.ofString "1") = 1) := by
  have h0 : isNum (Str.ofString "0") = true := by decide +kernel
  have h1 : isNum (Str.ofString "1") = true := by decide +kernel
  exact ⟨⟨h0, by rw [numV_digits h0]; decide +kernel⟩, ⟨h1, by rw [numV_digits h1]; decide +kernel⟩⟩
theorem good1 : GoodC [bars, Str.ofString "1"] 1 := ⟨Str.ofString "1", ⟨rfl, by decide +kernel, fc lit01.2.1 fn⟩, lit01.2.2⟩
theorem bls_compC (d : Nat) (h : MH) : compLoop (gName 0) tYes (mBin dEq (mVar 0) (mC (.int d))) [none] (rng 0 16) h = .ok ((bls d).map D.bl) h := by
  have := compLoop_mapI (g := gName 0) (t := tYes) (h := h) (m := mBin dEq (mVar 0) (mC (.int d))) (ρ0 := [none]) (fun (k : Nat) => D.int (0 + (k : Int))) (fun k => [some (.int (0 + (k : Int)))]) (fun k => D.bl (decide (k = d))) (List.range 16) (fun k _ => by
    refine ⟨by simp, by simp, ?_⟩
    by_cases q : k = d
    · subst q; simp
    · have : ¬ (k : Int) = d := by omega
      simp [q, this])
  unfold rng
  rw [this]
  unfold bls
  rw [List.map_map]; rfl
theorem one_bar {k : Str} (hk : cntK k = some 2) (hb : k ≠ bars) : z__law_one_bar [.str k] [] = .ok (.bl true) [] := by
  have kb := kn_of hk
  have hb' : ¬ k = Str.ofString "bars" := hb
  have ref : ∀ (a b : Str) (ha : isNum a = true) (hb : isNum b = true) (e : Nat), e < 4 → swC 1 0 (pf [k, a, b]) = .error (clD e) → z__law_refusal [.lst [.lst [.str (Str.ofString "bars"), .str (Str.ofString "1")], .lst [.str k, .str a, .str b]]] [] = .ok (.lst ((bls e).map D.bl)) [] := fun a b ha hb e he hs =>
    refusal (q := none) (rows := [[bars, Str.ofString "1"], [k, a, b]]) (by simp [rD]) trivial rfl (fun w hw => by
      simp at hw
      rcases hw with rfl | rfl
      · exact good1.bd
      · exact (one_row hk a b ha hb).bd) (List.cons_ne_nil _ _) (by simp) he (fst_s (pre := []) (post := []) good1 (by decide) (by decide) (fun w hw => nomatch hw) (by simp) hs)
  have pfv : ∀ (a b : Str) (ha : isNum a = true) (hb : isNum b = true), pf [k, a, b] = some (k, [numV a, numV b]) := fun a b ha hb => (one_row hk a b ha hb).pf
  have s00 : swC 1 0 (pf [k, Str.ofString "0", Str.ofString "0"]) = .error (clD 3) := by
    rw [pfv _ _ lit01.1.1 lit01.1.1, lit01.1.2]; unfold swC; simp [hb', maxI, clD]
  have s01 : swC 1 0 (pf [k, Str.ofString "0", Str.ofString "1"]) = .error (clD 2) := by
    rw [pfv _ _ lit01.1.1 lit01.2.1, lit01.1.2, lit01.2.2]; unfold swC; simp [hb', maxI, clD]
  have s11 : swC 1 0 (pf [k, Str.ofString "1", Str.ofString "1"]) = .error (clD 2) := by
    rw [pfv _ _ lit01.2.1 lit01.2.1, lit01.2.2]; unfold swC; simp [hb', maxI, clD]
  have r1 := ref _ _ lit01.1.1 lit01.1.1 3 (by decide) s00
  have r2 := ref _ _ lit01.1.1 lit01.2.1 2 (by decide) s01
  have r3 := ref _ _ lit01.2.1 lit01.2.1 2 (by decide) s11
  have c3 := bls_compC 3 []
  have c2 := bls_compC 2 []
  have q3 := bls_eq (bls 3) []
  have q2 := bls_eq (bls 2) []
  simp [-List.map_map, -dEq] at c3 c2
  generalize (bls 3).map D.bl = A3 at *
  generalize (bls 2).map D.bl = A2 at *
  simp [-List.map_map, -dEq, z__law_one_bar, b__law_one_bar, r1, r2, r3, c3, c2, q3, q2]
noncomputable def l5B : MS := (Z.sIf (Z.tAnd (Z.tB (Z.mBin Z.dLt (Z.mVar 6) (Z.mC (.int 2)))) (Z.tB (Z.mBin Z.dGt (Z.mFn Z.fLen (Z.mCons (Z.mVar 1) Z.mNil)) (Z.mC (.int 1)))))
      (Z.sSeq (Z.sAsg (Z.mBin Z.dMod (Z.mBin Z.dAdd (Z.mBin Z.dAdd (Z.mVar 3) (Z.mC (.int 1))) (Z.mBin Z.dMod (Z.mVar 4) (Z.mBin Z.dSub (Z.mFn Z.fLen (Z.mCons (Z.mVar 1) Z.mNil)) (Z.mC (.int 1))))) (Z.mFn Z.fLen (Z.mCons (Z.mVar 1) Z.mNil))) (Z.gName 8))
      (Z.sAsg (Z.mCall z__law_two_rows (Z.mCons (Z.mVar 1) (Z.mCons (Z.mVar 2) (Z.mCons (Z.mVar 3) (Z.mCons (Z.mVar 8) (Z.mCons (Z.mVar 5) Z.mNil)))))) (Z.gName 7)))
      (Z.sIf (Z.tB (Z.mBin Z.dEq (Z.mVar 6) (Z.mC (.int 2))))
      (Z.sSeq (Z.sAsg (Z.mCall z__law_thirteen (Z.mCons (Z.mVar 1) (Z.mCons (Z.mVar 4) Z.mNil))) (Z.gName 1))
      (Z.sIf (Z.tB (Z.mBin Z.dEq (Z.mBin Z.dMod (Z.mVar 5) (Z.mC (.int 2))) (Z.mC (.int 1))))
      (Z.sSeq (Z.sAsg (Z.mBin Z.dMod (Z.mBin Z.dDiv (Z.mVar 5) (Z.mC (.int 2))) (Z.mC (.int 13))) (Z.gName 3))
      (Z.sSeq (Z.sAsg (Z.mCall z__law_wrong (Z.mCons (Z.mBin Z.dIx (Z.mVar 1) (Z.mVar 3)) (Z.mCons (Z.mVar 2) (Z.mCons (Z.mBin Z.dMod (Z.mBin Z.dDiv (Z.mVar 5) (Z.mC (.int 26))) (Z.mC (.int 4))) (Z.mCons (Z.mBin Z.dDiv (Z.mVar 5) (Z.mC (.int 104))) Z.mNil))))) (Z.gTup [9, 7]))
      (Z.sAsg (Z.mVar 9) (Z.gSub (Z.mVar 1) (Z.mVar 3)))))
      Z.sNext))
      (Z.sIf (Z.tAnd (Z.tB (Z.mBin Z.dEq (Z.mVar 6) (Z.mC (.int 3)))) (Z.tB (Z.mBin Z.dEq (Z.mFn Z.fLen (Z.mCons (Z.mBin Z.dIx (Z.mVar 1) (Z.mVar 3)) Z.mNil)) (Z.mC (.int 3)))))
      (Z.sSeq (Z.sAsg (Z.mC (.int 2)) (Z.gName 7))
      (Z.sSeq (Z.sAsg (Z.mFn Z.fStr (Z.mCons (Z.mBin Z.dAdd (Z.mVar 2) (Z.mBin Z.dMod (Z.mVar 4) (Z.mBin Z.dSub (Z.mBin Z.dPow (Z.mC (.int 10)) (Z.mC (.int 9))) (Z.mVar 2)))) Z.mNil)) (Z.gName 10))
      (Z.sAsg (Z.mTree (Z.lDisp (Z.mCons (Z.mBin Z.dIx (Z.mBin Z.dIx (Z.mVar 1) (Z.mVar 3)) (Z.mC (.int 0))) (Z.mCons (Z.mVar 10) (Z.mCons (Z.mVar 10) Z.mNil))))) (Z.gSub (Z.mVar 1) (Z.mVar 3)))))
      (Z.sSeq (Z.sAsg (Z.mBin Z.dAdd (Z.mC (.int 1)) (Z.mBin Z.dMod (Z.mVar 4) (Z.mC (.int 3)))) (Z.gName 6))
      (Z.sSeq (Z.sAsg (Z.mCall z__law_wrong (Z.mCons (Z.mBin Z.dIx (Z.mVar 1) (Z.mVar 3)) (Z.mCons (Z.mVar 2) (Z.mCons (Z.mVar 6) (Z.mCons (Z.mBin Z.dDiv (Z.mVar 4) (Z.mC (.int 3))) Z.mNil))))) (Z.gName 11))
      (Z.sSeq (Z.sAsg (Z.mBin Z.dIx (Z.mVar 11) (Z.mC (.int 0))) (Z.gSub (Z.mVar 1) (Z.mVar 3)))
      (Z.sIf (Z.tB (Z.mBin Z.dGt (Z.mBin Z.dIx (Z.mVar 11) (Z.mC (.int 1))) (Z.mC (.int 0))))
      (Z.sAsg (Z.mCall z__law_no_form (Z.mCons (Z.mBin Z.dIx (Z.mVar 11) (Z.mC (.int 0))) (Z.mCons (Z.mVar 5) Z.mNil))) (Z.gSub (Z.mVar 1) (Z.mVar 3)))
      Z.sNext)))))))
end My

namespace My
open Z PySem
theorem getRow {w0 : List Str} {S : List (List Str)} {i : Nat} (hi : i < S.length + 1) {ws : List Str} (er : (w0 :: S)[i]? = some ws) {R : List D} (hR : R = (w0 :: S).map rD) : atI R (i : Int) = some (rD ws) ∧ ixN R.length (i : Int) = some i := by
  subst hR
  have er' : ((w0 :: S).map rD)[i]? = some (rD ws) := by rw [List.getElem?_map, er]; rfl
  have hl : ((w0 :: S).map rD).length = S.length + 1 := by simp
  constructor
  · unfold atI ixN
    rw [if_pos (by omega), if_pos (by omega)]
    simpa using er'
  · unfold ixN
    rw [if_pos (by omega), if_pos (by omega)]
    simp
/-- what a spoilt row is refused with, at its place -/
structure At (n : Int) (i : Nat) (ws : List Str) (e : Nat) : Prop where
  b : Bd ws
  l : e < 4
  z : i = 0 → cntC (pf ws) = .error (clD e)
  s : ∀ j, i = j + 1 → j < 12 → swC n j (pf ws) = .error (clD e)
theorem Sp.at {ws : List Str} {k : Str} {n : Int} {e i : Nat} (sp : Sp ws k n e) (kb : k = bars ↔ i = 0) (he : e < 4) : At n i ws e :=
  ⟨sp.b, he, fun z => by have := kb.mpr z; subst this; exact sp.cnt, fun j z hj => sp.sw (fun y => by have := kb.mp y; omega) hj⟩
theorem two_rows {n : Int} (h1 : 1 ≤ n) (h2 : n ≤ 10) {w0 : List Str} {S : List (List Str)} (g0 : GoodC w0 n) (gs : ∀ w ∈ S, GoodS n w) (lo hi : Nat) (hlt : lo < hi) (hhi : hi < S.length + 1) (i j : Nat) (hij : (i = lo ∧ j = hi) ∨ (i = hi ∧ j = lo)) (c : Int) :
    ∃ x y e, Bd x ∧ At n lo y e ∧ z__law_two_rows [.ref 0, .int n, .int i, .int j, .int c] [some (.lst ((w0 :: S).map rD))] = .ok (.int e) [some (.lst ((((w0 :: S).set hi x).set lo y).map rD))] := by
  obtain ⟨wh, kh, uh, eh, rh, bh, nh⟩ := row_at g0 gs hi hhi
  obtain ⟨wl, kl, ul, el, rl, bl, nl⟩ := row_at g0 gs lo (by omega)
  obtain ⟨x, d1, sp1, e1⟩ := wrong_ok rh n h1 h2 nh (c / 4 % 4) (c / 16 + (i : Int)) [some (.lst ((w0 :: S).map rD))]
  obtain ⟨y, d2, sp2, e2⟩ := wrong_ok rl n h1 h2 nl (c % 4) (c / 16) [some (.lst (((w0 :: S).set hi x).map rD))]
  obtain ⟨e, he, rfl⟩ := sp2.d4
  refine ⟨x, y, e, sp1.b, sp2.at bl he, ?_⟩
  obtain ⟨a1, x1⟩ := getRow hhi eh rfl
  have hs1 : ((w0 :: S).map rD).set hi (rD x) = ((w0 :: S).set hi x).map rD := List.map_set.symm
  have hs2 : (((w0 :: S).set hi x).map rD).set lo (rD y) = (((w0 :: S).set hi x).set lo y).map rD := List.map_set.symm
  have L2' : (((w0 :: S).set hi x).map rD).length = S.length + 1 := by simp
  have er2 : (((w0 :: S).set hi x).map rD)[lo]? = some (rD wl) := by
    rw [List.getElem?_map, List.getElem?_set_ne (by omega), el]; rfl
  have a2 : atI (((w0 :: S).set hi x).map rD) (lo : Int) = some (rD wl) := by
    unfold atI ixN
    rw [if_pos (by omega), if_pos (by omega)]
    simpa using er2
  have x2 : ixN (((w0 :: S).set hi x).map rD).length (lo : Int) = some lo := by
    unfold ixN
    rw [if_pos (by omega), if_pos (by omega)]
    simp
  rw [← hs2]
  rw [← hs1] at a2 x2 e2 ⊢
  rw [List.length_set] at x2
  generalize (w0 :: S).map rD = R at *
  rcases hij with ⟨rfl, rfl⟩ | ⟨rfl, rfl⟩
  · have q1 : ¬ (j : Int) < (i : Int) := by omega
    have q2 : (i : Int) < (j : Int) := by omega
    simp [z__law_two_rows, b__law_two_rows, q1, q2, a1, x1, e1, a2, x2, e2]
  · have q1 : (j : Int) < (i : Int) := by omega
    have q2 : ¬ (i : Int) < (j : Int) := by omega
    simp [z__law_two_rows, b__law_two_rows, q1, q2, a1, x1, e1, a2, x2, e2]
noncomputable def f4 : List (List Str) := [[Str.ofString "feed", Str.ofString "0"], [Str.ofString "earth", Str.ofString "0"], [Str.ofString "earth", Str.ofString "0"], [Str.ofString "feed", Str.ofString "0"]]
/-- the last row of thirteen -/
noncomputable def Last (w : List Str) : Prop := Bd w ∧ ∀ (n : Int) (a : Nat), 12 ≤ a → swC n a (pf w) = .error "NoRow"
theorem last_of {w us : List Str} {k : Str} (r : Rk w k us) (hk : k ≠ bars) : Last w := ⟨r.bd, fun n a ha => by
  have hk' : ¬ k = Str.ofString "bars" := hk
  rw [r.pf]; unfold swC; simp only [if_neg hk', if_pos ha]⟩
theorem last_4 : Last [Str.ofString "feed", Str.ofString "10"] ∧ Last [Str.ofString "breaker", Str.ofString "0", Str.ofString "0"] ∧ Last [Str.ofString "splitter", Str.ofString "10", Str.ofString "10"] ∧ Last [Str.ofString "earth", Str.ofString "01"] := by
  have n10 : isNum (Str.ofString "10") = true := by decide +kernel
  refine ⟨last_of ⟨rfl, by decide +kernel, fc n10 fn⟩ (by decide +kernel), last_of (one_row (by decide +kernel) _ _ lit01.1.1 lit01.1.1) (by decide +kernel), last_of (one_row (by decide +kernel) _ _ n10 n10) (by decide +kernel), ⟨⟨List.cons_ne_nil _ _, by simp, fc (by decide +kernel) (fc (by decide +kernel) fn)⟩, fun n a _ => ?_⟩⟩
  have e : pf [Str.ofString "earth", Str.ofString "01"] = none := by
    rw [pf_free (List.cons_ne_nil _ _) (fc (by decide +kernel) (fc (by decide +kernel) fn))]
    unfold partedF
    have c : cntK (Str.ofString "earth") = some 1 := by decide +kernel
    have z : isNum (Str.ofString "01") = false := by decide +kernel
    simp [c, z]
  rw [e]; rfl
theorem thirteen {n : Int} (h1 : 1 ≤ n) {w0 : List Str} {S : List (List Str)} (gs : ∀ w ∈ S, GoodS n w) (hl : S.length ≤ 12) (c : Int) :
    ∃ (T : List (List Str)) (la : List Str), (∀ w ∈ T, GoodS n w) ∧ T.length = 12 ∧ Last la ∧ z__law_thirteen [.ref 0, .int c] [some (.lst ((w0 :: S).map rD))] = .ok (.ref 1) [some (.lst ((w0 :: S).map rD)), some (.lst ((w0 :: (T ++ [la])).map rD))] := by
  let more := S ++ (List.replicate 3 f4).flatten
  have hmg : ∀ w ∈ more, GoodS n w := fun w hw => by
    rcases List.mem_append.mp hw with hw | hw
    · exact gs w hw
    · have := mem_repl hw
      simp only [f4, List.mem_cons, List.not_mem_nil, or_false] at this
      rcases this with rfl | rfl | rfl | rfl
      · exact good_ff h1 _ (.inl rfl)
      · exact good_ff h1 _ (.inr rfl)
      · exact good_ff h1 _ (.inr rfl)
      · exact good_ff h1 _ (.inl rfl)
  have hml : more.length = S.length + 12 := by
    show (S ++ (List.replicate 3 f4).flatten).length = _
    rw [List.length_append, repl_len]
    rfl
  obtain ⟨la, hla, ela⟩ : ∃ la, Last la ∧ atI [D.lst [.str (Str.ofString "feed"), .str (Str.ofString "10")], .lst [.str (Str.ofString "breaker"), .str (Str.ofString "0"), .str (Str.ofString "0")], .lst [.str (Str.ofString "splitter"), .str (Str.ofString "10"), .str (Str.ofString "10")], .lst [.str (Str.ofString "earth"), .str (Str.ofString "01")]] (c % 4) = some (rD la) := by
    rcases (show c % 4 = 0 ∨ c % 4 = 1 ∨ c % 4 = 2 ∨ c % 4 = 3 by omega) with r | r | r | r
    · exact ⟨_, last_4.1, by rw [r]; rfl⟩
    · exact ⟨_, last_4.2.1, by rw [r]; rfl⟩
    · exact ⟨_, last_4.2.2.1, by rw [r]; rfl⟩
    · exact ⟨_, last_4.2.2.2, by rw [r]; rfl⟩
  refine ⟨more.take 12, la, fun w hw => hmg w (List.mem_of_mem_take hw), by simp; omega, hla, ?_⟩
  have em : (S.map rD ++ (List.replicate 3 (f4.map rD)).flatten) = more.map rD := by
    show _ = (S ++ (List.replicate 3 f4).flatten).map rD
    rw [List.map_append, List.map_flatten, List.map_replicate]
  have ek2 : cut (more.map rD) none (some 12) = (more.take 12).map rD := by
    rw [cut_rows]
    have := cut_lo more 12 (by omega)
    rw [← this]; rfl
  have ec1 : cut (rD w0 :: S.map rD) (some 1) none = S.map rD := by
    have := cut_hi (rD w0 :: S.map rD) 1 (by simp)
    simpa using this
  have ec2 : cut (rD w0 :: S.map rD) none (some 1) = [rD w0] := by
    have := cut_lo (rD w0 :: S.map rD) 1 (by simp)
    simpa using this
  have eL : (w0 :: (more.take 12 ++ [la])).map rD = rD w0 :: ((more.take 12).map rD ++ [rD la]) := by simp
  rw [eL, List.map_cons]
  have ed : (.lst [.lst [.str (Str.ofString "feed"), .str (Str.ofString "0")], .lst [.str (Str.ofString "earth"), .str (Str.ofString "0")], .lst [.str (Str.ofString "earth"), .str (Str.ofString "0")], .lst [.str (Str.ofString "feed"), .str (Str.ofString "0")]] : D) = .lst (f4.map rD) := rfl
  have lF : (f4.map rD).length = 4 := rfl
  have lS : (S.map rD).length = S.length := by simp
  have lT : ((more.take 12).map rD).length = 12 := by simp; omega
  generalize f4.map rD = F at em ed lF
  generalize more.map rD = M at em ek2
  generalize (more.take 12).map rD = T at ek2 lT ⊢
  generalize rD w0 = W0 at *
  generalize rD la = LA at *
  generalize S.map rD = S' at *
  have hS : S'.length ≤ 16777204 := by omega
  simp [-List.reduceReplicate, z__law_thirteen, b__law_thirteen, ela, ec1, ec2, ed, em, ek2, lF, hS, lT, D.bnd]
theorem law_true : ∀ ns : List Int, ns.length ≤ 63 → ∃ h, z_law [.arg ns] [] = .ok (.bl true) h := by
  intro ns hn
  obtain ⟨sws, hok, hl, e1⟩ := law_rows ns hn 4 (by decide)
  have k4 := fun h => cell_at ns 4 h
  have k0 := fun h => cell_at ns 0 h
  have k1 := fun h => cell_at ns 1 h
  have k2 := fun h => cell_at ns 2 h
  have k3 := fun h => cell_at ns 3 h
  have ec : ∀ h : MH, mBin dAdd (mC (.int 1)) (mBin dMod (mC (.int (ns.getD 4 0))) (mC (.int 10))) [] h = .ok (.int (1 + ns.getD 4 0 % 10)) h := fun h => by simp
  generalize ns.getD 4 0 = g4 at *
  generalize ns.getD 0 0 = g0 at *
  generalize ns.getD 1 0 = g1 at *
  generalize ns.getD 2 0 = g2 at *
  generalize ns.getD 3 0 = g3 at *
  have c1 : 1 ≤ 1 + g4 % 10 := by omega
  have c2 : 1 + g4 % 10 ≤ 10 := by omega
  generalize 1 + g4 % 10 = n at *
  have gc := good_c c1 c2
  have gs : ∀ w ∈ sws.map swW, GoodS n w := fun w hw => by
    obtain ⟨s, hs, rfl⟩ := List.mem_map.mp hw
    exact (hok s hs).good c2
  have hl2 : (sws.map swW).length ≤ 12 := by simpa using hl
  generalize sws.map swW = S at *
  generalize [bars, numS n] = w0 at *
  have hbd : ∀ w ∈ w0 :: S, Bd w := fun w hw => by
    rcases List.mem_cons.mp hw with rfl | hw
    · exact gc.bd
    · exact (gs w hw).bd
  have hRl : ((w0 :: S).map rD).length = S.length + 1 := by simp
  obtain ⟨i, ei⟩ : ∃ i : Nat, g0 % ((S.length : Int) + 1) = i := ⟨(g0 % ((S.length : Int) + 1)).toNat, by have := Int.emod_nonneg g0 (show (S.length : Int) + 1 ≠ 0 by omega); omega⟩
  have hi : i < S.length + 1 := by have := Int.emod_lt_of_pos g0 (show (0 : Int) < (S.length : Int) + 1 by omega); omega
  have p0 : (0 : Int) < (S.length : Int) + 1 := by omega
  have okb : ∀ R : List (List Str), [some (Cell.lst (R.map rD))].all (Cell.bnd [some (Cell.lst (R.map rD))].length) = true := fun R => by
    rw [List.all_cons, bnd_rows]; rfl
  have okb2 : ∀ R R' : List (List Str), [some (Cell.lst (R.map rD)), some (Cell.lst (R'.map rD))].all (Cell.bnd [some (Cell.lst (R.map rD)), some (Cell.lst (R'.map rD))].length) = true := fun R R' => by
    rw [List.all_cons, List.all_cons, bnd_rows, bnd_rows]; rfl
  have fin : ∃ (ρ : Ro) (d : D) (e : Nat) (h' : MH), l5B [some (.arg ns), some (.ref 0), some (.int n), some (.int i), some (.int g1), some (.int g2), some (.int (g3 % 5)), some (.int 0), none, none, none, none] [some (.lst ((w0 :: S).map rD))] = .nx ρ h' ∧ ρ[1]? = some (some d) ∧ ρ[7]? = some (some (.int e)) ∧ z__law_refusal [d] h' = .ok (.lst ((bls e).map D.bl)) h' := by
    obtain ⟨ws, k, us, er, rk, kb, ku⟩ := row_at gc gs i hi
    obtain ⟨ea, ex⟩ := getRow hi er rfl
    have es : ∀ ws' : List Str, ((w0 :: S).map rD).set i (rD ws') = ((w0 :: S).set i ws').map rD := fun ws' => List.map_set.symm
    have one : ∀ (ws' : List Str) (e : Nat), At n i ws' e → z__law_refusal [.ref 0] [some (.lst (((w0 :: S).set i ws').map rD))] = .ok (.lst ((bls e).map D.bl)) [some (.lst (((w0 :: S).set i ws').map rD))] := fun ws' e a =>
      refusal (q := some 0) (rows := (w0 :: S).set i ws') (by simp) (by simp [okG]) (okb _) (bd_set hbd a.b i) (by simp) (by simp; omega) a.l (fst_set gc c1 c2 gs hl2 i hi ws' _ a.z (fun j z => a.s j z (by omega)))
    by_cases q01 : g3 % 5 < 2 ∧ S ≠ []
    · obtain ⟨q01, hne⟩ := q01
      have hS : 0 < S.length := List.length_pos_iff.mpr hne
      obtain ⟨m, em⟩ : ∃ m : Nat, g1 % (S.length : Int) = m := ⟨(g1 % (S.length : Int)).toNat, by have := Int.emod_nonneg g1 (show (S.length : Int) ≠ 0 by omega); omega⟩
      have hm : m < S.length := by have := Int.emod_lt_of_pos g1 (show (0 : Int) < (S.length : Int) by omega); omega
      obtain ⟨j, ej⟩ : ∃ j : Nat, ((i : Int) + 1 + (m : Int)) % ((S.length : Int) + 1) = j := ⟨(((i : Int) + 1 + (m : Int)) % ((S.length : Int) + 1)).toNat, by have := Int.emod_nonneg ((i : Int) + 1 + (m : Int)) (show (S.length : Int) + 1 ≠ 0 by omega); omega⟩
      have hj : j < S.length + 1 := by have := Int.emod_lt_of_pos ((i : Int) + 1 + (m : Int)) (show (0 : Int) < (S.length : Int) + 1 by omega); omega
      have hij : i ≠ j := fun z => by
        subst z
        by_cases y : (i : Int) + 1 + m < (S.length : Int) + 1
        · rw [Int.emod_eq_of_lt (by omega) y] at ej; omega
        · have : ((i : Int) + 1 + m) % ((S.length : Int) + 1) = (i : Int) + 1 + m - ((S.length : Int) + 1) := by rw [← Int.sub_emod_right, Int.emod_eq_of_lt (by omega) (by omega)]
          omega
      obtain ⟨lo, hi', hlt, hhi, hio⟩ : ∃ lo hi' : Nat, lo < hi' ∧ hi' < S.length + 1 ∧ ((i = lo ∧ j = hi') ∨ (i = hi' ∧ j = lo)) := by
        by_cases z : i < j
        · exact ⟨i, j, z, hj, .inl ⟨rfl, rfl⟩⟩
        · exact ⟨j, i, by omega, hi, .inr ⟨rfl, rfl⟩⟩
      obtain ⟨x, y, e, bx, ay, ez⟩ := two_rows c1 c2 gc gs lo hi' hlt hhi i j hio g2
      have hf : fst (((w0 :: S).set hi' x).set lo y) = some (clD e) := fst_at gc c1 c2 gs lo (by omega) (by omega) (by
        rw [List.take_set_of_le (by omega), List.take_set_of_le (by omega)]) (by rw [List.getElem?_set_self (by simp; omega)]) ay.z (fun j z => ay.s j z (by omega))
      refine ⟨[some (.arg ns), some (.ref 0), some (.int n), some (.int i), some (.int g1), some (.int g2), some (.int (g3 % 5)), some (.int (e : Nat)), some (.int j), none, none, none], .ref 0, e, [some (.lst ((((w0 :: S).set hi' x).set lo y).map rD))], ?_, rfl, rfl, refusal (q := some 0) (rows := ((w0 :: S).set hi' x).set lo y) (by simp) (by simp [okG]) (okb _) (bd_set (bd_set hbd bx hi') ay.b lo) (by simp) (by simp; omega) ay.l hf⟩
      generalize (((w0 :: S).set hi' x).set lo y).map rD = R' at *
      generalize (w0 :: S).map rD = R at *
      have Lr : ((R.length : Nat) : Int) = (S.length : Int) + 1 := by omega
      have q1 : (1 : Int) < (S.length : Int) + 1 := by omega
      have q2 : (0 : Int) < (S.length : Int) := by omega
      simp [l5B, q01, Lr, q1, hS, p0, em, ej, ez]
    have nq : ¬ (g3 % 5 < 2 ∧ (1 : Int) < (S.length : Int) + 1) := fun z => q01 ⟨z.1, fun y => by rw [y] at z; simp at z⟩
    by_cases q2 : g3 % 5 = 2
    · obtain ⟨T, la, gT, lT, hla, et⟩ := thirteen (w0 := w0) c1 gs hl2 g1
      have hbT : ∀ w ∈ w0 :: (T ++ [la]), Bd w := fun w hw => by
        rcases List.mem_cons.mp hw with rfl | hw
        · exact gc.bd
        · rcases List.mem_append.mp hw with hw | hw
          · exact (gT w hw).bd
          · have : w = la := by simpa using hw
            subst this; exact hla.1
      by_cases q3 : g2 % 2 = 1
      · obtain ⟨m, em⟩ : ∃ m : Nat, g2 / 2 % 13 = m := ⟨(g2 / 2 % 13).toNat, by omega⟩
        have hm : m < T.length + 1 := by omega
        obtain ⟨wt, kt, ut, ert, rkt, kbt, kut⟩ := row_at gc gT m hm
        obtain ⟨x, d, sp, ew⟩ := wrong_ok rkt n c1 c2 kut (g2 / 26 % 4) (g2 / 104) [some (.lst ((w0 :: S).map rD)), some (.lst ((w0 :: (T ++ [la])).map rD))]
        obtain ⟨e, he, rfl⟩ := sp.d4
        have a := sp.at kbt he
        have ert2 : (w0 :: (T ++ [la]))[m]? = some wt := by
          rw [← List.cons_append, List.getElem?_append_left (by simp; omega)]; exact ert
        obtain ⟨ea2, ex2⟩ := getRow (S := T ++ [la]) (by simp; omega) ert2 rfl
        have hf : fst ((w0 :: (T ++ [la])).set m x) = some (clD e) := fst_at gc c1 c2 gT m (by omega) (by omega) (by
          rw [List.take_set_of_le (by omega), ← List.cons_append, List.take_append_of_le_length (by simp; omega)]) (by rw [List.getElem?_set_self (by simp; omega)]) a.z (fun j z => a.s j z (by omega))
        have es2 : ((w0 :: (T ++ [la])).map rD).set m (rD x) = ((w0 :: (T ++ [la])).set m x).map rD := List.map_set.symm
        refine ⟨[some (.arg ns), some (.ref 1), some (.int n), some (.int m), some (.int g1), some (.int g2), some (.int (g3 % 5)), some (.int (e : Nat)), none, some (rD x), none, none], .ref 1, e, [some (.lst ((w0 :: S).map rD)), some (.lst (((w0 :: (T ++ [la])).set m x).map rD))], ?_, rfl, rfl, refusal (q := some 1) (rows := (w0 :: (T ++ [la])).set m x) (by simp) (by simp [okG]) (okb2 _ _) (bd_set hbT a.b m) (by simp) (by simp; omega) a.l hf⟩
        rw [← es2]
        generalize (w0 :: (T ++ [la])).map rD = R2 at *
        generalize (w0 :: S).map rD = R at *
        have Lr : ((R.length : Nat) : Int) = (S.length : Int) + 1 := by omega
        simp [l5B, q2, et, q3, em, ea2, ex2, ew]
      · have q3' : ¬ g2 % 2 = 1 := q3
        have hf : fst (w0 :: (T ++ [la])) = some (clD 0) := fst_s gc c1 c2 gT (by omega) (hla.2 n _ (by omega))
        refine ⟨[some (.arg ns), some (.ref 1), some (.int n), some (.int i), some (.int g1), some (.int g2), some (.int (g3 % 5)), some (.int ((0 : Nat) : Int)), none, none, none, none], .ref 1, 0, [some (.lst ((w0 :: S).map rD)), some (.lst ((w0 :: (T ++ [la])).map rD))], ?_, rfl, rfl, refusal (q := some 1) (rows := w0 :: (T ++ [la])) (by simp) (by simp [okG]) (okb2 _ _) hbT (List.cons_ne_nil _ _) (by simp; omega) (by decide) hf⟩
        generalize (w0 :: (T ++ [la])).map rD = R2 at *
        generalize (w0 :: S).map rD = R at *
        simp [l5B, q2, et, q3']
    by_cases q3 : g3 % 5 = 3 ∧ us.length = 2
    · obtain ⟨q3, ul⟩ := q3
      obtain ⟨u, v, rfl⟩ : ∃ u v, us = [u, v] := by
        rcases rk.len with ⟨u, rfl, _⟩ | ⟨u, v, rfl, _⟩
        · simp at ul
        · exact ⟨u, v, rfl⟩
      have m0 := Int.emod_nonneg g1 (show (1000000000 - n : Int) ≠ 0 by omega)
      have m1 := Int.emod_lt_of_pos g1 (show (0 : Int) < 1000000000 - n by omega)
      have p9 : n < 1000000000 := by omega
      have kbar : k ≠ bars := fun z => by
        have := rk.c
        rw [z] at this
        have h : cntK bars = some 1 := by decide +kernel
        rw [h] at this; simp at this
      have lo := log_ok (n := n + g1 % (1000000000 - n)) (by omega) (by omega)
      have wb := w_big (n := n + g1 % (1000000000 - n)) (by omega) (by omega)
      have rb : Rk [k, numS (n + g1 % (1000000000 - n)), numS (n + g1 % (1000000000 - n))] k [numS (n + g1 % (1000000000 - n)), numS (n + g1 % (1000000000 - n))] := ⟨rfl, rk.c, fc wb.1 (fc wb.1 fn)⟩
      have sp : Sp [k, numS (n + g1 % (1000000000 - n)), numS (n + g1 % (1000000000 - n))] k n ((2 : Nat) : Int) := ⟨rb.bd, .inr ⟨_, rb, .inr (.inl ⟨rfl, kbar, by simp [wb.2, maxI]; omega⟩)⟩⟩
      refine ⟨[some (.arg ns), some (.ref 0), some (.int n), some (.int i), some (.int g1), some (.int g2), some (.int (g3 % 5)), some (.int ((2 : Nat) : Int)), none, none, some (.str (numS (n + g1 % (1000000000 - n)))), none], .ref 0, 2, [some (.lst (((w0 :: S).set i [k, numS (n + g1 % (1000000000 - n)), numS (n + g1 % (1000000000 - n))]).map rD))], ?_, rfl, rfl, one _ 2 (sp.at kb (by decide))⟩
      rw [← es]
      have rke := rk.e
      subst rke
      generalize (w0 :: S).map rD = R at *
      have Lr : ((R.length : Nat) : Int) = (S.length : Int) + 1 := by omega
      simp only [rD, List.map_cons, List.map_nil] at ea ⊢
      simp [l5B, q3, ea, ex, okPow, p9, lo]
    · have rke := rk.e
      have l3 : ((us.length : Int) + 1 = 3) ↔ us.length = 2 := by omega
      have q3' : ¬ (g3 % 5 = 3 ∧ (us.length : Int) + 1 = 3) := fun z => q3 ⟨z.1, l3.mp z.2⟩
      obtain ⟨x, d, sp, ew⟩ := wrong_ok rk n c1 c2 ku (1 + g1 % 3) (g1 / 3) [some (.lst ((w0 :: S).map rD))]
      obtain ⟨e, he, rfl⟩ := sp.d4
      have t1 : (g3 % 5 < 2 → ¬ (1 : Int) < (S.length : Int) + 1) := fun z y => nq ⟨z, y⟩
      have lu : ((us.map D.str).length : Int) + 1 = 3 ↔ us.length = 2 := by rw [List.length_map]; exact l3
      have cond : ∀ (b1 b2 : MS) (h : MH), True := fun _ _ _ => trivial
      by_cases q4 : e = 0
      · subst q4
        refine ⟨[some (.arg ns), some (.ref 0), some (.int n), some (.int i), some (.int g1), some (.int g2), some (.int (1 + g1 % 3)), some (.int ((0 : Nat) : Int)), none, none, none, some (.lst [rD x, .int ((0 : Nat) : Int)])], .ref 0, 0, [some (.lst (((w0 :: S).set i x).map rD))], ?_, rfl, rfl, one x 0 (sp.at kb (by decide))⟩
        rw [← es]
        subst rke
        generalize (w0 :: S).map rD = R at *
        have Lr : ((R.length : Nat) : Int) = (S.length : Int) + 1 := by omega
        generalize rD x = X at *
        simp only [rD, List.map_cons] at ea ew
        generalize us.map D.str = U at *
        by_cases a1 : g3 % 5 < 2
        · have a2 := t1 a1
          have a3 : ¬ g3 % 5 = 3 := by omega
          simp [l5B, a1, a2, a3, q2, Lr, ea, ex, ew]
        · by_cases a3 : g3 % 5 = 3
          · have a4 : ¬ us.length = 2 := fun z => q3 ⟨a3, z⟩
            simp [l5B, a1, a3, a4, lu, q2, Lr, ea, ex, ew]
          · simp [l5B, a1, a3, q2, Lr, ea, ex, ew]
      · have rx : ∃ us', Rk x k us' := by
          rcases sp.f with ⟨z, _⟩ | ⟨us', r', _⟩
          · omega
          · exact ⟨us', r'⟩
        obtain ⟨us', r'⟩ := rx
        obtain ⟨y, n1, n2, n3⟩ := no_form r' g2 [some (.lst (((w0 :: S).set i x).map rD))]
        have ay : At n i y 0 := ⟨n2, by decide, fun z => n1.cnt (kb.mpr z), fun j z _ => n1.sw (fun w => by have := kb.mp w; omega) n j⟩
        have ey : (((w0 :: S).map rD).set i (rD x)).set i (rD y) = ((w0 :: S).map rD).set i (rD y) := List.set_set ..
        have eix : ixN (((w0 :: S).map rD).set i (rD x)).length (i : Int) = some i := by rw [List.length_set]; exact ex
        have e0 : (0 : Int) < (e : Int) := by omega
        refine ⟨[some (.arg ns), some (.ref 0), some (.int n), some (.int i), some (.int g1), some (.int g2), some (.int (1 + g1 % 3)), some (.int ((0 : Nat) : Int)), none, none, none, some (.lst [rD x, .int (e : Int)])], .ref 0, 0, [some (.lst (((w0 :: S).set i y).map rD))], ?_, rfl, rfl, one y 0 ay⟩
        rw [← es]
        rw [← es] at n3
        subst rke
        generalize (w0 :: S).map rD = R at *
        have Lr : ((R.length : Nat) : Int) = (S.length : Int) + 1 := by omega
        generalize rD x = X at *
        generalize rD y = Y at *
        simp only [rD, List.map_cons] at ea ew
        generalize us.map D.str = U at *
        by_cases a1 : g3 % 5 < 2
        · have a2 := t1 a1
          have a3 : ¬ g3 % 5 = 3 := by omega
          simp [l5B, a1, a2, a3, q2, Lr, ea, ex, ew, e0, q4, n3, ey]
        · by_cases a3 : g3 % 5 = 3
          · have a4 : ¬ us.length = 2 := fun z => q3 ⟨a3, z⟩
            simp [l5B, a1, a3, a4, lu, q2, Lr, ea, ex, ew, e0, q4, n3, ey]
          · simp [l5B, a1, a3, q2, Lr, ea, ex, ew, e0, q4, n3, ey]
  obtain ⟨ρ, d, e, h', f1, r1, r7, f2⟩ := fin
  have f3 := fn_ok r1 r7 f2
  generalize (w0 :: S).map rD = R at *
  have Lr : ((R.length : Nat) : Int) = (S.length : Int) + 1 := by omega
  have eb : b_law = (Z.sSeq (Z.sIf (Z.tOr (Z.tNot (Z.tTru (Z.mCall z__law_one_bar (Z.mCons (Z.mC (.str "breaker")) Z.mNil)))) (Z.tNot (Z.tTru (Z.mCall z__law_one_bar (Z.mCons (Z.mC (.str "splitter")) Z.mNil)))))
      (Z.sRet (Z.mC (.bl false)))
      Z.sNext)
      (Z.sSeq (Z.sAsg (Z.mCall z__law_rows (Z.mCons (Z.mVar 0) (Z.mCons (Z.mC (.int 4)) Z.mNil))) (Z.gName 1))
      (Z.sSeq (Z.sAsg (Z.mBin Z.dAdd (Z.mC (.int 1)) (Z.mBin Z.dMod (Z.mCall z__law_cell_at (Z.mCons (Z.mVar 0) (Z.mCons (Z.mC (.int 4)) Z.mNil))) (Z.mC (.int 10)))) (Z.gName 2))
      (Z.sSeq (Z.sAsg (Z.mBin Z.dMod (Z.mCall z__law_cell_at (Z.mCons (Z.mVar 0) (Z.mCons (Z.mC (.int 0)) Z.mNil))) (Z.mFn Z.fLen (Z.mCons (Z.mVar 1) Z.mNil))) (Z.gName 3))
      (Z.sSeq (Z.sAsg (Z.mCall z__law_cell_at (Z.mCons (Z.mVar 0) (Z.mCons (Z.mC (.int 1)) Z.mNil))) (Z.gName 4))
      (Z.sSeq (Z.sAsg (Z.mCall z__law_cell_at (Z.mCons (Z.mVar 0) (Z.mCons (Z.mC (.int 2)) Z.mNil))) (Z.gName 5))
      (Z.sSeq (Z.sAsg (Z.mBin Z.dMod (Z.mCall z__law_cell_at (Z.mCons (Z.mVar 0) (Z.mCons (Z.mC (.int 3)) Z.mNil))) (Z.mC (.int 5))) (Z.gName 6))
      (Z.sSeq (Z.sAsg (Z.mC (.int 0)) (Z.gName 7))
      (Z.sSeq l5B
      (Z.sRet fnE)))))))))) := rfl
  have ob1 := one_bar (k := Str.ofString "breaker") (by decide +kernel) (by decide +kernel)
  have ob2 := one_bar (k := Str.ofString "splitter") (by decide +kernel) (by decide +kernel)
  simp at e1 k4 k3 k0 k1 k2 ec
  simp [-List.map_map, z_law, eb, ob1, ob2, e1, k4, k3, k0, k1, k2, ec, Lr, p0, ei, f1, f3]
  by_cases z : h' = []
  · exact ⟨[], by simp [z]⟩
  · exact ⟨[], by simp [z, D.bnd]⟩
end My


namespace My
open PySem L2
noncomputable def top (i : Nat) : Stmt := PySem.Challenge.pw_earthward_k05_two_faults.main.body.getD i (.Pass ⟨0, 0, 0, 0⟩)
noncomputable abbrev s_is_number : Stmt := top 23
noncomputable abbrev s_numbers_told : Stmt := top 24
noncomputable abbrev s_parted : Stmt := top 25
noncomputable abbrev s_count_in : Stmt := top 26
noncomputable abbrev s_switch_in : Stmt := top 27
noncomputable abbrev s_read : Stmt := top 28
noncomputable abbrev s__law_cell_at : Stmt := top 30
noncomputable abbrev s__law_switch : Stmt := top 31
noncomputable abbrev s__law_rows : Stmt := top 32
noncomputable abbrev s__law_bad_number : Stmt := top 33
noncomputable abbrev s__law_no_form : Stmt := top 34
noncomputable abbrev s__law_wrong : Stmt := top 35
noncomputable abbrev s__law_thirteen : Stmt := top 36
noncomputable abbrev s__law_two_rows : Stmt := top 37
noncomputable abbrev s__law_refusal : Stmt := top 38
noncomputable abbrev s__law_one_bar : Stmt := top 39
noncomputable abbrev s_law : Stmt := top 40
theorem sc_is_number : FnScope ["word"] ["word"] (defScope s_is_number) := ⟨rfl, rfl, rfl, by decide +kernel, rfl, by decide +kernel, by decide +kernel⟩
theorem sc_numbers_told : FnScope ["words"] ["words"] (defScope s_numbers_told) := ⟨rfl, rfl, rfl, by decide +kernel, rfl, by decide +kernel, by decide +kernel⟩
theorem sc_parted : FnScope ["row", "words", "kind"] ["row"] (defScope s_parted) := ⟨rfl, rfl, rfl, by decide +kernel, rfl, by decide +kernel, by decide +kernel⟩
theorem sc_count_in : FnScope ["row", "told"] ["row"] (defScope s_count_in) := ⟨rfl, rfl, rfl, by decide +kernel, rfl, by decide +kernel, by decide +kernel⟩
theorem sc_switch_in : FnScope ["row", "bars", "switches_ahead", "switch"] ["row", "bars", "switches_ahead"] (defScope s_switch_in) := ⟨rfl, rfl, rfl, by decide +kernel, rfl, by decide +kernel, by decide +kernel⟩
theorem sc_read : FnScope ["text", "rows", "bars", "switches", "row"] ["text"] (defScope s_read) := ⟨rfl, rfl, rfl, by decide +kernel, rfl, by decide +kernel, by decide +kernel⟩
theorem sc__law_cell_at : FnScope ["script", "k"] ["script", "k"] (defScope s__law_cell_at) := ⟨rfl, rfl, rfl, by decide +kernel, rfl, by decide +kernel, by decide +kernel⟩
theorem sc__law_switch : FnScope ["number", "count", "bar", "other"] ["number", "count"] (defScope s__law_switch) := ⟨rfl, rfl, rfl, by decide +kernel, rfl, by decide +kernel, by decide +kernel⟩
theorem sc__law_rows : FnScope ["script", "at", "count", "rows", "j", "switch"] ["script", "at"] (defScope s__law_rows) := ⟨rfl, rfl, rfl, by decide +kernel, rfl, by decide +kernel, by decide +kernel⟩
theorem sc__law_bad_number : FnScope ["figures", "cell", "signs", "far", "at"] ["figures", "cell"] (defScope s__law_bad_number) := ⟨rfl, rfl, rfl, by decide +kernel, rfl, by decide +kernel, by decide +kernel⟩
theorem sc__law_no_form : FnScope ["words", "cell", "far", "others", "at"] ["words", "cell"] (defScope s__law_no_form) := ⟨rfl, rfl, rfl, by decide +kernel, rfl, by decide +kernel, by decide +kernel⟩
theorem sc__law_wrong : FnScope ["words", "count", "due", "cell", "at", "bar"] ["words", "count", "due", "cell"] (defScope s__law_wrong) := ⟨rfl, rfl, rfl, by decide +kernel, rfl, by decide +kernel, by decide +kernel⟩
theorem sc__law_thirteen : FnScope ["rows", "cell", "last", "more"] ["rows", "cell"] (defScope s__law_thirteen) := ⟨rfl, rfl, rfl, by decide +kernel, rfl, by decide +kernel, by decide +kernel⟩
theorem sc__law_two_rows : FnScope ["rows", "count", "first", "second", "kind", "low", "high", "words", "due"] ["rows", "count", "first", "second", "kind"] (defScope s__law_two_rows) := ⟨rfl, rfl, rfl, by decide +kernel, rfl, by decide +kernel, by decide +kernel⟩
theorem sc__law_refusal : FnScope ["rows", "mine", "others", "e"] ["rows"] (defScope s__law_refusal) := ⟨rfl, rfl, rfl, by decide +kernel, rfl, by decide +kernel, by decide +kernel⟩
theorem sc__law_one_bar : FnScope ["kind"] ["kind"] (defScope s__law_one_bar) := ⟨rfl, rfl, rfl, by decide +kernel, rfl, by decide +kernel, by decide +kernel⟩
theorem sc_law : FnScope ["script", "rows", "count", "at", "one", "other", "kind", "due", "second", "words", "bar", "spoilt"] ["script"] (defScope s_law) := ⟨rfl, rfl, rfl, by decide +kernel, rfl, by decide +kernel, by decide +kernel⟩
set_option genInjectivity false in
structure Adr where
  f_is_number : Addr
  fd_is_number : FuncData
  f_numbers_told : Addr
  fd_numbers_told : FuncData
  f_parted : Addr
  fd_parted : FuncData
  f_count_in : Addr
  fd_count_in : FuncData
  f_switch_in : Addr
  fd_switch_in : FuncData
  f_read : Addr
  fd_read : FuncData
  f__law_cell_at : Addr
  fd__law_cell_at : FuncData
  f__law_switch : Addr
  fd__law_switch : FuncData
  f__law_rows : Addr
  fd__law_rows : FuncData
  f__law_bad_number : Addr
  fd__law_bad_number : FuncData
  f__law_no_form : Addr
  fd__law_no_form : FuncData
  f__law_wrong : Addr
  fd__law_wrong : FuncData
  f__law_thirteen : Addr
  fd__law_thirteen : FuncData
  f__law_two_rows : Addr
  fd__law_two_rows : FuncData
  f__law_refusal : Addr
  fd__law_refusal : FuncData
  f__law_one_bar : Addr
  fd__law_one_bar : FuncData
  f_law : Addr
  fd_law : FuncData
  c_Held : Addr
  c_Loaded : Addr
  c_Locked : Addr
  c_NoBar : Addr
  c_NoLock : Addr
  c_NoMeasure : Addr
  c_NoPermit : Addr
  c_NoRow : Addr
  c_NoSwitch : Addr
  c_NotDead : Addr
  c_NotEarthed : Addr
  c_NotLocked : Addr
  c_NotOpen : Addr
  c_Same : Addr
  c_Shorted : Addr
  c_WardError : Addr
  a_NUMBERS_BEHIND : Addr
structure Txt (P : Program) (w : World) (K : PySem.W.Frag) (mg : Str → Option Value) (t : Adr) : Prop where
  F_is_number : Fun K "is_number" "is_number" s_is_number t.f_is_number t.fd_is_number
  m_is_number : mg "is_number" = some (.ref t.f_is_number)
  B_is_number : Binds K t.fd_is_number ["word"] []
  F_numbers_told : Fun K "numbers_told" "numbers_told" s_numbers_told t.f_numbers_told t.fd_numbers_told
  m_numbers_told : mg "numbers_told" = some (.ref t.f_numbers_told)
  B_numbers_told : Binds K t.fd_numbers_told ["words"] []
  F_parted : Fun K "parted" "parted" s_parted t.f_parted t.fd_parted
  m_parted : mg "parted" = some (.ref t.f_parted)
  B_parted : Binds K t.fd_parted ["row"] []
  F_count_in : Fun K "count_in" "count_in" s_count_in t.f_count_in t.fd_count_in
  m_count_in : mg "count_in" = some (.ref t.f_count_in)
  B_count_in : Binds K t.fd_count_in ["row"] []
  F_switch_in : Fun K "switch_in" "switch_in" s_switch_in t.f_switch_in t.fd_switch_in
  m_switch_in : mg "switch_in" = some (.ref t.f_switch_in)
  B_switch_in : Binds K t.fd_switch_in ["row", "bars", "switches_ahead"] []
  F_read : Fun K "read" "read" s_read t.f_read t.fd_read
  m_read : mg "read" = some (.ref t.f_read)
  B_read : Binds K t.fd_read ["text"] []
  F__law_cell_at : Fun K "_law_cell_at" "_law_cell_at" s__law_cell_at t.f__law_cell_at t.fd__law_cell_at
  m__law_cell_at : mg "_law_cell_at" = some (.ref t.f__law_cell_at)
  B__law_cell_at : Binds K t.fd__law_cell_at ["script", "k"] []
  F__law_switch : Fun K "_law_switch" "_law_switch" s__law_switch t.f__law_switch t.fd__law_switch
  m__law_switch : mg "_law_switch" = some (.ref t.f__law_switch)
  B__law_switch : Binds K t.fd__law_switch ["number", "count"] []
  F__law_rows : Fun K "_law_rows" "_law_rows" s__law_rows t.f__law_rows t.fd__law_rows
  m__law_rows : mg "_law_rows" = some (.ref t.f__law_rows)
  B__law_rows : Binds K t.fd__law_rows ["script", "at"] []
  F__law_bad_number : Fun K "_law_bad_number" "_law_bad_number" s__law_bad_number t.f__law_bad_number t.fd__law_bad_number
  m__law_bad_number : mg "_law_bad_number" = some (.ref t.f__law_bad_number)
  B__law_bad_number : Binds K t.fd__law_bad_number ["figures", "cell"] []
  F__law_no_form : Fun K "_law_no_form" "_law_no_form" s__law_no_form t.f__law_no_form t.fd__law_no_form
  m__law_no_form : mg "_law_no_form" = some (.ref t.f__law_no_form)
  B__law_no_form : Binds K t.fd__law_no_form ["words", "cell"] []
  F__law_wrong : Fun K "_law_wrong" "_law_wrong" s__law_wrong t.f__law_wrong t.fd__law_wrong
  m__law_wrong : mg "_law_wrong" = some (.ref t.f__law_wrong)
  B__law_wrong : Binds K t.fd__law_wrong ["words", "count", "due", "cell"] []
  F__law_thirteen : Fun K "_law_thirteen" "_law_thirteen" s__law_thirteen t.f__law_thirteen t.fd__law_thirteen
  m__law_thirteen : mg "_law_thirteen" = some (.ref t.f__law_thirteen)
  B__law_thirteen : Binds K t.fd__law_thirteen ["rows", "cell"] []
  F__law_two_rows : Fun K "_law_two_rows" "_law_two_rows" s__law_two_rows t.f__law_two_rows t.fd__law_two_rows
  m__law_two_rows : mg "_law_two_rows" = some (.ref t.f__law_two_rows)
  B__law_two_rows : Binds K t.fd__law_two_rows ["rows", "count", "first", "second", "kind"] []
  F__law_refusal : Fun K "_law_refusal" "_law_refusal" s__law_refusal t.f__law_refusal t.fd__law_refusal
  m__law_refusal : mg "_law_refusal" = some (.ref t.f__law_refusal)
  B__law_refusal : Binds K t.fd__law_refusal ["rows"] []
  F__law_one_bar : Fun K "_law_one_bar" "_law_one_bar" s__law_one_bar t.f__law_one_bar t.fd__law_one_bar
  m__law_one_bar : mg "_law_one_bar" = some (.ref t.f__law_one_bar)
  B__law_one_bar : Binds K t.fd__law_one_bar ["kind"] []
  F_law : Fun K "law" "law" s_law t.f_law t.fd_law
  m_law : mg "law" = some (.ref t.f_law)
  B_law : Binds K t.fd_law ["script"] []
  Bl : ∀ (s : Shared) (u : Value), BindsTo s t.fd_law ⟨[u], []⟩ [("script", u)]
  x_Held : Exc K mg "Held" t.c_Held
  x_Loaded : Exc K mg "Loaded" t.c_Loaded
  x_Locked : Exc K mg "Locked" t.c_Locked
  x_NoBar : Exc K mg "NoBar" t.c_NoBar
  x_NoLock : Exc K mg "NoLock" t.c_NoLock
  x_NoMeasure : Exc K mg "NoMeasure" t.c_NoMeasure
  x_NoPermit : Exc K mg "NoPermit" t.c_NoPermit
  x_NoRow : Exc K mg "NoRow" t.c_NoRow
  x_NoSwitch : Exc K mg "NoSwitch" t.c_NoSwitch
  x_NotDead : Exc K mg "NotDead" t.c_NotDead
  x_NotEarthed : Exc K mg "NotEarthed" t.c_NotEarthed
  x_NotLocked : Exc K mg "NotLocked" t.c_NotLocked
  x_NotOpen : Exc K mg "NotOpen" t.c_NotOpen
  x_Same : Exc K mg "Same" t.c_Same
  x_Shorted : Exc K mg "Shorted" t.c_Shorted
  x_WardError : Exc K mg "WardError" t.c_WardError
  b_len : mg "len" = none
  b_sum : mg "sum" = none
  b_all : mg "all" = none
  b_isinstance : mg "isinstance" = none
  b_max : mg "max" = none
  b_min : mg "min" = none
  b_int : mg "int" = none
  b_str : mg "str" = none
  b_tuple : mg "tuple" = none
  b_range : mg "range" = none
  b_ValueError : mg "ValueError" = none
  c_NUMBERS_BEHIND : GV mg "NUMBERS_BEHIND" (.ref t.a_NUMBERS_BEHIND)
  c_MOST_BARS : GV mg "MOST_BARS" (.int 10)
  c_MOST_SWITCHES : GV mg "MOST_SWITCHES" (.int 12)
  c_MOST_FIGURES : GV mg "MOST_FIGURES" (.int 9)
  c_FIGURES : GV mg "FIGURES" (.str "0123456789")
  k_Held : GV mg "Held" (.ref t.c_Held)
  k_Loaded : GV mg "Loaded" (.ref t.c_Loaded)
  k_Locked : GV mg "Locked" (.ref t.c_Locked)
  k_NoBar : GV mg "NoBar" (.ref t.c_NoBar)
  k_NoLock : GV mg "NoLock" (.ref t.c_NoLock)
  k_NoMeasure : GV mg "NoMeasure" (.ref t.c_NoMeasure)
  k_NoPermit : GV mg "NoPermit" (.ref t.c_NoPermit)
  k_NoRow : GV mg "NoRow" (.ref t.c_NoRow)
  k_NoSwitch : GV mg "NoSwitch" (.ref t.c_NoSwitch)
  k_NotDead : GV mg "NotDead" (.ref t.c_NotDead)
  k_NotEarthed : GV mg "NotEarthed" (.ref t.c_NotEarthed)
  k_NotLocked : GV mg "NotLocked" (.ref t.c_NotLocked)
  k_NotOpen : GV mg "NotOpen" (.ref t.c_NotOpen)
  k_Same : GV mg "Same" (.ref t.c_Same)
  k_Shorted : GV mg "Shorted" (.ref t.c_Shorted)
  w_WardError : Clause K t.c_WardError
  su_NoBar_WardError : PySem.W.mroIn K t.c_NoBar (.ref t.c_WardError) = some true
  su_NoMeasure_WardError : PySem.W.mroIn K t.c_NoMeasure (.ref t.c_WardError) = some true
  su_NoRow_WardError : PySem.W.mroIn K t.c_NoRow (.ref t.c_WardError) = some true
  su_Same_WardError : PySem.W.mroIn K t.c_Same (.ref t.c_WardError) = some true
  ic_NoBar : IsiC K t.c_NoBar
  io_NoBar_NoRow : PySem.W.kitOne K (.ref t.c_NoBar) (.ref t.c_NoRow) = some false
  io_NoBar_NoMeasure : PySem.W.kitOne K (.ref t.c_NoBar) (.ref t.c_NoMeasure) = some false
  io_NoBar_NoBar : PySem.W.kitOne K (.ref t.c_NoBar) (.ref t.c_NoBar) = some true
  io_NoBar_Same : PySem.W.kitOne K (.ref t.c_NoBar) (.ref t.c_Same) = some false
  io_NoBar_NoSwitch : PySem.W.kitOne K (.ref t.c_NoBar) (.ref t.c_NoSwitch) = some false
  io_NoBar_Loaded : PySem.W.kitOne K (.ref t.c_NoBar) (.ref t.c_Loaded) = some false
  io_NoBar_Shorted : PySem.W.kitOne K (.ref t.c_NoBar) (.ref t.c_Shorted) = some false
  io_NoBar_Locked : PySem.W.kitOne K (.ref t.c_NoBar) (.ref t.c_Locked) = some false
  io_NoBar_Held : PySem.W.kitOne K (.ref t.c_NoBar) (.ref t.c_Held) = some false
  io_NoBar_NoLock : PySem.W.kitOne K (.ref t.c_NoBar) (.ref t.c_NoLock) = some false
  io_NoBar_NotOpen : PySem.W.kitOne K (.ref t.c_NoBar) (.ref t.c_NotOpen) = some false
  io_NoBar_NotLocked : PySem.W.kitOne K (.ref t.c_NoBar) (.ref t.c_NotLocked) = some false
  io_NoBar_NotEarthed : PySem.W.kitOne K (.ref t.c_NoBar) (.ref t.c_NotEarthed) = some false
  io_NoBar_NotDead : PySem.W.kitOne K (.ref t.c_NoBar) (.ref t.c_NotDead) = some false
  io_NoBar_NoPermit : PySem.W.kitOne K (.ref t.c_NoBar) (.ref t.c_NoPermit) = some false
  io_NoBar_ValueError : PySem.W.kitOne K (.ref t.c_NoBar) (.type "ValueError") = some true
  ic_NoMeasure : IsiC K t.c_NoMeasure
  io_NoMeasure_NoRow : PySem.W.kitOne K (.ref t.c_NoMeasure) (.ref t.c_NoRow) = some false
  io_NoMeasure_NoMeasure : PySem.W.kitOne K (.ref t.c_NoMeasure) (.ref t.c_NoMeasure) = some true
  io_NoMeasure_NoBar : PySem.W.kitOne K (.ref t.c_NoMeasure) (.ref t.c_NoBar) = some false
  io_NoMeasure_Same : PySem.W.kitOne K (.ref t.c_NoMeasure) (.ref t.c_Same) = some false
  io_NoMeasure_NoSwitch : PySem.W.kitOne K (.ref t.c_NoMeasure) (.ref t.c_NoSwitch) = some false
  io_NoMeasure_Loaded : PySem.W.kitOne K (.ref t.c_NoMeasure) (.ref t.c_Loaded) = some false
  io_NoMeasure_Shorted : PySem.W.kitOne K (.ref t.c_NoMeasure) (.ref t.c_Shorted) = some false
  io_NoMeasure_Locked : PySem.W.kitOne K (.ref t.c_NoMeasure) (.ref t.c_Locked) = some false
  io_NoMeasure_Held : PySem.W.kitOne K (.ref t.c_NoMeasure) (.ref t.c_Held) = some false
  io_NoMeasure_NoLock : PySem.W.kitOne K (.ref t.c_NoMeasure) (.ref t.c_NoLock) = some false
  io_NoMeasure_NotOpen : PySem.W.kitOne K (.ref t.c_NoMeasure) (.ref t.c_NotOpen) = some false
  io_NoMeasure_NotLocked : PySem.W.kitOne K (.ref t.c_NoMeasure) (.ref t.c_NotLocked) = some false
  io_NoMeasure_NotEarthed : PySem.W.kitOne K (.ref t.c_NoMeasure) (.ref t.c_NotEarthed) = some false
  io_NoMeasure_NotDead : PySem.W.kitOne K (.ref t.c_NoMeasure) (.ref t.c_NotDead) = some false
  io_NoMeasure_NoPermit : PySem.W.kitOne K (.ref t.c_NoMeasure) (.ref t.c_NoPermit) = some false
  io_NoMeasure_ValueError : PySem.W.kitOne K (.ref t.c_NoMeasure) (.type "ValueError") = some true
  ic_NoRow : IsiC K t.c_NoRow
  io_NoRow_NoRow : PySem.W.kitOne K (.ref t.c_NoRow) (.ref t.c_NoRow) = some true
  io_NoRow_NoMeasure : PySem.W.kitOne K (.ref t.c_NoRow) (.ref t.c_NoMeasure) = some false
  io_NoRow_NoBar : PySem.W.kitOne K (.ref t.c_NoRow) (.ref t.c_NoBar) = some false
  io_NoRow_Same : PySem.W.kitOne K (.ref t.c_NoRow) (.ref t.c_Same) = some false
  io_NoRow_NoSwitch : PySem.W.kitOne K (.ref t.c_NoRow) (.ref t.c_NoSwitch) = some false
  io_NoRow_Loaded : PySem.W.kitOne K (.ref t.c_NoRow) (.ref t.c_Loaded) = some false
  io_NoRow_Shorted : PySem.W.kitOne K (.ref t.c_NoRow) (.ref t.c_Shorted) = some false
  io_NoRow_Locked : PySem.W.kitOne K (.ref t.c_NoRow) (.ref t.c_Locked) = some false
  io_NoRow_Held : PySem.W.kitOne K (.ref t.c_NoRow) (.ref t.c_Held) = some false
  io_NoRow_NoLock : PySem.W.kitOne K (.ref t.c_NoRow) (.ref t.c_NoLock) = some false
  io_NoRow_NotOpen : PySem.W.kitOne K (.ref t.c_NoRow) (.ref t.c_NotOpen) = some false
  io_NoRow_NotLocked : PySem.W.kitOne K (.ref t.c_NoRow) (.ref t.c_NotLocked) = some false
  io_NoRow_NotEarthed : PySem.W.kitOne K (.ref t.c_NoRow) (.ref t.c_NotEarthed) = some false
  io_NoRow_NotDead : PySem.W.kitOne K (.ref t.c_NoRow) (.ref t.c_NotDead) = some false
  io_NoRow_NoPermit : PySem.W.kitOne K (.ref t.c_NoRow) (.ref t.c_NoPermit) = some false
  io_NoRow_ValueError : PySem.W.kitOne K (.ref t.c_NoRow) (.type "ValueError") = some true
  ic_Same : IsiC K t.c_Same
  io_Same_NoRow : PySem.W.kitOne K (.ref t.c_Same) (.ref t.c_NoRow) = some false
  io_Same_NoMeasure : PySem.W.kitOne K (.ref t.c_Same) (.ref t.c_NoMeasure) = some false
  io_Same_NoBar : PySem.W.kitOne K (.ref t.c_Same) (.ref t.c_NoBar) = some false
  io_Same_Same : PySem.W.kitOne K (.ref t.c_Same) (.ref t.c_Same) = some true
  io_Same_NoSwitch : PySem.W.kitOne K (.ref t.c_Same) (.ref t.c_NoSwitch) = some false
  io_Same_Loaded : PySem.W.kitOne K (.ref t.c_Same) (.ref t.c_Loaded) = some false
  io_Same_Shorted : PySem.W.kitOne K (.ref t.c_Same) (.ref t.c_Shorted) = some false
  io_Same_Locked : PySem.W.kitOne K (.ref t.c_Same) (.ref t.c_Locked) = some false
  io_Same_Held : PySem.W.kitOne K (.ref t.c_Same) (.ref t.c_Held) = some false
  io_Same_NoLock : PySem.W.kitOne K (.ref t.c_Same) (.ref t.c_NoLock) = some false
  io_Same_NotOpen : PySem.W.kitOne K (.ref t.c_Same) (.ref t.c_NotOpen) = some false
  io_Same_NotLocked : PySem.W.kitOne K (.ref t.c_Same) (.ref t.c_NotLocked) = some false
  io_Same_NotEarthed : PySem.W.kitOne K (.ref t.c_Same) (.ref t.c_NotEarthed) = some false
  io_Same_NotDead : PySem.W.kitOne K (.ref t.c_Same) (.ref t.c_NotDead) = some false
  io_Same_NoPermit : PySem.W.kitOne K (.ref t.c_Same) (.ref t.c_NoPermit) = some false
  io_Same_ValueError : PySem.W.kitOne K (.ref t.c_Same) (.type "ValueError") = some true
  d_NUMBERS_BEHIND : KDict P w K t.a_NUMBERS_BEHIND [(.inr "bars", (.int 1)), (.inr "feed", (.int 1)), (.inr "earth", (.int 1)), (.inr "breaker", (.int 2)), (.inr "splitter", (.int 2))]
theorem txt_mk {P : Program} {w : World} {K : PySem.W.Frag} {h : Heap} {mg : Str → Option Value} (X : K.In h) (G : h.Ns mainGlobals mg)
    {c_Held : Addr}
    (ac_Held : PySem.W.nsIn K mainGlobals "Held" = some (some (.ref c_Held)))
    (xq_Held : PySem.W.excIn K c_Held [.type "ValueError", .type "Exception", .type "BaseException", .type "object"] "ValueError.__new__" = true)
    {c_Loaded : Addr}
    (ac_Loaded : PySem.W.nsIn K mainGlobals "Loaded" = some (some (.ref c_Loaded)))
    (xq_Loaded : PySem.W.excIn K c_Loaded [.type "ValueError", .type "Exception", .type "BaseException", .type "object"] "ValueError.__new__" = true)
    {c_Locked : Addr}
    (ac_Locked : PySem.W.nsIn K mainGlobals "Locked" = some (some (.ref c_Locked)))
    (xq_Locked : PySem.W.excIn K c_Locked [.type "ValueError", .type "Exception", .type "BaseException", .type "object"] "ValueError.__new__" = true)
    {c_NoBar : Addr}
    (ac_NoBar : PySem.W.nsIn K mainGlobals "NoBar" = some (some (.ref c_NoBar)))
    (xq_NoBar : PySem.W.excIn K c_NoBar [.type "ValueError", .type "Exception", .type "BaseException", .type "object"] "ValueError.__new__" = true)
    {c_NoLock : Addr}
    (ac_NoLock : PySem.W.nsIn K mainGlobals "NoLock" = some (some (.ref c_NoLock)))
    (xq_NoLock : PySem.W.excIn K c_NoLock [.type "ValueError", .type "Exception", .type "BaseException", .type "object"] "ValueError.__new__" = true)
    {c_NoMeasure : Addr}
    (ac_NoMeasure : PySem.W.nsIn K mainGlobals "NoMeasure" = some (some (.ref c_NoMeasure)))
    (xq_NoMeasure : PySem.W.excIn K c_NoMeasure [.type "ValueError", .type "Exception", .type "BaseException", .type "object"] "ValueError.__new__" = true)
    {c_NoPermit : Addr}
    (ac_NoPermit : PySem.W.nsIn K mainGlobals "NoPermit" = some (some (.ref c_NoPermit)))
    (xq_NoPermit : PySem.W.excIn K c_NoPermit [.type "ValueError", .type "Exception", .type "BaseException", .type "object"] "ValueError.__new__" = true)
    {c_NoRow : Addr}
    (ac_NoRow : PySem.W.nsIn K mainGlobals "NoRow" = some (some (.ref c_NoRow)))
    (xq_NoRow : PySem.W.excIn K c_NoRow [.type "ValueError", .type "Exception", .type "BaseException", .type "object"] "ValueError.__new__" = true)
    {c_NoSwitch : Addr}
    (ac_NoSwitch : PySem.W.nsIn K mainGlobals "NoSwitch" = some (some (.ref c_NoSwitch)))
    (xq_NoSwitch : PySem.W.excIn K c_NoSwitch [.type "ValueError", .type "Exception", .type "BaseException", .type "object"] "ValueError.__new__" = true)
    {c_NotDead : Addr}
    (ac_NotDead : PySem.W.nsIn K mainGlobals "NotDead" = some (some (.ref c_NotDead)))
    (xq_NotDead : PySem.W.excIn K c_NotDead [.type "ValueError", .type "Exception", .type "BaseException", .type "object"] "ValueError.__new__" = true)
    {c_NotEarthed : Addr}
    (ac_NotEarthed : PySem.W.nsIn K mainGlobals "NotEarthed" = some (some (.ref c_NotEarthed)))
    (xq_NotEarthed : PySem.W.excIn K c_NotEarthed [.type "ValueError", .type "Exception", .type "BaseException", .type "object"] "ValueError.__new__" = true)
    {c_NotLocked : Addr}
    (ac_NotLocked : PySem.W.nsIn K mainGlobals "NotLocked" = some (some (.ref c_NotLocked)))
    (xq_NotLocked : PySem.W.excIn K c_NotLocked [.type "ValueError", .type "Exception", .type "BaseException", .type "object"] "ValueError.__new__" = true)
    {c_NotOpen : Addr}
    (ac_NotOpen : PySem.W.nsIn K mainGlobals "NotOpen" = some (some (.ref c_NotOpen)))
    (xq_NotOpen : PySem.W.excIn K c_NotOpen [.type "ValueError", .type "Exception", .type "BaseException", .type "object"] "ValueError.__new__" = true)
    {c_Same : Addr}
    (ac_Same : PySem.W.nsIn K mainGlobals "Same" = some (some (.ref c_Same)))
    (xq_Same : PySem.W.excIn K c_Same [.type "ValueError", .type "Exception", .type "BaseException", .type "object"] "ValueError.__new__" = true)
    {c_Shorted : Addr}
    (ac_Shorted : PySem.W.nsIn K mainGlobals "Shorted" = some (some (.ref c_Shorted)))
    (xq_Shorted : PySem.W.excIn K c_Shorted [.type "ValueError", .type "Exception", .type "BaseException", .type "object"] "ValueError.__new__" = true)
    {c_WardError : Addr}
    (ac_WardError : PySem.W.nsIn K mainGlobals "WardError" = some (some (.ref c_WardError)))
    (xq_WardError : PySem.W.excIn K c_WardError [.type "ValueError", .type "Exception", .type "BaseException", .type "object"] "ValueError.__new__" = true)
    {a_NUMBERS_BEHIND : Addr}
    (g_NUMBERS_BEHIND : PySem.W.nsIn K mainGlobals "NUMBERS_BEHIND" = some (some (.ref a_NUMBERS_BEHIND)))
    {f_is_number : Addr} {od_q0 an_q0 : Option Addr} {sl_q0 : Array (Option Value)} {oc_q0 kV_q0 dc_q0 pm_q0 cd_q0 ct_q0 : Value}
    (a_is_number : PySem.W.nsIn K mainGlobals "is_number" = some (some (.ref f_is_number)))
    (l_is_number : K.lookup f_is_number = some ⟨oc_q0, od_q0, .func (PySem.W.fnOf "is_number" "is_number" (defArgs s_is_number) (defBody s_is_number) (defScope s_is_number) .none kV_q0 dc_q0 pm_q0 an_q0 cd_q0 ct_q0), sl_q0⟩)
    (co_is_number : PySem.W.codeIn K cd_q0 "is_number" = true)
    (kp_is_number : PySem.W.keepIn K (.ref f_is_number) = true)
    {f_numbers_told : Addr} {od_q1 an_q1 : Option Addr} {sl_q1 : Array (Option Value)} {oc_q1 kV_q1 dc_q1 pm_q1 cd_q1 ct_q1 : Value}
    (a_numbers_told : PySem.W.nsIn K mainGlobals "numbers_told" = some (some (.ref f_numbers_told)))
    (l_numbers_told : K.lookup f_numbers_told = some ⟨oc_q1, od_q1, .func (PySem.W.fnOf "numbers_told" "numbers_told" (defArgs s_numbers_told) (defBody s_numbers_told) (defScope s_numbers_told) .none kV_q1 dc_q1 pm_q1 an_q1 cd_q1 ct_q1), sl_q1⟩)
    (co_numbers_told : PySem.W.codeIn K cd_q1 "numbers_told" = true)
    (kp_numbers_told : PySem.W.keepIn K (.ref f_numbers_told) = true)
    {f_parted : Addr} {od_q2 an_q2 : Option Addr} {sl_q2 : Array (Option Value)} {oc_q2 kV_q2 dc_q2 pm_q2 cd_q2 ct_q2 : Value}
    (a_parted : PySem.W.nsIn K mainGlobals "parted" = some (some (.ref f_parted)))
    (l_parted : K.lookup f_parted = some ⟨oc_q2, od_q2, .func (PySem.W.fnOf "parted" "parted" (defArgs s_parted) (defBody s_parted) (defScope s_parted) .none kV_q2 dc_q2 pm_q2 an_q2 cd_q2 ct_q2), sl_q2⟩)
    (co_parted : PySem.W.codeIn K cd_q2 "parted" = true)
    (kp_parted : PySem.W.keepIn K (.ref f_parted) = true)
    {f_count_in : Addr} {od_q3 an_q3 : Option Addr} {sl_q3 : Array (Option Value)} {oc_q3 kV_q3 dc_q3 pm_q3 cd_q3 ct_q3 : Value}
    (a_count_in : PySem.W.nsIn K mainGlobals "count_in" = some (some (.ref f_count_in)))
    (l_count_in : K.lookup f_count_in = some ⟨oc_q3, od_q3, .func (PySem.W.fnOf "count_in" "count_in" (defArgs s_count_in) (defBody s_count_in) (defScope s_count_in) .none kV_q3 dc_q3 pm_q3 an_q3 cd_q3 ct_q3), sl_q3⟩)
    (co_count_in : PySem.W.codeIn K cd_q3 "count_in" = true)
    (kp_count_in : PySem.W.keepIn K (.ref f_count_in) = true)
    {f_switch_in : Addr} {od_q4 an_q4 : Option Addr} {sl_q4 : Array (Option Value)} {oc_q4 kV_q4 dc_q4 pm_q4 cd_q4 ct_q4 : Value}
    (a_switch_in : PySem.W.nsIn K mainGlobals "switch_in" = some (some (.ref f_switch_in)))
    (l_switch_in : K.lookup f_switch_in = some ⟨oc_q4, od_q4, .func (PySem.W.fnOf "switch_in" "switch_in" (defArgs s_switch_in) (defBody s_switch_in) (defScope s_switch_in) .none kV_q4 dc_q4 pm_q4 an_q4 cd_q4 ct_q4), sl_q4⟩)
    (co_switch_in : PySem.W.codeIn K cd_q4 "switch_in" = true)
    (kp_switch_in : PySem.W.keepIn K (.ref f_switch_in) = true)
    {f_read : Addr} {od_q5 an_q5 : Option Addr} {sl_q5 : Array (Option Value)} {oc_q5 kV_q5 dc_q5 pm_q5 cd_q5 ct_q5 : Value}
    (a_read : PySem.W.nsIn K mainGlobals "read" = some (some (.ref f_read)))
    (l_read : K.lookup f_read = some ⟨oc_q5, od_q5, .func (PySem.W.fnOf "read" "read" (defArgs s_read) (defBody s_read) (defScope s_read) .none kV_q5 dc_q5 pm_q5 an_q5 cd_q5 ct_q5), sl_q5⟩)
    (co_read : PySem.W.codeIn K cd_q5 "read" = true)
    (kp_read : PySem.W.keepIn K (.ref f_read) = true)
    {f__law_cell_at : Addr} {od_q6 an_q6 : Option Addr} {sl_q6 : Array (Option Value)} {oc_q6 kV_q6 dc_q6 pm_q6 cd_q6 ct_q6 : Value}
    (a__law_cell_at : PySem.W.nsIn K mainGlobals "_law_cell_at" = some (some (.ref f__law_cell_at)))
    (l__law_cell_at : K.lookup f__law_cell_at = some ⟨oc_q6, od_q6, .func (PySem.W.fnOf "_law_cell_at" "_law_cell_at" (defArgs s__law_cell_at) (defBody s__law_cell_at) (defScope s__law_cell_at) .none kV_q6 dc_q6 pm_q6 an_q6 cd_q6 ct_q6), sl_q6⟩)
    (co__law_cell_at : PySem.W.codeIn K cd_q6 "_law_cell_at" = true)
    (kp__law_cell_at : PySem.W.keepIn K (.ref f__law_cell_at) = true)
    {f__law_switch : Addr} {od_q7 an_q7 : Option Addr} {sl_q7 : Array (Option Value)} {oc_q7 kV_q7 dc_q7 pm_q7 cd_q7 ct_q7 : Value}
    (a__law_switch : PySem.W.nsIn K mainGlobals "_law_switch" = some (some (.ref f__law_switch)))
    (l__law_switch : K.lookup f__law_switch = some ⟨oc_q7, od_q7, .func (PySem.W.fnOf "_law_switch" "_law_switch" (defArgs s__law_switch) (defBody s__law_switch) (defScope s__law_switch) .none kV_q7 dc_q7 pm_q7 an_q7 cd_q7 ct_q7), sl_q7⟩)
    (co__law_switch : PySem.W.codeIn K cd_q7 "_law_switch" = true)
    (kp__law_switch : PySem.W.keepIn K (.ref f__law_switch) = true)
    {f__law_rows : Addr} {od_q8 an_q8 : Option Addr} {sl_q8 : Array (Option Value)} {oc_q8 kV_q8 dc_q8 pm_q8 cd_q8 ct_q8 : Value}
    (a__law_rows : PySem.W.nsIn K mainGlobals "_law_rows" = some (some (.ref f__law_rows)))
    (l__law_rows : K.lookup f__law_rows = some ⟨oc_q8, od_q8, .func (PySem.W.fnOf "_law_rows" "_law_rows" (defArgs s__law_rows) (defBody s__law_rows) (defScope s__law_rows) .none kV_q8 dc_q8 pm_q8 an_q8 cd_q8 ct_q8), sl_q8⟩)
    (co__law_rows : PySem.W.codeIn K cd_q8 "_law_rows" = true)
    (kp__law_rows : PySem.W.keepIn K (.ref f__law_rows) = true)
    {f__law_bad_number : Addr} {od_q9 an_q9 : Option Addr} {sl_q9 : Array (Option Value)} {oc_q9 kV_q9 dc_q9 pm_q9 cd_q9 ct_q9 : Value}
    (a__law_bad_number : PySem.W.nsIn K mainGlobals "_law_bad_number" = some (some (.ref f__law_bad_number)))
    (l__law_bad_number : K.lookup f__law_bad_number = some ⟨oc_q9, od_q9, .func (PySem.W.fnOf "_law_bad_number" "_law_bad_number" (defArgs s__law_bad_number) (defBody s__law_bad_number) (defScope s__law_bad_number) .none kV_q9 dc_q9 pm_q9 an_q9 cd_q9 ct_q9), sl_q9⟩)
    (co__law_bad_number : PySem.W.codeIn K cd_q9 "_law_bad_number" = true)
    (kp__law_bad_number : PySem.W.keepIn K (.ref f__law_bad_number) = true)
    {f__law_no_form : Addr} {od_q10 an_q10 : Option Addr} {sl_q10 : Array (Option Value)} {oc_q10 kV_q10 dc_q10 pm_q10 cd_q10 ct_q10 : Value}
    (a__law_no_form : PySem.W.nsIn K mainGlobals "_law_no_form" = some (some (.ref f__law_no_form)))
    (l__law_no_form : K.lookup f__law_no_form = some ⟨oc_q10, od_q10, .func (PySem.W.fnOf "_law_no_form" "_law_no_form" (defArgs s__law_no_form) (defBody s__law_no_form) (defScope s__law_no_form) .none kV_q10 dc_q10 pm_q10 an_q10 cd_q10 ct_q10), sl_q10⟩)
    (co__law_no_form : PySem.W.codeIn K cd_q10 "_law_no_form" = true)
    (kp__law_no_form : PySem.W.keepIn K (.ref f__law_no_form) = true)
    {f__law_wrong : Addr} {od_q11 an_q11 : Option Addr} {sl_q11 : Array (Option Value)} {oc_q11 kV_q11 dc_q11 pm_q11 cd_q11 ct_q11 : Value}
    (a__law_wrong : PySem.W.nsIn K mainGlobals "_law_wrong" = some (some (.ref f__law_wrong)))
    (l__law_wrong : K.lookup f__law_wrong = some ⟨oc_q11, od_q11, .func (PySem.W.fnOf "_law_wrong" "_law_wrong" (defArgs s__law_wrong) (defBody s__law_wrong) (defScope s__law_wrong) .none kV_q11 dc_q11 pm_q11 an_q11 cd_q11 ct_q11), sl_q11⟩)
    (co__law_wrong : PySem.W.codeIn K cd_q11 "_law_wrong" = true)
    (kp__law_wrong : PySem.W.keepIn K (.ref f__law_wrong) = true)
    {f__law_thirteen : Addr} {od_q12 an_q12 : Option Addr} {sl_q12 : Array (Option Value)} {oc_q12 kV_q12 dc_q12 pm_q12 cd_q12 ct_q12 : Value}
    (a__law_thirteen : PySem.W.nsIn K mainGlobals "_law_thirteen" = some (some (.ref f__law_thirteen)))
    (l__law_thirteen : K.lookup f__law_thirteen = some ⟨oc_q12, od_q12, .func (PySem.W.fnOf "_law_thirteen" "_law_thirteen" (defArgs s__law_thirteen) (defBody s__law_thirteen) (defScope s__law_thirteen) .none kV_q12 dc_q12 pm_q12 an_q12 cd_q12 ct_q12), sl_q12⟩)
    (co__law_thirteen : PySem.W.codeIn K cd_q12 "_law_thirteen" = true)
    (kp__law_thirteen : PySem.W.keepIn K (.ref f__law_thirteen) = true)
    {f__law_two_rows : Addr} {od_q13 an_q13 : Option Addr} {sl_q13 : Array (Option Value)} {oc_q13 kV_q13 dc_q13 pm_q13 cd_q13 ct_q13 : Value}
    (a__law_two_rows : PySem.W.nsIn K mainGlobals "_law_two_rows" = some (some (.ref f__law_two_rows)))
    (l__law_two_rows : K.lookup f__law_two_rows = some ⟨oc_q13, od_q13, .func (PySem.W.fnOf "_law_two_rows" "_law_two_rows" (defArgs s__law_two_rows) (defBody s__law_two_rows) (defScope s__law_two_rows) .none kV_q13 dc_q13 pm_q13 an_q13 cd_q13 ct_q13), sl_q13⟩)
    (co__law_two_rows : PySem.W.codeIn K cd_q13 "_law_two_rows" = true)
    (kp__law_two_rows : PySem.W.keepIn K (.ref f__law_two_rows) = true)
    {f__law_refusal : Addr} {od_q14 an_q14 : Option Addr} {sl_q14 : Array (Option Value)} {oc_q14 kV_q14 dc_q14 pm_q14 cd_q14 ct_q14 : Value}
    (a__law_refusal : PySem.W.nsIn K mainGlobals "_law_refusal" = some (some (.ref f__law_refusal)))
    (l__law_refusal : K.lookup f__law_refusal = some ⟨oc_q14, od_q14, .func (PySem.W.fnOf "_law_refusal" "_law_refusal" (defArgs s__law_refusal) (defBody s__law_refusal) (defScope s__law_refusal) .none kV_q14 dc_q14 pm_q14 an_q14 cd_q14 ct_q14), sl_q14⟩)
    (co__law_refusal : PySem.W.codeIn K cd_q14 "_law_refusal" = true)
    (kp__law_refusal : PySem.W.keepIn K (.ref f__law_refusal) = true)
    {f__law_one_bar : Addr} {od_q15 an_q15 : Option Addr} {sl_q15 : Array (Option Value)} {oc_q15 kV_q15 dc_q15 pm_q15 cd_q15 ct_q15 : Value}
    (a__law_one_bar : PySem.W.nsIn K mainGlobals "_law_one_bar" = some (some (.ref f__law_one_bar)))
    (l__law_one_bar : K.lookup f__law_one_bar = some ⟨oc_q15, od_q15, .func (PySem.W.fnOf "_law_one_bar" "_law_one_bar" (defArgs s__law_one_bar) (defBody s__law_one_bar) (defScope s__law_one_bar) .none kV_q15 dc_q15 pm_q15 an_q15 cd_q15 ct_q15), sl_q15⟩)
    (co__law_one_bar : PySem.W.codeIn K cd_q15 "_law_one_bar" = true)
    (kp__law_one_bar : PySem.W.keepIn K (.ref f__law_one_bar) = true)
    {f_law : Addr} {od_q16 an_q16 : Option Addr} {sl_q16 : Array (Option Value)} {oc_q16 kV_q16 dc_q16 pm_q16 cd_q16 ct_q16 : Value}
    (a_law : PySem.W.nsIn K mainGlobals "law" = some (some (.ref f_law)))
    (l_law : K.lookup f_law = some ⟨oc_q16, od_q16, .func (PySem.W.fnOf "law" "law" (defArgs s_law) (defBody s_law) (defScope s_law) .none kV_q16 dc_q16 pm_q16 an_q16 cd_q16 ct_q16), sl_q16⟩)
    (co_law : PySem.W.codeIn K cd_q16 "law" = true)
    (kp_law : PySem.W.keepIn K (.ref f_law) = true)
    (b_len : PySem.W.nsIn K mainGlobals "len" = some none)
    (b_sum : PySem.W.nsIn K mainGlobals "sum" = some none)
    (b_all : PySem.W.nsIn K mainGlobals "all" = some none)
    (b_isinstance : PySem.W.nsIn K mainGlobals "isinstance" = some none)
    (b_max : PySem.W.nsIn K mainGlobals "max" = some none)
    (b_min : PySem.W.nsIn K mainGlobals "min" = some none)
    (b_int : PySem.W.nsIn K mainGlobals "int" = some none)
    (b_str : PySem.W.nsIn K mainGlobals "str" = some none)
    (b_tuple : PySem.W.nsIn K mainGlobals "tuple" = some none)
    (b_range : PySem.W.nsIn K mainGlobals "range" = some none)
    (b_ValueError : PySem.W.nsIn K mainGlobals "ValueError" = some none)
    {tk_MOST_BARS : Tok}
    (g_MOST_BARS : PySem.W.nsIn K mainGlobals "MOST_BARS" = some (some (.int 10 tk_MOST_BARS)))
    {tk_MOST_SWITCHES : Tok}
    (g_MOST_SWITCHES : PySem.W.nsIn K mainGlobals "MOST_SWITCHES" = some (some (.int 12 tk_MOST_SWITCHES)))
    {tk_MOST_FIGURES : Tok}
    (g_MOST_FIGURES : PySem.W.nsIn K mainGlobals "MOST_FIGURES" = some (some (.int 9 tk_MOST_FIGURES)))
    {tk_FIGURES : Tok}
    (g_FIGURES : PySem.W.nsIn K mainGlobals "FIGURES" = some (some (.str "0123456789" tk_FIGURES)))
    (w1_WardError : PySem.W.instIn K (.ref c_WardError) (.type "tuple") = some false)
    (w2_WardError : PySem.W.hasDictIn K c_WardError = true)
    (w3_WardError : PySem.W.mroIn K c_WardError (.type "BaseException") = some true)
    (su_NoBar_WardError : PySem.W.mroIn K c_NoBar (.ref c_WardError) = some true)
    (su_NoMeasure_WardError : PySem.W.mroIn K c_NoMeasure (.ref c_WardError) = some true)
    (su_NoRow_WardError : PySem.W.mroIn K c_NoRow (.ref c_WardError) = some true)
    (su_Same_WardError : PySem.W.mroIn K c_Same (.ref c_WardError) = some true)
    (i1_NoBar : PySem.W.findIn K (.ref c_NoBar) "__getattribute__" = some (some (.builtin "BaseException.__getattribute__")))
    (i2_NoBar : PySem.W.findIn K (.ref c_NoBar) "__getattr__" = some none)
    (i3_NoBar : PySem.W.findIn K (.ref c_NoBar) "__class__" = some (some (.builtin "object.__class__")))
    (i4_NoBar : PySem.W.mroIn K c_NoBar (.type "BaseException") = some true)
    (i5_NoBar : PySem.W.mroIn K c_NoBar (.type "object") = some true)
    (i6_NoBar : PySem.W.hasDictIn K c_NoBar = true)
    (io_NoBar_NoRow : PySem.W.kitOne K (.ref c_NoBar) (.ref c_NoRow) = some false)
    (io_NoBar_NoMeasure : PySem.W.kitOne K (.ref c_NoBar) (.ref c_NoMeasure) = some false)
    (io_NoBar_NoBar : PySem.W.kitOne K (.ref c_NoBar) (.ref c_NoBar) = some true)
    (io_NoBar_Same : PySem.W.kitOne K (.ref c_NoBar) (.ref c_Same) = some false)
    (io_NoBar_NoSwitch : PySem.W.kitOne K (.ref c_NoBar) (.ref c_NoSwitch) = some false)
    (io_NoBar_Loaded : PySem.W.kitOne K (.ref c_NoBar) (.ref c_Loaded) = some false)
    (io_NoBar_Shorted : PySem.W.kitOne K (.ref c_NoBar) (.ref c_Shorted) = some false)
    (io_NoBar_Locked : PySem.W.kitOne K (.ref c_NoBar) (.ref c_Locked) = some false)
    (io_NoBar_Held : PySem.W.kitOne K (.ref c_NoBar) (.ref c_Held) = some false)
    (io_NoBar_NoLock : PySem.W.kitOne K (.ref c_NoBar) (.ref c_NoLock) = some false)
    (io_NoBar_NotOpen : PySem.W.kitOne K (.ref c_NoBar) (.ref c_NotOpen) = some false)
    (io_NoBar_NotLocked : PySem.W.kitOne K (.ref c_NoBar) (.ref c_NotLocked) = some false)
    (io_NoBar_NotEarthed : PySem.W.kitOne K (.ref c_NoBar) (.ref c_NotEarthed) = some false)
    (io_NoBar_NotDead : PySem.W.kitOne K (.ref c_NoBar) (.ref c_NotDead) = some false)
    (io_NoBar_NoPermit : PySem.W.kitOne K (.ref c_NoBar) (.ref c_NoPermit) = some false)
    (io_NoBar_ValueError : PySem.W.kitOne K (.ref c_NoBar) (.type "ValueError") = some true)
    (i1_NoMeasure : PySem.W.findIn K (.ref c_NoMeasure) "__getattribute__" = some (some (.builtin "BaseException.__getattribute__")))
    (i2_NoMeasure : PySem.W.findIn K (.ref c_NoMeasure) "__getattr__" = some none)
    (i3_NoMeasure : PySem.W.findIn K (.ref c_NoMeasure) "__class__" = some (some (.builtin "object.__class__")))
    (i4_NoMeasure : PySem.W.mroIn K c_NoMeasure (.type "BaseException") = some true)
    (i5_NoMeasure : PySem.W.mroIn K c_NoMeasure (.type "object") = some true)
    (i6_NoMeasure : PySem.W.hasDictIn K c_NoMeasure = true)
    (io_NoMeasure_NoRow : PySem.W.kitOne K (.ref c_NoMeasure) (.ref c_NoRow) = some false)
    (io_NoMeasure_NoMeasure : PySem.W.kitOne K (.ref c_NoMeasure) (.ref c_NoMeasure) = some true)
    (io_NoMeasure_NoBar : PySem.W.kitOne K (.ref c_NoMeasure) (.ref c_NoBar) = some false)
    (io_NoMeasure_Same : PySem.W.kitOne K (.ref c_NoMeasure) (.ref c_Same) = some false)
    (io_NoMeasure_NoSwitch : PySem.W.kitOne K (.ref c_NoMeasure) (.ref c_NoSwitch) = some false)
    (io_NoMeasure_Loaded : PySem.W.kitOne K (.ref c_NoMeasure) (.ref c_Loaded) = some false)
    (io_NoMeasure_Shorted : PySem.W.kitOne K (.ref c_NoMeasure) (.ref c_Shorted) = some false)
    (io_NoMeasure_Locked : PySem.W.kitOne K (.ref c_NoMeasure) (.ref c_Locked) = some false)
    (io_NoMeasure_Held : PySem.W.kitOne K (.ref c_NoMeasure) (.ref c_Held) = some false)
    (io_NoMeasure_NoLock : PySem.W.kitOne K (.ref c_NoMeasure) (.ref c_NoLock) = some false)
    (io_NoMeasure_NotOpen : PySem.W.kitOne K (.ref c_NoMeasure) (.ref c_NotOpen) = some false)
    (io_NoMeasure_NotLocked : PySem.W.kitOne K (.ref c_NoMeasure) (.ref c_NotLocked) = some false)
    (io_NoMeasure_NotEarthed : PySem.W.kitOne K (.ref c_NoMeasure) (.ref c_NotEarthed) = some false)
    (io_NoMeasure_NotDead : PySem.W.kitOne K (.ref c_NoMeasure) (.ref c_NotDead) = some false)
    (io_NoMeasure_NoPermit : PySem.W.kitOne K (.ref c_NoMeasure) (.ref c_NoPermit) = some false)
    (io_NoMeasure_ValueError : PySem.W.kitOne K (.ref c_NoMeasure) (.type "ValueError") = some true)
    (i1_NoRow : PySem.W.findIn K (.ref c_NoRow) "__getattribute__" = some (some (.builtin "BaseException.__getattribute__")))
    (i2_NoRow : PySem.W.findIn K (.ref c_NoRow) "__getattr__" = some none)
    (i3_NoRow : PySem.W.findIn K (.ref c_NoRow) "__class__" = some (some (.builtin "object.__class__")))
    (i4_NoRow : PySem.W.mroIn K c_NoRow (.type "BaseException") = some true)
    (i5_NoRow : PySem.W.mroIn K c_NoRow (.type "object") = some true)
    (i6_NoRow : PySem.W.hasDictIn K c_NoRow = true)
    (io_NoRow_NoRow : PySem.W.kitOne K (.ref c_NoRow) (.ref c_NoRow) = some true)
    (io_NoRow_NoMeasure : PySem.W.kitOne K (.ref c_NoRow) (.ref c_NoMeasure) = some false)
    (io_NoRow_NoBar : PySem.W.kitOne K (.ref c_NoRow) (.ref c_NoBar) = some false)
    (io_NoRow_Same : PySem.W.kitOne K (.ref c_NoRow) (.ref c_Same) = some false)
    (io_NoRow_NoSwitch : PySem.W.kitOne K (.ref c_NoRow) (.ref c_NoSwitch) = some false)
    (io_NoRow_Loaded : PySem.W.kitOne K (.ref c_NoRow) (.ref c_Loaded) = some false)
    (io_NoRow_Shorted : PySem.W.kitOne K (.ref c_NoRow) (.ref c_Shorted) = some false)
    (io_NoRow_Locked : PySem.W.kitOne K (.ref c_NoRow) (.ref c_Locked) = some false)
    (io_NoRow_Held : PySem.W.kitOne K (.ref c_NoRow) (.ref c_Held) = some false)
    (io_NoRow_NoLock : PySem.W.kitOne K (.ref c_NoRow) (.ref c_NoLock) = some false)
    (io_NoRow_NotOpen : PySem.W.kitOne K (.ref c_NoRow) (.ref c_NotOpen) = some false)
    (io_NoRow_NotLocked : PySem.W.kitOne K (.ref c_NoRow) (.ref c_NotLocked) = some false)
    (io_NoRow_NotEarthed : PySem.W.kitOne K (.ref c_NoRow) (.ref c_NotEarthed) = some false)
    (io_NoRow_NotDead : PySem.W.kitOne K (.ref c_NoRow) (.ref c_NotDead) = some false)
    (io_NoRow_NoPermit : PySem.W.kitOne K (.ref c_NoRow) (.ref c_NoPermit) = some false)
    (io_NoRow_ValueError : PySem.W.kitOne K (.ref c_NoRow) (.type "ValueError") = some true)
    (i1_Same : PySem.W.findIn K (.ref c_Same) "__getattribute__" = some (some (.builtin "BaseException.__getattribute__")))
    (i2_Same : PySem.W.findIn K (.ref c_Same) "__getattr__" = some none)
    (i3_Same : PySem.W.findIn K (.ref c_Same) "__class__" = some (some (.builtin "object.__class__")))
    (i4_Same : PySem.W.mroIn K c_Same (.type "BaseException") = some true)
    (i5_Same : PySem.W.mroIn K c_Same (.type "object") = some true)
    (i6_Same : PySem.W.hasDictIn K c_Same = true)
    (io_Same_NoRow : PySem.W.kitOne K (.ref c_Same) (.ref c_NoRow) = some false)
    (io_Same_NoMeasure : PySem.W.kitOne K (.ref c_Same) (.ref c_NoMeasure) = some false)
    (io_Same_NoBar : PySem.W.kitOne K (.ref c_Same) (.ref c_NoBar) = some false)
    (io_Same_Same : PySem.W.kitOne K (.ref c_Same) (.ref c_Same) = some true)
    (io_Same_NoSwitch : PySem.W.kitOne K (.ref c_Same) (.ref c_NoSwitch) = some false)
    (io_Same_Loaded : PySem.W.kitOne K (.ref c_Same) (.ref c_Loaded) = some false)
    (io_Same_Shorted : PySem.W.kitOne K (.ref c_Same) (.ref c_Shorted) = some false)
    (io_Same_Locked : PySem.W.kitOne K (.ref c_Same) (.ref c_Locked) = some false)
    (io_Same_Held : PySem.W.kitOne K (.ref c_Same) (.ref c_Held) = some false)
    (io_Same_NoLock : PySem.W.kitOne K (.ref c_Same) (.ref c_NoLock) = some false)
    (io_Same_NotOpen : PySem.W.kitOne K (.ref c_Same) (.ref c_NotOpen) = some false)
    (io_Same_NotLocked : PySem.W.kitOne K (.ref c_Same) (.ref c_NotLocked) = some false)
    (io_Same_NotEarthed : PySem.W.kitOne K (.ref c_Same) (.ref c_NotEarthed) = some false)
    (io_Same_NotDead : PySem.W.kitOne K (.ref c_Same) (.ref c_NotDead) = some false)
    (io_Same_NoPermit : PySem.W.kitOne K (.ref c_Same) (.ref c_NoPermit) = some false)
    (io_Same_ValueError : PySem.W.kitOne K (.ref c_Same) (.type "ValueError") = some true)
    {es_NUMBERS_BEHIND : Array DictEntry} {n_NUMBERS_BEHIND : Nat}
    (dl_NUMBERS_BEHIND : K.lookup a_NUMBERS_BEHIND = some ⟨.type "dict", none, .dict es_NUMBERS_BEHIND n_NUMBERS_BEHIND, #[]⟩)
    (ds_NUMBERS_BEHIND : (a_NUMBERS_BEHIND == sysModules) = false)
    (dk_NUMBERS_BEHIND : PySem.W.KeysLit w.params es_NUMBERS_BEHIND.toList)
    (de_NUMBERS_BEHIND : EntsLit es_NUMBERS_BEHIND.toList [(.inr "bars", (.int 1)), (.inr "feed", (.int 1)), (.inr "earth", (.int 1)), (.inr "breaker", (.int 2)), (.inr "splitter", (.int 2))])
    : ∃ t : Adr, Txt P w K mg t :=
  ⟨{ f_is_number := f_is_number, fd_is_number := PySem.W.fnOf "is_number" "is_number" (defArgs s_is_number) (defBody s_is_number) (defScope s_is_number) .none kV_q0 dc_q0 pm_q0 an_q0 cd_q0 ct_q0, f_numbers_told := f_numbers_told, fd_numbers_told := PySem.W.fnOf "numbers_told" "numbers_told" (defArgs s_numbers_told) (defBody s_numbers_told) (defScope s_numbers_told) .none kV_q1 dc_q1 pm_q1 an_q1 cd_q1 ct_q1, f_parted := f_parted, fd_parted := PySem.W.fnOf "parted" "parted" (defArgs s_parted) (defBody s_parted) (defScope s_parted) .none kV_q2 dc_q2 pm_q2 an_q2 cd_q2 ct_q2, f_count_in := f_count_in, fd_count_in := PySem.W.fnOf "count_in" "count_in" (defArgs s_count_in) (defBody s_count_in) (defScope s_count_in) .none kV_q3 dc_q3 pm_q3 an_q3 cd_q3 ct_q3, f_switch_in := f_switch_in, fd_switch_in := PySem.W.fnOf "switch_in" "switch_in" (defArgs s_switch_in) (defBody s_switch_in) (defScope s_switch_in) .none kV_q4 dc_q4 pm_q4 an_q4 cd_q4 ct_q4, f_read := f_read, fd_read := PySem.W.fnOf "read" "read" (defArgs s_read) (defBody s_read) (defScope s_read) .none kV_q5 dc_q5 pm_q5 an_q5 cd_q5 ct_q5, f__law_cell_at := f__law_cell_at, fd__law_cell_at := PySem.W.fnOf "_law_cell_at" "_law_cell_at" (defArgs s__law_cell_at) (defBody s__law_cell_at) (defScope s__law_cell_at) .none kV_q6 dc_q6 pm_q6 an_q6 cd_q6 ct_q6, f__law_switch := f__law_switch, fd__law_switch := PySem.W.fnOf "_law_switch" "_law_switch" (defArgs s__law_switch) (defBody s__law_switch) (defScope s__law_switch) .none kV_q7 dc_q7 pm_q7 an_q7 cd_q7 ct_q7, f__law_rows := f__law_rows, fd__law_rows := PySem.W.fnOf "_law_rows" "_law_rows" (defArgs s__law_rows) (defBody s__law_rows) (defScope s__law_rows) .none kV_q8 dc_q8 pm_q8 an_q8 cd_q8 ct_q8, f__law_bad_number := f__law_bad_number, fd__law_bad_number := PySem.W.fnOf "_law_bad_number" "_law_bad_number" (defArgs s__law_bad_number) (defBody s__law_bad_number) (defScope s__law_bad_number) .none kV_q9 dc_q9 pm_q9 an_q9 cd_q9 ct_q9, f__law_no_form := f__law_no_form, fd__law_no_form := PySem.W.fnOf "_law_no_form" "_law_no_form" (defArgs s__law_no_form) (defBody s__law_no_form) (defScope s__law_no_form) .none kV_q10 dc_q10 pm_q10 an_q10 cd_q10 ct_q10, f__law_wrong := f__law_wrong, fd__law_wrong := PySem.W.fnOf "_law_wrong" "_law_wrong" (defArgs s__law_wrong) (defBody s__law_wrong) (defScope s__law_wrong) .none kV_q11 dc_q11 pm_q11 an_q11 cd_q11 ct_q11, f__law_thirteen := f__law_thirteen, fd__law_thirteen := PySem.W.fnOf "_law_thirteen" "_law_thirteen" (defArgs s__law_thirteen) (defBody s__law_thirteen) (defScope s__law_thirteen) .none kV_q12 dc_q12 pm_q12 an_q12 cd_q12 ct_q12, f__law_two_rows := f__law_two_rows, fd__law_two_rows := PySem.W.fnOf "_law_two_rows" "_law_two_rows" (defArgs s__law_two_rows) (defBody s__law_two_rows) (defScope s__law_two_rows) .none kV_q13 dc_q13 pm_q13 an_q13 cd_q13 ct_q13, f__law_refusal := f__law_refusal, fd__law_refusal := PySem.W.fnOf "_law_refusal" "_law_refusal" (defArgs s__law_refusal) (defBody s__law_refusal) (defScope s__law_refusal) .none kV_q14 dc_q14 pm_q14 an_q14 cd_q14 ct_q14, f__law_one_bar := f__law_one_bar, fd__law_one_bar := PySem.W.fnOf "_law_one_bar" "_law_one_bar" (defArgs s__law_one_bar) (defBody s__law_one_bar) (defScope s__law_one_bar) .none kV_q15 dc_q15 pm_q15 an_q15 cd_q15 ct_q15, f_law := f_law, fd_law := PySem.W.fnOf "law" "law" (defArgs s_law) (defBody s_law) (defScope s_law) .none kV_q16 dc_q16 pm_q16 an_q16 cd_q16 ct_q16, c_Held := c_Held, c_Loaded := c_Loaded, c_Locked := c_Locked, c_NoBar := c_NoBar, c_NoLock := c_NoLock, c_NoMeasure := c_NoMeasure, c_NoPermit := c_NoPermit, c_NoRow := c_NoRow, c_NoSwitch := c_NoSwitch, c_NotDead := c_NotDead, c_NotEarthed := c_NotEarthed, c_NotLocked := c_NotLocked, c_NotOpen := c_NotOpen, c_Same := c_Same, c_Shorted := c_Shorted, c_WardError := c_WardError, a_NUMBERS_BEHIND := a_NUMBERS_BEHIND },
    { F_is_number := fun_mk (st := s_is_number) l_is_number co_is_number kp_is_number,
      m_is_number := PySem.W.mg_of X G a_is_number,
      B_is_number := (fun_mk (st := s_is_number) l_is_number co_is_number kp_is_number).binds fun _ _ _ _ _ _ us hl => match us, hl with | [_], _ => rfl,
      F_numbers_told := fun_mk (st := s_numbers_told) l_numbers_told co_numbers_told kp_numbers_told,
      m_numbers_told := PySem.W.mg_of X G a_numbers_told,
      B_numbers_told := (fun_mk (st := s_numbers_told) l_numbers_told co_numbers_told kp_numbers_told).binds fun _ _ _ _ _ _ us hl => match us, hl with | [_], _ => rfl,
      F_parted := fun_mk (st := s_parted) l_parted co_parted kp_parted,
      m_parted := PySem.W.mg_of X G a_parted,
      B_parted := (fun_mk (st := s_parted) l_parted co_parted kp_parted).binds fun _ _ _ _ _ _ us hl => match us, hl with | [_], _ => rfl,
      F_count_in := fun_mk (st := s_count_in) l_count_in co_count_in kp_count_in,
      m_count_in := PySem.W.mg_of X G a_count_in,
      B_count_in := (fun_mk (st := s_count_in) l_count_in co_count_in kp_count_in).binds fun _ _ _ _ _ _ us hl => match us, hl with | [_], _ => rfl,
      F_switch_in := fun_mk (st := s_switch_in) l_switch_in co_switch_in kp_switch_in,
      m_switch_in := PySem.W.mg_of X G a_switch_in,
      B_switch_in := (fun_mk (st := s_switch_in) l_switch_in co_switch_in kp_switch_in).binds fun _ _ _ _ _ _ us hl => match us, hl with | [_, _, _], _ => rfl,
      F_read := fun_mk (st := s_read) l_read co_read kp_read,
      m_read := PySem.W.mg_of X G a_read,
      B_read := (fun_mk (st := s_read) l_read co_read kp_read).binds fun _ _ _ _ _ _ us hl => match us, hl with | [_], _ => rfl,
      F__law_cell_at := fun_mk (st := s__law_cell_at) l__law_cell_at co__law_cell_at kp__law_cell_at,
      m__law_cell_at := PySem.W.mg_of X G a__law_cell_at,
      B__law_cell_at := (fun_mk (st := s__law_cell_at) l__law_cell_at co__law_cell_at kp__law_cell_at).binds fun _ _ _ _ _ _ us hl => match us, hl with | [_, _], _ => rfl,
      F__law_switch := fun_mk (st := s__law_switch) l__law_switch co__law_switch kp__law_switch,
      m__law_switch := PySem.W.mg_of X G a__law_switch,
      B__law_switch := (fun_mk (st := s__law_switch) l__law_switch co__law_switch kp__law_switch).binds fun _ _ _ _ _ _ us hl => match us, hl with | [_, _], _ => rfl,
      F__law_rows := fun_mk (st := s__law_rows) l__law_rows co__law_rows kp__law_rows,
      m__law_rows := PySem.W.mg_of X G a__law_rows,
      B__law_rows := (fun_mk (st := s__law_rows) l__law_rows co__law_rows kp__law_rows).binds fun _ _ _ _ _ _ us hl => match us, hl with | [_, _], _ => rfl,
      F__law_bad_number := fun_mk (st := s__law_bad_number) l__law_bad_number co__law_bad_number kp__law_bad_number,
      m__law_bad_number := PySem.W.mg_of X G a__law_bad_number,
      B__law_bad_number := (fun_mk (st := s__law_bad_number) l__law_bad_number co__law_bad_number kp__law_bad_number).binds fun _ _ _ _ _ _ us hl => match us, hl with | [_, _], _ => rfl,
      F__law_no_form := fun_mk (st := s__law_no_form) l__law_no_form co__law_no_form kp__law_no_form,
      m__law_no_form := PySem.W.mg_of X G a__law_no_form,
      B__law_no_form := (fun_mk (st := s__law_no_form) l__law_no_form co__law_no_form kp__law_no_form).binds fun _ _ _ _ _ _ us hl => match us, hl with | [_, _], _ => rfl,
      F__law_wrong := fun_mk (st := s__law_wrong) l__law_wrong co__law_wrong kp__law_wrong,
      m__law_wrong := PySem.W.mg_of X G a__law_wrong,
      B__law_wrong := (fun_mk (st := s__law_wrong) l__law_wrong co__law_wrong kp__law_wrong).binds fun _ _ _ _ _ _ us hl => match us, hl with | [_, _, _, _], _ => rfl,
      F__law_thirteen := fun_mk (st := s__law_thirteen) l__law_thirteen co__law_thirteen kp__law_thirteen,
      m__law_thirteen := PySem.W.mg_of X G a__law_thirteen,
      B__law_thirteen := (fun_mk (st := s__law_thirteen) l__law_thirteen co__law_thirteen kp__law_thirteen).binds fun _ _ _ _ _ _ us hl => match us, hl with | [_, _], _ => rfl,
      F__law_two_rows := fun_mk (st := s__law_two_rows) l__law_two_rows co__law_two_rows kp__law_two_rows,
      m__law_two_rows := PySem.W.mg_of X G a__law_two_rows,
      B__law_two_rows := (fun_mk (st := s__law_two_rows) l__law_two_rows co__law_two_rows kp__law_two_rows).binds fun _ _ _ _ _ _ us hl => match us, hl with | [_, _, _, _, _], _ => rfl,
      F__law_refusal := fun_mk (st := s__law_refusal) l__law_refusal co__law_refusal kp__law_refusal,
      m__law_refusal := PySem.W.mg_of X G a__law_refusal,
      B__law_refusal := (fun_mk (st := s__law_refusal) l__law_refusal co__law_refusal kp__law_refusal).binds fun _ _ _ _ _ _ us hl => match us, hl with | [_], _ => rfl,
      F__law_one_bar := fun_mk (st := s__law_one_bar) l__law_one_bar co__law_one_bar kp__law_one_bar,
      m__law_one_bar := PySem.W.mg_of X G a__law_one_bar,
      B__law_one_bar := (fun_mk (st := s__law_one_bar) l__law_one_bar co__law_one_bar kp__law_one_bar).binds fun _ _ _ _ _ _ us hl => match us, hl with | [_], _ => rfl,
      F_law := fun_mk (st := s_law) l_law co_law kp_law,
      m_law := PySem.W.mg_of X G a_law,
      B_law := (fun_mk (st := s_law) l_law co_law kp_law).binds fun _ _ _ _ _ _ us hl => match us, hl with | [_], _ => rfl,
      Bl := fun s u => .of_eq rfl,
      x_Held := ⟨ac_Held, ⟨_, _, _, _, xq_Held, PySem.F.excBase_ValueError⟩, PySem.W.mg_of X G ac_Held⟩,
      x_Loaded := ⟨ac_Loaded, ⟨_, _, _, _, xq_Loaded, PySem.F.excBase_ValueError⟩, PySem.W.mg_of X G ac_Loaded⟩,
      x_Locked := ⟨ac_Locked, ⟨_, _, _, _, xq_Locked, PySem.F.excBase_ValueError⟩, PySem.W.mg_of X G ac_Locked⟩,
      x_NoBar := ⟨ac_NoBar, ⟨_, _, _, _, xq_NoBar, PySem.F.excBase_ValueError⟩, PySem.W.mg_of X G ac_NoBar⟩,
      x_NoLock := ⟨ac_NoLock, ⟨_, _, _, _, xq_NoLock, PySem.F.excBase_ValueError⟩, PySem.W.mg_of X G ac_NoLock⟩,
      x_NoMeasure := ⟨ac_NoMeasure, ⟨_, _, _, _, xq_NoMeasure, PySem.F.excBase_ValueError⟩, PySem.W.mg_of X G ac_NoMeasure⟩,
      x_NoPermit := ⟨ac_NoPermit, ⟨_, _, _, _, xq_NoPermit, PySem.F.excBase_ValueError⟩, PySem.W.mg_of X G ac_NoPermit⟩,
      x_NoRow := ⟨ac_NoRow, ⟨_, _, _, _, xq_NoRow, PySem.F.excBase_ValueError⟩, PySem.W.mg_of X G ac_NoRow⟩,
      x_NoSwitch := ⟨ac_NoSwitch, ⟨_, _, _, _, xq_NoSwitch, PySem.F.excBase_ValueError⟩, PySem.W.mg_of X G ac_NoSwitch⟩,
      x_NotDead := ⟨ac_NotDead, ⟨_, _, _, _, xq_NotDead, PySem.F.excBase_ValueError⟩, PySem.W.mg_of X G ac_NotDead⟩,
      x_NotEarthed := ⟨ac_NotEarthed, ⟨_, _, _, _, xq_NotEarthed, PySem.F.excBase_ValueError⟩, PySem.W.mg_of X G ac_NotEarthed⟩,
      x_NotLocked := ⟨ac_NotLocked, ⟨_, _, _, _, xq_NotLocked, PySem.F.excBase_ValueError⟩, PySem.W.mg_of X G ac_NotLocked⟩,
      x_NotOpen := ⟨ac_NotOpen, ⟨_, _, _, _, xq_NotOpen, PySem.F.excBase_ValueError⟩, PySem.W.mg_of X G ac_NotOpen⟩,
      x_Same := ⟨ac_Same, ⟨_, _, _, _, xq_Same, PySem.F.excBase_ValueError⟩, PySem.W.mg_of X G ac_Same⟩,
      x_Shorted := ⟨ac_Shorted, ⟨_, _, _, _, xq_Shorted, PySem.F.excBase_ValueError⟩, PySem.W.mg_of X G ac_Shorted⟩,
      x_WardError := ⟨ac_WardError, ⟨_, _, _, _, xq_WardError, PySem.F.excBase_ValueError⟩, PySem.W.mg_of X G ac_WardError⟩,
      b_len := PySem.W.mg_none_of X G b_len,
      b_sum := PySem.W.mg_none_of X G b_sum,
      b_all := PySem.W.mg_none_of X G b_all,
      b_isinstance := PySem.W.mg_none_of X G b_isinstance,
      b_max := PySem.W.mg_none_of X G b_max,
      b_min := PySem.W.mg_none_of X G b_min,
      b_int := PySem.W.mg_none_of X G b_int,
      b_str := PySem.W.mg_none_of X G b_str,
      b_tuple := PySem.W.mg_none_of X G b_tuple,
      b_range := PySem.W.mg_none_of X G b_range,
      b_ValueError := PySem.W.mg_none_of X G b_ValueError,
      c_NUMBERS_BEHIND := ⟨_, PySem.W.mg_of X G g_NUMBERS_BEHIND, rfl⟩,
      c_MOST_BARS := ⟨_, PySem.W.mg_of X G g_MOST_BARS, tk_MOST_BARS, rfl⟩,
      c_MOST_SWITCHES := ⟨_, PySem.W.mg_of X G g_MOST_SWITCHES, tk_MOST_SWITCHES, rfl⟩,
      c_MOST_FIGURES := ⟨_, PySem.W.mg_of X G g_MOST_FIGURES, tk_MOST_FIGURES, rfl⟩,
      c_FIGURES := ⟨_, PySem.W.mg_of X G g_FIGURES, tk_FIGURES, rfl⟩,
      k_Held := ⟨_, PySem.W.mg_of X G ac_Held, rfl⟩,
      k_Loaded := ⟨_, PySem.W.mg_of X G ac_Loaded, rfl⟩,
      k_Locked := ⟨_, PySem.W.mg_of X G ac_Locked, rfl⟩,
      k_NoBar := ⟨_, PySem.W.mg_of X G ac_NoBar, rfl⟩,
      k_NoLock := ⟨_, PySem.W.mg_of X G ac_NoLock, rfl⟩,
      k_NoMeasure := ⟨_, PySem.W.mg_of X G ac_NoMeasure, rfl⟩,
      k_NoPermit := ⟨_, PySem.W.mg_of X G ac_NoPermit, rfl⟩,
      k_NoRow := ⟨_, PySem.W.mg_of X G ac_NoRow, rfl⟩,
      k_NoSwitch := ⟨_, PySem.W.mg_of X G ac_NoSwitch, rfl⟩,
      k_NotDead := ⟨_, PySem.W.mg_of X G ac_NotDead, rfl⟩,
      k_NotEarthed := ⟨_, PySem.W.mg_of X G ac_NotEarthed, rfl⟩,
      k_NotLocked := ⟨_, PySem.W.mg_of X G ac_NotLocked, rfl⟩,
      k_NotOpen := ⟨_, PySem.W.mg_of X G ac_NotOpen, rfl⟩,
      k_Same := ⟨_, PySem.W.mg_of X G ac_Same, rfl⟩,
      k_Shorted := ⟨_, PySem.W.mg_of X G ac_Shorted, rfl⟩,
      w_WardError := ⟨w1_WardError, w2_WardError, w3_WardError⟩,
      su_NoBar_WardError := su_NoBar_WardError,
      su_NoMeasure_WardError := su_NoMeasure_WardError,
      su_NoRow_WardError := su_NoRow_WardError,
      su_Same_WardError := su_Same_WardError,
      ic_NoBar := ⟨i1_NoBar, i2_NoBar, i3_NoBar, i4_NoBar, i5_NoBar, i6_NoBar⟩,
      io_NoBar_NoRow := io_NoBar_NoRow,
      io_NoBar_NoMeasure := io_NoBar_NoMeasure,
      io_NoBar_NoBar := io_NoBar_NoBar,
      io_NoBar_Same := io_NoBar_Same,
      io_NoBar_NoSwitch := io_NoBar_NoSwitch,
      io_NoBar_Loaded := io_NoBar_Loaded,
      io_NoBar_Shorted := io_NoBar_Shorted,
      io_NoBar_Locked := io_NoBar_Locked,
      io_NoBar_Held := io_NoBar_Held,
      io_NoBar_NoLock := io_NoBar_NoLock,
      io_NoBar_NotOpen := io_NoBar_NotOpen,
      io_NoBar_NotLocked := io_NoBar_NotLocked,
      io_NoBar_NotEarthed := io_NoBar_NotEarthed,
      io_NoBar_NotDead := io_NoBar_NotDead,
      io_NoBar_NoPermit := io_NoBar_NoPermit,
      io_NoBar_ValueError := io_NoBar_ValueError,
      ic_NoMeasure := ⟨i1_NoMeasure, i2_NoMeasure, i3_NoMeasure, i4_NoMeasure, i5_NoMeasure, i6_NoMeasure⟩,
      io_NoMeasure_NoRow := io_NoMeasure_NoRow,
      io_NoMeasure_NoMeasure := io_NoMeasure_NoMeasure,
      io_NoMeasure_NoBar := io_NoMeasure_NoBar,
      io_NoMeasure_Same := io_NoMeasure_Same,
      io_NoMeasure_NoSwitch := io_NoMeasure_NoSwitch,
      io_NoMeasure_Loaded := io_NoMeasure_Loaded,
      io_NoMeasure_Shorted := io_NoMeasure_Shorted,
      io_NoMeasure_Locked := io_NoMeasure_Locked,
      io_NoMeasure_Held := io_NoMeasure_Held,
      io_NoMeasure_NoLock := io_NoMeasure_NoLock,
      io_NoMeasure_NotOpen := io_NoMeasure_NotOpen,
      io_NoMeasure_NotLocked := io_NoMeasure_NotLocked,
      io_NoMeasure_NotEarthed := io_NoMeasure_NotEarthed,
      io_NoMeasure_NotDead := io_NoMeasure_NotDead,
      io_NoMeasure_NoPermit := io_NoMeasure_NoPermit,
      io_NoMeasure_ValueError := io_NoMeasure_ValueError,
      ic_NoRow := ⟨i1_NoRow, i2_NoRow, i3_NoRow, i4_NoRow, i5_NoRow, i6_NoRow⟩,
      io_NoRow_NoRow := io_NoRow_NoRow,
      io_NoRow_NoMeasure := io_NoRow_NoMeasure,
      io_NoRow_NoBar := io_NoRow_NoBar,
      io_NoRow_Same := io_NoRow_Same,
      io_NoRow_NoSwitch := io_NoRow_NoSwitch,
      io_NoRow_Loaded := io_NoRow_Loaded,
      io_NoRow_Shorted := io_NoRow_Shorted,
      io_NoRow_Locked := io_NoRow_Locked,
      io_NoRow_Held := io_NoRow_Held,
      io_NoRow_NoLock := io_NoRow_NoLock,
      io_NoRow_NotOpen := io_NoRow_NotOpen,
      io_NoRow_NotLocked := io_NoRow_NotLocked,
      io_NoRow_NotEarthed := io_NoRow_NotEarthed,
      io_NoRow_NotDead := io_NoRow_NotDead,
      io_NoRow_NoPermit := io_NoRow_NoPermit,
      io_NoRow_ValueError := io_NoRow_ValueError,
      ic_Same := ⟨i1_Same, i2_Same, i3_Same, i4_Same, i5_Same, i6_Same⟩,
      io_Same_NoRow := io_Same_NoRow,
      io_Same_NoMeasure := io_Same_NoMeasure,
      io_Same_NoBar := io_Same_NoBar,
      io_Same_Same := io_Same_Same,
      io_Same_NoSwitch := io_Same_NoSwitch,
      io_Same_Loaded := io_Same_Loaded,
      io_Same_Shorted := io_Same_Shorted,
      io_Same_Locked := io_Same_Locked,
      io_Same_Held := io_Same_Held,
      io_Same_NoLock := io_Same_NoLock,
      io_Same_NotOpen := io_Same_NotOpen,
      io_Same_NotLocked := io_Same_NotLocked,
      io_Same_NotEarthed := io_Same_NotEarthed,
      io_Same_NotDead := io_Same_NotDead,
      io_Same_NoPermit := io_Same_NoPermit,
      io_Same_ValueError := io_Same_ValueError,
      d_NUMBERS_BEHIND := kdict_of dl_NUMBERS_BEHIND ds_NUMBERS_BEHIND dk_NUMBERS_BEHIND de_NUMBERS_BEHIND (by decide +kernel) }⟩
noncomputable def cmOf (t : Adr) (n : String) : Addr :=
  if n = "Held" then t.c_Held else
  if n = "Loaded" then t.c_Loaded else
  if n = "Locked" then t.c_Locked else
  if n = "NoBar" then t.c_NoBar else
  if n = "NoLock" then t.c_NoLock else
  if n = "NoMeasure" then t.c_NoMeasure else
  if n = "NoPermit" then t.c_NoPermit else
  if n = "NoRow" then t.c_NoRow else
  if n = "NoSwitch" then t.c_NoSwitch else
  if n = "NotDead" then t.c_NotDead else
  if n = "NotEarthed" then t.c_NotEarthed else
  if n = "NotLocked" then t.c_NotLocked else
  if n = "NotOpen" then t.c_NotOpen else
  if n = "Same" then t.c_Same else
  if n = "Shorted" then t.c_Shorted else
  if n = "WardError" then t.c_WardError else
  0
theorem cm_Held (t : Adr) : cmOf t "Held" = t.c_Held := by simp [cmOf]
theorem cm_Loaded (t : Adr) : cmOf t "Loaded" = t.c_Loaded := by simp [cmOf]
theorem cm_Locked (t : Adr) : cmOf t "Locked" = t.c_Locked := by simp [cmOf]
theorem cm_NoBar (t : Adr) : cmOf t "NoBar" = t.c_NoBar := by simp [cmOf]
theorem cm_NoLock (t : Adr) : cmOf t "NoLock" = t.c_NoLock := by simp [cmOf]
theorem cm_NoMeasure (t : Adr) : cmOf t "NoMeasure" = t.c_NoMeasure := by simp [cmOf]
theorem cm_NoPermit (t : Adr) : cmOf t "NoPermit" = t.c_NoPermit := by simp [cmOf]
theorem cm_NoRow (t : Adr) : cmOf t "NoRow" = t.c_NoRow := by simp [cmOf]
theorem cm_NoSwitch (t : Adr) : cmOf t "NoSwitch" = t.c_NoSwitch := by simp [cmOf]
theorem cm_NotDead (t : Adr) : cmOf t "NotDead" = t.c_NotDead := by simp [cmOf]
theorem cm_NotEarthed (t : Adr) : cmOf t "NotEarthed" = t.c_NotEarthed := by simp [cmOf]
theorem cm_NotLocked (t : Adr) : cmOf t "NotLocked" = t.c_NotLocked := by simp [cmOf]
theorem cm_NotOpen (t : Adr) : cmOf t "NotOpen" = t.c_NotOpen := by simp [cmOf]
theorem cm_Same (t : Adr) : cmOf t "Same" = t.c_Same := by simp [cmOf]
theorem cm_Shorted (t : Adr) : cmOf t "Shorted" = t.c_Shorted := by simp [cmOf]
theorem cm_WardError (t : Adr) : cmOf t "WardError" = t.c_WardError := by simp [cmOf]
noncomputable abbrev ct (P : Program) (w : World) (K : PySem.W.Frag) (t : Adr) : Ct := ⟨P, w, K, cmOf t⟩
section
variable {P : Program} {w : World} {K : PySem.W.Frag} {mg : Str → Option Value} {base : Heap} {t : Adr}
seal PE PA PS PSs
theorem sub_WardError (T : Txt P w K mg t) : SubOk (ct P w K t) t.c_WardError w_WardError := (sub_cons (by show PySem.W.mroIn K (cmOf t "NoBar") _ = _; rw [cm_NoBar t]; exact T.su_NoBar_WardError) (sub_cons (by show PySem.W.mroIn K (cmOf t "NoMeasure") _ = _; rw [cm_NoMeasure t]; exact T.su_NoMeasure_WardError) (sub_cons (by show PySem.W.mroIn K (cmOf t "NoRow") _ = _; rw [cm_NoRow t]; exact T.su_NoRow_WardError) (sub_cons (by show PySem.W.mroIn K (cmOf t "Same") _ = _; rw [cm_Same t]; exact T.su_Same_WardError) sub_nil))))
theorem isx_tab (T : Txt P w K mg t) : IsxOk (ct P w K t) x_tab := (isx_cons (by show IsiC K (cmOf t "NoBar"); rw [cm_NoBar t]; exact T.ic_NoBar) (by show PySem.W.kitOne K (.ref (cmOf t "NoBar")) (.ref (cmOf t "NoRow")) = _; rw [cm_NoBar t, cm_NoRow t]; exact T.io_NoBar_NoRow) (isx_cons (by show IsiC K (cmOf t "NoBar"); rw [cm_NoBar t]; exact T.ic_NoBar) (by show PySem.W.kitOne K (.ref (cmOf t "NoBar")) (.ref (cmOf t "NoMeasure")) = _; rw [cm_NoBar t, cm_NoMeasure t]; exact T.io_NoBar_NoMeasure) (isx_cons (by show IsiC K (cmOf t "NoBar"); rw [cm_NoBar t]; exact T.ic_NoBar) (by show PySem.W.kitOne K (.ref (cmOf t "NoBar")) (.ref (cmOf t "NoBar")) = _; rw [cm_NoBar t]; exact T.io_NoBar_NoBar) (isx_cons (by show IsiC K (cmOf t "NoBar"); rw [cm_NoBar t]; exact T.ic_NoBar) (by show PySem.W.kitOne K (.ref (cmOf t "NoBar")) (.ref (cmOf t "Same")) = _; rw [cm_NoBar t, cm_Same t]; exact T.io_NoBar_Same) (isx_cons (by show IsiC K (cmOf t "NoBar"); rw [cm_NoBar t]; exact T.ic_NoBar) (by show PySem.W.kitOne K (.ref (cmOf t "NoBar")) (.ref (cmOf t "NoSwitch")) = _; rw [cm_NoBar t, cm_NoSwitch t]; exact T.io_NoBar_NoSwitch) (isx_cons (by show IsiC K (cmOf t "NoBar"); rw [cm_NoBar t]; exact T.ic_NoBar) (by show PySem.W.kitOne K (.ref (cmOf t "NoBar")) (.ref (cmOf t "Loaded")) = _; rw [cm_NoBar t, cm_Loaded t]; exact T.io_NoBar_Loaded) (isx_cons (by show IsiC K (cmOf t "NoBar"); rw [cm_NoBar t]; exact T.ic_NoBar) (by show PySem.W.kitOne K (.ref (cmOf t "NoBar")) (.ref (cmOf t "Shorted")) = _; rw [cm_NoBar t, cm_Shorted t]; exact T.io_NoBar_Shorted) (isx_cons (by show IsiC K (cmOf t "NoBar"); rw [cm_NoBar t]; exact T.ic_NoBar) (by show PySem.W.kitOne K (.ref (cmOf t "NoBar")) (.ref (cmOf t "Locked")) = _; rw [cm_NoBar t, cm_Locked t]; exact T.io_NoBar_Locked) (isx_cons (by show IsiC K (cmOf t "NoBar"); rw [cm_NoBar t]; exact T.ic_NoBar) (by show PySem.W.kitOne K (.ref (cmOf t "NoBar")) (.ref (cmOf t "Held")) = _; rw [cm_NoBar t, cm_Held t]; exact T.io_NoBar_Held) (isx_cons (by show IsiC K (cmOf t "NoBar"); rw [cm_NoBar t]; exact T.ic_NoBar) (by show PySem.W.kitOne K (.ref (cmOf t "NoBar")) (.ref (cmOf t "NoLock")) = _; rw [cm_NoBar t, cm_NoLock t]; exact T.io_NoBar_NoLock) (isx_cons (by show IsiC K (cmOf t "NoBar"); rw [cm_NoBar t]; exact T.ic_NoBar) (by show PySem.W.kitOne K (.ref (cmOf t "NoBar")) (.ref (cmOf t "NotOpen")) = _; rw [cm_NoBar t, cm_NotOpen t]; exact T.io_NoBar_NotOpen) (isx_cons (by show IsiC K (cmOf t "NoBar"); rw [cm_NoBar t]; exact T.ic_NoBar) (by show PySem.W.kitOne K (.ref (cmOf t "NoBar")) (.ref (cmOf t "NotLocked")) = _; rw [cm_NoBar t, cm_NotLocked t]; exact T.io_NoBar_NotLocked) (isx_cons (by show IsiC K (cmOf t "NoBar"); rw [cm_NoBar t]; exact T.ic_NoBar) (by show PySem.W.kitOne K (.ref (cmOf t "NoBar")) (.ref (cmOf t "NotEarthed")) = _; rw [cm_NoBar t, cm_NotEarthed t]; exact T.io_NoBar_NotEarthed) (isx_cons (by show IsiC K (cmOf t "NoBar"); rw [cm_NoBar t]; exact T.ic_NoBar) (by show PySem.W.kitOne K (.ref (cmOf t "NoBar")) (.ref (cmOf t "NotDead")) = _; rw [cm_NoBar t, cm_NotDead t]; exact T.io_NoBar_NotDead) (isx_cons (by show IsiC K (cmOf t "NoBar"); rw [cm_NoBar t]; exact T.ic_NoBar) (by show PySem.W.kitOne K (.ref (cmOf t "NoBar")) (.ref (cmOf t "NoPermit")) = _; rw [cm_NoBar t, cm_NoPermit t]; exact T.io_NoBar_NoPermit) (isx_cons (by show IsiC K (cmOf t "NoBar"); rw [cm_NoBar t]; exact T.ic_NoBar) (by show PySem.W.kitOne K (.ref (cmOf t "NoBar")) (.type "ValueError") = _; rw [cm_NoBar t]; exact T.io_NoBar_ValueError) (isx_cons (by show IsiC K (cmOf t "NoMeasure"); rw [cm_NoMeasure t]; exact T.ic_NoMeasure) (by show PySem.W.kitOne K (.ref (cmOf t "NoMeasure")) (.ref (cmOf t "NoRow")) = _; rw [cm_NoMeasure t, cm_NoRow t]; exact T.io_NoMeasure_NoRow) (isx_cons (by show IsiC K (cmOf t "NoMeasure"); rw [cm_NoMeasure t]; exact T.ic_NoMeasure) (by show PySem.W.kitOne K (.ref (cmOf t "NoMeasure")) (.ref (cmOf t "NoMeasure")) = _; rw [cm_NoMeasure t]; exact T.io_NoMeasure_NoMeasure) (isx_cons (by show IsiC K (cmOf t "NoMeasure"); rw [cm_NoMeasure t]; exact T.ic_NoMeasure) (by show PySem.W.kitOne K (.ref (cmOf t "NoMeasure")) (.ref (cmOf t "NoBar")) = _; rw [cm_NoMeasure t, cm_NoBar t]; exact T.io_NoMeasure_NoBar) (isx_cons (by show IsiC K (cmOf t "NoMeasure"); rw [cm_NoMeasure t]; exact T.ic_NoMeasure) (by show PySem.W.kitOne K (.ref (cmOf t "NoMeasure")) (.ref (cmOf t "Same")) = _; rw [cm_NoMeasure t, cm_Same t]; exact T.io_NoMeasure_Same) (isx_cons (by show IsiC K (cmOf t "NoMeasure"); rw [cm_NoMeasure t]; exact T.ic_NoMeasure) (by show PySem.W.kitOne K (.ref (cmOf t "NoMeasure")) (.ref (cmOf t "NoSwitch")) = _; rw [cm_NoMeasure t, cm_NoSwitch t]; exact T.io_NoMeasure_NoSwitch) (isx_cons (by show IsiC K (cmOf t "NoMeasure"); rw [cm_NoMeasure t]; exact T.ic_NoMeasure) (by show PySem.W.kitOne K (.ref (cmOf t "NoMeasure")) (.ref (cmOf t "Loaded")) = _; rw [cm_NoMeasure t, cm_Loaded t]; exact T.io_NoMeasure_Loaded) (isx_cons (by show IsiC K (cmOf t "NoMeasure"); rw [cm_NoMeasure t]; exact T.ic_NoMeasure) (by show PySem.W.kitOne K (.ref (cmOf t "NoMeasure")) (.ref (cmOf t "Shorted")) = _; rw [cm_NoMeasure t, cm_Shorted t]; exact T.io_NoMeasure_Shorted) (isx_cons (by show IsiC K (cmOf t "NoMeasure"); rw [cm_NoMeasure t]; exact T.ic_NoMeasure) (by show PySem.W.kitOne K (.ref (cmOf t "NoMeasure")) (.ref (cmOf t "Locked")) = _; rw [cm_NoMeasure t, cm_Locked t]; exact T.io_NoMeasure_Locked) (isx_cons (by show IsiC K (cmOf t "NoMeasure"); rw [cm_NoMeasure t]; exact T.ic_NoMeasure) (by show PySem.W.kitOne K (.ref (cmOf t "NoMeasure")) (.ref (cmOf t "Held")) = _; rw [cm_NoMeasure t, cm_Held t]; exact T.io_NoMeasure_Held) (isx_cons (by show IsiC K (cmOf t "NoMeasure"); rw [cm_NoMeasure t]; exact T.ic_NoMeasure) (by show PySem.W.kitOne K (.ref (cmOf t "NoMeasure")) (.ref (cmOf t "NoLock")) = _; rw [cm_NoMeasure t, cm_NoLock t]; exact T.io_NoMeasure_NoLock) (isx_cons (by show IsiC K (cmOf t "NoMeasure"); rw [cm_NoMeasure t]; exact T.ic_NoMeasure) (by show PySem.W.kitOne K (.ref (cmOf t "NoMeasure")) (.ref (cmOf t "NotOpen")) = _; rw [cm_NoMeasure t, cm_NotOpen t]; exact T.io_NoMeasure_NotOpen) (isx_cons (by show IsiC K (cmOf t "NoMeasure"); rw [cm_NoMeasure t]; exact T.ic_NoMeasure) (by show PySem.W.kitOne K (.ref (cmOf t "NoMeasure")) (.ref (cmOf t "NotLocked")) = _; rw [cm_NoMeasure t, cm_NotLocked t]; exact T.io_NoMeasure_NotLocked) (isx_cons (by show IsiC K (cmOf t "NoMeasure"); rw [cm_NoMeasure t]; exact T.ic_NoMeasure) (by show PySem.W.kitOne K (.ref (cmOf t "NoMeasure")) (.ref (cmOf t "NotEarthed")) = _; rw [cm_NoMeasure t, cm_NotEarthed t]; exact T.io_NoMeasure_NotEarthed) (isx_cons (by show IsiC K (cmOf t "NoMeasure"); rw [cm_NoMeasure t]; exact T.ic_NoMeasure) (by show PySem.W.kitOne K (.ref (cmOf t "NoMeasure")) (.ref (cmOf t "NotDead")) = _; rw [cm_NoMeasure t, cm_NotDead t]; exact T.io_NoMeasure_NotDead) (isx_cons (by show IsiC K (cmOf t "NoMeasure"); rw [cm_NoMeasure t]; exact T.ic_NoMeasure) (by show PySem.W.kitOne K (.ref (cmOf t "NoMeasure")) (.ref (cmOf t "NoPermit")) = _; rw [cm_NoMeasure t, cm_NoPermit t]; exact T.io_NoMeasure_NoPermit) (isx_cons (by show IsiC K (cmOf t "NoMeasure"); rw [cm_NoMeasure t]; exact T.ic_NoMeasure) (by show PySem.W.kitOne K (.ref (cmOf t "NoMeasure")) (.type "ValueError") = _; rw [cm_NoMeasure t]; exact T.io_NoMeasure_ValueError) (isx_cons (by show IsiC K (cmOf t "NoRow"); rw [cm_NoRow t]; exact T.ic_NoRow) (by show PySem.W.kitOne K (.ref (cmOf t "NoRow")) (.ref (cmOf t "NoRow")) = _; rw [cm_NoRow t]; exact T.io_NoRow_NoRow) (isx_cons (by show IsiC K (cmOf t "NoRow"); rw [cm_NoRow t]; exact T.ic_NoRow) (by show PySem.W.kitOne K (.ref (cmOf t "NoRow")) (.ref (cmOf t "NoMeasure")) = _; rw [cm_NoRow t, cm_NoMeasure t]; exact T.io_NoRow_NoMeasure) (isx_cons (by show IsiC K (cmOf t "NoRow"); rw [cm_NoRow t]; exact T.ic_NoRow) (by show PySem.W.kitOne K (.ref (cmOf t "NoRow")) (.ref (cmOf t "NoBar")) = _; rw [cm_NoRow t, cm_NoBar t]; exact T.io_NoRow_NoBar) (isx_cons (by show IsiC K (cmOf t "NoRow"); rw [cm_NoRow t]; exact T.ic_NoRow) (by show PySem.W.kitOne K (.ref (cmOf t "NoRow")) (.ref (cmOf t "Same")) = _; rw [cm_NoRow t, cm_Same t]; exact T.io_NoRow_Same) (isx_cons (by show IsiC K (cmOf t "NoRow"); rw [cm_NoRow t]; exact T.ic_NoRow) (by show PySem.W.kitOne K (.ref (cmOf t "NoRow")) (.ref (cmOf t "NoSwitch")) = _; rw [cm_NoRow t, cm_NoSwitch t]; exact T.io_NoRow_NoSwitch) (isx_cons (by show IsiC K (cmOf t "NoRow"); rw [cm_NoRow t]; exact T.ic_NoRow) (by show PySem.W.kitOne K (.ref (cmOf t "NoRow")) (.ref (cmOf t "Loaded")) = _; rw [cm_NoRow t, cm_Loaded t]; exact T.io_NoRow_Loaded) (isx_cons (by show IsiC K (cmOf t "NoRow"); rw [cm_NoRow t]; exact T.ic_NoRow) (by show PySem.W.kitOne K (.ref (cmOf t "NoRow")) (.ref (cmOf t "Shorted")) = _; rw [cm_NoRow t, cm_Shorted t]; exact T.io_NoRow_Shorted) (isx_cons (by show IsiC K (cmOf t "NoRow"); rw [cm_NoRow t]; exact T.ic_NoRow) (by show PySem.W.kitOne K (.ref (cmOf t "NoRow")) (.ref (cmOf t "Locked")) = _; rw [cm_NoRow t, cm_Locked t]; exact T.io_NoRow_Locked) (isx_cons (by show IsiC K (cmOf t "NoRow"); rw [cm_NoRow t]; exact T.ic_NoRow) (by show PySem.W.kitOne K (.ref (cmOf t "NoRow")) (.ref (cmOf t "Held")) = _; rw [cm_NoRow t, cm_Held t]; exact T.io_NoRow_Held) (isx_cons (by show IsiC K (cmOf t "NoRow"); rw [cm_NoRow t]; exact T.ic_NoRow) (by show PySem.W.kitOne K (.ref (cmOf t "NoRow")) (.ref (cmOf t "NoLock")) = _; rw [cm_NoRow t, cm_NoLock t]; exact T.io_NoRow_NoLock) (isx_cons (by show IsiC K (cmOf t "NoRow"); rw [cm_NoRow t]; exact T.ic_NoRow) (by show PySem.W.kitOne K (.ref (cmOf t "NoRow")) (.ref (cmOf t "NotOpen")) = _; rw [cm_NoRow t, cm_NotOpen t]; exact T.io_NoRow_NotOpen) (isx_cons (by show IsiC K (cmOf t "NoRow"); rw [cm_NoRow t]; exact T.ic_NoRow) (by show PySem.W.kitOne K (.ref (cmOf t "NoRow")) (.ref (cmOf t "NotLocked")) = _; rw [cm_NoRow t, cm_NotLocked t]; exact T.io_NoRow_NotLocked) (isx_cons (by show IsiC K (cmOf t "NoRow"); rw [cm_NoRow t]; exact T.ic_NoRow) (by show PySem.W.kitOne K (.ref (cmOf t "NoRow")) (.ref (cmOf t "NotEarthed")) = _; rw [cm_NoRow t, cm_NotEarthed t]; exact T.io_NoRow_NotEarthed) (isx_cons (by show IsiC K (cmOf t "NoRow"); rw [cm_NoRow t]; exact T.ic_NoRow) (by show PySem.W.kitOne K (.ref (cmOf t "NoRow")) (.ref (cmOf t "NotDead")) = _; rw [cm_NoRow t, cm_NotDead t]; exact T.io_NoRow_NotDead) (isx_cons (by show IsiC K (cmOf t "NoRow"); rw [cm_NoRow t]; exact T.ic_NoRow) (by show PySem.W.kitOne K (.ref (cmOf t "NoRow")) (.ref (cmOf t "NoPermit")) = _; rw [cm_NoRow t, cm_NoPermit t]; exact T.io_NoRow_NoPermit) (isx_cons (by show IsiC K (cmOf t "NoRow"); rw [cm_NoRow t]; exact T.ic_NoRow) (by show PySem.W.kitOne K (.ref (cmOf t "NoRow")) (.type "ValueError") = _; rw [cm_NoRow t]; exact T.io_NoRow_ValueError) (isx_cons (by show IsiC K (cmOf t "Same"); rw [cm_Same t]; exact T.ic_Same) (by show PySem.W.kitOne K (.ref (cmOf t "Same")) (.ref (cmOf t "NoRow")) = _; rw [cm_Same t, cm_NoRow t]; exact T.io_Same_NoRow) (isx_cons (by show IsiC K (cmOf t "Same"); rw [cm_Same t]; exact T.ic_Same) (by show PySem.W.kitOne K (.ref (cmOf t "Same")) (.ref (cmOf t "NoMeasure")) = _; rw [cm_Same t, cm_NoMeasure t]; exact T.io_Same_NoMeasure) (isx_cons (by show IsiC K (cmOf t "Same"); rw [cm_Same t]; exact T.ic_Same) (by show PySem.W.kitOne K (.ref (cmOf t "Same")) (.ref (cmOf t "NoBar")) = _; rw [cm_Same t, cm_NoBar t]; exact T.io_Same_NoBar) (isx_cons (by show IsiC K (cmOf t "Same"); rw [cm_Same t]; exact T.ic_Same) (by show PySem.W.kitOne K (.ref (cmOf t "Same")) (.ref (cmOf t "Same")) = _; rw [cm_Same t]; exact T.io_Same_Same) (isx_cons (by show IsiC K (cmOf t "Same"); rw [cm_Same t]; exact T.ic_Same) (by show PySem.W.kitOne K (.ref (cmOf t "Same")) (.ref (cmOf t "NoSwitch")) = _; rw [cm_Same t, cm_NoSwitch t]; exact T.io_Same_NoSwitch) (isx_cons (by show IsiC K (cmOf t "Same"); rw [cm_Same t]; exact T.ic_Same) (by show PySem.W.kitOne K (.ref (cmOf t "Same")) (.ref (cmOf t "Loaded")) = _; rw [cm_Same t, cm_Loaded t]; exact T.io_Same_Loaded) (isx_cons (by show IsiC K (cmOf t "Same"); rw [cm_Same t]; exact T.ic_Same) (by show PySem.W.kitOne K (.ref (cmOf t "Same")) (.ref (cmOf t "Shorted")) = _; rw [cm_Same t, cm_Shorted t]; exact T.io_Same_Shorted) (isx_cons (by show IsiC K (cmOf t "Same"); rw [cm_Same t]; exact T.ic_Same) (by show PySem.W.kitOne K (.ref (cmOf t "Same")) (.ref (cmOf t "Locked")) = _; rw [cm_Same t, cm_Locked t]; exact T.io_Same_Locked) (isx_cons (by show IsiC K (cmOf t "Same"); rw [cm_Same t]; exact T.ic_Same) (by show PySem.W.kitOne K (.ref (cmOf t "Same")) (.ref (cmOf t "Held")) = _; rw [cm_Same t, cm_Held t]; exact T.io_Same_Held) (isx_cons (by show IsiC K (cmOf t "Same"); rw [cm_Same t]; exact T.ic_Same) (by show PySem.W.kitOne K (.ref (cmOf t "Same")) (.ref (cmOf t "NoLock")) = _; rw [cm_Same t, cm_NoLock t]; exact T.io_Same_NoLock) (isx_cons (by show IsiC K (cmOf t "Same"); rw [cm_Same t]; exact T.ic_Same) (by show PySem.W.kitOne K (.ref (cmOf t "Same")) (.ref (cmOf t "NotOpen")) = _; rw [cm_Same t, cm_NotOpen t]; exact T.io_Same_NotOpen) (isx_cons (by show IsiC K (cmOf t "Same"); rw [cm_Same t]; exact T.ic_Same) (by show PySem.W.kitOne K (.ref (cmOf t "Same")) (.ref (cmOf t "NotLocked")) = _; rw [cm_Same t, cm_NotLocked t]; exact T.io_Same_NotLocked) (isx_cons (by show IsiC K (cmOf t "Same"); rw [cm_Same t]; exact T.ic_Same) (by show PySem.W.kitOne K (.ref (cmOf t "Same")) (.ref (cmOf t "NotEarthed")) = _; rw [cm_Same t, cm_NotEarthed t]; exact T.io_Same_NotEarthed) (isx_cons (by show IsiC K (cmOf t "Same"); rw [cm_Same t]; exact T.ic_Same) (by show PySem.W.kitOne K (.ref (cmOf t "Same")) (.ref (cmOf t "NotDead")) = _; rw [cm_Same t, cm_NotDead t]; exact T.io_Same_NotDead) (isx_cons (by show IsiC K (cmOf t "Same"); rw [cm_Same t]; exact T.ic_Same) (by show PySem.W.kitOne K (.ref (cmOf t "Same")) (.ref (cmOf t "NoPermit")) = _; rw [cm_Same t, cm_NoPermit t]; exact T.io_Same_NoPermit) (isx_cons (by show IsiC K (cmOf t "Same"); rw [cm_Same t]; exact T.ic_Same) (by show PySem.W.kitOne K (.ref (cmOf t "Same")) (.type "ValueError") = _; rw [cm_Same t]; exact T.io_Same_ValueError) isx_nil))))))))))))))))))))))))))))))))))))))))))))))))))))))))))))))))
theorem ok__law_switch (T : Txt P w K mg t) : FnOk P w K mg base (CXE P w) 1 t.f__law_switch t.fd__law_switch ["number", "count"] (spZ (ct P w K t) z__law_switch) := by
  refine okZ (C := ct P w K t) (b := b__law_switch) T.F__law_switch sc__law_switch rfl rfl rfl (by decide) fun cdv A outer s H E hr => ?_
  have hu := hr.units
  refine ⟨_, (pss_cons (ps_set (i := 2) sc__law_switch.nd rfl (by first | exact Or.inl rfl | exact Or.inr rfl) (pe_op op_mod (pe_op op_fdiv (pv 0) pe_int) (pv 1)))
      (pss_cons (ps_if (pw_or (pt_cmpR (op_eqU hu) (pv 1) pe_int (nomark _)) (pw_or1 (pt_cmpR (op_lt) (pe_op op_mod (pv 0) pe_int) pe_int (nomark _)))).pt (pss_one (ps_ret (pe_tup (pa_cons (pe_ix (ix_K (P := P) (w := w) (K := K) rfl rfl rfl hu) (pe_lst (pa_cons pe_str (pa_cons pe_str pa_nil))) (pe_op op_mod (pv 0) pe_int) (fun _ _ => rfl)) (pa_cons (pv 2) pa_nil))))) pss_nil)
      (pss_cons (ps_set (i := 3) sc__law_switch.nd rfl (by first | exact Or.inl rfl | exact Or.inr rfl) (pe_op op_mod (pe_op (op_addK (K := K) rfl) (pe_op (op_addK (K := K) rfl) (pv 2) pe_int) (pe_op op_mod (pe_op op_fdiv (pv 0) pe_int) (pe_op op_sub (pv 1) pe_int))) (pv 1)))
      (pss_one (ps_ret (pe_tup (pa_cons (pe_ix (ix_K (P := P) (w := w) (K := K) rfl rfl rfl hu) (pe_lst (pa_cons pe_str (pa_cons pe_str pa_nil))) (pe_op op_mod (pv 0) pe_int) (fun _ _ => rfl)) (pa_cons (pv 2) (pa_cons (pv 3) pa_nil))))))))), ?_⟩
  exact (ss_seq (ss_asg (s_op s2_mod (s_op s2_div s_var s_int) s_var) sg_name)
      (ss_seq (ss_if (s_tOr (s_tTest (s_op s2_eq s_var s_int)) (s_tTest (s_op s2_lt (s_op s2_mod s_var s_int) s_int))) (ss_ret (s_tup (s_cons (s_ix (s_tree (n_disp (s_cons s_str (s_cons s_str s_nil)))) (s_op s2_mod s_var s_int)) (s_cons s_var s_nil)))) ss_next)
      (ss_seq (ss_asg (s_op s2_mod (s_op s2_add (s_op s2_add s_var s_int) (s_op s2_mod (s_op s2_div s_var s_int) (s_op s2_sub s_var s_int))) s_var) sg_name)
      (ss_ret (s_tup (s_cons (s_ix (s_tree (n_disp (s_cons s_str (s_cons s_str s_nil)))) (s_op s2_mod s_var s_int)) (s_cons s_var (s_cons s_var s_nil))))))))
theorem ok__law_cell_at (T : Txt P w K mg t) : FnOk P w K mg base (CXE P w) 1 t.f__law_cell_at t.fd__law_cell_at ["script", "k"] (spZ (ct P w K t) z__law_cell_at) := by
  refine okZ (C := ct P w K t) (b := b__law_cell_at) T.F__law_cell_at sc__law_cell_at rfl rfl rfl (by decide) fun cdv A outer s H E hr => ?_
  have hu := hr.units
  refine ⟨_, (pss_cons (ps_if (pt_cmpR (op_lt) (pv 1) (pe_callB (call_lenK (P := P) (w := w) (K := K) rfl rfl rfl) (by rfl) T.b_len bt_len (pa_cons (pv 0) pa_nil)) (nomark _)) (pss_one (ps_ret (pe_ix (ix_K (P := P) (w := w) (K := K) rfl rfl rfl hu) (pv 0) (pv 1) (fun _ _ => rfl)))) pss_nil)
      (pss_one (ps_ret pe_int))), ?_⟩
  exact (ss_seq (ss_if (s_tTest (s_op s2_lt s_var (s_cb sl_len (s_cons s_var s_nil)))) (ss_ret (s_ix s_var s_var)) ss_next)
      (ss_ret s_int))
theorem ok__law_rows (T : Txt P w K mg t) : FnOk P w K mg base (CXE P w) 2 t.f__law_rows t.fd__law_rows ["script", "at"] (spZ (ct P w K t) z__law_rows) := by
  have G__law_switch : FnG P w K mg base (CXE P w) 1 "_law_switch" (spZ (ct P w K t) z__law_switch) := ⟨_, _, _, ok__law_switch T, T.m__law_switch, T.F__law_switch.kp, T.B__law_switch⟩
  have G__law_cell_at : FnG P w K mg base (CXE P w) 1 "_law_cell_at" (spZ (ct P w K t) z__law_cell_at) := ⟨_, _, _, ok__law_cell_at T, T.m__law_cell_at, T.F__law_cell_at.kp, T.B__law_cell_at⟩
  refine okZ (C := ct P w K t) (b := b__law_rows) T.F__law_rows sc__law_rows rfl rfl rfl (by decide) fun cdv A outer s H E hr => ?_
  have hu := hr.units
  refine ⟨_, (pss_cons (ps_set (i := 2) sc__law_rows.nd rfl (by first | exact Or.inl rfl | exact Or.inr rfl) (pe_op (op_addK (K := K) rfl) pe_int (pe_op op_mod (pe_g G__law_cell_at (hr.mono (by decide)) passE (pa_cons (pv 0) (pa_cons (pv 1) pa_nil))) pe_int)))
      (pss_cons (ps_set (i := 3) sc__law_rows.nd rfl (by first | exact Or.inl rfl | exact Or.inr rfl) (pe_lst (pa_cons (pe_lst (pa_cons pe_str (pa_cons (pe_callTy (call_strU) (by rfl) T.b_str bt_str (pa_cons (pv 2) pa_nil)) pa_nil))) pa_nil)))
      (pss_cons (ps_for ownE rfl (pi_range1 rfl T.b_range (pa_cons (pe_callB (call_minU rfl) (by rfl) T.b_min bt_min (pa_cons pe_int (pa_cons (pe_callB (call_maxK (K := K) rfl rfl) (by rfl) T.b_max bt_max (pa_cons pe_int (pa_cons (pe_op op_sub (pe_op op_sub (pe_callB (call_lenK (P := P) (w := w) (K := K) rfl rfl rfl) (by rfl) T.b_len bt_len (pa_cons (pv 0) pa_nil)) (pv 1)) pe_int) pa_nil))) pa_nil))) pa_nil)) (pg_name (i := 4) sc__law_rows.nd rfl (by first | exact Or.inl rfl | exact Or.inr rfl)) (pss_cons (ps_set (i := 5) sc__law_rows.nd rfl (by first | exact Or.inl rfl | exact Or.inr rfl) (pe_g G__law_switch (hr.mono (by decide)) passE (pa_cons (pe_callB (call_sumK (K := K) rfl rfl) (by rfl) T.b_sum bt_sum (pa_cons (pe_sliceXK (K := K) rfl (pv 0) (po_some (pe_op (op_addK (K := K) rfl) (pe_op (op_addK (K := K) rfl) (pv 1) pe_int) (pv 4))) po_none (po_some pe_int)) pa_nil)) (pa_cons (pv 2) pa_nil))))
      (pss_one (ps_expr (pe_tbm (K := K) rfl (pe_bm PySem.F.plainAttrs_list PySem.F.slot_list_append PySem.F.type_list_append mt_append (pv 3) (pa_cons (pe_op (op_addK (K := K) rfl) (pe_lst (pa_cons (pe_ix (ix_K (P := P) (w := w) (K := K) rfl rfl rfl hu) (pv 5) pe_int (fun _ _ => rfl)) pa_nil)) (pe_lc (CompOk.mk (tgs := ["bar"]) (cap := []) (idx := []) rfl rfl (by decide +kernel) (by decide +kernel) (List.forall_mem_nil _) rfl .nil) rfl (pi_K (K := K) rfl (pe_slice (sl_K (K := K) rfl) (pv 5) (po_some pe_int) po_none)) (gok_name (by decide)) (fun _ _ _ _ => (pg_name (i := 0) (show List.Nodup (α := PySem.Str) ["bar"] by decide +kernel) rfl (by first | exact Or.inl rfl | exact Or.inr rfl))) (fun _ _ _ _ => pf_nil) (fun _ _ _ _ => (pe_callTy (call_strU) (by rfl) T.b_str bt_str (pa_cons (pv 0) pa_nil))))) pa_nil)))))))
      (pss_one (ps_ret (pv 3)))))), ?_⟩
  exact (ss_seq (ss_asg (s_op s2_add s_int (s_op s2_mod (s_call (s_cons s_var (s_cons s_var s_nil))) s_int)) sg_name)
      (ss_seq (ss_asg (s_cell (n_disp (s_cons (s_tree (n_disp (s_cons s_str (s_cons (s_cb sl_str (s_cons s_var s_nil)) s_nil)))) s_nil))) sg_name)
      (ss_seq (ss_for (si_rng1 (s_cons (s_cb sl_min (s_cons s_int (s_cons (s_cb sl_max (s_cons s_int (s_cons (s_op s2_sub (s_op s2_sub (s_cb sl_len (s_cons s_var s_nil)) s_var) s_int) s_nil))) s_nil))) s_nil)) sg_name (ss_seq (ss_asg (s_call (s_cons (s_cb sl_sum (s_cons (s_slX s_var (so_so (s_op s2_add (s_op s2_add s_var s_int) s_var)) so_no (so_so s_int)) s_nil)) (s_cons s_var s_nil))) sg_name)
      (ss_append s_var (s_op s2_add (s_tree (n_disp (s_cons (s_ix s_var s_int) s_nil))) (s_tree (n_comp (si_V (s_sl s_var (so_so s_int) so_no)) sg_name s_yes (s_cb sl_str (s_cons s_var s_nil))))))))
      (ss_ret s_var))))
theorem ok__law_bad_number (T : Txt P w K mg t) : FnOk P w K mg base (CXE P w) 1 t.f__law_bad_number t.fd__law_bad_number ["figures", "cell"] (spZ (ct P w K t) z__law_bad_number) := by
  refine okZ (C := ct P w K t) (b := b__law_bad_number) T.F__law_bad_number sc__law_bad_number rfl rfl rfl (by decide) fun cdv A outer s H E hr => ?_
  have hu := hr.units
  refine ⟨_, (pss_cons (ps_set (i := 2) sc__law_bad_number.nd rfl (by first | exact Or.inl rfl | exact Or.inr rfl) pe_str)
      (pss_cons (ps_set (i := 3) sc__law_bad_number.nd rfl (by first | exact Or.inl rfl | exact Or.inr rfl) (pe_op op_fdiv (pv 1) pe_int))
      (pss_cons (ps_if (pt_cmpR (op_eqU hu) (pe_op op_mod (pv 1) pe_int) pe_int (nomark _)) (pss_one (ps_ret (pe_op (op_addK (K := K) rfl) pe_str (pv 0)))) pss_nil)
      (pss_cons (ps_if (pt_cmpR (op_eqU hu) (pe_op op_mod (pv 1) pe_int) pe_int (nomark _)) (pss_one (ps_ret (pe_ix (ix_K (P := P) (w := w) (K := K) rfl rfl rfl hu) (pe_lst (pa_cons pe_str (pa_cons (pe_op (op_addK (K := K) rfl) pe_str (pv 0)) (pa_cons (pe_op (op_addK (K := K) rfl) pe_str (pv 0)) (pa_cons (pe_op (op_addK (K := K) rfl) (pv 0) pe_str) (pa_cons pe_str (pa_cons pe_str pa_nil))))))) (pe_op op_mod (pv 3) pe_int) (fun _ _ => rfl)))) pss_nil)
      (pss_cons (ps_if (pt_cmpR (op_eqU hu) (pe_op op_mod (pv 1) pe_int) pe_int (nomark _)) (pss_one (ps_ret (pe_op (op_addK (K := K) rfl) (pe_op (op_addK (K := K) rfl) pe_str (pv 0)) pe_str))) pss_nil)
      (pss_cons (ps_set (i := 4) sc__law_bad_number.nd rfl (by first | exact Or.inl rfl | exact Or.inr rfl) (pe_op op_mod (pv 3) (pe_op (op_addK (K := K) rfl) (pe_callB (call_lenK (P := P) (w := w) (K := K) rfl rfl rfl) (by rfl) T.b_len bt_len (pa_cons (pv 0) pa_nil)) pe_int)))
      (pss_one (ps_ret (pe_op (op_addK (K := K) rfl) (pe_op (op_addK (K := K) rfl) (pe_slice (sl_K (K := K) rfl) (pv 0) po_none (po_some (pv 4))) (pe_ix (ix_K (P := P) (w := w) (K := K) rfl rfl rfl hu) (pv 2) (pe_op op_mod (pe_op op_fdiv (pv 3) pe_int) pe_int) (fun _ _ => rfl))) (pe_slice (sl_K (K := K) rfl) (pv 0) (po_some (pv 4)) po_none)))))))))), ?_⟩
  exact (ss_seq (ss_asg s_str sg_name)
      (ss_seq (ss_asg (s_op s2_div s_var s_int) sg_name)
      (ss_seq (ss_if (s_tTest (s_op s2_eq (s_op s2_mod s_var s_int) s_int)) (ss_ret (s_op s2_add s_str s_var)) ss_next)
      (ss_seq (ss_if (s_tTest (s_op s2_eq (s_op s2_mod s_var s_int) s_int)) (ss_ret (s_ix (s_tree (n_disp (s_cons s_str (s_cons (s_op s2_add s_str s_var) (s_cons (s_op s2_add s_str s_var) (s_cons (s_op s2_add s_var s_str) (s_cons s_str (s_cons s_str s_nil)))))))) (s_op s2_mod s_var s_int))) ss_next)
      (ss_seq (ss_if (s_tTest (s_op s2_eq (s_op s2_mod s_var s_int) s_int)) (ss_ret (s_op s2_add (s_op s2_add s_str s_var) s_str)) ss_next)
      (ss_seq (ss_asg (s_op s2_mod s_var (s_op s2_add (s_cb sl_len (s_cons s_var s_nil)) s_int)) sg_name)
      (ss_ret (s_op s2_add (s_op s2_add (s_sl s_var so_no (so_so s_var)) (s_ix s_var (s_op s2_mod (s_op s2_div s_var s_int) s_int))) (s_sl s_var (so_so s_var) so_no)))))))))
theorem ok__law_no_form (T : Txt P w K mg t) : FnOk P w K mg base (CXE P w) 2 t.f__law_no_form t.fd__law_no_form ["words", "cell"] (spZ (ct P w K t) z__law_no_form) := by
  have G__law_bad_number : FnG P w K mg base (CXE P w) 1 "_law_bad_number" (spZ (ct P w K t) z__law_bad_number) := ⟨_, _, _, ok__law_bad_number T, T.m__law_bad_number, T.F__law_bad_number.kp, T.B__law_bad_number⟩
  refine okZ (C := ct P w K t) (b := b__law_no_form) T.F__law_no_form sc__law_no_form rfl rfl rfl (by decide) fun cdv A outer s H E hr => ?_
  have hu := hr.units
  refine ⟨_, (pss_cons (ps_set (i := 2) sc__law_no_form.nd rfl (by first | exact Or.inl rfl | exact Or.inr rfl) (pe_op op_fdiv (pv 1) pe_int))
      (pss_cons (ps_set (i := 3) sc__law_no_form.nd rfl (by first | exact Or.inl rfl | exact Or.inr rfl) (pe_lst (pa_cons pe_str (pa_cons (pe_op (op_addK (K := K) rfl) (pe_ix (ix_K (P := P) (w := w) (K := K) rfl rfl rfl hu) (pv 0) pe_int (fun _ _ => rfl)) pe_str) (pa_cons (pe_tbm0 (K := K) rfl (pe_bm0 PySem.F.plainAttrs_str PySem.F.slot_str_upper PySem.F.type_str_upper mt_upper (pe_ix (ix_K (P := P) (w := w) (K := K) rfl rfl rfl hu) (pv 0) pe_int (fun _ _ => rfl)))) (pa_cons (pe_slice (sl_K (K := K) rfl) (pe_ix (ix_K (P := P) (w := w) (K := K) rfl rfl rfl hu) (pv 0) pe_int (fun _ _ => rfl)) (po_some pe_int) po_none) (pa_cons pe_str (pa_cons (pe_op (op_addK (K := K) rfl) (pe_tbm0 (K := K) rfl (pe_bm0 PySem.F.plainAttrs_str PySem.F.slot_str_upper PySem.F.type_str_upper mt_upper (pe_slice (sl_K (K := K) rfl) (pe_ix (ix_K (P := P) (w := w) (K := K) rfl rfl rfl hu) (pv 0) pe_int (fun _ _ => rfl)) po_none (po_some pe_int)))) (pe_slice (sl_K (K := K) rfl) (pe_ix (ix_K (P := P) (w := w) (K := K) rfl rfl rfl hu) (pv 0) pe_int (fun _ _ => rfl)) (po_some pe_int) po_none)) pa_nil))))))))
      (pss_cons (ps_set (i := 3) sc__law_no_form.nd rfl (by first | exact Or.inl rfl | exact Or.inr rfl) (pe_op (op_addK (K := K) rfl) (pv 3) (pe_lst (pa_cons (pe_ix (ix_K (P := P) (w := w) (K := K) rfl rfl rfl hu) (pe_lst (pa_cons pe_str (pa_cons pe_str pa_nil))) (pe_callTy (call_intU) (by rfl) T.b_int bt_int (pa_cons (pe_cmpR (op_neU hu) (pe_ix (ix_K (P := P) (w := w) (K := K) rfl rfl rfl hu) (pv 0) pe_int (fun _ _ => rfl)) pe_str (nomark _)) pa_nil)) (fun _ _ => rfl)) (pa_cons (pe_slice (sl_K (K := K) rfl) (pe_ix (ix_K (P := P) (w := w) (K := K) rfl rfl rfl hu) (pv 0) pe_int (fun _ _ => rfl)) po_none (po_some (pe_op (op_addK (K := K) rfl) pe_int (pe_op op_mod (pe_op op_fdiv (pv 2) pe_int) (pe_op op_sub (pe_callB (call_lenK (P := P) (w := w) (K := K) rfl rfl rfl) (by rfl) T.b_len bt_len (pa_cons (pe_ix (ix_K (P := P) (w := w) (K := K) rfl rfl rfl hu) (pv 0) pe_int (fun _ _ => rfl)) pa_nil)) pe_int))))) pa_nil)))))
      (pss_cons (ps_if (pt_cmpR (op_eqU hu) (pe_op op_mod (pv 1) pe_int) pe_int (nomark _)) (pss_one (ps_ret (pe_slice (sl_K (K := K) rfl) (pv 0) po_none (po_some (pe_un un_neg pe_int))))) pss_nil)
      (pss_cons (ps_if (pt_cmpR (op_eqU hu) (pe_op op_mod (pv 1) pe_int) pe_int (nomark _)) (pss_one (ps_ret (pe_op (op_addK (K := K) rfl) (pv 0) (pe_lst (pa_cons (pe_ix (ix_K (P := P) (w := w) (K := K) rfl rfl rfl hu) (pe_lst (pa_cons pe_str (pa_cons pe_str (pa_cons pe_str pa_nil)))) (pe_op op_mod (pv 2) pe_int) (fun _ _ => rfl)) pa_nil))))) pss_nil)
      (pss_cons (ps_if (pt_cmpR (op_eqU hu) (pe_op op_mod (pv 1) pe_int) pe_int (nomark _)) (pss_one (ps_ret (pe_op (op_addK (K := K) rfl) (pe_lst (pa_cons (pe_ix (ix_K (P := P) (w := w) (K := K) rfl rfl rfl hu) (pv 3) (pe_op op_mod (pv 2) pe_int) (fun _ _ => rfl)) pa_nil)) (pe_slice (sl_K (K := K) rfl) (pv 0) (po_some pe_int) po_none)))) pss_nil)
      (pss_cons (ps_if (pt_cmpR (op_eqU hu) (pe_op op_mod (pv 1) pe_int) pe_int (nomark _)) (pss_one (ps_ret (pe_ix (ix_K (P := P) (w := w) (K := K) rfl rfl rfl hu) (pe_lst (pa_cons (pe_lst (pa_cons pe_str pa_nil)) (pa_cons (pe_op (op_addK (K := K) rfl) (pe_lst (pa_cons pe_str pa_nil)) (pv 0)) (pa_cons (pe_slice (sl_K (K := K) rfl) (pv 0) po_none (po_some pe_int)) (pa_cons (pe_op (op_addK (K := K) rfl) (pv 0) (pv 0)) pa_nil))))) (pe_op op_mod (pv 2) pe_int) (fun _ _ => rfl)))) pss_nil)
      (pss_cons (ps_set (i := 4) sc__law_no_form.nd rfl (by first | exact Or.inl rfl | exact Or.inr rfl) (pe_op (op_addK (K := K) rfl) pe_int (pe_op op_mod (pv 2) (pe_op op_sub (pe_callB (call_lenK (P := P) (w := w) (K := K) rfl rfl rfl) (by rfl) T.b_len bt_len (pa_cons (pv 0) pa_nil)) pe_int))))
      (pss_one (ps_ret (pe_op (op_addK (K := K) rfl) (pe_op (op_addK (K := K) rfl) (pe_slice (sl_K (K := K) rfl) (pv 0) po_none (po_some (pv 4))) (pe_lst (pa_cons (pe_g G__law_bad_number (hr.mono (by decide)) passE (pa_cons (pe_ix (ix_K (P := P) (w := w) (K := K) rfl rfl rfl hu) (pv 0) (pv 4) (fun _ _ => rfl)) (pa_cons (pe_op op_fdiv (pv 2) pe_int) pa_nil))) pa_nil))) (pe_slice (sl_K (K := K) rfl) (pv 0) (po_some (pe_op (op_addK (K := K) rfl) (pv 4) pe_int)) po_none)))))))))))), ?_⟩
  exact (ss_seq (ss_asg (s_op s2_div s_var s_int) sg_name)
      (ss_seq (ss_asg (s_tree (n_disp (s_cons s_str (s_cons (s_op s2_add (s_ix s_var s_int) s_str) (s_cons (s_sm0 sm_upper (s_ix s_var s_int)) (s_cons (s_sl (s_ix s_var s_int) (so_so s_int) so_no) (s_cons s_str (s_cons (s_op s2_add (s_sm0 sm_upper (s_sl (s_ix s_var s_int) so_no (so_so s_int))) (s_sl (s_ix s_var s_int) (so_so s_int) so_no)) s_nil)))))))) sg_name)
      (ss_seq (ss_asg (s_op s2_add s_var (s_tree (n_disp (s_cons (s_ix (s_tree (n_disp (s_cons s_str (s_cons s_str s_nil)))) (s_cb sl_int (s_cons (s_op s2_ne (s_ix s_var s_int) s_str) s_nil))) (s_cons (s_sl (s_ix s_var s_int) so_no (so_so (s_op s2_add s_int (s_op s2_mod (s_op s2_div s_var s_int) (s_op s2_sub (s_cb sl_len (s_cons (s_ix s_var s_int) s_nil)) s_int))))) s_nil))))) sg_name)
      (ss_seq (ss_if (s_tTest (s_op s2_eq (s_op s2_mod s_var s_int) s_int)) (ss_ret (s_sl s_var so_no (so_so (s_un s1_neg s_int)))) ss_next)
      (ss_seq (ss_if (s_tTest (s_op s2_eq (s_op s2_mod s_var s_int) s_int)) (ss_ret (s_op s2_add s_var (s_tree (n_disp (s_cons (s_ix (s_tree (n_disp (s_cons s_str (s_cons s_str (s_cons s_str s_nil))))) (s_op s2_mod s_var s_int)) s_nil))))) ss_next)
      (ss_seq (ss_if (s_tTest (s_op s2_eq (s_op s2_mod s_var s_int) s_int)) (ss_ret (s_op s2_add (s_tree (n_disp (s_cons (s_ix s_var (s_op s2_mod s_var s_int)) s_nil))) (s_sl s_var (so_so s_int) so_no))) ss_next)
      (ss_seq (ss_if (s_tTest (s_op s2_eq (s_op s2_mod s_var s_int) s_int)) (ss_ret (s_ix (s_tree (n_disp (s_cons (s_tree (n_disp (s_cons s_str s_nil))) (s_cons (s_op s2_add (s_tree (n_disp (s_cons s_str s_nil))) s_var) (s_cons (s_sl s_var so_no (so_so s_int)) (s_cons (s_op s2_add s_var s_var) s_nil)))))) (s_op s2_mod s_var s_int))) ss_next)
      (ss_seq (ss_asg (s_op s2_add s_int (s_op s2_mod s_var (s_op s2_sub (s_cb sl_len (s_cons s_var s_nil)) s_int))) sg_name)
      (ss_ret (s_op s2_add (s_op s2_add (s_sl s_var so_no (so_so s_var)) (s_tree (n_disp (s_cons (s_call (s_cons (s_ix s_var s_var) (s_cons (s_op s2_div s_var s_int) s_nil))) s_nil)))) (s_sl s_var (so_so (s_op s2_add s_var s_int)) so_no)))))))))))
theorem ok__law_wrong (T : Txt P w K mg t) : FnOk P w K mg base (CXE P w) 3 t.f__law_wrong t.fd__law_wrong ["words", "count", "due", "cell"] (spZ (ct P w K t) z__law_wrong) := by
  have G__law_no_form : FnG P w K mg base (CXE P w) 2 "_law_no_form" (spZ (ct P w K t) z__law_no_form) := ⟨_, _, _, ok__law_no_form T, T.m__law_no_form, T.F__law_no_form.kp, T.B__law_no_form⟩
  refine okZ (C := ct P w K t) (b := b__law_wrong) T.F__law_wrong sc__law_wrong rfl rfl rfl (by decide) fun cdv A outer s H E hr => ?_
  have hu := hr.units
  refine ⟨_, (pss_cons (ps_if (pw_and (pt_cmpR (op_eqU hu) (pe_ix (ix_K (P := P) (w := w) (K := K) rfl rfl rfl hu) (pv 0) pe_int (fun _ _ => rfl)) pe_str (nomark _)) (pw_and1 (pt_cmpR (op_eqU hu) (pv 2) pe_int (nomark _)))).pt (pss_one (ps_ret (pe_lst (pa_cons (pe_lst (pa_cons pe_str (pa_cons (pe_callTy (call_strU) (by rfl) T.b_str bt_str (pa_cons (pe_ix (ix_K (P := P) (w := w) (K := K) rfl rfl rfl hu) (pe_lst (pa_cons pe_int (pa_cons pe_int (pa_cons (pe_op (op_addK (K := K) rfl) pe_int (pe_op op_mod (pe_op op_fdiv (pv 3) pe_int) (pe_op op_sub (pe_op op_pow pe_int pe_int) pe_int))) pa_nil)))) (pe_op op_mod (pv 3) pe_int) (fun _ _ => rfl)) pa_nil)) pa_nil))) (pa_cons pe_int pa_nil))))) pss_nil)
      (pss_cons (ps_if (pw_and (pt_cmpR (op_neU hu) (pe_ix (ix_K (P := P) (w := w) (K := K) rfl rfl rfl hu) (pv 0) pe_int (fun _ _ => rfl)) pe_str (nomark _)) (pw_and1 (pt_cmpR (op_eqU hu) (pv 2) pe_int (nomark _)))).pt (pss_cons (ps_set (i := 4) sc__law_wrong.nd rfl (by first | exact Or.inl rfl | exact Or.inr rfl) (pe_op (op_addK (K := K) rfl) pe_int (pe_op op_mod (pv 3) (pe_op op_sub (pe_callB (call_lenK (P := P) (w := w) (K := K) rfl rfl rfl) (by rfl) T.b_len bt_len (pa_cons (pv 0) pa_nil)) pe_int))))
      (pss_cons (ps_set (i := 5) sc__law_wrong.nd rfl (by first | exact Or.inl rfl | exact Or.inr rfl) (pe_callTy (call_strU) (by rfl) T.b_str bt_str (pa_cons (pe_ix (ix_K (P := P) (w := w) (K := K) rfl rfl rfl hu) (pe_lst (pa_cons (pv 1) (pa_cons (pe_op (op_addK (K := K) rfl) (pv 1) (pe_op op_mod (pe_op op_fdiv (pv 3) pe_int) pe_int)) (pa_cons (pe_op (op_addK (K := K) rfl) (pv 1) (pe_op op_mod (pe_op op_fdiv (pv 3) pe_int) (pe_op op_sub (pe_op op_pow pe_int pe_int) (pv 1)))) pa_nil)))) (pe_op op_mod (pe_op op_fdiv (pv 3) pe_int) pe_int) (fun _ _ => rfl)) pa_nil)))
      (pss_one (ps_ret (pe_lst (pa_cons (pe_op (op_addK (K := K) rfl) (pe_op (op_addK (K := K) rfl) (pe_slice (sl_K (K := K) rfl) (pv 0) po_none (po_some (pv 4))) (pe_lst (pa_cons (pv 5) pa_nil))) (pe_slice (sl_K (K := K) rfl) (pv 0) (po_some (pe_op (op_addK (K := K) rfl) (pv 4) pe_int)) po_none)) (pa_cons pe_int pa_nil))))))) pss_nil)
      (pss_cons (ps_if (pw_and (pt_cmpR (op_eqU hu) (pe_callB (call_lenK (P := P) (w := w) (K := K) rfl rfl rfl) (by rfl) T.b_len bt_len (pa_cons (pv 0) pa_nil)) pe_int (nomark _)) (pw_and1 (pt_cmpR (op_eqU hu) (pv 2) pe_int (nomark _)))).pt (pss_one (ps_ret (pe_lst (pa_cons (pe_op (op_addK (K := K) rfl) (pe_slice (sl_K (K := K) rfl) (pv 0) po_none (po_some pe_int)) (pe_op op_mulS (pe_lst (pa_cons (pe_ix (ix_K (P := P) (w := w) (K := K) rfl rfl rfl hu) (pv 0) (pe_op (op_addK (K := K) rfl) pe_int (pe_op op_mod (pv 3) pe_int)) (fun _ _ => rfl)) pa_nil)) pe_int)) (pa_cons pe_int pa_nil))))) pss_nil)
      (pss_one (ps_ret (pe_lst (pa_cons (pe_g G__law_no_form (hr.mono (by decide)) passE (pa_cons (pv 0) (pa_cons (pv 3) pa_nil))) (pa_cons pe_int pa_nil)))))))), ?_⟩
  exact (ss_seq (ss_if (s_tAnd (s_tTest (s_op s2_eq (s_ix s_var s_int) s_str)) (s_tTest (s_op s2_eq s_var s_int))) (ss_ret (s_tree (n_disp (s_cons (s_tree (n_disp (s_cons s_str (s_cons (s_cb sl_str (s_cons (s_ix (s_tree (n_disp (s_cons s_int (s_cons s_int (s_cons (s_op s2_add s_int (s_op s2_mod (s_op s2_div s_var s_int) (s_op s2_sub (s_op s2_pow s_int s_int) s_int))) s_nil))))) (s_op s2_mod s_var s_int)) s_nil)) s_nil)))) (s_cons s_int s_nil))))) ss_next)
      (ss_seq (ss_if (s_tAnd (s_tTest (s_op s2_ne (s_ix s_var s_int) s_str)) (s_tTest (s_op s2_eq s_var s_int))) (ss_seq (ss_asg (s_op s2_add s_int (s_op s2_mod s_var (s_op s2_sub (s_cb sl_len (s_cons s_var s_nil)) s_int))) sg_name)
      (ss_seq (ss_asg (s_cb sl_str (s_cons (s_ix (s_tree (n_disp (s_cons s_var (s_cons (s_op s2_add s_var (s_op s2_mod (s_op s2_div s_var s_int) s_int)) (s_cons (s_op s2_add s_var (s_op s2_mod (s_op s2_div s_var s_int) (s_op s2_sub (s_op s2_pow s_int s_int) s_var))) s_nil))))) (s_op s2_mod (s_op s2_div s_var s_int) s_int)) s_nil)) sg_name)
      (ss_ret (s_tree (n_disp (s_cons (s_op s2_add (s_op s2_add (s_sl s_var so_no (so_so s_var)) (s_tree (n_disp (s_cons s_var s_nil)))) (s_sl s_var (so_so (s_op s2_add s_var s_int)) so_no)) (s_cons s_int s_nil))))))) ss_next)
      (ss_seq (ss_if (s_tAnd (s_tTest (s_op s2_eq (s_cb sl_len (s_cons s_var s_nil)) s_int)) (s_tTest (s_op s2_eq s_var s_int))) (ss_ret (s_tree (n_disp (s_cons (s_op s2_add (s_sl s_var so_no (so_so s_int)) (s_op s2_mul (s_tree (n_disp (s_cons (s_ix s_var (s_op s2_add s_int (s_op s2_mod s_var s_int))) s_nil))) s_int)) (s_cons s_int s_nil))))) ss_next)
      (ss_ret (s_tree (n_disp (s_cons (s_call (s_cons s_var (s_cons s_var s_nil))) (s_cons s_int s_nil))))))))
theorem ok__law_two_rows (T : Txt P w K mg t) : FnOk P w K mg base (CXE P w) 4 t.f__law_two_rows t.fd__law_two_rows ["rows", "count", "first", "second", "kind"] (spZ (ct P w K t) z__law_two_rows) := by
  have G__law_wrong : FnG P w K mg base (CXE P w) 3 "_law_wrong" (spZ (ct P w K t) z__law_wrong) := ⟨_, _, _, ok__law_wrong T, T.m__law_wrong, T.F__law_wrong.kp, T.B__law_wrong⟩
  refine okZ (C := ct P w K t) (b := b__law_two_rows) T.F__law_two_rows sc__law_two_rows rfl rfl rfl (by decide) fun cdv A outer s H E hr => ?_
  have hu := hr.units
  refine ⟨_, (pss_cons (ps_set (i := 5) sc__law_two_rows.nd rfl (by first | exact Or.inl rfl | exact Or.inr rfl) (pe_callB (call_minU rfl) (by rfl) T.b_min bt_min (pa_cons (pv 2) (pa_cons (pv 3) pa_nil))))
      (pss_cons (ps_set (i := 6) sc__law_two_rows.nd rfl (by first | exact Or.inl rfl | exact Or.inr rfl) (pe_callB (call_maxK (K := K) rfl rfl) (by rfl) T.b_max bt_max (pa_cons (pv 2) (pa_cons (pv 3) pa_nil))))
      (pss_cons (ps_asg (pe_ix (ix_K (P := P) (w := w) (K := K) rfl rfl rfl hu) (pe_g G__law_wrong (hr.mono (by decide)) passE (pa_cons (pe_ix (ix_K (P := P) (w := w) (K := K) rfl rfl rfl hu) (pv 0) (pv 6) (fun _ _ => rfl)) (pa_cons (pv 1) (pa_cons (pe_op op_mod (pe_op op_fdiv (pv 4) pe_int) pe_int) (pa_cons (pe_op (op_addK (K := K) rfl) (pe_op op_fdiv (pv 4) pe_int) (pv 2)) pa_nil))))) pe_int (fun _ _ => rfl)) (pg_sub (pv 0) (pv 6) set_list))
      (pss_cons (ps_asg (pe_g G__law_wrong (hr.mono (by decide)) passE (pa_cons (pe_ix (ix_K (P := P) (w := w) (K := K) rfl rfl rfl hu) (pv 0) (pv 5) (fun _ _ => rfl)) (pa_cons (pv 1) (pa_cons (pe_op op_mod (pv 4) pe_int) (pa_cons (pe_op op_fdiv (pv 4) pe_int) pa_nil))))) (pg_seqK (K := K) rfl (pg_seq (n := 2) rfl (pgs_cons (pg_name (i := 7) sc__law_two_rows.nd rfl (by first | exact Or.inl rfl | exact Or.inr rfl)) (pgs_cons (pg_name (i := 8) sc__law_two_rows.nd rfl (by first | exact Or.inl rfl | exact Or.inr rfl)) pgs_nil)))))
      (pss_cons (ps_asg (pv 7) (pg_sub (pv 0) (pv 5) set_list))
      (pss_one (ps_ret (pv 8)))))))), ?_⟩
  exact (ss_seq (ss_asg (s_cb sl_min (s_cons s_var (s_cons s_var s_nil))) sg_name)
      (ss_seq (ss_asg (s_cb sl_max (s_cons s_var (s_cons s_var s_nil))) sg_name)
      (ss_seq (ss_asg (s_ix (s_call (s_cons (s_ix s_var s_var) (s_cons s_var (s_cons (s_op s2_mod (s_op s2_div s_var s_int) s_int) (s_cons (s_op s2_add (s_op s2_div s_var s_int) s_var) s_nil))))) s_int) (sg_sub s_var s_var))
      (ss_seq (ss_asg (s_call (s_cons (s_ix s_var s_var) (s_cons s_var (s_cons (s_op s2_mod s_var s_int) (s_cons (s_op s2_div s_var s_int) s_nil))))) (sg_tup rfl (sgs_cons (sgs_cons sgs_nil))))
      (ss_seq (ss_asg s_var (sg_sub s_var s_var))
      (ss_ret s_var))))))
theorem ok_is_number (T : Txt P w K mg t) : FnOk P w K mg base (CXE P w) 1 t.f_is_number t.fd_is_number ["word"] (spZ (ct P w K t) z_is_number) := by
  refine okZ (C := ct P w K t) (b := b_is_number) T.F_is_number sc_is_number rfl rfl rfl (by decide) fun cdv A outer s H E hr => ?_
  have hu := hr.units
  refine ⟨_, (pss_cons (ps_if (pt_not (pt_chain (op_le) (op_le) pe_int (pe_callB (call_lenK (P := P) (w := w) (K := K) rfl rfl rfl) (by rfl) T.b_len bt_len (pa_cons (pv 0) pa_nil)) (pe_gl T.c_MOST_FIGURES))) (pss_one (ps_ret pe_bl)) pss_nil)
      (pss_cons (ps_if (pw_and (pt_cmpR (op_eqU hu) (pe_ix (ix_K (P := P) (w := w) (K := K) rfl rfl rfl hu) (pv 0) pe_int (fun _ _ => rfl)) pe_str (nomark _)) (pw_and1 (pt_cmpR (op_gt) (pe_callB (call_lenK (P := P) (w := w) (K := K) rfl rfl rfl) (by rfl) T.b_len bt_len (pa_cons (pv 0) pa_nil)) pe_int (nomark _)))).pt (pss_one (ps_ret pe_bl)) pss_nil)
      (pss_one (ps_ret (pe_callB (call_allK (K := K) rfl rfl) (by rfl) T.b_all bt_all (pa_cons (pe_lc (CompOk.mk (tgs := ["sign"]) (cap := []) (idx := []) rfl rfl (by decide +kernel) (by decide +kernel) (List.forall_mem_nil _) rfl .nil) rfl (pi_K (K := K) rfl (pv 0)) (gok_name (by decide)) (fun _ _ _ _ => (pg_name (i := 0) (show List.Nodup (α := PySem.Str) ["sign"] by decide +kernel) rfl (by first | exact Or.inl rfl | exact Or.inr rfl))) (fun _ _ _ _ => pf_nil) (fun _ _ _ _ => (pe_cmpR (op_inK (P := P) (w := w) (K := K) rfl rfl rfl hu) (pv 0) (pe_gl T.c_FIGURES) (by with_unfolding_all rfl)))) pa_nil)))))), ?_⟩
  exact (ss_seq (ss_if (s_tNot (s_tTest (s_chain s2_le s2_le s_int (s_cb sl_len (s_cons s_var s_nil)) s_int))) (ss_ret s_bl) ss_next)
      (ss_seq (ss_if (s_tAnd (s_tTest (s_op s2_eq (s_ix s_var s_int) s_str)) (s_tTest (s_op s2_gt (s_cb sl_len (s_cons s_var s_nil)) s_int))) (ss_ret s_bl) ss_next)
      (ss_ret (s_cb sl_all (s_cons (s_tree (n_comp (si_V s_var) sg_name s_yes (s_op s2_in s_var s_str))) s_nil)))))
theorem ok_numbers_told (T : Txt P w K mg t) : FnOk P w K mg base (CXE P w) 2 t.f_numbers_told t.fd_numbers_told ["words"] (spZ (ct P w K t) z_numbers_told) := by
  have G_is_number : FnG P w K mg base (CXE P w) 1 "is_number" (spZ (ct P w K t) z_is_number) := ⟨_, _, _, ok_is_number T, T.m_is_number, T.F_is_number.kp, T.B_is_number⟩
  refine okZ (C := ct P w K t) (b := b_numbers_told) T.F_numbers_told sc_numbers_told rfl rfl rfl (by decide) fun cdv A outer s H E hr => ?_
  have hu := hr.units
  refine ⟨_, (pss_cons (ps_if (pt_not (pt_truthK (K := K) rfl (pe_callB (call_allK (K := K) rfl rfl) (by rfl) T.b_all bt_all (pa_cons (pe_lc (CompOk.mk (tgs := ["word"]) (cap := []) (idx := []) rfl rfl (by decide +kernel) (by decide +kernel) (List.forall_mem_nil _) rfl .nil) rfl (pi_K (K := K) rfl (pv 0)) (gok_name (by decide)) (fun _ _ _ _ => (pg_name (i := 0) (show List.Nodup (α := PySem.Str) ["word"] by decide +kernel) rfl (by first | exact Or.inl rfl | exact Or.inr rfl))) (fun _ _ _ _ => pf_nil) (fun _ _ _ _ => (pe_g G_is_number (hr.mono (by decide)) passE0 (pa_cons (pv 0) pa_nil)))) pa_nil)) (fun _ => rfl))) (pss_one (ps_raise T.x_NoRow pe_str (hr.mono (Nat.zero_le _)))) pss_nil)
      (pss_one (ps_ret (pe_lc (CompOk.mk (tgs := ["word"]) (cap := []) (idx := []) rfl rfl (by decide +kernel) (by decide +kernel) (List.forall_mem_nil _) rfl .nil) rfl (pi_K (K := K) rfl (pv 0)) (gok_name (by decide)) (fun _ _ _ _ => (pg_name (i := 0) (show List.Nodup (α := PySem.Str) ["word"] by decide +kernel) rfl (by first | exact Or.inl rfl | exact Or.inr rfl))) (fun _ _ _ _ => pf_nil) (fun _ _ _ _ => (pe_callTy (call_intU) (by rfl) T.b_int bt_int (pa_cons (pv 0) pa_nil))))))), ?_⟩
  exact (ss_seq (ss_if (s_tNot (s_truth (s_cb sl_all (s_cons (s_tree (n_comp (si_V s_var) sg_name s_yes (s_call (s_cons s_var s_nil)))) s_nil)))) (ss_raise (cm_NoRow t) s_str) ss_next)
      (ss_ret (s_tree (n_comp (si_V s_var) sg_name s_yes (s_cb sl_int (s_cons s_var s_nil))))))
theorem ok_parted (T : Txt P w K mg t) : FnOk P w K mg base (CXE P w) 3 t.f_parted t.fd_parted ["row"] (spZ (ct P w K t) z_parted) := by
  have G_numbers_told : FnG P w K mg base (CXE P w) 2 "numbers_told" (spZ (ct P w K t) z_numbers_told) := ⟨_, _, _, ok_numbers_told T, T.m_numbers_told, T.F_numbers_told.kp, T.B_numbers_told⟩
  refine okZ (C := ct P w K t) (b := b_parted) T.F_parted sc_parted rfl rfl rfl (by decide) fun cdv A outer s H E hr => ?_
  have hu := hr.units
  refine ⟨_, (pss_cons (ps_set (i := 1) sc_parted.nd rfl (by first | exact Or.inl rfl | exact Or.inr rfl) (pe_tbm (K := K) rfl (pe_bm PySem.F.plainAttrs_str PySem.F.slot_str_split PySem.F.type_str_split mt_split (pv 0) (pa_cons pe_str pa_nil))))
      (pss_cons (ps_set (i := 2) sc_parted.nd rfl (by first | exact Or.inl rfl | exact Or.inr rfl) (pe_ix (ix_K (P := P) (w := w) (K := K) rfl rfl rfl hu) (pv 1) pe_int (fun _ _ => rfl)))
      (pss_cons (ps_if (pw_or (pt_cmpR (op_notInK (P := P) (w := w) (K := K) rfl rfl rfl hu) (pv 2) (pe_gl T.c_NUMBERS_BEHIND) (by with_unfolding_all rfl)) (pw_or1 (pt_cmpR (op_neU hu) (pe_callB (call_lenK (P := P) (w := w) (K := K) rfl rfl rfl) (by rfl) T.b_len bt_len (pa_cons (pv 1) pa_nil)) (pe_op (op_addK (K := K) rfl) pe_int (pe_ix (ix_K (P := P) (w := w) (K := K) rfl rfl rfl hu) (pe_gl T.c_NUMBERS_BEHIND) (pv 2) (fun _ _ => rfl))) (nomark _)))).pt (pss_one (ps_raise T.x_NoRow pe_str (hr.mono (Nat.zero_le _)))) pss_nil)
      (pss_one (ps_ret (pe_callTy (call_tupleK (K := K) rfl) (by rfl) T.b_tuple bt_tuple (pa_cons (pe_op (op_addK (K := K) rfl) (pe_lst (pa_cons (pv 2) pa_nil)) (pe_g G_numbers_told (hr.mono (by decide)) passE (pa_cons (pe_slice (sl_K (K := K) rfl) (pv 1) (po_some pe_int) po_none) pa_nil))) pa_nil))))))), ?_⟩
  exact (ss_seq (ss_asg (s_tree (n_split s_var (s_cons s_str s_nil))) sg_name)
      (ss_seq (ss_asg (s_ix s_var s_int) sg_name)
      (ss_seq (ss_if (s_tOr (s_tTest (s_op s2_in s_var (s_c fun _ _ => by unfold v_NUMBERS_BEHIND; simp only [RV]; exact ⟨_, _, rfl, T.d_NUMBERS_BEHIND, rfl⟩))) (s_tTest (s_op s2_ne (s_cb sl_len (s_cons s_var s_nil)) (s_op s2_add s_int (s_ix (s_c fun _ _ => by unfold v_NUMBERS_BEHIND; simp only [RV]; exact ⟨_, _, rfl, T.d_NUMBERS_BEHIND, rfl⟩) s_var))))) (ss_raise (cm_NoRow t) s_str) ss_next)
      (ss_ret (s_cb sl_tuple (s_cons (s_op s2_add (s_tree (n_disp (s_cons s_var s_nil))) (s_call (s_cons (s_sl s_var (so_so s_int) so_no) s_nil))) s_nil))))))
theorem ok_count_in (T : Txt P w K mg t) : FnOk P w K mg base (CXE P w) 4 t.f_count_in t.fd_count_in ["row"] (spZ (ct P w K t) z_count_in) := by
  have G_parted : FnG P w K mg base (CXE P w) 3 "parted" (spZ (ct P w K t) z_parted) := ⟨_, _, _, ok_parted T, T.m_parted, T.F_parted.kp, T.B_parted⟩
  refine okZ (C := ct P w K t) (b := b_count_in) T.F_count_in sc_count_in rfl rfl rfl (by decide) fun cdv A outer s H E hr => ?_
  have hu := hr.units
  refine ⟨_, (pss_cons (ps_set (i := 1) sc_count_in.nd rfl (by first | exact Or.inl rfl | exact Or.inr rfl) (pe_g G_parted (hr.mono (by decide)) passE (pa_cons (pv 0) pa_nil)))
      (pss_cons (ps_if (pt_cmpR (op_neU hu) (pe_ix (ix_K (P := P) (w := w) (K := K) rfl rfl rfl hu) (pv 1) pe_int (fun _ _ => rfl)) pe_str (nomark _)) (pss_one (ps_raise T.x_NoRow pe_str (hr.mono (Nat.zero_le _)))) pss_nil)
      (pss_cons (ps_if (pt_not (pt_chain (op_le) (op_le) pe_int (pe_ix (ix_K (P := P) (w := w) (K := K) rfl rfl rfl hu) (pv 1) pe_int (fun _ _ => rfl)) (pe_gl T.c_MOST_BARS))) (pss_one (ps_raise T.x_NoMeasure pe_str (hr.mono (Nat.zero_le _)))) pss_nil)
      (pss_one (ps_ret (pe_ix (ix_K (P := P) (w := w) (K := K) rfl rfl rfl hu) (pv 1) pe_int (fun _ _ => rfl))))))), ?_⟩
  exact (ss_seq (ss_asg (s_call (s_cons s_var s_nil)) sg_name)
      (ss_seq (ss_if (s_tTest (s_op s2_ne (s_ix s_var s_int) s_str)) (ss_raise (cm_NoRow t) s_str) ss_next)
      (ss_seq (ss_if (s_tNot (s_tTest (s_chain s2_le s2_le s_int (s_ix s_var s_int) s_int))) (ss_raise (cm_NoMeasure t) s_str) ss_next)
      (ss_ret (s_ix s_var s_int)))))
theorem ok_switch_in (T : Txt P w K mg t) : FnOk P w K mg base (CXE P w) 4 t.f_switch_in t.fd_switch_in ["row", "bars", "switches_ahead"] (spZ (ct P w K t) z_switch_in) := by
  have G_parted : FnG P w K mg base (CXE P w) 3 "parted" (spZ (ct P w K t) z_parted) := ⟨_, _, _, ok_parted T, T.m_parted, T.F_parted.kp, T.B_parted⟩
  refine okZ (C := ct P w K t) (b := b_switch_in) T.F_switch_in sc_switch_in rfl rfl rfl (by decide) fun cdv A outer s H E hr => ?_
  have hu := hr.units
  refine ⟨_, (pss_cons (ps_set (i := 3) sc_switch_in.nd rfl (by first | exact Or.inl rfl | exact Or.inr rfl) (pe_g G_parted (hr.mono (by decide)) passE (pa_cons (pv 0) pa_nil)))
      (pss_cons (ps_if (pt_cmpR (op_eqU hu) (pe_ix (ix_K (P := P) (w := w) (K := K) rfl rfl rfl hu) (pv 3) pe_int (fun _ _ => rfl)) pe_str (nomark _)) (pss_one (ps_raise T.x_NoRow pe_str (hr.mono (Nat.zero_le _)))) pss_nil)
      (pss_cons (ps_if (pt_cmpR (op_ge) (pv 2) (pe_gl T.c_MOST_SWITCHES) (nomark _)) (pss_one (ps_raise T.x_NoRow pe_str (hr.mono (Nat.zero_le _)))) pss_nil)
      (pss_cons (ps_if (pt_cmpR (op_ge) (pe_callB (call_maxK (K := K) rfl rfl) (by rfl) T.b_max bt_max (pa_cons (pe_slice (sl_K (K := K) rfl) (pv 3) (po_some pe_int) po_none) pa_nil)) (pv 1) (nomark _)) (pss_one (ps_raise T.x_NoBar pe_str (hr.mono (Nat.zero_le _)))) pss_nil)
      (pss_cons (ps_if (pw_and (pt_cmpR (op_eqU hu) (pe_callB (call_lenK (P := P) (w := w) (K := K) rfl rfl rfl) (by rfl) T.b_len bt_len (pa_cons (pv 3) pa_nil)) pe_int (nomark _)) (pw_and1 (pt_cmpR (op_eqU hu) (pe_ix (ix_K (P := P) (w := w) (K := K) rfl rfl rfl hu) (pv 3) pe_int (fun _ _ => rfl)) (pe_ix (ix_K (P := P) (w := w) (K := K) rfl rfl rfl hu) (pv 3) pe_int (fun _ _ => rfl)) (nomark _)))).pt (pss_one (ps_raise T.x_Same pe_str (hr.mono (Nat.zero_le _)))) pss_nil)
      (pss_one (ps_ret (pv 3)))))))), ?_⟩
  exact (ss_seq (ss_asg (s_call (s_cons s_var s_nil)) sg_name)
      (ss_seq (ss_if (s_tTest (s_op s2_eq (s_ix s_var s_int) s_str)) (ss_raise (cm_NoRow t) s_str) ss_next)
      (ss_seq (ss_if (s_tTest (s_op s2_ge s_var s_int)) (ss_raise (cm_NoRow t) s_str) ss_next)
      (ss_seq (ss_if (s_tTest (s_op s2_ge (s_cb sl_max (s_cons (s_sl s_var (so_so s_int) so_no) s_nil)) s_var)) (ss_raise (cm_NoBar t) s_str) ss_next)
      (ss_seq (ss_if (s_tAnd (s_tTest (s_op s2_eq (s_cb sl_len (s_cons s_var s_nil)) s_int)) (s_tTest (s_op s2_eq (s_ix s_var s_int) (s_ix s_var s_int)))) (ss_raise (cm_Same t) s_str) ss_next)
      (ss_ret s_var))))))
theorem ok_read (T : Txt P w K mg t) : FnOk P w K mg base (CXE P w) 5 t.f_read t.fd_read ["text"] (spZ (ct P w K t) z_read) := by
  have G_count_in : FnG P w K mg base (CXE P w) 4 "count_in" (spZ (ct P w K t) z_count_in) := ⟨_, _, _, ok_count_in T, T.m_count_in, T.F_count_in.kp, T.B_count_in⟩
  have G_switch_in : FnG P w K mg base (CXE P w) 4 "switch_in" (spZ (ct P w K t) z_switch_in) := ⟨_, _, _, ok_switch_in T, T.m_switch_in, T.F_switch_in.kp, T.B_switch_in⟩
  refine okZ (C := ct P w K t) (b := b_read) T.F_read sc_read rfl rfl rfl (by decide) fun cdv A outer s H E hr => ?_
  have hu := hr.units
  refine ⟨_, (pss_cons (ps_set (i := 1) sc_read.nd rfl (by first | exact Or.inl rfl | exact Or.inr rfl) (pe_tbm (K := K) rfl (pe_bm PySem.F.plainAttrs_str PySem.F.slot_str_split PySem.F.type_str_split mt_split (pv 0) (pa_cons pe_str pa_nil))))
      (pss_cons (ps_set (i := 2) sc_read.nd rfl (by first | exact Or.inl rfl | exact Or.inr rfl) (pe_g G_count_in (hr.mono (by decide)) passE (pa_cons (pe_ix (ix_K (P := P) (w := w) (K := K) rfl rfl rfl hu) (pv 1) pe_int (fun _ _ => rfl)) pa_nil)))
      (pss_cons (ps_set (i := 3) sc_read.nd rfl (by first | exact Or.inl rfl | exact Or.inr rfl) (pe_lst pa_nil))
      (pss_cons (ps_for ownE rfl (pi_K (K := K) rfl (pe_slice (sl_K (K := K) rfl) (pv 1) (po_some pe_int) po_none)) (pg_name (i := 4) sc_read.nd rfl (by first | exact Or.inl rfl | exact Or.inr rfl)) (pss_one (ps_expr (pe_tbm (K := K) rfl (pe_bm PySem.F.plainAttrs_list PySem.F.slot_list_append PySem.F.type_list_append mt_append (pv 3) (pa_cons (pe_g G_switch_in (hr.mono (by decide)) passE (pa_cons (pv 4) (pa_cons (pv 2) (pa_cons (pe_callB (call_lenK (P := P) (w := w) (K := K) rfl rfl rfl) (by rfl) T.b_len bt_len (pa_cons (pv 3) pa_nil)) pa_nil)))) pa_nil))))))
      (pss_one (ps_ret (pe_tup (pa_cons (pv 2) (pa_cons (pv 3) pa_nil))))))))), ?_⟩
  exact (ss_seq (ss_asg (s_tree (n_split s_var (s_cons s_str s_nil))) sg_name)
      (ss_seq (ss_asg (s_call (s_cons (s_ix s_var s_int) s_nil)) sg_name)
      (ss_seq (ss_asg (s_cell (n_disp s_nil)) sg_name)
      (ss_seq (ss_for (si_V (s_sl s_var (so_so s_int) so_no)) sg_name (ss_append s_var (s_call (s_cons s_var (s_cons s_var (s_cons (s_cb sl_len (s_cons s_var s_nil)) s_nil))))))
      (ss_freeze (i := 3) (ss_ret (s_tup (s_cons s_var (s_cons s_var s_nil)))))))))
theorem ok__law_refusal (T : Txt P w K mg t) : FnOk P w K mg base (CXE P w) 6 t.f__law_refusal t.fd__law_refusal ["rows"] (spZ (ct P w K t) z__law_refusal) := by
  have G_read : FnG P w K mg base (CXE P w) 5 "read" (spZ (ct P w K t) z_read) := ⟨_, _, _, ok_read T, T.m_read, T.F_read.kp, T.B_read⟩
  refine okZ (C := ct P w K t) (b := b__law_refusal) T.F__law_refusal sc__law_refusal rfl rfl rfl (by decide) fun cdv A outer s H E hr => ?_
  have hu := hr.units
  refine ⟨_, (pss_cons (ps_set (i := 1) sc__law_refusal.nd rfl (by first | exact Or.inl rfl | exact Or.inr rfl) (pe_lst pa_nil))
      (pss_cons (ps_set (i := 2) sc__law_refusal.nd rfl (by first | exact Or.inl rfl | exact Or.inr rfl) (pe_lst pa_nil))
      (pss_cons (ps_try rfl rfl (psxs_cons (psx_expr (pex_g G_read (hr.mono (by decide)) (pa_cons (pe_tbm (K := K) rfl (pe_bm PySem.F.plainAttrs_str PySem.F.slot_str_join PySem.F.type_str_join (mt_joinK (K := K) rfl) pe_str (pa_cons (pe_lc (CompOk.mk (tgs := ["words"]) (cap := []) (idx := []) rfl rfl (by decide +kernel) (by decide +kernel) (List.forall_mem_nil _) rfl .nil) rfl (pi_K (K := K) rfl (pv 0)) (gok_name (by decide)) (fun _ _ _ _ => (pg_name (i := 0) (show List.Nodup (α := PySem.Str) ["words"] by decide +kernel) rfl (by first | exact Or.inl rfl | exact Or.inr rfl))) (fun _ _ _ _ => pf_nil) (fun _ _ _ _ => (pe_tbm (K := K) rfl (pe_bm PySem.F.plainAttrs_str PySem.F.slot_str_join PySem.F.type_str_join (mt_joinK (K := K) rfl) pe_str (pa_cons (pv 0) pa_nil))))) pa_nil))) pa_nil))) psxs_nil) (ph_asK (K := K) rfl (ph_as (i := 3) rfl sc__law_refusal.nd rfl rfl rfl T.x_WardError.mg_ T.w_WardError (fun ea => (pss_cons (ps_set (i := 1) sc__law_refusal.nd rfl (by first | exact Or.inl rfl | exact Or.inr rfl) (pe_lst (pa_cons (pe_callB (call_isxK (K := K) rfl) (by rfl) T.b_isinstance bt_isinstance (pa_cons (pv 3) (pa_cons (pe_gl T.k_NoRow) pa_nil))) (pa_cons (pe_callB (call_isxK (K := K) rfl) (by rfl) T.b_isinstance bt_isinstance (pa_cons (pv 3) (pa_cons (pe_gl T.k_NoMeasure) pa_nil))) (pa_cons (pe_callB (call_isxK (K := K) rfl) (by rfl) T.b_isinstance bt_isinstance (pa_cons (pv 3) (pa_cons (pe_gl T.k_NoBar) pa_nil))) (pa_cons (pe_callB (call_isxK (K := K) rfl) (by rfl) T.b_isinstance bt_isinstance (pa_cons (pv 3) (pa_cons (pe_gl T.k_Same) pa_nil))) pa_nil))))))
      (pss_cons (ps_set (i := 2) sc__law_refusal.nd rfl (by first | exact Or.inl rfl | exact Or.inr rfl) (pe_lst (pa_cons (pe_callB (call_isxK (K := K) rfl) (by rfl) T.b_isinstance bt_isinstance (pa_cons (pv 3) (pa_cons (pe_gl T.k_NoSwitch) pa_nil))) (pa_cons (pe_callB (call_isxK (K := K) rfl) (by rfl) T.b_isinstance bt_isinstance (pa_cons (pv 3) (pa_cons (pe_gl T.k_Loaded) pa_nil))) (pa_cons (pe_callB (call_isxK (K := K) rfl) (by rfl) T.b_isinstance bt_isinstance (pa_cons (pv 3) (pa_cons (pe_gl T.k_Shorted) pa_nil))) (pa_cons (pe_callB (call_isxK (K := K) rfl) (by rfl) T.b_isinstance bt_isinstance (pa_cons (pv 3) (pa_cons (pe_gl T.k_Locked) pa_nil))) pa_nil))))))
      (pss_cons (ps_set (i := 2) sc__law_refusal.nd rfl (by first | exact Or.inl rfl | exact Or.inr rfl) (pe_op (op_addK (K := K) rfl) (pv 2) (pe_lst (pa_cons (pe_callB (call_isxK (K := K) rfl) (by rfl) T.b_isinstance bt_isinstance (pa_cons (pv 3) (pa_cons (pe_gl T.k_Held) pa_nil))) (pa_cons (pe_callB (call_isxK (K := K) rfl) (by rfl) T.b_isinstance bt_isinstance (pa_cons (pv 3) (pa_cons (pe_gl T.k_NoLock) pa_nil))) (pa_cons (pe_callB (call_isxK (K := K) rfl) (by rfl) T.b_isinstance bt_isinstance (pa_cons (pv 3) (pa_cons (pe_gl T.k_NotOpen) pa_nil))) pa_nil))))))
      (pss_cons (ps_set (i := 2) sc__law_refusal.nd rfl (by first | exact Or.inl rfl | exact Or.inr rfl) (pe_op (op_addK (K := K) rfl) (pv 2) (pe_lst (pa_cons (pe_callB (call_isxK (K := K) rfl) (by rfl) T.b_isinstance bt_isinstance (pa_cons (pv 3) (pa_cons (pe_gl T.k_NotLocked) pa_nil))) (pa_cons (pe_callB (call_isxK (K := K) rfl) (by rfl) T.b_isinstance bt_isinstance (pa_cons (pv 3) (pa_cons (pe_gl T.k_NotEarthed) pa_nil))) (pa_cons (pe_callB (call_isxK (K := K) rfl) (by rfl) T.b_isinstance bt_isinstance (pa_cons (pv 3) (pa_cons (pe_gl T.k_NotDead) pa_nil))) pa_nil))))))
      (pss_one (ps_set (i := 2) sc__law_refusal.nd rfl (by first | exact Or.inl rfl | exact Or.inr rfl) (pe_op (op_addK (K := K) rfl) (pv 2) (pe_lst (pa_cons (pe_callB (call_isxK (K := K) rfl) (by rfl) T.b_isinstance bt_isinstance (pa_cons (pv 3) (pa_cons (pe_gl T.k_NoPermit) pa_nil))) (pa_cons (pe_notK (K := K) rfl (pe_callB (call_isxK (K := K) rfl) (by rfl) T.b_isinstance bt_isinstance (pa_cons (pv 3) (pa_cons (pe_ty T.b_ValueError bt_ValueError) pa_nil)))) pa_nil))))))))))) ph_nil)))
      (pss_one (ps_ret (pe_op (op_addK (K := K) rfl) (pv 1) (pv 2))))))), ?_⟩
  exact (ss_seq (ss_asg (s_tree (n_disp s_nil)) sg_name)
      (ss_seq (ss_asg (s_tree (n_disp s_nil)) sg_name)
      (ss_seq (ss_try (sx_one (sx_drop (sxe_call (s_cons (s_sm sm_join s_str (s_cons (s_tree (n_comp (si_V s_var) sg_name s_yes (s_sm sm_join s_str (s_cons s_var s_nil)))) s_nil)) s_nil)))) (sh_as (i := 3) (sub_WardError T) (ss_seq (ss_asg (s_tree (n_disp (s_cons (s_cb (sl_isx (isx_tab T)) (s_cons s_var (s_cons (s_c fun _ _ => by simp only [RV]; exact (congrArg V.ref (cm_NoRow t)).symm) s_nil))) (s_cons (s_cb (sl_isx (isx_tab T)) (s_cons s_var (s_cons (s_c fun _ _ => by simp only [RV]; exact (congrArg V.ref (cm_NoMeasure t)).symm) s_nil))) (s_cons (s_cb (sl_isx (isx_tab T)) (s_cons s_var (s_cons (s_c fun _ _ => by simp only [RV]; exact (congrArg V.ref (cm_NoBar t)).symm) s_nil))) (s_cons (s_cb (sl_isx (isx_tab T)) (s_cons s_var (s_cons (s_c fun _ _ => by simp only [RV]; exact (congrArg V.ref (cm_Same t)).symm) s_nil))) s_nil)))))) sg_name)
      (ss_seq (ss_asg (s_tree (n_disp (s_cons (s_cb (sl_isx (isx_tab T)) (s_cons s_var (s_cons (s_c fun _ _ => by simp only [RV]; exact (congrArg V.ref (cm_NoSwitch t)).symm) s_nil))) (s_cons (s_cb (sl_isx (isx_tab T)) (s_cons s_var (s_cons (s_c fun _ _ => by simp only [RV]; exact (congrArg V.ref (cm_Loaded t)).symm) s_nil))) (s_cons (s_cb (sl_isx (isx_tab T)) (s_cons s_var (s_cons (s_c fun _ _ => by simp only [RV]; exact (congrArg V.ref (cm_Shorted t)).symm) s_nil))) (s_cons (s_cb (sl_isx (isx_tab T)) (s_cons s_var (s_cons (s_c fun _ _ => by simp only [RV]; exact (congrArg V.ref (cm_Locked t)).symm) s_nil))) s_nil)))))) sg_name)
      (ss_seq (ss_asg (s_op s2_add s_var (s_tree (n_disp (s_cons (s_cb (sl_isx (isx_tab T)) (s_cons s_var (s_cons (s_c fun _ _ => by simp only [RV]; exact (congrArg V.ref (cm_Held t)).symm) s_nil))) (s_cons (s_cb (sl_isx (isx_tab T)) (s_cons s_var (s_cons (s_c fun _ _ => by simp only [RV]; exact (congrArg V.ref (cm_NoLock t)).symm) s_nil))) (s_cons (s_cb (sl_isx (isx_tab T)) (s_cons s_var (s_cons (s_c fun _ _ => by simp only [RV]; exact (congrArg V.ref (cm_NotOpen t)).symm) s_nil))) s_nil)))))) sg_name)
      (ss_seq (ss_asg (s_op s2_add s_var (s_tree (n_disp (s_cons (s_cb (sl_isx (isx_tab T)) (s_cons s_var (s_cons (s_c fun _ _ => by simp only [RV]; exact (congrArg V.ref (cm_NotLocked t)).symm) s_nil))) (s_cons (s_cb (sl_isx (isx_tab T)) (s_cons s_var (s_cons (s_c fun _ _ => by simp only [RV]; exact (congrArg V.ref (cm_NotEarthed t)).symm) s_nil))) (s_cons (s_cb (sl_isx (isx_tab T)) (s_cons s_var (s_cons (s_c fun _ _ => by simp only [RV]; exact (congrArg V.ref (cm_NotDead t)).symm) s_nil))) s_nil)))))) sg_name)
      (ss_asg (s_op s2_add s_var (s_tree (n_disp (s_cons (s_cb (sl_isx (isx_tab T)) (s_cons s_var (s_cons (s_c fun _ _ => by simp only [RV]; exact (congrArg V.ref (cm_NoPermit t)).symm) s_nil))) (s_cons (s_notT (s_cb (sl_isx (isx_tab T)) (s_cons s_var (s_cons s_ty s_nil)))) s_nil))))) sg_name))))) (fun c => sh_nil)))
      (ss_ret (s_op s2_add s_var s_var)))))
theorem ok__law_one_bar (T : Txt P w K mg t) : FnOk P w K mg base (CXE P w) 7 t.f__law_one_bar t.fd__law_one_bar ["kind"] (spZ (ct P w K t) z__law_one_bar) := by
  have G__law_refusal : FnG P w K mg base (CXE P w) 6 "_law_refusal" (spZ (ct P w K t) z__law_refusal) := ⟨_, _, _, ok__law_refusal T, T.m__law_refusal, T.F__law_refusal.kp, T.B__law_refusal⟩
  refine okZ (C := ct P w K t) (b := b__law_one_bar) T.F__law_one_bar sc__law_one_bar rfl rfl rfl (by decide) fun cdv A outer s H E hr => ?_
  have hu := hr.units
  refine ⟨_, (pss_cons (ps_if (pt_cmpR (op_neU hu) (pe_g G__law_refusal (hr.mono (by decide)) passE (pa_cons (pe_lst (pa_cons (pe_lst (pa_cons pe_str (pa_cons pe_str pa_nil))) (pa_cons (pe_lst (pa_cons (pv 0) (pa_cons pe_str (pa_cons pe_str pa_nil)))) pa_nil))) pa_nil)) (pe_lc (CompOk.mk (tgs := ["k"]) (cap := []) (idx := []) rfl rfl (by decide +kernel) (by decide +kernel) (List.forall_mem_nil _) rfl .nil) rfl (pi_range1 rfl T.b_range (pa_cons pe_int pa_nil)) (gok_name (by decide)) (fun _ _ _ _ => (pg_name (i := 0) (show List.Nodup (α := PySem.Str) ["k"] by decide +kernel) rfl (by first | exact Or.inl rfl | exact Or.inr rfl))) (fun _ _ _ _ => pf_nil) (fun _ _ _ _ => (pe_cmpR (op_eqU hu) (pv 0) pe_int (nomark _)))) (nomark _)) (pss_one (ps_ret pe_bl)) pss_nil)
      (pss_cons (ps_if (pt_cmpR (op_neU hu) (pe_g G__law_refusal (hr.mono (by decide)) passE (pa_cons (pe_lst (pa_cons (pe_lst (pa_cons pe_str (pa_cons pe_str pa_nil))) (pa_cons (pe_lst (pa_cons (pv 0) (pa_cons pe_str (pa_cons pe_str pa_nil)))) pa_nil))) pa_nil)) (pe_lc (CompOk.mk (tgs := ["k"]) (cap := []) (idx := []) rfl rfl (by decide +kernel) (by decide +kernel) (List.forall_mem_nil _) rfl .nil) rfl (pi_range1 rfl T.b_range (pa_cons pe_int pa_nil)) (gok_name (by decide)) (fun _ _ _ _ => (pg_name (i := 0) (show List.Nodup (α := PySem.Str) ["k"] by decide +kernel) rfl (by first | exact Or.inl rfl | exact Or.inr rfl))) (fun _ _ _ _ => pf_nil) (fun _ _ _ _ => (pe_cmpR (op_eqU hu) (pv 0) pe_int (nomark _)))) (nomark _)) (pss_one (ps_ret pe_bl)) pss_nil)
      (pss_one (ps_ret (pe_cmpR (op_eqU hu) (pe_g G__law_refusal (hr.mono (by decide)) passE (pa_cons (pe_lst (pa_cons (pe_lst (pa_cons pe_str (pa_cons pe_str pa_nil))) (pa_cons (pe_lst (pa_cons (pv 0) (pa_cons pe_str (pa_cons pe_str pa_nil)))) pa_nil))) pa_nil)) (pe_lc (CompOk.mk (tgs := ["k"]) (cap := []) (idx := []) rfl rfl (by decide +kernel) (by decide +kernel) (List.forall_mem_nil _) rfl .nil) rfl (pi_range1 rfl T.b_range (pa_cons pe_int pa_nil)) (gok_name (by decide)) (fun _ _ _ _ => (pg_name (i := 0) (show List.Nodup (α := PySem.Str) ["k"] by decide +kernel) rfl (by first | exact Or.inl rfl | exact Or.inr rfl))) (fun _ _ _ _ => pf_nil) (fun _ _ _ _ => (pe_cmpR (op_eqU hu) (pv 0) pe_int (nomark _)))) (nomark _)))))), ?_⟩
  exact (ss_seq (ss_if (s_tTest (s_op s2_ne (s_call (s_cons (s_tree (n_disp (s_cons (s_tree (n_disp (s_cons s_str (s_cons s_str s_nil)))) (s_cons (s_tree (n_disp (s_cons s_var (s_cons s_str (s_cons s_str s_nil))))) s_nil)))) s_nil)) (s_tree (n_comp (si_rng1 (s_cons s_int s_nil)) sg_name s_yes (s_op s2_eq s_var s_int))))) (ss_ret s_bl) ss_next)
      (ss_seq (ss_if (s_tTest (s_op s2_ne (s_call (s_cons (s_tree (n_disp (s_cons (s_tree (n_disp (s_cons s_str (s_cons s_str s_nil)))) (s_cons (s_tree (n_disp (s_cons s_var (s_cons s_str (s_cons s_str s_nil))))) s_nil)))) s_nil)) (s_tree (n_comp (si_rng1 (s_cons s_int s_nil)) sg_name s_yes (s_op s2_eq s_var s_int))))) (ss_ret s_bl) ss_next)
      (ss_ret (s_op s2_eq (s_call (s_cons (s_tree (n_disp (s_cons (s_tree (n_disp (s_cons s_str (s_cons s_str s_nil)))) (s_cons (s_tree (n_disp (s_cons s_var (s_cons s_str (s_cons s_str s_nil))))) s_nil)))) s_nil)) (s_tree (n_comp (si_rng1 (s_cons s_int s_nil)) sg_name s_yes (s_op s2_eq s_var s_int)))))))
theorem ok__law_thirteen (T : Txt P w K mg t) : FnOk P w K mg base (CXE P w) 1 t.f__law_thirteen t.fd__law_thirteen ["rows", "cell"] (spZ (ct P w K t) z__law_thirteen) := by
  refine okZ (C := ct P w K t) (b := b__law_thirteen) T.F__law_thirteen sc__law_thirteen rfl rfl rfl (by decide) fun cdv A outer s H E hr => ?_
  have hu := hr.units
  refine ⟨_, (pss_cons (ps_set (i := 2) sc__law_thirteen.nd rfl (by first | exact Or.inl rfl | exact Or.inr rfl) (pe_ix (ix_K (P := P) (w := w) (K := K) rfl rfl rfl hu) (pe_lst (pa_cons (pe_lst (pa_cons pe_str (pa_cons pe_str pa_nil))) (pa_cons (pe_lst (pa_cons pe_str (pa_cons pe_str (pa_cons pe_str pa_nil)))) (pa_cons (pe_lst (pa_cons pe_str (pa_cons pe_str (pa_cons pe_str pa_nil)))) (pa_cons (pe_lst (pa_cons pe_str (pa_cons pe_str pa_nil))) pa_nil))))) (pe_op op_mod (pv 1) pe_int) (fun _ _ => rfl)))
      (pss_cons (ps_set (i := 3) sc__law_thirteen.nd rfl (by first | exact Or.inl rfl | exact Or.inr rfl) (pe_op (op_addK (K := K) rfl) (pe_slice (sl_K (K := K) rfl) (pv 0) (po_some pe_int) po_none) (pe_op op_mulS (pe_lst (pa_cons (pe_lst (pa_cons pe_str (pa_cons pe_str pa_nil))) (pa_cons (pe_lst (pa_cons pe_str (pa_cons pe_str pa_nil))) (pa_cons (pe_lst (pa_cons pe_str (pa_cons pe_str pa_nil))) (pa_cons (pe_lst (pa_cons pe_str (pa_cons pe_str pa_nil))) pa_nil))))) pe_int)))
      (pss_one (ps_ret (pe_op (op_addK (K := K) rfl) (pe_op (op_addK (K := K) rfl) (pe_slice (sl_K (K := K) rfl) (pv 0) po_none (po_some pe_int)) (pe_slice (sl_K (K := K) rfl) (pv 3) po_none (po_some pe_int))) (pe_lst (pa_cons (pv 2) pa_nil))))))), ?_⟩
  exact (ss_seq (ss_asg (s_ix (s_tree (n_disp (s_cons (s_tree (n_disp (s_cons s_str (s_cons s_str s_nil)))) (s_cons (s_tree (n_disp (s_cons s_str (s_cons s_str (s_cons s_str s_nil))))) (s_cons (s_tree (n_disp (s_cons s_str (s_cons s_str (s_cons s_str s_nil))))) (s_cons (s_tree (n_disp (s_cons s_str (s_cons s_str s_nil)))) s_nil)))))) (s_op s2_mod s_var s_int)) sg_name)
      (ss_seq (ss_asg (s_op s2_add (s_sl s_var (so_so s_int) so_no) (s_op s2_mul (s_tree (n_disp (s_cons (s_tree (n_disp (s_cons s_str (s_cons s_str s_nil)))) (s_cons (s_tree (n_disp (s_cons s_str (s_cons s_str s_nil)))) (s_cons (s_tree (n_disp (s_cons s_str (s_cons s_str s_nil)))) (s_cons (s_tree (n_disp (s_cons s_str (s_cons s_str s_nil)))) s_nil)))))) s_int)) sg_name)
      (ss_ret (s_cell (n_add (s_op s2_add (s_sl s_var so_no (so_so s_int)) (s_sl s_var so_no (so_so s_int))) (s_tree (n_disp (s_cons s_var s_nil))))))))
theorem ok_law (T : Txt P w K mg t) : FnOk P w K mg base (CXE P w) 8 t.f_law t.fd_law ["script"] (spZ (ct P w K t) z_law) := by
  have G__law_rows : FnG P w K mg base (CXE P w) 2 "_law_rows" (spZ (ct P w K t) z__law_rows) := ⟨_, _, _, ok__law_rows T, T.m__law_rows, T.F__law_rows.kp, T.B__law_rows⟩
  have G__law_cell_at : FnG P w K mg base (CXE P w) 1 "_law_cell_at" (spZ (ct P w K t) z__law_cell_at) := ⟨_, _, _, ok__law_cell_at T, T.m__law_cell_at, T.F__law_cell_at.kp, T.B__law_cell_at⟩
  have G__law_two_rows : FnG P w K mg base (CXE P w) 4 "_law_two_rows" (spZ (ct P w K t) z__law_two_rows) := ⟨_, _, _, ok__law_two_rows T, T.m__law_two_rows, T.F__law_two_rows.kp, T.B__law_two_rows⟩
  have G__law_refusal : FnG P w K mg base (CXE P w) 6 "_law_refusal" (spZ (ct P w K t) z__law_refusal) := ⟨_, _, _, ok__law_refusal T, T.m__law_refusal, T.F__law_refusal.kp, T.B__law_refusal⟩
  have G__law_one_bar : FnG P w K mg base (CXE P w) 7 "_law_one_bar" (spZ (ct P w K t) z__law_one_bar) := ⟨_, _, _, ok__law_one_bar T, T.m__law_one_bar, T.F__law_one_bar.kp, T.B__law_one_bar⟩
  have G__law_thirteen : FnG P w K mg base (CXE P w) 1 "_law_thirteen" (spZ (ct P w K t) z__law_thirteen) := ⟨_, _, _, ok__law_thirteen T, T.m__law_thirteen, T.F__law_thirteen.kp, T.B__law_thirteen⟩
  have G__law_wrong : FnG P w K mg base (CXE P w) 3 "_law_wrong" (spZ (ct P w K t) z__law_wrong) := ⟨_, _, _, ok__law_wrong T, T.m__law_wrong, T.F__law_wrong.kp, T.B__law_wrong⟩
  have G__law_no_form : FnG P w K mg base (CXE P w) 2 "_law_no_form" (spZ (ct P w K t) z__law_no_form) := ⟨_, _, _, ok__law_no_form T, T.m__law_no_form, T.F__law_no_form.kp, T.B__law_no_form⟩
  refine okZ (C := ct P w K t) (b := b_law) T.F_law sc_law rfl rfl rfl (by decide) fun cdv A outer s H E hr => ?_
  have hu := hr.units
  refine ⟨_, (pss_cons (ps_if (pw_or (pt_not (pt_truthK (K := K) rfl (pe_g G__law_one_bar (hr.mono (by decide)) passE (pa_cons pe_str pa_nil)) (fun _ => rfl))) (pw_or1 (pt_not (pt_truthK (K := K) rfl (pe_g G__law_one_bar (hr.mono (by decide)) passE (pa_cons pe_str pa_nil)) (fun _ => rfl))))).pt (pss_one (ps_ret pe_bl)) pss_nil)
      (pss_cons (ps_set (i := 1) sc_law.nd rfl (by first | exact Or.inl rfl | exact Or.inr rfl) (pe_g G__law_rows (hr.mono (by decide)) passE (pa_cons (pv 0) (pa_cons pe_int pa_nil))))
      (pss_cons (ps_set (i := 2) sc_law.nd rfl (by first | exact Or.inl rfl | exact Or.inr rfl) (pe_op (op_addK (K := K) rfl) pe_int (pe_op op_mod (pe_g G__law_cell_at (hr.mono (by decide)) passE (pa_cons (pv 0) (pa_cons pe_int pa_nil))) pe_int)))
      (pss_cons (ps_set (i := 3) sc_law.nd rfl (by first | exact Or.inl rfl | exact Or.inr rfl) (pe_op op_mod (pe_g G__law_cell_at (hr.mono (by decide)) passE (pa_cons (pv 0) (pa_cons pe_int pa_nil))) (pe_callB (call_lenK (P := P) (w := w) (K := K) rfl rfl rfl) (by rfl) T.b_len bt_len (pa_cons (pv 1) pa_nil))))
      (pss_cons (ps_set (i := 4) sc_law.nd rfl (by first | exact Or.inl rfl | exact Or.inr rfl) (pe_g G__law_cell_at (hr.mono (by decide)) passE (pa_cons (pv 0) (pa_cons pe_int pa_nil))))
      (pss_cons (ps_set (i := 5) sc_law.nd rfl (by first | exact Or.inl rfl | exact Or.inr rfl) (pe_g G__law_cell_at (hr.mono (by decide)) passE (pa_cons (pv 0) (pa_cons pe_int pa_nil))))
      (pss_cons (ps_set (i := 6) sc_law.nd rfl (by first | exact Or.inl rfl | exact Or.inr rfl) (pe_op op_mod (pe_g G__law_cell_at (hr.mono (by decide)) passE (pa_cons (pv 0) (pa_cons pe_int pa_nil))) pe_int))
      (pss_cons (ps_set (i := 7) sc_law.nd rfl (by first | exact Or.inl rfl | exact Or.inr rfl) pe_int)
      (pss_cons (ps_if (pw_and (pt_cmpR (op_lt) (pv 6) pe_int (nomark _)) (pw_and1 (pt_cmpR (op_gt) (pe_callB (call_lenK (P := P) (w := w) (K := K) rfl rfl rfl) (by rfl) T.b_len bt_len (pa_cons (pv 1) pa_nil)) pe_int (nomark _)))).pt (pss_cons (ps_set (i := 8) sc_law.nd rfl (by first | exact Or.inl rfl | exact Or.inr rfl) (pe_op op_mod (pe_op (op_addK (K := K) rfl) (pe_op (op_addK (K := K) rfl) (pv 3) pe_int) (pe_op op_mod (pv 4) (pe_op op_sub (pe_callB (call_lenK (P := P) (w := w) (K := K) rfl rfl rfl) (by rfl) T.b_len bt_len (pa_cons (pv 1) pa_nil)) pe_int))) (pe_callB (call_lenK (P := P) (w := w) (K := K) rfl rfl rfl) (by rfl) T.b_len bt_len (pa_cons (pv 1) pa_nil))))
      (pss_one (ps_set (i := 7) sc_law.nd rfl (by first | exact Or.inl rfl | exact Or.inr rfl) (pe_g G__law_two_rows (hr.mono (by decide)) passE (pa_cons (pv 1) (pa_cons (pv 2) (pa_cons (pv 3) (pa_cons (pv 8) (pa_cons (pv 5) pa_nil))))))))) (pss_one (ps_if (pt_cmpR (op_eqU hu) (pv 6) pe_int (nomark _)) (pss_cons (ps_set (i := 1) sc_law.nd rfl (by first | exact Or.inl rfl | exact Or.inr rfl) (pe_g G__law_thirteen (hr.mono (by decide)) passE (pa_cons (pv 1) (pa_cons (pv 4) pa_nil))))
      (pss_one (ps_if (pt_cmpR (op_eqU hu) (pe_op op_mod (pv 5) pe_int) pe_int (nomark _)) (pss_cons (ps_set (i := 3) sc_law.nd rfl (by first | exact Or.inl rfl | exact Or.inr rfl) (pe_op op_mod (pe_op op_fdiv (pv 5) pe_int) pe_int))
      (pss_cons (ps_asg (pe_g G__law_wrong (hr.mono (by decide)) passE (pa_cons (pe_ix (ix_K (P := P) (w := w) (K := K) rfl rfl rfl hu) (pv 1) (pv 3) (fun _ _ => rfl)) (pa_cons (pv 2) (pa_cons (pe_op op_mod (pe_op op_fdiv (pv 5) pe_int) pe_int) (pa_cons (pe_op op_fdiv (pv 5) pe_int) pa_nil))))) (pg_seqK (K := K) rfl (pg_seq (n := 2) rfl (pgs_cons (pg_name (i := 9) sc_law.nd rfl (by first | exact Or.inl rfl | exact Or.inr rfl)) (pgs_cons (pg_name (i := 7) sc_law.nd rfl (by first | exact Or.inl rfl | exact Or.inr rfl)) pgs_nil)))))
      (pss_one (ps_asg (pv 9) (pg_sub (pv 1) (pv 3) set_list))))) pss_nil))) (pss_one (ps_if (pw_and (pt_cmpR (op_eqU hu) (pv 6) pe_int (nomark _)) (pw_and1 (pt_cmpR (op_eqU hu) (pe_callB (call_lenK (P := P) (w := w) (K := K) rfl rfl rfl) (by rfl) T.b_len bt_len (pa_cons (pe_ix (ix_K (P := P) (w := w) (K := K) rfl rfl rfl hu) (pv 1) (pv 3) (fun _ _ => rfl)) pa_nil)) pe_int (nomark _)))).pt (pss_cons (ps_set (i := 7) sc_law.nd rfl (by first | exact Or.inl rfl | exact Or.inr rfl) pe_int)
      (pss_cons (ps_set (i := 10) sc_law.nd rfl (by first | exact Or.inl rfl | exact Or.inr rfl) (pe_callTy (call_strU) (by rfl) T.b_str bt_str (pa_cons (pe_op (op_addK (K := K) rfl) (pv 2) (pe_op op_mod (pv 4) (pe_op op_sub (pe_op op_pow pe_int pe_int) (pv 2)))) pa_nil)))
      (pss_one (ps_asg (pe_lst (pa_cons (pe_ix (ix_K (P := P) (w := w) (K := K) rfl rfl rfl hu) (pe_ix (ix_K (P := P) (w := w) (K := K) rfl rfl rfl hu) (pv 1) (pv 3) (fun _ _ => rfl)) pe_int (fun _ _ => rfl)) (pa_cons (pv 10) (pa_cons (pv 10) pa_nil)))) (pg_sub (pv 1) (pv 3) set_list))))) (pss_cons (ps_set (i := 6) sc_law.nd rfl (by first | exact Or.inl rfl | exact Or.inr rfl) (pe_op (op_addK (K := K) rfl) pe_int (pe_op op_mod (pv 4) pe_int)))
      (pss_cons (ps_set (i := 11) sc_law.nd rfl (by first | exact Or.inl rfl | exact Or.inr rfl) (pe_g G__law_wrong (hr.mono (by decide)) passE (pa_cons (pe_ix (ix_K (P := P) (w := w) (K := K) rfl rfl rfl hu) (pv 1) (pv 3) (fun _ _ => rfl)) (pa_cons (pv 2) (pa_cons (pv 6) (pa_cons (pe_op op_fdiv (pv 4) pe_int) pa_nil))))))
      (pss_cons (ps_asg (pe_ix (ix_K (P := P) (w := w) (K := K) rfl rfl rfl hu) (pv 11) pe_int (fun _ _ => rfl)) (pg_sub (pv 1) (pv 3) set_list))
      (pss_one (ps_if (pt_cmpR (op_gt) (pe_ix (ix_K (P := P) (w := w) (K := K) rfl rfl rfl hu) (pv 11) pe_int (fun _ _ => rfl)) pe_int (nomark _)) (pss_one (ps_asg (pe_g G__law_no_form (hr.mono (by decide)) passE (pa_cons (pe_ix (ix_K (P := P) (w := w) (K := K) rfl rfl rfl hu) (pv 11) pe_int (fun _ _ => rfl)) (pa_cons (pv 5) pa_nil))) (pg_sub (pv 1) (pv 3) set_list))) pss_nil))))))))))
      (pss_one (ps_ret (pe_cmpR (op_eqU hu) (pe_g G__law_refusal (hr.mono (by decide)) passE (pa_cons (pv 1) pa_nil)) (pe_lc (CompOk.mk (tgs := ["k"]) (cap := ["due"]) (idx := [7]) rfl rfl (by decide +kernel) (by decide +kernel) (List.forall_mem_cons.mpr ⟨rfl, (List.forall_mem_nil _)⟩) rfl (.cons rfl (by first | exact Or.inl rfl | exact Or.inr rfl) (by first | exact Or.inl rfl | exact Or.inr rfl) rfl rfl .nil)) rfl (pi_range1 rfl T.b_range (pa_cons pe_int pa_nil)) (gok_name (by decide)) (fun _ _ _ _ => (pg_name (i := 0) (show List.Nodup (α := PySem.Str) ["k", "due"] by decide +kernel) rfl (by first | exact Or.inl rfl | exact Or.inr rfl))) (fun _ _ _ _ => pf_nil) (fun _ _ _ _ => (pe_cmpR (op_eqU hu) (pv 0) (pv 1) (nomark _)))) (nomark _))))))))))))), ?_⟩
  exact (ss_seq (ss_if (s_tOr (s_tNot (s_truth (s_call (s_cons s_str s_nil)))) (s_tNot (s_truth (s_call (s_cons s_str s_nil))))) (ss_ret s_bl) ss_next)
      (ss_seq (ss_asg (s_call (s_cons s_var (s_cons s_int s_nil))) sg_name)
      (ss_seq (ss_asg (s_op s2_add s_int (s_op s2_mod (s_call (s_cons s_var (s_cons s_int s_nil))) s_int)) sg_name)
      (ss_seq (ss_asg (s_op s2_mod (s_call (s_cons s_var (s_cons s_int s_nil))) (s_cb sl_len (s_cons s_var s_nil))) sg_name)
      (ss_seq (ss_asg (s_call (s_cons s_var (s_cons s_int s_nil))) sg_name)
      (ss_seq (ss_asg (s_call (s_cons s_var (s_cons s_int s_nil))) sg_name)
      (ss_seq (ss_asg (s_op s2_mod (s_call (s_cons s_var (s_cons s_int s_nil))) s_int) sg_name)
      (ss_seq (ss_asg s_int sg_name)
      (ss_seq (ss_if (s_tAnd (s_tTest (s_op s2_lt s_var s_int)) (s_tTest (s_op s2_gt (s_cb sl_len (s_cons s_var s_nil)) s_int))) (ss_seq (ss_asg (s_op s2_mod (s_op s2_add (s_op s2_add s_var s_int) (s_op s2_mod s_var (s_op s2_sub (s_cb sl_len (s_cons s_var s_nil)) s_int))) (s_cb sl_len (s_cons s_var s_nil))) sg_name)
      (ss_asg (s_call (s_cons s_var (s_cons s_var (s_cons s_var (s_cons s_var (s_cons s_var s_nil)))))) sg_name)) (ss_if (s_tTest (s_op s2_eq s_var s_int)) (ss_seq (ss_asg (s_call (s_cons s_var (s_cons s_var s_nil))) sg_name)
      (ss_if (s_tTest (s_op s2_eq (s_op s2_mod s_var s_int) s_int)) (ss_seq (ss_asg (s_op s2_mod (s_op s2_div s_var s_int) s_int) sg_name)
      (ss_seq (ss_asg (s_call (s_cons (s_ix s_var s_var) (s_cons s_var (s_cons (s_op s2_mod (s_op s2_div s_var s_int) s_int) (s_cons (s_op s2_div s_var s_int) s_nil))))) (sg_tup rfl (sgs_cons (sgs_cons sgs_nil))))
      (ss_asg s_var (sg_sub s_var s_var)))) ss_next)) (ss_if (s_tAnd (s_tTest (s_op s2_eq s_var s_int)) (s_tTest (s_op s2_eq (s_cb sl_len (s_cons (s_ix s_var s_var) s_nil)) s_int))) (ss_seq (ss_asg s_int sg_name)
      (ss_seq (ss_asg (s_cb sl_str (s_cons (s_op s2_add s_var (s_op s2_mod s_var (s_op s2_sub (s_op s2_pow s_int s_int) s_var))) s_nil)) sg_name)
      (ss_asg (s_tree (n_disp (s_cons (s_ix (s_ix s_var s_var) s_int) (s_cons s_var (s_cons s_var s_nil))))) (sg_sub s_var s_var)))) (ss_seq (ss_asg (s_op s2_add s_int (s_op s2_mod s_var s_int)) sg_name)
      (ss_seq (ss_asg (s_call (s_cons (s_ix s_var s_var) (s_cons s_var (s_cons s_var (s_cons (s_op s2_div s_var s_int) s_nil))))) sg_name)
      (ss_seq (ss_asg (s_ix s_var s_int) (sg_sub s_var s_var))
      (ss_if (s_tTest (s_op s2_gt (s_ix s_var s_int) s_int)) (ss_asg (s_call (s_cons (s_ix s_var s_int) (s_cons s_var s_nil))) (sg_sub s_var s_var)) ss_next)))))))
      (ss_ret (s_op s2_eq (s_call (s_cons s_var s_nil)) (s_tree (n_comp (si_rng1 (s_cons s_int s_nil)) sg_name s_yes (s_op s2_eq s_var s_var))))))))))))))
end
end My

local macro_rules | `(tactic| k_head) => do
  let hw := Lean.mkIdent `hw
  let hc := Lean.mkIdent `hc
  `(tactic| refine PySem.W.holds_open (q := My.vw) (loose := [(PySem.Str.ofString "NUMBERS_BEHIND")]) (Xt := (fun s => PySem.W.xlAt My.vw [] s && PySem.W.recOk (PySem.Challenge.rw_earthward_k05_two_faults).row.records s)) (XP := PySem.W.XL My.vw []) (Yf := PySem.W.Hook.obs (PySem.W.kHook My.pre.heap_39 [2, 3, 15, 22, 23, 24, 25, 28, 35, 36, 37, 40, 47, 48, 49, 52, 59, 60, 61, 64, 71, 72, 73, 76, 83, 84, 85, 88, 95, 96, 97, 100, 107, 108, 109, 112, 119, 120, 121, 124, 131, 132, 133, 136, 143, 144, 145, 148, 155, 156, 157, 160, 167, 168, 169, 172, 179, 180, 181, 184, 191, 192, 193, 196, 203, 204, 205, 208, 209, 212, 213, 214, 217, 218, 219, 221, 222, 224, 225, 226, 228, 229, 231, 232, 233, 235, 236, 238, 239, 240, 242, 243, 245, 246, 247, 249, 250, 252, 253, 254, 256, 257, 259, 260, 261, 264, 265, 266, 268, 269, 271, 272, 273, 275, 276, 278, 279, 280, 282, 283, 285, 286, 287, 289, 290, 292, 293, 294, 296, 297, 299, 300, 301, 304, 305, 306, 309, 310, 311, 314, 315] (fun _ => by kernel_rfl))) (Ya := PySem.W.Hook.val (PySem.W.kHook My.pre.heap_39 [2, 3, 15, 22, 23, 24, 25, 28, 35, 36, 37, 40, 47, 48, 49, 52, 59, 60, 61, 64, 71, 72, 73, 76, 83, 84, 85, 88, 95, 96, 97, 100, 107, 108, 109, 112, 119, 120, 121, 124, 131, 132, 133, 136, 143, 144, 145, 148, 155, 156, 157, 160, 167, 168, 169, 172, 179, 180, 181, 184, 191, 192, 193, 196, 203, 204, 205, 208, 209, 212, 213, 214, 217, 218, 219, 221, 222, 224, 225, 226, 228, 229, 231, 232, 233, 235, 236, 238, 239, 240, 242, 243, 245, 246, 247, 249, 250, 252, 253, 254, 256, 257, 259, 260, 261, 264, 265, 266, 268, 269, 271, 272, 273, 275, 276, 278, 279, 280, 282, 283, 285, 286, 287, 289, 290, 292, 293, 294, 296, 297, 299, 300, 301, 304, 305, 306, 309, 310, 311, 314, 315] (fun _ => by kernel_rfl))) (YP := PySem.W.Hook.says (PySem.W.kHook My.pre.heap_39 [2, 3, 15, 22, 23, 24, 25, 28, 35, 36, 37, 40, 47, 48, 49, 52, 59, 60, 61, 64, 71, 72, 73, 76, 83, 84, 85, 88, 95, 96, 97, 100, 107, 108, 109, 112, 119, 120, 121, 124, 131, 132, 133, 136, 143, 144, 145, 148, 155, 156, 157, 160, 167, 168, 169, 172, 179, 180, 181, 184, 191, 192, 193, 196, 203, 204, 205, 208, 209, 212, 213, 214, 217, 218, 219, 221, 222, 224, 225, 226, 228, 229, 231, 232, 233, 235, 236, 238, 239, 240, 242, 243, 245, 246, 247, 249, 250, 252, 253, 254, 256, 257, 259, 260, 261, 264, 265, 266, 268, 269, 271, 272, 273, 275, 276, 278, 279, 280, 282, 283, 285, 286, 287, 289, 290, 292, 293, 294, 296, 297, 299, 300, 301, 304, 305, 306, 309, 310, 311, 314, 315] (fun _ => by kernel_rfl))) (N := 5155) My.left (PySem.W.Hook.of (PySem.W.kHook My.pre.heap_39 [2, 3, 15, 22, 23, 24, 25, 28, 35, 36, 37, 40, 47, 48, 49, 52, 59, 60, 61, 64, 71, 72, 73, 76, 83, 84, 85, 88, 95, 96, 97, 100, 107, 108, 109, 112, 119, 120, 121, 124, 131, 132, 133, 136, 143, 144, 145, 148, 155, 156, 157, 160, 167, 168, 169, 172, 179, 180, 181, 184, 191, 192, 193, 196, 203, 204, 205, 208, 209, 212, 213, 214, 217, 218, 219, 221, 222, 224, 225, 226, 228, 229, 231, 232, 233, 235, 236, 238, 239, 240, 242, 243, 245, 246, 247, 249, 250, 252, 253, 254, 256, 257, 259, 260, 261, 264, 265, 266, 268, 269, 271, 272, 273, 275, 276, 278, 279, 280, 282, 283, 285, 286, 287, 289, 290, 292, 293, 294, 296, 297, 299, 300, 301, 304, 305, 306, 309, 310, 311, 314, 315] (fun _ => by kernel_rfl))) (PySem.W.Hook.keeps (PySem.W.kHook My.pre.heap_39 [2, 3, 15, 22, 23, 24, 25, 28, 35, 36, 37, 40, 47, 48, 49, 52, 59, 60, 61, 64, 71, 72, 73, 76, 83, 84, 85, 88, 95, 96, 97, 100, 107, 108, 109, 112, 119, 120, 121, 124, 131, 132, 133, 136, 143, 144, 145, 148, 155, 156, 157, 160, 167, 168, 169, 172, 179, 180, 181, 184, 191, 192, 193, 196, 203, 204, 205, 208, 209, 212, 213, 214, 217, 218, 219, 221, 222, 224, 225, 226, 228, 229, 231, 232, 233, 235, 236, 238, 239, 240, 242, 243, 245, 246, 247, 249, 250, 252, 253, 254, 256, 257, 259, 260, 261, 264, 265, 266, 268, 269, 271, 272, 273, 275, 276, 278, 279, 280, 282, 283, 285, 286, 287, 289, 290, 292, 293, 294, 296, 297, 299, 300, 301, 304, 305, 306, 309, 310, 311, 314, 315] (fun _ => by kernel_rfl))) (fun s e => PySem.W.xl_of s (Bool.and_eq_true_iff.mp e).1) PySem.W.XL.keeps (by rfl) (by rfl) (by rfl) (fun s e => PySem.W.recFacts_of (Bool.and_eq_true_iff.mp e).2) (by rfl) (by first | assumption | decide +kernel) (by decide +kernel) ⟨rfl, rfl, rfl, rfl, rfl, by decide +kernel⟩ ?$hw ?$hc)
set_option maxRecDepth 100000 in
set_option maxHeartbeats 0 in
theorem PySem.Challenge.cw_earthward_k05_two_faults_holds : PySem.Challenge.rw_earthward_k05_two_faults.Holds := by
  w_on; o_law; k_head; (case hw => w_witness2)
  k_fill
  refine L2.walk_ofE (l := PySem.Challenge.rw_earthward_k05_two_faults) (n := 63) (k := 8) (x := "script") (CX := fun w => L2.CXE (PySem.Challenge.rw_earthward_k05_two_faults).prog w) (sp := L2.spL) rfl (by decide) rfl ⟨rfl, by decide, by decide⟩ (fun w h Y => PySem.W.kIn_of Y) ?F ?S ?C
  case F =>
    intro w mg fa h KX G hmg
    have T : ∃ t, My.Txt (PySem.Challenge.rw_earthward_k05_two_faults).prog w (L2.KOf KX) mg t := by
      dsimp only [L2.KOf]
      refine' My.txt_mk KX G ?ac_Held ?xq_Held ?ac_Loaded ?xq_Loaded ?ac_Locked ?xq_Locked ?ac_NoBar ?xq_NoBar ?ac_NoLock ?xq_NoLock ?ac_NoMeasure ?xq_NoMeasure ?ac_NoPermit ?xq_NoPermit ?ac_NoRow ?xq_NoRow ?ac_NoSwitch ?xq_NoSwitch ?ac_NotDead ?xq_NotDead ?ac_NotEarthed ?xq_NotEarthed ?ac_NotLocked ?xq_NotLocked ?ac_NotOpen ?xq_NotOpen ?ac_Same ?xq_Same ?ac_Shorted ?xq_Shorted ?ac_WardError ?xq_WardError ?g_NUMBERS_BEHIND ?a_is_number ?l_is_number ?co_is_number ?kp_is_number ?a_numbers_told ?l_numbers_told ?co_numbers_told ?kp_numbers_told ?a_parted ?l_parted ?co_parted ?kp_parted ?a_count_in ?l_count_in ?co_count_in ?kp_count_in ?a_switch_in ?l_switch_in ?co_switch_in ?kp_switch_in ?a_read ?l_read ?co_read ?kp_read ?a__law_cell_at ?l__law_cell_at ?co__law_cell_at ?kp__law_cell_at ?a__law_switch ?l__law_switch ?co__law_switch ?kp__law_switch ?a__law_rows ?l__law_rows ?co__law_rows ?kp__law_rows ?a__law_bad_number ?l__law_bad_number ?co__law_bad_number ?kp__law_bad_number ?a__law_no_form ?l__law_no_form ?co__law_no_form ?kp__law_no_form ?a__law_wrong ?l__law_wrong ?co__law_wrong ?kp__law_wrong ?a__law_thirteen ?l__law_thirteen ?co__law_thirteen ?kp__law_thirteen ?a__law_two_rows ?l__law_two_rows ?co__law_two_rows ?kp__law_two_rows ?a__law_refusal ?l__law_refusal ?co__law_refusal ?kp__law_refusal ?a__law_one_bar ?l__law_one_bar ?co__law_one_bar ?kp__law_one_bar ?a_law ?l_law ?co_law ?kp_law ?b_len ?b_sum ?b_all ?b_isinstance ?b_max ?b_min ?b_int ?b_str ?b_tuple ?b_range ?b_ValueError ?g_MOST_BARS ?g_MOST_SWITCHES ?g_MOST_FIGURES ?g_FIGURES ?w1_WardError ?w2_WardError ?w3_WardError ?su_NoBar_WardError ?su_NoMeasure_WardError ?su_NoRow_WardError ?su_Same_WardError ?i1_NoBar ?i2_NoBar ?i3_NoBar ?i4_NoBar ?i5_NoBar ?i6_NoBar ?io_NoBar_NoRow ?io_NoBar_NoMeasure ?io_NoBar_NoBar ?io_NoBar_Same ?io_NoBar_NoSwitch ?io_NoBar_Loaded ?io_NoBar_Shorted ?io_NoBar_Locked ?io_NoBar_Held ?io_NoBar_NoLock ?io_NoBar_NotOpen ?io_NoBar_NotLocked ?io_NoBar_NotEarthed ?io_NoBar_NotDead ?io_NoBar_NoPermit ?io_NoBar_ValueError ?i1_NoMeasure ?i2_NoMeasure ?i3_NoMeasure ?i4_NoMeasure ?i5_NoMeasure ?i6_NoMeasure ?io_NoMeasure_NoRow ?io_NoMeasure_NoMeasure ?io_NoMeasure_NoBar ?io_NoMeasure_Same ?io_NoMeasure_NoSwitch ?io_NoMeasure_Loaded ?io_NoMeasure_Shorted ?io_NoMeasure_Locked ?io_NoMeasure_Held ?io_NoMeasure_NoLock ?io_NoMeasure_NotOpen ?io_NoMeasure_NotLocked ?io_NoMeasure_NotEarthed ?io_NoMeasure_NotDead ?io_NoMeasure_NoPermit ?io_NoMeasure_ValueError ?i1_NoRow ?i2_NoRow ?i3_NoRow ?i4_NoRow ?i5_NoRow ?i6_NoRow ?io_NoRow_NoRow ?io_NoRow_NoMeasure ?io_NoRow_NoBar ?io_NoRow_Same ?io_NoRow_NoSwitch ?io_NoRow_Loaded ?io_NoRow_Shorted ?io_NoRow_Locked ?io_NoRow_Held ?io_NoRow_NoLock ?io_NoRow_NotOpen ?io_NoRow_NotLocked ?io_NoRow_NotEarthed ?io_NoRow_NotDead ?io_NoRow_NoPermit ?io_NoRow_ValueError ?i1_Same ?i2_Same ?i3_Same ?i4_Same ?i5_Same ?i6_Same ?io_Same_NoRow ?io_Same_NoMeasure ?io_Same_NoBar ?io_Same_Same ?io_Same_NoSwitch ?io_Same_Loaded ?io_Same_Shorted ?io_Same_Locked ?io_Same_Held ?io_Same_NoLock ?io_Same_NotOpen ?io_Same_NotLocked ?io_Same_NotEarthed ?io_Same_NotDead ?io_Same_NoPermit ?io_Same_ValueError ?dl_NUMBERS_BEHIND ?ds_NUMBERS_BEHIND ?dk_NUMBERS_BEHIND ?de_NUMBERS_BEHIND
      (case ac_Held => k_is)
      (case xq_Held => k_exc)
      (case ac_Loaded => k_is)
      (case xq_Loaded => k_exc)
      (case ac_Locked => k_is)
      (case xq_Locked => k_exc)
      (case ac_NoBar => k_is)
      (case xq_NoBar => k_exc)
      (case ac_NoLock => k_is)
      (case xq_NoLock => k_exc)
      (case ac_NoMeasure => k_is)
      (case xq_NoMeasure => k_exc)
      (case ac_NoPermit => k_is)
      (case xq_NoPermit => k_exc)
      (case ac_NoRow => k_is)
      (case xq_NoRow => k_exc)
      (case ac_NoSwitch => k_is)
      (case xq_NoSwitch => k_exc)
      (case ac_NotDead => k_is)
      (case xq_NotDead => k_exc)
      (case ac_NotEarthed => k_is)
      (case xq_NotEarthed => k_exc)
      (case ac_NotLocked => k_is)
      (case xq_NotLocked => k_exc)
      (case ac_NotOpen => k_is)
      (case xq_NotOpen => k_exc)
      (case ac_Same => k_is)
      (case xq_Same => k_exc)
      (case ac_Shorted => k_is)
      (case xq_Shorted => k_exc)
      (case ac_WardError => k_is)
      (case xq_WardError => k_exc)
      (case g_NUMBERS_BEHIND => k_is)
      (case a_is_number => k_is)
      (case l_is_number => k_is)
      (case co_is_number => k_is)
      (case kp_is_number => k_is)
      (case a_numbers_told => k_is)
      (case l_numbers_told => k_is)
      (case co_numbers_told => k_is)
      (case kp_numbers_told => k_is)
      (case a_parted => k_is)
      (case l_parted => k_is)
      (case co_parted => k_is)
      (case kp_parted => k_is)
      (case a_count_in => k_is)
      (case l_count_in => k_is)
      (case co_count_in => k_is)
      (case kp_count_in => k_is)
      (case a_switch_in => k_is)
      (case l_switch_in => k_is)
      (case co_switch_in => k_is)
      (case kp_switch_in => k_is)
      (case a_read => k_is)
      (case l_read => k_is)
      (case co_read => k_is)
      (case kp_read => k_is)
      (case a__law_cell_at => k_is)
      (case l__law_cell_at => k_is)
      (case co__law_cell_at => k_is)
      (case kp__law_cell_at => k_is)
      (case a__law_switch => k_is)
      (case l__law_switch => k_is)
      (case co__law_switch => k_is)
      (case kp__law_switch => k_is)
      (case a__law_rows => k_is)
      (case l__law_rows => k_is)
      (case co__law_rows => k_is)
      (case kp__law_rows => k_is)
      (case a__law_bad_number => k_is)
      (case l__law_bad_number => k_is)
      (case co__law_bad_number => k_is)
      (case kp__law_bad_number => k_is)
      (case a__law_no_form => k_is)
      (case l__law_no_form => k_is)
      (case co__law_no_form => k_is)
      (case kp__law_no_form => k_is)
      (case a__law_wrong => k_is)
      (case l__law_wrong => k_is)
      (case co__law_wrong => k_is)
      (case kp__law_wrong => k_is)
      (case a__law_thirteen => k_is)
      (case l__law_thirteen => k_is)
      (case co__law_thirteen => k_is)
      (case kp__law_thirteen => k_is)
      (case a__law_two_rows => k_is)
      (case l__law_two_rows => k_is)
      (case co__law_two_rows => k_is)
      (case kp__law_two_rows => k_is)
      (case a__law_refusal => k_is)
      (case l__law_refusal => k_is)
      (case co__law_refusal => k_is)
      (case kp__law_refusal => k_is)
      (case a__law_one_bar => k_is)
      (case l__law_one_bar => k_is)
      (case co__law_one_bar => k_is)
      (case kp__law_one_bar => k_is)
      (case a_law => k_is)
      (case l_law => k_is)
      (case co_law => k_is)
      (case kp_law => k_is)
      (case b_len => k_is)
      (case b_sum => k_is)
      (case b_all => k_is)
      (case b_isinstance => k_is)
      (case b_max => k_is)
      (case b_min => k_is)
      (case b_int => k_is)
      (case b_str => k_is)
      (case b_tuple => k_is)
      (case b_range => k_is)
      (case b_ValueError => k_is)
      (case g_MOST_BARS => k_is)
      (case g_MOST_SWITCHES => k_is)
      (case g_MOST_FIGURES => k_is)
      (case g_FIGURES => k_is)
      (case w1_WardError => k_is)
      (case w2_WardError => k_is)
      (case w3_WardError => k_is)
      (case su_NoBar_WardError => k_is)
      (case su_NoMeasure_WardError => k_is)
      (case su_NoRow_WardError => k_is)
      (case su_Same_WardError => k_is)
      (case i1_NoBar => k_is)
      (case i2_NoBar => k_is)
      (case i3_NoBar => k_is)
      (case i4_NoBar => k_is)
      (case i5_NoBar => k_is)
      (case i6_NoBar => k_is)
      (case io_NoBar_NoRow => kit_is)
      (case io_NoBar_NoMeasure => kit_is)
      (case io_NoBar_NoBar => kit_is)
      (case io_NoBar_Same => kit_is)
      (case io_NoBar_NoSwitch => kit_is)
      (case io_NoBar_Loaded => kit_is)
      (case io_NoBar_Shorted => kit_is)
      (case io_NoBar_Locked => kit_is)
      (case io_NoBar_Held => kit_is)
      (case io_NoBar_NoLock => kit_is)
      (case io_NoBar_NotOpen => kit_is)
      (case io_NoBar_NotLocked => kit_is)
      (case io_NoBar_NotEarthed => kit_is)
      (case io_NoBar_NotDead => kit_is)
      (case io_NoBar_NoPermit => kit_is)
      (case io_NoBar_ValueError => kit_is)
      (case i1_NoMeasure => k_is)
      (case i2_NoMeasure => k_is)
      (case i3_NoMeasure => k_is)
      (case i4_NoMeasure => k_is)
      (case i5_NoMeasure => k_is)
      (case i6_NoMeasure => k_is)
      (case io_NoMeasure_NoRow => kit_is)
      (case io_NoMeasure_NoMeasure => kit_is)
      (case io_NoMeasure_NoBar => kit_is)
      (case io_NoMeasure_Same => kit_is)
      (case io_NoMeasure_NoSwitch => kit_is)
      (case io_NoMeasure_Loaded => kit_is)
      (case io_NoMeasure_Shorted => kit_is)
      (case io_NoMeasure_Locked => kit_is)
      (case io_NoMeasure_Held => kit_is)
      (case io_NoMeasure_NoLock => kit_is)
      (case io_NoMeasure_NotOpen => kit_is)
      (case io_NoMeasure_NotLocked => kit_is)
      (case io_NoMeasure_NotEarthed => kit_is)
      (case io_NoMeasure_NotDead => kit_is)
      (case io_NoMeasure_NoPermit => kit_is)
      (case io_NoMeasure_ValueError => kit_is)
      (case i1_NoRow => k_is)
      (case i2_NoRow => k_is)
      (case i3_NoRow => k_is)
      (case i4_NoRow => k_is)
      (case i5_NoRow => k_is)
      (case i6_NoRow => k_is)
      (case io_NoRow_NoRow => kit_is)
      (case io_NoRow_NoMeasure => kit_is)
      (case io_NoRow_NoBar => kit_is)
      (case io_NoRow_Same => kit_is)
      (case io_NoRow_NoSwitch => kit_is)
      (case io_NoRow_Loaded => kit_is)
      (case io_NoRow_Shorted => kit_is)
      (case io_NoRow_Locked => kit_is)
      (case io_NoRow_Held => kit_is)
      (case io_NoRow_NoLock => kit_is)
      (case io_NoRow_NotOpen => kit_is)
      (case io_NoRow_NotLocked => kit_is)
      (case io_NoRow_NotEarthed => kit_is)
      (case io_NoRow_NotDead => kit_is)
      (case io_NoRow_NoPermit => kit_is)
      (case io_NoRow_ValueError => kit_is)
      (case i1_Same => k_is)
      (case i2_Same => k_is)
      (case i3_Same => k_is)
      (case i4_Same => k_is)
      (case i5_Same => k_is)
      (case i6_Same => k_is)
      (case io_Same_NoRow => kit_is)
      (case io_Same_NoMeasure => kit_is)
      (case io_Same_NoBar => kit_is)
      (case io_Same_Same => kit_is)
      (case io_Same_NoSwitch => kit_is)
      (case io_Same_Loaded => kit_is)
      (case io_Same_Shorted => kit_is)
      (case io_Same_Locked => kit_is)
      (case io_Same_Held => kit_is)
      (case io_Same_NoLock => kit_is)
      (case io_Same_NotOpen => kit_is)
      (case io_Same_NotLocked => kit_is)
      (case io_Same_NotEarthed => kit_is)
      (case io_Same_NotDead => kit_is)
      (case io_Same_NoPermit => kit_is)
      (case io_Same_ValueError => kit_is)
      (case dl_NUMBERS_BEHIND => k_is)
      (case ds_NUMBERS_BEHIND => rfl)
      (case dk_NUMBERS_BEHIND => k_keys)
      (case de_NUMBERS_BEHIND => (repeat (first | exact True.intro | refine And.intro ⟨_, _, rfl, rfl⟩ (And.intro ⟨_, rfl⟩ ?_))))
    obtain ⟨t, T⟩ := T
    have e0 := hmg.symm.trans T.m_law
    cases e0
    exact ⟨_, T.Bl, fun base kb nb => L2.law_ok (C := My.ct (PySem.Challenge.rw_earthward_k05_two_faults).prog w (L2.KOf KX) t) (My.ok_law T) My.law_true⟩
  case S => exact L2.spL_of
  case C => exact fun _ _ _ _ _ z => L2.cxe_out z
#print axioms PySem.Challenge.cw_earthward_k05_two_faults_holds


