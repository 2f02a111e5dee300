/-
  'RootsChanges': Check, Get, Set, Move, Clear and Alike return what the reference returns. No project text.
-/
import Derived.Test.YtmnhjnfjgfjafaaChgB
import Derived.Test.YtmnhjnfjgfjafaaChgC
import Derived.Test.YtmnhjnfjgfjafaaFrm
import Derived.Test.YtmnhjnfjgfjafaaRows
import Derived.Test.YtmnhjnfjgfjafaaSy
import Derived.Test.YtmnhjnfjgfjafaaArr
namespace Go.Proofs.Ytmnhjnfjgfjafaa.rootsChanges
open Go.Rx Go.Proofs.Ytmnhjnfjgfjafaa.Fr
open Go.ChangeShapes Go.WideShapes Go.ChangeAt Go.RowKit
set_option linter.unusedVariables false
theorem own : ownKnob Try.prog.godebug = none := by kernel_rfl
theorem len3 {l : List Value} (h : l.length = 3) : ∃ a0 a1 a2, l = [a0, a1, a2] := by
  match l, h with
  | [a0, a1, a2], _ => exact ⟨a0, a1, a2, rfl⟩
theorem cellsS : Try.prog.cellsOf 24 = 3 := by kernel_rfl
theorem walk_n_B (w : World) (x1 y1 z1 : Int) (h1 : ¬ (rck 0 zF).2 = 0) : Calls Try.prog 3 #[.slice none 0 0, .agg #[.int .i64 x1, .int .i64 y1, .int .i64 z1]] w fun e w' => e = .returned (.bool true) ∧ Below w.heap.size w w' := by
  refine law_ok (E := mk XMB) (mkOk XMB_told) (n := 4) (A := (rchgB_nA x1 y1 z1)) (f := 3) (fn := Try.f3) (by kernel_rfl) («as» := [.slice none 0 0, .agg ⟨[.int .i64 x1, .int .i64 y1, .int .i64 z1]⟩]) (bs := []) (args' := #[.slice none 0 0, .agg #[.int .i64 x1, .int .i64 y1, .int .i64 z1]]) [] rfl (fun j o x h => by simp at h) (.cons (.slN 0 0) (.cons (groundT_refl rfl) .nil)) ?_
  exact cast (rchgB_nE x1 y1 z1 fun _ _ => True) (rchgB_nP x1 y1 z1 (fun _ _ => True) h1)
theorem walk_n (w : World) (x1 y1 z1 : Int) : Calls Try.prog 3 #[.slice none 0 0, .agg #[.int .i64 x1, .int .i64 y1, .int .i64 z1]] w fun e w' => e = .returned (.bool true) ∧ Below w.heap.size w w' := by
  by_cases h1 : (rck 0 zF).2 = 0
  · have g := (rck_ok h1).1
    omega
  · exact walk_n_B w x1 y1 z1 h1
theorem walk_r_B (w : World) (b0 o0 n0 c0 : Nat) (hb0 : b0 < w.heap.size) (hc0 : ∀ (i j : Nat) k, i < n0 → ([.i64] : List IntKind)[j]? = some k → w.cell? ⟨b0, o0 + i * 1 + j, none⟩ = some (.int k (cellN w b0 (o0 + i * 1 + j)))) (x1 y1 z1 : Int) (h1 : ¬ (rck n0 (fun i q => cellN w b0 (o0 + i * 1 + q))).2 = 0) : Calls Try.prog 3 #[.slice (some ⟨b0, o0, none⟩) n0 c0, .agg #[.int .i64 x1, .int .i64 y1, .int .i64 z1]] w fun e w' => e = .returned (.bool true) ∧ Below w.heap.size w w' := by
  obtain ⟨e0, hbr0⟩ := row_of_cells (w := w) (S := fun _ => none) (ks := [.i64]) (b := b0) (o := o0) (n := n0) (c := c0) (f := fun i q => cellN w b0 (o0 + i * 1 + q)) (by decide) hc0
  refine law_ok (E := mk XMB) (mkOk XMB_told) (n := 4) (A := (rchgB_rA e0 n0 c0 (fun i q => cellN w b0 (o0 + i * 1 + q)) x1 y1 z1)) (f := 3) (fn := Try.f3) (by kernel_rfl) («as» := [rsl 0 0 n0 c0, .agg ⟨[.int .i64 x1, .int .i64 y1, .int .i64 z1]⟩]) (bs := [.row true [.i64] e0 n0 c0 fun i q => cellN w b0 (o0 + i * 1 + q)]) (args' := #[.slice (some ⟨b0, o0, none⟩) n0 c0, .agg #[.int .i64 x1, .int .i64 y1, .int .i64 z1]]) [⟨b0, o0, 1⟩] rfl (fun j o x h h' => by
      rcases j with _ | j
      · obtain rfl := Option.some.inj h
        obtain rfl := Option.some.inj h'
        exact ⟨rfl, hbr0, hb0⟩
      · simp at h) (.cons (by have q := VR.rsl (S := fun b => ([⟨b0, o0, 1⟩] : List Rx.Loc)[b]?) (b := 0) 0 n0 c0 rfl; simpa [rsl] using q) (.cons (groundT_refl rfl) .nil)) ?_
  exact cast (rchgB_rE e0 n0 c0 (fun i q => cellN w b0 (o0 + i * 1 + q)) x1 y1 z1 fun _ _ => True) (rchgB_rP e0 n0 c0 (fun i q => cellN w b0 (o0 + i * 1 + q)) x1 y1 z1 (fun _ _ => True) h1)
theorem walk_r_X (w : World) (b0 o0 n0 c0 : Nat) (hb0 : b0 < w.heap.size) (hc0 : ∀ (i j : Nat) k, i < n0 → ([.i64] : List IntKind)[j]? = some k → w.cell? ⟨b0, o0 + i * 1 + j, none⟩ = some (.int k (cellN w b0 (o0 + i * 1 + j)))) (x1 y1 z1 : Int) (h1 : (rck n0 (fun i q => cellN w b0 (o0 + i * 1 + q))).2 = 0) (h2 : ¬ (0 ≤ x1 ∧ x1 < (n0 : Nat))) : Calls Try.prog 3 #[.slice (some ⟨b0, o0, none⟩) n0 c0, .agg #[.int .i64 x1, .int .i64 y1, .int .i64 z1]] w fun e w' => e = .returned (.bool true) ∧ Below w.heap.size w w' := by
  obtain ⟨e0, hbr0⟩ := row_of_cells (w := w) (S := fun _ => none) (ks := [.i64]) (b := b0) (o := o0) (n := n0) (c := c0) (f := fun i q => cellN w b0 (o0 + i * 1 + q)) (by decide) hc0
  refine law_ok (E := mk XMX) (mkOk XMX_told) (n := 4) (A := (rchgX_rA e0 n0 c0 (fun i q => cellN w b0 (o0 + i * 1 + q)) x1 y1 z1)) (f := 3) (fn := Try.f3) (by kernel_rfl) («as» := [rsl 0 0 n0 c0, .agg ⟨[.int .i64 x1, .int .i64 y1, .int .i64 z1]⟩]) (bs := [.row true [.i64] e0 n0 c0 fun i q => cellN w b0 (o0 + i * 1 + q)]) (args' := #[.slice (some ⟨b0, o0, none⟩) n0 c0, .agg #[.int .i64 x1, .int .i64 y1, .int .i64 z1]]) [⟨b0, o0, 1⟩] rfl (fun j o x h h' => by
      rcases j with _ | j
      · obtain rfl := Option.some.inj h
        obtain rfl := Option.some.inj h'
        exact ⟨rfl, hbr0, hb0⟩
      · simp at h) (.cons (by have q := VR.rsl (S := fun b => ([⟨b0, o0, 1⟩] : List Rx.Loc)[b]?) (b := 0) 0 n0 c0 rfl; simpa [rsl] using q) (.cons (groundT_refl rfl) .nil)) ?_
  exact cast (rchgX_rE e0 n0 c0 (fun i q => cellN w b0 (o0 + i * 1 + q)) x1 y1 z1 fun _ _ => True) (rchgX_rP e0 n0 c0 (fun i q => cellN w b0 (o0 + i * 1 + q)) x1 y1 z1 (fun _ _ => True) h1 h2)
theorem walk_r_RX (w : World) (b0 o0 n0 c0 : Nat) (hb0 : b0 < w.heap.size) (hc0 : ∀ (i j : Nat) k, i < n0 → ([.i64] : List IntKind)[j]? = some k → w.cell? ⟨b0, o0 + i * 1 + j, none⟩ = some (.int k (cellN w b0 (o0 + i * 1 + j)))) (x1 y1 z1 : Int) (h1 : (rck n0 (fun i q => cellN w b0 (o0 + i * 1 + q))).2 = 0) (h2 : 0 ≤ x1 ∧ x1 < (n0 : Nat)) (h3 : ¬ (0 ≤ z1 ∧ z1 ≤ 1600)) (h4 : ¬ (0 ≤ y1 ∧ y1 < (n0 : Nat))) : Calls Try.prog 3 #[.slice (some ⟨b0, o0, none⟩) n0 c0, .agg #[.int .i64 x1, .int .i64 y1, .int .i64 z1]] w fun e w' => e = .returned (.bool true) ∧ Below w.heap.size w w' := by
  obtain ⟨e0, hbr0⟩ := row_of_cells (w := w) (S := fun _ => none) (ks := [.i64]) (b := b0) (o := o0) (n := n0) (c := c0) (f := fun i q => cellN w b0 (o0 + i * 1 + q)) (by decide) hc0
  refine law_ok (E := mk XMRX) (mkOk XMRX_told) (n := 4) (A := (rchgRX_rA e0 n0 c0 (fun i q => cellN w b0 (o0 + i * 1 + q)) x1 y1 z1)) (f := 3) (fn := Try.f3) (by kernel_rfl) («as» := [rsl 0 0 n0 c0, .agg ⟨[.int .i64 x1, .int .i64 y1, .int .i64 z1]⟩]) (bs := [.row true [.i64] e0 n0 c0 fun i q => cellN w b0 (o0 + i * 1 + q)]) (args' := #[.slice (some ⟨b0, o0, none⟩) n0 c0, .agg #[.int .i64 x1, .int .i64 y1, .int .i64 z1]]) [⟨b0, o0, 1⟩] rfl (fun j o x h h' => by
      rcases j with _ | j
      · obtain rfl := Option.some.inj h
        obtain rfl := Option.some.inj h'
        exact ⟨rfl, hbr0, hb0⟩
      · simp at h) (.cons (by have q := VR.rsl (S := fun b => ([⟨b0, o0, 1⟩] : List Rx.Loc)[b]?) (b := 0) 0 n0 c0 rfl; simpa [rsl] using q) (.cons (groundT_refl rfl) .nil)) ?_
  exact cast (rchgRX_rE e0 n0 c0 (fun i q => cellN w b0 (o0 + i * 1 + q)) x1 y1 z1 fun _ _ => True) (rchgRX_rP e0 n0 c0 (fun i q => cellN w b0 (o0 + i * 1 + q)) x1 y1 z1 (fun _ _ => True) h1 h2 h3 h4)
theorem walk_r_RG (w : World) (b0 o0 n0 c0 : Nat) (hb0 : b0 < w.heap.size) (hc0 : ∀ (i j : Nat) k, i < n0 → ([.i64] : List IntKind)[j]? = some k → w.cell? ⟨b0, o0 + i * 1 + j, none⟩ = some (.int k (cellN w b0 (o0 + i * 1 + j)))) (x1 y1 z1 : Int) (h1 : (rck n0 (fun i q => cellN w b0 (o0 + i * 1 + q))).2 = 0) (h2 : 0 ≤ x1 ∧ x1 < (n0 : Nat)) (h3 : ¬ (0 ≤ z1 ∧ z1 ≤ 1600)) (h4 : 0 ≤ y1 ∧ y1 < (n0 : Nat)) : Calls Try.prog 3 #[.slice (some ⟨b0, o0, none⟩) n0 c0, .agg #[.int .i64 x1, .int .i64 y1, .int .i64 z1]] w fun e w' => e = .returned (.bool true) ∧ Below w.heap.size w w' := by
  obtain ⟨e0, hbr0⟩ := row_of_cells (w := w) (S := fun _ => none) (ks := [.i64]) (b := b0) (o := o0) (n := n0) (c := c0) (f := fun i q => cellN w b0 (o0 + i * 1 + q)) (by decide) hc0
  refine law_ok (E := mk XMRG) (mkOk XMRG_told) (n := 4) (A := (rchgRG_rA e0 n0 c0 (fun i q => cellN w b0 (o0 + i * 1 + q)) x1 y1 z1)) (f := 3) (fn := Try.f3) (by kernel_rfl) («as» := [rsl 0 0 n0 c0, .agg ⟨[.int .i64 x1, .int .i64 y1, .int .i64 z1]⟩]) (bs := [.row true [.i64] e0 n0 c0 fun i q => cellN w b0 (o0 + i * 1 + q)]) (args' := #[.slice (some ⟨b0, o0, none⟩) n0 c0, .agg #[.int .i64 x1, .int .i64 y1, .int .i64 z1]]) [⟨b0, o0, 1⟩] rfl (fun j o x h h' => by
      rcases j with _ | j
      · obtain rfl := Option.some.inj h
        obtain rfl := Option.some.inj h'
        exact ⟨rfl, hbr0, hb0⟩
      · simp at h) (.cons (by have q := VR.rsl (S := fun b => ([⟨b0, o0, 1⟩] : List Rx.Loc)[b]?) (b := 0) 0 n0 c0 rfl; simpa [rsl] using q) (.cons (groundT_refl rfl) .nil)) ?_
  exact cast (rchgRG_rE e0 n0 c0 (fun i q => cellN w b0 (o0 + i * 1 + q)) x1 y1 z1 fun _ _ => True) (rchgRG_rP e0 n0 c0 (fun i q => cellN w b0 (o0 + i * 1 + q)) x1 y1 z1 (fun _ _ => True) h1 h2 h3 h4)
theorem walk_r_GX (w : World) (b0 o0 n0 c0 : Nat) (hb0 : b0 < w.heap.size) (hc0 : ∀ (i j : Nat) k, i < n0 → ([.i64] : List IntKind)[j]? = some k → w.cell? ⟨b0, o0 + i * 1 + j, none⟩ = some (.int k (cellN w b0 (o0 + i * 1 + j)))) (x1 y1 z1 : Int) (h1 : (rck n0 (fun i q => cellN w b0 (o0 + i * 1 + q))).2 = 0) (h2 : 0 ≤ x1 ∧ x1 < (n0 : Nat)) (h3 : 0 ≤ z1 ∧ z1 ≤ 1600) (h4 : ¬ (0 ≤ y1 ∧ y1 < (n0 : Nat))) : Calls Try.prog 3 #[.slice (some ⟨b0, o0, none⟩) n0 c0, .agg #[.int .i64 x1, .int .i64 y1, .int .i64 z1]] w fun e w' => e = .returned (.bool true) ∧ Below w.heap.size w w' := by
  obtain ⟨e0, hbr0⟩ := row_of_cells (w := w) (S := fun _ => none) (ks := [.i64]) (b := b0) (o := o0) (n := n0) (c := c0) (f := fun i q => cellN w b0 (o0 + i * 1 + q)) (by decide) hc0
  refine law_ok (E := mk XMGX) (mkOk XMGX_told) (n := 4) (A := (rchgGX_rA e0 n0 c0 (fun i q => cellN w b0 (o0 + i * 1 + q)) x1 y1 z1)) (f := 3) (fn := Try.f3) (by kernel_rfl) («as» := [rsl 0 0 n0 c0, .agg ⟨[.int .i64 x1, .int .i64 y1, .int .i64 z1]⟩]) (bs := [.row true [.i64] e0 n0 c0 fun i q => cellN w b0 (o0 + i * 1 + q)]) (args' := #[.slice (some ⟨b0, o0, none⟩) n0 c0, .agg #[.int .i64 x1, .int .i64 y1, .int .i64 z1]]) [⟨b0, o0, 1⟩] rfl (fun j o x h h' => by
      rcases j with _ | j
      · obtain rfl := Option.some.inj h
        obtain rfl := Option.some.inj h'
        exact ⟨rfl, hbr0, hb0⟩
      · simp at h) (.cons (by have q := VR.rsl (S := fun b => ([⟨b0, o0, 1⟩] : List Rx.Loc)[b]?) (b := 0) 0 n0 c0 rfl; simpa [rsl] using q) (.cons (groundT_refl rfl) .nil)) ?_
  exact cast (rchgGX_rE e0 n0 c0 (fun i q => cellN w b0 (o0 + i * 1 + q)) x1 y1 z1 fun _ _ => True) (rchgGX_rP e0 n0 c0 (fun i q => cellN w b0 (o0 + i * 1 + q)) x1 y1 z1 (fun _ _ => True) h1 h2 h3 h4)
theorem walk_r_GG (w : World) (b0 o0 n0 c0 : Nat) (hb0 : b0 < w.heap.size) (hc0 : ∀ (i j : Nat) k, i < n0 → ([.i64] : List IntKind)[j]? = some k → w.cell? ⟨b0, o0 + i * 1 + j, none⟩ = some (.int k (cellN w b0 (o0 + i * 1 + j)))) (x1 y1 z1 : Int) (h1 : (rck n0 (fun i q => cellN w b0 (o0 + i * 1 + q))).2 = 0) (h2 : 0 ≤ x1 ∧ x1 < (n0 : Nat)) (h3 : 0 ≤ z1 ∧ z1 ≤ 1600) (h4 : 0 ≤ y1 ∧ y1 < (n0 : Nat)) : Calls Try.prog 3 #[.slice (some ⟨b0, o0, none⟩) n0 c0, .agg #[.int .i64 x1, .int .i64 y1, .int .i64 z1]] w fun e w' => e = .returned (.bool true) ∧ Below w.heap.size w w' := by
  obtain ⟨e0, hbr0⟩ := row_of_cells (w := w) (S := fun _ => none) (ks := [.i64]) (b := b0) (o := o0) (n := n0) (c := c0) (f := fun i q => cellN w b0 (o0 + i * 1 + q)) (by decide) hc0
  refine law_ok (E := mk XMGG) (mkOk XMGG_told) (n := 4) (A := (rchgGG_rA e0 n0 c0 (fun i q => cellN w b0 (o0 + i * 1 + q)) x1 y1 z1)) (f := 3) (fn := Try.f3) (by kernel_rfl) («as» := [rsl 0 0 n0 c0, .agg ⟨[.int .i64 x1, .int .i64 y1, .int .i64 z1]⟩]) (bs := [.row true [.i64] e0 n0 c0 fun i q => cellN w b0 (o0 + i * 1 + q)]) (args' := #[.slice (some ⟨b0, o0, none⟩) n0 c0, .agg #[.int .i64 x1, .int .i64 y1, .int .i64 z1]]) [⟨b0, o0, 1⟩] rfl (fun j o x h h' => by
      rcases j with _ | j
      · obtain rfl := Option.some.inj h
        obtain rfl := Option.some.inj h'
        exact ⟨rfl, hbr0, hb0⟩
      · simp at h) (.cons (by have q := VR.rsl (S := fun b => ([⟨b0, o0, 1⟩] : List Rx.Loc)[b]?) (b := 0) 0 n0 c0 rfl; simpa [rsl] using q) (.cons (groundT_refl rfl) .nil)) ?_
  exact cast (rchgGG_rE e0 n0 c0 (fun i q => cellN w b0 (o0 + i * 1 + q)) x1 y1 z1 fun _ _ => True) (rchgGG_rP e0 n0 c0 (fun i q => cellN w b0 (o0 + i * 1 + q)) x1 y1 z1 (fun _ _ => True) h1 h2 h3 h4)
theorem walk_r (w : World) (b0 o0 n0 c0 : Nat) (hb0 : b0 < w.heap.size) (hc0 : ∀ (i j : Nat) k, i < n0 → ([.i64] : List IntKind)[j]? = some k → w.cell? ⟨b0, o0 + i * 1 + j, none⟩ = some (.int k (cellN w b0 (o0 + i * 1 + j)))) (x1 y1 z1 : Int) : Calls Try.prog 3 #[.slice (some ⟨b0, o0, none⟩) n0 c0, .agg #[.int .i64 x1, .int .i64 y1, .int .i64 z1]] w fun e w' => e = .returned (.bool true) ∧ Below w.heap.size w w' := by
  by_cases h1 : (rck n0 (fun i q => cellN w b0 (o0 + i * 1 + q))).2 = 0
  · by_cases h2 : 0 ≤ x1 ∧ x1 < (n0 : Nat)
    · by_cases h3 : 0 ≤ z1 ∧ z1 ≤ 1600
      · by_cases h4 : 0 ≤ y1 ∧ y1 < (n0 : Nat)
        · exact walk_r_GG w b0 o0 n0 c0 hb0 hc0 x1 y1 z1 h1 h2 h3 h4
        · exact walk_r_GX w b0 o0 n0 c0 hb0 hc0 x1 y1 z1 h1 h2 h3 h4
      · by_cases h4 : 0 ≤ y1 ∧ y1 < (n0 : Nat)
        · exact walk_r_RG w b0 o0 n0 c0 hb0 hc0 x1 y1 z1 h1 h2 h3 h4
        · exact walk_r_RX w b0 o0 n0 c0 hb0 hc0 x1 y1 z1 h1 h2 h3 h4
    · exact walk_r_X w b0 o0 n0 c0 hb0 hc0 x1 y1 z1 h1 h2
  · exact walk_r_B w b0 o0 n0 c0 hb0 hc0 x1 y1 z1 h1

set_option maxRecDepth 100000 in
set_option maxHeartbeats 4000000 in
theorem lifted (os : Os) (started : os.Started) (H : Type) (enc : TypeId × Value → H) :
    ReturnsInHanded {} Try.checked os 3 .any (Rows.rootsChangesSpec.pre6 enc Try.prog Try.f3 Rows.rootsChangesRow.domain false) (Rows.rootsChangesSpec.post enc Try.prog Try.f3 false true false false) := by
  refine returnsInHanded_of_change (C := Try.checked) own started (by kernel_rfl) Try.func3
    (ChangeSpec.witness6 (enc := enc) (C := Try.checked) false ⟨#[], #[.slice none 0 0, .agg #[.int .i64 0, .int .i64 0, .int .i64 0]], []⟩ 8 (by kernel_rfl) (by kernel_rfl) (by kernel_rfl) (by kernel_rfl)) ?_
  intro W base args ds gs before hval0 hW hcnd _
  have hval : ∀ (j : Nat) t v, Try.f3.params[j]? = some t → args[j]? = some v → Value.okWide Try.prog W .any base t v := hval0
  have hW' := hW
  obtain ⟨p, q, hA0, hV, rfl, hfz, hnd⟩ := hW
  have hA : DataW.TrodAll enc Try.prog W 0 (fun _ => true) true Try.f3.params.toList args.toList ds p := hA0
  rw [Try.params3] at hA hval
  obtain ⟨rfl, rfl⟩ := trodVars_none hV
  simp only [List.append_nil] at hW'
  obtain ⟨v0, vs0, d0, ds0, p0, q0, hv0, rfl, rfl, t0, hA0z⟩ := trodAll_cons hA
  obtain ⟨v1, vs1, d1, ds1, p1, q1, hv1, rfl, rfl, t1, hA1z⟩ := trodAll_cons hA0z
  obtain ⟨rfl, rfl, rfl⟩ := trodAll_nil hA1z
  obtain rfl : args = #[v0, v1] := by
    apply Array.ext'
    rw [hv0]
    rw [hv1]
  clear hv0 hv1
  obtain ⟨vl1, yl1, n1, rfl, hvl1, hf1⟩ := Ev.open_fields Try.underlying24 (by kernel_rfl) cellsS (hval 1 24 v1 rfl rfl) t1
  obtain ⟨u1_0, u1_1, u1_2, rfl⟩ : ∃ u1_0 u1_1 u1_2, vl1 = [u1_0, u1_1, u1_2] := by
    exact len3 (hvl1.trans (by kernel_rfl))
  obtain ⟨w1_0, y1_0, hw1_0, hy1_0⟩ := hf1 0 _ rfl
  obtain rfl : u1_0 = w1_0 := Option.some.inj hw1_0
  obtain ⟨x0, e1_0, -, wa0⟩ := DataW.trod_int Try.underlying3 hy1_0
  simp at e1_0
  subst e1_0
  obtain ⟨w1_1, y1_1, hw1_1, hy1_1⟩ := hf1 1 _ rfl
  obtain rfl : u1_1 = w1_1 := Option.some.inj hw1_1
  obtain ⟨x1, e1_1, -, wa1⟩ := DataW.trod_int Try.underlying3 hy1_1
  simp at e1_1
  subst e1_1
  obtain ⟨w1_2, y1_2, hw1_2, hy1_2⟩ := hf1 2 _ rfl
  obtain rfl : u1_2 = w1_2 := Option.some.inj hw1_2
  obtain ⟨x2, e1_2, -, wa2⟩ := DataW.trod_int Try.underlying3 hy1_2
  simp at e1_2
  subst e1_2
  rcases ints_in (k := .i64) Try.underlying22 Try.underlying3 (by kernel_rfl) (hval 0 22 v0 rfl rfl) t0 with rfl | ⟨b0, o0, n0, c0, rfl, hb0, hn0, hc0, hwf0⟩
  · exact (walk_n W x0 x1 x2).mono fun e W' ⟨he, hg⟩ => (by
      subst he
      exact ⟨_, rfl, Frm.post_true (by kernel_rfl) (by kernel_rfl) rfl rfl Try.underlying4 hW' hg rfl⟩)
  · exact (walk_r W b0 o0 n0 c0 hb0 hc0 x0 x1 x2).mono fun e W' ⟨he, hg⟩ => (by
      subst he
      exact ⟨_, rfl, Frm.post_true (by kernel_rfl) (by kernel_rfl) rfl rfl Try.underlying4 hW' hg rfl⟩)

theorem over : Rows.rootsChangesRow.holds Try.pinned (OpenSpec.ofChange Rows.rootsChangesSpec) :=
  OpenClaim.holds_of_wide 3 Try.f3 rfl rfl rfl rfl rfl rfl rfl ⟨rfl, rfl, rfl, rfl, rfl⟩ rfl rfl rfl rfl rfl (by kernel_rfl) Try.func3 (by kernel_rfl)
    (of_decide_eq_true (by kernel_rfl)) (by unfold Func.isWrapper; first | (rw [if_pos (by decide +kernel)]; kernel_rfl) | (rw [if_neg (by decide +kernel)]; exact ⟨rfl, rfl⟩))
    (fun os started H enc _ => lifted os started H enc)

theorem proved : Rows.RootsChangesSaid := over
#print axioms proved
end Go.Proofs.Ytmnhjnfjgfjafaa.rootsChanges
