/-
  'RootsSets': after Set, Get is the address, and all others are as before. No project text.
-/
import Derived.Test.YtmnhjnfjgfjafaaSetsB
import Derived.Test.YtmnhjnfjgfjafaaFrm
import Derived.Test.YtmnhjnfjgfjafaaRows
import Derived.Test.YtmnhjnfjgfjafaaSy
import Derived.Test.YtmnhjnfjgfjafaaArr
namespace Go.Proofs.Ytmnhjnfjgfjafaa.rootsSets
open Go.Rx Go.Proofs.Ytmnhjnfjgfjafaa.Fr
open Go.ChangeShapes Go.WideShapes Go.ChangeAt Go.RowKit
set_option linter.unusedVariables false
theorem own : ownKnob Try.prog.godebug = none := by kernel_rfl
theorem len3 {l : List Value} (h : l.length = 3) : ∃ a0 a1 a2, l = [a0, a1, a2] := by
  match l, h with
  | [a0, a1, a2], _ => exact ⟨a0, a1, a2, rfl⟩
theorem cellsS : Try.prog.cellsOf 24 = 3 := by kernel_rfl
theorem walk_n_B (w : World) (x1 y1 z1 : Int) (h1 : ¬ (rck 0 zF).2 = 0) : Calls Try.prog 4 #[.slice none 0 0, .agg #[.int .i64 x1, .int .i64 y1, .int .i64 z1]] w fun e w' => e = .returned (.bool true) ∧ Below w.heap.size w w' := by
  refine law_ok (E := mk XLB) (mkOk XLB_told) (n := 4) (A := (rsetsB_nA x1 y1 z1)) (f := 4) (fn := Try.f4) (by kernel_rfl) («as» := [.slice none 0 0, .agg ⟨[.int .i64 x1, .int .i64 y1, .int .i64 z1]⟩]) (bs := []) (args' := #[.slice none 0 0, .agg #[.int .i64 x1, .int .i64 y1, .int .i64 z1]]) [] rfl (fun j o x h => by simp at h) (.cons (.slN 0 0) (.cons (groundT_refl rfl) .nil)) ?_
  exact cast (rsetsB_nE x1 y1 z1 fun _ _ => True) (rsetsB_nP x1 y1 z1 (fun _ _ => True) h1)
theorem walk_n (w : World) (x1 y1 z1 : Int) : Calls Try.prog 4 #[.slice none 0 0, .agg #[.int .i64 x1, .int .i64 y1, .int .i64 z1]] w fun e w' => e = .returned (.bool true) ∧ Below w.heap.size w w' := by
  by_cases h1 : (rck 0 zF).2 = 0
  · have g := (rck_ok h1).1
    omega
  · exact walk_n_B w x1 y1 z1 h1
theorem walk_r_B (w : World) (b0 o0 n0 c0 : Nat) (hb0 : b0 < w.heap.size) (hc0 : ∀ (i j : Nat) k, i < n0 → ([.i64] : List IntKind)[j]? = some k → w.cell? ⟨b0, o0 + i * 1 + j, none⟩ = some (.int k (cellN w b0 (o0 + i * 1 + j)))) (x1 y1 z1 : Int) (h1 : ¬ (rck n0 (fun i q => cellN w b0 (o0 + i * 1 + q))).2 = 0) : Calls Try.prog 4 #[.slice (some ⟨b0, o0, none⟩) n0 c0, .agg #[.int .i64 x1, .int .i64 y1, .int .i64 z1]] w fun e w' => e = .returned (.bool true) ∧ Below w.heap.size w w' := by
  obtain ⟨e0, hbr0⟩ := row_of_cells (w := w) (S := fun _ => none) (ks := [.i64]) (b := b0) (o := o0) (n := n0) (c := c0) (f := fun i q => cellN w b0 (o0 + i * 1 + q)) (by decide) hc0
  refine law_ok (E := mk XLB) (mkOk XLB_told) (n := 4) (A := (rsetsB_rA e0 n0 c0 (fun i q => cellN w b0 (o0 + i * 1 + q)) x1 y1 z1)) (f := 4) (fn := Try.f4) (by kernel_rfl) («as» := [rsl 0 0 n0 c0, .agg ⟨[.int .i64 x1, .int .i64 y1, .int .i64 z1]⟩]) (bs := [.row true [.i64] e0 n0 c0 fun i q => cellN w b0 (o0 + i * 1 + q)]) (args' := #[.slice (some ⟨b0, o0, none⟩) n0 c0, .agg #[.int .i64 x1, .int .i64 y1, .int .i64 z1]]) [⟨b0, o0, 1⟩] rfl (fun j o x h h' => by
      rcases j with _ | j
      · obtain rfl := Option.some.inj h
        obtain rfl := Option.some.inj h'
        exact ⟨rfl, hbr0, hb0⟩
      · simp at h) (.cons (by have q := VR.rsl (S := fun b => ([⟨b0, o0, 1⟩] : List Rx.Loc)[b]?) (b := 0) 0 n0 c0 rfl; simpa [rsl] using q) (.cons (groundT_refl rfl) .nil)) ?_
  exact cast (rsetsB_rE e0 n0 c0 (fun i q => cellN w b0 (o0 + i * 1 + q)) x1 y1 z1 fun _ _ => True) (rsetsB_rP e0 n0 c0 (fun i q => cellN w b0 (o0 + i * 1 + q)) x1 y1 z1 (fun _ _ => True) h1)
theorem walk_r_X (w : World) (b0 o0 n0 c0 : Nat) (hb0 : b0 < w.heap.size) (hc0 : ∀ (i j : Nat) k, i < n0 → ([.i64] : List IntKind)[j]? = some k → w.cell? ⟨b0, o0 + i * 1 + j, none⟩ = some (.int k (cellN w b0 (o0 + i * 1 + j)))) (x1 y1 z1 : Int) (h1 : (rck n0 (fun i q => cellN w b0 (o0 + i * 1 + q))).2 = 0) (h2 : ¬ (0 ≤ x1 ∧ x1 < (n0 : Nat))) : Calls Try.prog 4 #[.slice (some ⟨b0, o0, none⟩) n0 c0, .agg #[.int .i64 x1, .int .i64 y1, .int .i64 z1]] w fun e w' => e = .returned (.bool true) ∧ Below w.heap.size w w' := by
  obtain ⟨e0, hbr0⟩ := row_of_cells (w := w) (S := fun _ => none) (ks := [.i64]) (b := b0) (o := o0) (n := n0) (c := c0) (f := fun i q => cellN w b0 (o0 + i * 1 + q)) (by decide) hc0
  refine law_ok (E := mk XLX) (mkOk XLX_told) (n := 4) (A := (rsetsX_rA e0 n0 c0 (fun i q => cellN w b0 (o0 + i * 1 + q)) x1 y1 z1)) (f := 4) (fn := Try.f4) (by kernel_rfl) («as» := [rsl 0 0 n0 c0, .agg ⟨[.int .i64 x1, .int .i64 y1, .int .i64 z1]⟩]) (bs := [.row true [.i64] e0 n0 c0 fun i q => cellN w b0 (o0 + i * 1 + q)]) (args' := #[.slice (some ⟨b0, o0, none⟩) n0 c0, .agg #[.int .i64 x1, .int .i64 y1, .int .i64 z1]]) [⟨b0, o0, 1⟩] rfl (fun j o x h h' => by
      rcases j with _ | j
      · obtain rfl := Option.some.inj h
        obtain rfl := Option.some.inj h'
        exact ⟨rfl, hbr0, hb0⟩
      · simp at h) (.cons (by have q := VR.rsl (S := fun b => ([⟨b0, o0, 1⟩] : List Rx.Loc)[b]?) (b := 0) 0 n0 c0 rfl; simpa [rsl] using q) (.cons (groundT_refl rfl) .nil)) ?_
  exact cast (rsetsX_rE e0 n0 c0 (fun i q => cellN w b0 (o0 + i * 1 + q)) x1 y1 z1 fun _ _ => True) (rsetsX_rP e0 n0 c0 (fun i q => cellN w b0 (o0 + i * 1 + q)) x1 y1 z1 (fun _ _ => True) h1 h2)
theorem walk_r_R (w : World) (b0 o0 n0 c0 : Nat) (hb0 : b0 < w.heap.size) (hc0 : ∀ (i j : Nat) k, i < n0 → ([.i64] : List IntKind)[j]? = some k → w.cell? ⟨b0, o0 + i * 1 + j, none⟩ = some (.int k (cellN w b0 (o0 + i * 1 + j)))) (x1 y1 z1 : Int) (h1 : (rck n0 (fun i q => cellN w b0 (o0 + i * 1 + q))).2 = 0) (h2 : 0 ≤ x1 ∧ x1 < (n0 : Nat)) (h3 : ¬ (0 ≤ z1 ∧ z1 ≤ 1600)) : Calls Try.prog 4 #[.slice (some ⟨b0, o0, none⟩) n0 c0, .agg #[.int .i64 x1, .int .i64 y1, .int .i64 z1]] w fun e w' => e = .returned (.bool true) ∧ Below w.heap.size w w' := by
  obtain ⟨e0, hbr0⟩ := row_of_cells (w := w) (S := fun _ => none) (ks := [.i64]) (b := b0) (o := o0) (n := n0) (c := c0) (f := fun i q => cellN w b0 (o0 + i * 1 + q)) (by decide) hc0
  refine law_ok (E := mk XLR) (mkOk XLR_told) (n := 4) (A := (rsetsR_rA e0 n0 c0 (fun i q => cellN w b0 (o0 + i * 1 + q)) x1 y1 z1)) (f := 4) (fn := Try.f4) (by kernel_rfl) («as» := [rsl 0 0 n0 c0, .agg ⟨[.int .i64 x1, .int .i64 y1, .int .i64 z1]⟩]) (bs := [.row true [.i64] e0 n0 c0 fun i q => cellN w b0 (o0 + i * 1 + q)]) (args' := #[.slice (some ⟨b0, o0, none⟩) n0 c0, .agg #[.int .i64 x1, .int .i64 y1, .int .i64 z1]]) [⟨b0, o0, 1⟩] rfl (fun j o x h h' => by
      rcases j with _ | j
      · obtain rfl := Option.some.inj h
        obtain rfl := Option.some.inj h'
        exact ⟨rfl, hbr0, hb0⟩
      · simp at h) (.cons (by have q := VR.rsl (S := fun b => ([⟨b0, o0, 1⟩] : List Rx.Loc)[b]?) (b := 0) 0 n0 c0 rfl; simpa [rsl] using q) (.cons (groundT_refl rfl) .nil)) ?_
  exact cast (rsetsR_rE e0 n0 c0 (fun i q => cellN w b0 (o0 + i * 1 + q)) x1 y1 z1 fun _ _ => True) (rsetsR_rP e0 n0 c0 (fun i q => cellN w b0 (o0 + i * 1 + q)) x1 y1 z1 (fun _ _ => True) h1 h2 h3)
theorem walk_r_M (w : World) (b0 o0 n0 c0 : Nat) (hb0 : b0 < w.heap.size) (hc0 : ∀ (i j : Nat) k, i < n0 → ([.i64] : List IntKind)[j]? = some k → w.cell? ⟨b0, o0 + i * 1 + j, none⟩ = some (.int k (cellN w b0 (o0 + i * 1 + j)))) (x1 y1 z1 : Int) (h1 : (rck n0 (fun i q => cellN w b0 (o0 + i * 1 + q))).2 = 0) (h2 : 0 ≤ x1 ∧ x1 < (n0 : Nat)) (h3 : 0 ≤ z1 ∧ z1 ≤ 1600) (h4 : ¬ (0 ≤ y1 ∧ y1 < (n0 : Nat))) : Calls Try.prog 4 #[.slice (some ⟨b0, o0, none⟩) n0 c0, .agg #[.int .i64 x1, .int .i64 y1, .int .i64 z1]] w fun e w' => e = .returned (.bool true) ∧ Below w.heap.size w w' := by
  obtain ⟨e0, hbr0⟩ := row_of_cells (w := w) (S := fun _ => none) (ks := [.i64]) (b := b0) (o := o0) (n := n0) (c := c0) (f := fun i q => cellN w b0 (o0 + i * 1 + q)) (by decide) hc0
  refine law_ok (E := mk XLM) (mkOk XLM_told) (n := 4) (A := (rsetsM_rA e0 n0 c0 (fun i q => cellN w b0 (o0 + i * 1 + q)) x1 y1 z1)) (f := 4) (fn := Try.f4) (by kernel_rfl) («as» := [rsl 0 0 n0 c0, .agg ⟨[.int .i64 x1, .int .i64 y1, .int .i64 z1]⟩]) (bs := [.row true [.i64] e0 n0 c0 fun i q => cellN w b0 (o0 + i * 1 + q)]) (args' := #[.slice (some ⟨b0, o0, none⟩) n0 c0, .agg #[.int .i64 x1, .int .i64 y1, .int .i64 z1]]) [⟨b0, o0, 1⟩] rfl (fun j o x h h' => by
      rcases j with _ | j
      · obtain rfl := Option.some.inj h
        obtain rfl := Option.some.inj h'
        exact ⟨rfl, hbr0, hb0⟩
      · simp at h) (.cons (by have q := VR.rsl (S := fun b => ([⟨b0, o0, 1⟩] : List Rx.Loc)[b]?) (b := 0) 0 n0 c0 rfl; simpa [rsl] using q) (.cons (groundT_refl rfl) .nil)) ?_
  exact cast (rsetsM_rE e0 n0 c0 (fun i q => cellN w b0 (o0 + i * 1 + q)) x1 y1 z1 fun _ _ => True) (rsetsM_rP e0 n0 c0 (fun i q => cellN w b0 (o0 + i * 1 + q)) x1 y1 z1 (fun _ _ => True) h1 h2 h3 h4)
theorem walk_r_G (w : World) (b0 o0 n0 c0 : Nat) (hb0 : b0 < w.heap.size) (hc0 : ∀ (i j : Nat) k, i < n0 → ([.i64] : List IntKind)[j]? = some k → w.cell? ⟨b0, o0 + i * 1 + j, none⟩ = some (.int k (cellN w b0 (o0 + i * 1 + j)))) (x1 y1 z1 : Int) (h1 : (rck n0 (fun i q => cellN w b0 (o0 + i * 1 + q))).2 = 0) (h2 : 0 ≤ x1 ∧ x1 < (n0 : Nat)) (h3 : 0 ≤ z1 ∧ z1 ≤ 1600) (h4 : 0 ≤ y1 ∧ y1 < (n0 : Nat)) : Calls Try.prog 4 #[.slice (some ⟨b0, o0, none⟩) n0 c0, .agg #[.int .i64 x1, .int .i64 y1, .int .i64 z1]] w fun e w' => e = .returned (.bool true) ∧ Below w.heap.size w w' := by
  obtain ⟨e0, hbr0⟩ := row_of_cells (w := w) (S := fun _ => none) (ks := [.i64]) (b := b0) (o := o0) (n := n0) (c := c0) (f := fun i q => cellN w b0 (o0 + i * 1 + q)) (by decide) hc0
  refine law_ok (E := mk XLG) (mkOk XLG_told) (n := 4) (A := (rsetsG_rA e0 n0 c0 (fun i q => cellN w b0 (o0 + i * 1 + q)) x1 y1 z1)) (f := 4) (fn := Try.f4) (by kernel_rfl) («as» := [rsl 0 0 n0 c0, .agg ⟨[.int .i64 x1, .int .i64 y1, .int .i64 z1]⟩]) (bs := [.row true [.i64] e0 n0 c0 fun i q => cellN w b0 (o0 + i * 1 + q)]) (args' := #[.slice (some ⟨b0, o0, none⟩) n0 c0, .agg #[.int .i64 x1, .int .i64 y1, .int .i64 z1]]) [⟨b0, o0, 1⟩] rfl (fun j o x h h' => by
      rcases j with _ | j
      · obtain rfl := Option.some.inj h
        obtain rfl := Option.some.inj h'
        exact ⟨rfl, hbr0, hb0⟩
      · simp at h) (.cons (by have q := VR.rsl (S := fun b => ([⟨b0, o0, 1⟩] : List Rx.Loc)[b]?) (b := 0) 0 n0 c0 rfl; simpa [rsl] using q) (.cons (groundT_refl rfl) .nil)) ?_
  exact cast (rsetsG_rE e0 n0 c0 (fun i q => cellN w b0 (o0 + i * 1 + q)) x1 y1 z1 fun _ _ => True) (rsetsG_rP e0 n0 c0 (fun i q => cellN w b0 (o0 + i * 1 + q)) x1 y1 z1 (fun _ _ => True) h1 h2 h3 h4)
theorem walk_r (w : World) (b0 o0 n0 c0 : Nat) (hb0 : b0 < w.heap.size) (hc0 : ∀ (i j : Nat) k, i < n0 → ([.i64] : List IntKind)[j]? = some k → w.cell? ⟨b0, o0 + i * 1 + j, none⟩ = some (.int k (cellN w b0 (o0 + i * 1 + j)))) (x1 y1 z1 : Int) : Calls Try.prog 4 #[.slice (some ⟨b0, o0, none⟩) n0 c0, .agg #[.int .i64 x1, .int .i64 y1, .int .i64 z1]] w fun e w' => e = .returned (.bool true) ∧ Below w.heap.size w w' := by
  by_cases h1 : (rck n0 (fun i q => cellN w b0 (o0 + i * 1 + q))).2 = 0
  · by_cases h2 : 0 ≤ x1 ∧ x1 < (n0 : Nat)
    · by_cases h3 : 0 ≤ z1 ∧ z1 ≤ 1600
      · by_cases h4 : 0 ≤ y1 ∧ y1 < (n0 : Nat)
        · exact walk_r_G w b0 o0 n0 c0 hb0 hc0 x1 y1 z1 h1 h2 h3 h4
        · exact walk_r_M w b0 o0 n0 c0 hb0 hc0 x1 y1 z1 h1 h2 h3 h4
      · exact walk_r_R w b0 o0 n0 c0 hb0 hc0 x1 y1 z1 h1 h2 h3
    · exact walk_r_X w b0 o0 n0 c0 hb0 hc0 x1 y1 z1 h1 h2
  · exact walk_r_B w b0 o0 n0 c0 hb0 hc0 x1 y1 z1 h1

set_option maxRecDepth 100000 in
set_option maxHeartbeats 4000000 in
theorem lifted (os : Os) (started : os.Started) (H : Type) (enc : TypeId × Value → H) :
    ReturnsInHanded {} Try.checked os 4 .any (Rows.rootsSetsSpec.pre6 enc Try.prog Try.f4 Rows.rootsSetsRow.domain false) (Rows.rootsSetsSpec.post enc Try.prog Try.f4 false true false false) := by
  refine returnsInHanded_of_change (C := Try.checked) own started (by kernel_rfl) Try.func4
    (ChangeSpec.witness6 (enc := enc) (C := Try.checked) false ⟨#[], #[.slice none 0 0, .agg #[.int .i64 0, .int .i64 0, .int .i64 0]], []⟩ 8 (by kernel_rfl) (by kernel_rfl) (by kernel_rfl) (by kernel_rfl)) ?_
  intro W base args ds gs before hval0 hW hcnd _
  have hval : ∀ (j : Nat) t v, Try.f4.params[j]? = some t → args[j]? = some v → Value.okWide Try.prog W .any base t v := hval0
  have hW' := hW
  obtain ⟨p, q, hA0, hV, rfl, hfz, hnd⟩ := hW
  have hA : DataW.TrodAll enc Try.prog W 0 (fun _ => true) true Try.f4.params.toList args.toList ds p := hA0
  rw [Try.params4] at hA hval
  obtain ⟨rfl, rfl⟩ := trodVars_none hV
  simp only [List.append_nil] at hW'
  obtain ⟨v0, vs0, d0, ds0, p0, q0, hv0, rfl, rfl, t0, hA0z⟩ := trodAll_cons hA
  obtain ⟨v1, vs1, d1, ds1, p1, q1, hv1, rfl, rfl, t1, hA1z⟩ := trodAll_cons hA0z
  obtain ⟨rfl, rfl, rfl⟩ := trodAll_nil hA1z
  obtain rfl : args = #[v0, v1] := by
    apply Array.ext'
    rw [hv0]
    rw [hv1]
  clear hv0 hv1
  obtain ⟨vl1, yl1, n1, rfl, hvl1, hf1⟩ := Ev.open_fields Try.underlying24 (by kernel_rfl) cellsS (hval 1 24 v1 rfl rfl) t1
  obtain ⟨u1_0, u1_1, u1_2, rfl⟩ : ∃ u1_0 u1_1 u1_2, vl1 = [u1_0, u1_1, u1_2] := by
    exact len3 (hvl1.trans (by kernel_rfl))
  obtain ⟨w1_0, y1_0, hw1_0, hy1_0⟩ := hf1 0 _ rfl
  obtain rfl : u1_0 = w1_0 := Option.some.inj hw1_0
  obtain ⟨x0, e1_0, -, wa0⟩ := DataW.trod_int Try.underlying3 hy1_0
  simp at e1_0
  subst e1_0
  obtain ⟨w1_1, y1_1, hw1_1, hy1_1⟩ := hf1 1 _ rfl
  obtain rfl : u1_1 = w1_1 := Option.some.inj hw1_1
  obtain ⟨x1, e1_1, -, wa1⟩ := DataW.trod_int Try.underlying3 hy1_1
  simp at e1_1
  subst e1_1
  obtain ⟨w1_2, y1_2, hw1_2, hy1_2⟩ := hf1 2 _ rfl
  obtain rfl : u1_2 = w1_2 := Option.some.inj hw1_2
  obtain ⟨x2, e1_2, -, wa2⟩ := DataW.trod_int Try.underlying3 hy1_2
  simp at e1_2
  subst e1_2
  rcases ints_in (k := .i64) Try.underlying22 Try.underlying3 (by kernel_rfl) (hval 0 22 v0 rfl rfl) t0 with rfl | ⟨b0, o0, n0, c0, rfl, hb0, hn0, hc0, hwf0⟩
  · exact (walk_n W x0 x1 x2).mono fun e W' ⟨he, hg⟩ => (by
      subst he
      exact ⟨_, rfl, Frm.post_true (by kernel_rfl) (by kernel_rfl) rfl rfl Try.underlying4 hW' hg rfl⟩)
  · exact (walk_r W b0 o0 n0 c0 hb0 hc0 x0 x1 x2).mono fun e W' ⟨he, hg⟩ => (by
      subst he
      exact ⟨_, rfl, Frm.post_true (by kernel_rfl) (by kernel_rfl) rfl rfl Try.underlying4 hW' hg rfl⟩)

theorem over : Rows.rootsSetsRow.holds Try.pinned (OpenSpec.ofChange Rows.rootsSetsSpec) :=
  OpenClaim.holds_of_wide 4 Try.f4 rfl rfl rfl rfl rfl rfl rfl ⟨rfl, rfl, rfl, rfl, rfl⟩ rfl rfl rfl rfl rfl (by kernel_rfl) Try.func4 (by kernel_rfl)
    (of_decide_eq_true (by kernel_rfl)) (by unfold Func.isWrapper; first | (rw [if_pos (by decide +kernel)]; kernel_rfl) | (rw [if_neg (by decide +kernel)]; exact ⟨rfl, rfl⟩))
    (fun os started H enc _ => lifted os started H enc)

theorem proved : Rows.RootsSetsSaid := over
#print axioms proved
end Go.Proofs.Ytmnhjnfjgfjafaa.rootsSets
