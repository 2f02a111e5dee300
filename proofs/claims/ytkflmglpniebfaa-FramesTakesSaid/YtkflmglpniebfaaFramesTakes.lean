/-
  'FramesTakes': a car that is taken was the least free one. No project text.
-/
import Derived.Test.YtkflmglpniebfaaTakesB1
import Derived.Test.YtkflmglpniebfaaTakesB2
import Derived.Test.YtkflmglpniebfaaTakesB3
import Derived.Test.YtkflmglpniebfaaFrm
import Derived.Test.YtkflmglpniebfaaRows
import Derived.Test.YtkflmglpniebfaaSy
namespace Go.Proofs.Ytkflmglpniebfaa.framesTakes
open Go.Rx Go.Proofs.Ytkflmglpniebfaa.Fr
open Go.ChangeShapes Go.WideShapes Go.ChangeAt Go.RowKit
set_option linter.unusedVariables false
theorem own : ownKnob Try.prog.godebug = none := by kernel_rfl
theorem len5 {l : List Value} (h : l.length = 5) : ∃ a0 a1 a2 a3 a4, l = [a0, a1, a2, a3, a4] := by
  match l, h with
  | [a0, a1, a2, a3, a4], _ => exact ⟨a0, a1, a2, a3, a4, rfl⟩
theorem cells23 : Try.prog.cellsOf 23 = 5 := by kernel_rfl
theorem walk_n_BF (w : World) {a b c d e : Int} (hI : InC a b c d e) (x2 : Bool) (hp : x2 = false) (h1 : ¬ (ckF a b c d e 0 zF).2 = 0) : Calls Try.prog 7 #[.agg #[.int .i64 a, .int .i64 b, .int .i64 c, .int .i64 d, .int .i64 e], .slice none 0 0, .bool x2] w fun e w' => e = .returned (.bool true) ∧ Below w.heap.size w w' := by
  subst hp
  refine law_ok (E := mk X7BF) (mkOk X7BF_told) (n := 3) (A := (takesBF_nA a b c d e )) (f := 7) (fn := Try.f7) (by kernel_rfl) («as» := [five' a b c d e, .slice none 0 0, .bool false]) (bs := []) (args' := #[.agg #[.int .i64 a, .int .i64 b, .int .i64 c, .int .i64 d, .int .i64 e], .slice none 0 0, .bool false]) [] rfl (fun j o x h => by simp at h) (.cons (groundT_refl rfl) (.cons (.slN 0 0) (.cons (groundT_refl rfl) .nil))) ?_
  exact cast (takesBF_nE a b c d e fun _ _ => True) (takesBF_nP a b c d e (fun _ _ => True) hI h1)
theorem walk_n_BT (w : World) {a b c d e : Int} (hI : InC a b c d e) (x2 : Bool) (hp : x2 = true) (h1 : ¬ (ckF a b c d e 0 zF).2 = 0) : Calls Try.prog 7 #[.agg #[.int .i64 a, .int .i64 b, .int .i64 c, .int .i64 d, .int .i64 e], .slice none 0 0, .bool x2] w fun e w' => e = .returned (.bool true) ∧ Below w.heap.size w w' := by
  subst hp
  refine law_ok (E := mk X7BT) (mkOk X7BT_told) (n := 3) (A := (takesBT_nA a b c d e )) (f := 7) (fn := Try.f7) (by kernel_rfl) («as» := [five' a b c d e, .slice none 0 0, .bool true]) (bs := []) (args' := #[.agg #[.int .i64 a, .int .i64 b, .int .i64 c, .int .i64 d, .int .i64 e], .slice none 0 0, .bool true]) [] rfl (fun j o x h => by simp at h) (.cons (groundT_refl rfl) (.cons (.slN 0 0) (.cons (groundT_refl rfl) .nil))) ?_
  exact cast (takesBT_nE a b c d e fun _ _ => True) (takesBT_nP a b c d e (fun _ _ => True) hI h1)
theorem walk_n (w : World) {a b c d e : Int} (hI : InC a b c d e) (x2 : Bool) : Calls Try.prog 7 #[.agg #[.int .i64 a, .int .i64 b, .int .i64 c, .int .i64 d, .int .i64 e], .slice none 0 0, .bool x2] w fun e w' => e = .returned (.bool true) ∧ Below w.heap.size w w' := by
  by_cases h1 : (ckF a b c d e 0 zF).2 = 0
  · have g := ckF_zero h1
    unfold good at g
    omega
  ·
    rcases Bool.eq_false_or_eq_true x2 with hp | hp
    · exact walk_n_BT w hI x2 hp h1
    · exact walk_n_BF w hI x2 hp h1
theorem walk_r_BF (w : World) {a b c d e : Int} (hI : InC a b c d e) (b1 o1 n1 c1 : Nat) (hb1 : b1 < w.heap.size) (hc1 : ∀ (i j : Nat) k, i < n1 → ([.i64, .i64] : List IntKind)[j]? = some k → w.cell? ⟨b1, o1 + i * 2 + j, none⟩ = some (.int k (cellN w b1 (o1 + i * 2 + j)))) (x2 : Bool) (hp : x2 = false) (h1 : ¬ (ckF a b c d e n1 (fun i q => cellN w b1 (o1 + i * 2 + q))).2 = 0) : Calls Try.prog 7 #[.agg #[.int .i64 a, .int .i64 b, .int .i64 c, .int .i64 d, .int .i64 e], .slice (some ⟨b1, o1, none⟩) n1 c1, .bool x2] w fun e w' => e = .returned (.bool true) ∧ Below w.heap.size w w' := by
  subst hp
  obtain ⟨e1, hbr1⟩ := row_of_cells (w := w) (S := fun _ => none) (ks := [.i64, .i64]) (b := b1) (o := o1) (n := n1) (c := c1) (f := fun i q => cellN w b1 (o1 + i * 2 + q)) (by decide) hc1
  refine law_ok (E := mk X7BF) (mkOk X7BF_told) (n := 3) (A := (takesBF_rA a b c d e e1 n1 c1 (fun i q => cellN w b1 (o1 + i * 2 + q)) )) (f := 7) (fn := Try.f7) (by kernel_rfl) («as» := [five' a b c d e, rsl 0 0 n1 c1, .bool false]) (bs := [.row true [.i64, .i64] e1 n1 c1 fun i q => cellN w b1 (o1 + i * 2 + q)]) (args' := #[.agg #[.int .i64 a, .int .i64 b, .int .i64 c, .int .i64 d, .int .i64 e], .slice (some ⟨b1, o1, none⟩) n1 c1, .bool false]) [⟨b1, o1, 2⟩] rfl (fun j o x h h' => by
      rcases j with _ | j
      · obtain rfl := Option.some.inj h
        obtain rfl := Option.some.inj h'
        exact ⟨rfl, hbr1, hb1⟩
      · simp at h) (.cons (groundT_refl rfl) (.cons (by have q := VR.rsl (S := fun b => ([⟨b1, o1, 2⟩] : List Rx.Loc)[b]?) (b := 0) 0 n1 c1 rfl; simpa [rsl] using q) (.cons (groundT_refl rfl) .nil))) ?_
  exact cast (takesBF_rE a b c d e e1 n1 c1 (fun i q => cellN w b1 (o1 + i * 2 + q)) fun _ _ => True) (takesBF_rP a b c d e e1 n1 c1 (fun i q => cellN w b1 (o1 + i * 2 + q)) (fun _ _ => True) hI h1)
theorem walk_r_EF (w : World) {a b c d e : Int} (hI : InC a b c d e) (b1 o1 n1 c1 : Nat) (hb1 : b1 < w.heap.size) (hc1 : ∀ (i j : Nat) k, i < n1 → ([.i64, .i64] : List IntKind)[j]? = some k → w.cell? ⟨b1, o1 + i * 2 + j, none⟩ = some (.int k (cellN w b1 (o1 + i * 2 + j)))) (x2 : Bool) (hp : x2 = false) (h1 : (ckF a b c d e n1 (fun i q => cellN w b1 (o1 + i * 2 + q))).2 = 0) (h2 : sel (selE (fun i q => cellN w b1 (o1 + i * 2 + q)) 0) n1 = []) : Calls Try.prog 7 #[.agg #[.int .i64 a, .int .i64 b, .int .i64 c, .int .i64 d, .int .i64 e], .slice (some ⟨b1, o1, none⟩) n1 c1, .bool x2] w fun e w' => e = .returned (.bool true) ∧ Below w.heap.size w w' := by
  subst hp
  obtain ⟨e1, hbr1⟩ := row_of_cells (w := w) (S := fun _ => none) (ks := [.i64, .i64]) (b := b1) (o := o1) (n := n1) (c := c1) (f := fun i q => cellN w b1 (o1 + i * 2 + q)) (by decide) hc1
  refine law_ok (E := mk X7EF) (mkOk X7EF_told) (n := 3) (A := (takesEF_rA a b c d e e1 n1 c1 (fun i q => cellN w b1 (o1 + i * 2 + q)) )) (f := 7) (fn := Try.f7) (by kernel_rfl) («as» := [five' a b c d e, rsl 0 0 n1 c1, .bool false]) (bs := [.row true [.i64, .i64] e1 n1 c1 fun i q => cellN w b1 (o1 + i * 2 + q)]) (args' := #[.agg #[.int .i64 a, .int .i64 b, .int .i64 c, .int .i64 d, .int .i64 e], .slice (some ⟨b1, o1, none⟩) n1 c1, .bool false]) [⟨b1, o1, 2⟩] rfl (fun j o x h h' => by
      rcases j with _ | j
      · obtain rfl := Option.some.inj h
        obtain rfl := Option.some.inj h'
        exact ⟨rfl, hbr1, hb1⟩
      · simp at h) (.cons (groundT_refl rfl) (.cons (by have q := VR.rsl (S := fun b => ([⟨b1, o1, 2⟩] : List Rx.Loc)[b]?) (b := 0) 0 n1 c1 rfl; simpa [rsl] using q) (.cons (groundT_refl rfl) .nil))) ?_
  exact cast (takesEF_rE a b c d e e1 n1 c1 (fun i q => cellN w b1 (o1 + i * 2 + q)) fun _ _ => True) (takesEF_rP a b c d e e1 n1 c1 (fun i q => cellN w b1 (o1 + i * 2 + q)) (fun _ _ => True) hI h1 h2)
theorem walk_r_BT (w : World) {a b c d e : Int} (hI : InC a b c d e) (b1 o1 n1 c1 : Nat) (hb1 : b1 < w.heap.size) (hc1 : ∀ (i j : Nat) k, i < n1 → ([.i64, .i64] : List IntKind)[j]? = some k → w.cell? ⟨b1, o1 + i * 2 + j, none⟩ = some (.int k (cellN w b1 (o1 + i * 2 + j)))) (x2 : Bool) (hp : x2 = true) (h1 : ¬ (ckF a b c d e n1 (fun i q => cellN w b1 (o1 + i * 2 + q))).2 = 0) : Calls Try.prog 7 #[.agg #[.int .i64 a, .int .i64 b, .int .i64 c, .int .i64 d, .int .i64 e], .slice (some ⟨b1, o1, none⟩) n1 c1, .bool x2] w fun e w' => e = .returned (.bool true) ∧ Below w.heap.size w w' := by
  subst hp
  obtain ⟨e1, hbr1⟩ := row_of_cells (w := w) (S := fun _ => none) (ks := [.i64, .i64]) (b := b1) (o := o1) (n := n1) (c := c1) (f := fun i q => cellN w b1 (o1 + i * 2 + q)) (by decide) hc1
  refine law_ok (E := mk X7BT) (mkOk X7BT_told) (n := 3) (A := (takesBT_rA a b c d e e1 n1 c1 (fun i q => cellN w b1 (o1 + i * 2 + q)) )) (f := 7) (fn := Try.f7) (by kernel_rfl) («as» := [five' a b c d e, rsl 0 0 n1 c1, .bool true]) (bs := [.row true [.i64, .i64] e1 n1 c1 fun i q => cellN w b1 (o1 + i * 2 + q)]) (args' := #[.agg #[.int .i64 a, .int .i64 b, .int .i64 c, .int .i64 d, .int .i64 e], .slice (some ⟨b1, o1, none⟩) n1 c1, .bool true]) [⟨b1, o1, 2⟩] rfl (fun j o x h h' => by
      rcases j with _ | j
      · obtain rfl := Option.some.inj h
        obtain rfl := Option.some.inj h'
        exact ⟨rfl, hbr1, hb1⟩
      · simp at h) (.cons (groundT_refl rfl) (.cons (by have q := VR.rsl (S := fun b => ([⟨b1, o1, 2⟩] : List Rx.Loc)[b]?) (b := 0) 0 n1 c1 rfl; simpa [rsl] using q) (.cons (groundT_refl rfl) .nil))) ?_
  exact cast (takesBT_rE a b c d e e1 n1 c1 (fun i q => cellN w b1 (o1 + i * 2 + q)) fun _ _ => True) (takesBT_rP a b c d e e1 n1 c1 (fun i q => cellN w b1 (o1 + i * 2 + q)) (fun _ _ => True) hI h1)
theorem walk_r_ET (w : World) {a b c d e : Int} (hI : InC a b c d e) (b1 o1 n1 c1 : Nat) (hb1 : b1 < w.heap.size) (hc1 : ∀ (i j : Nat) k, i < n1 → ([.i64, .i64] : List IntKind)[j]? = some k → w.cell? ⟨b1, o1 + i * 2 + j, none⟩ = some (.int k (cellN w b1 (o1 + i * 2 + j)))) (x2 : Bool) (hp : x2 = true) (h1 : (ckF a b c d e n1 (fun i q => cellN w b1 (o1 + i * 2 + q))).2 = 0) (h2 : sel (selE (fun i q => cellN w b1 (o1 + i * 2 + q)) 0) n1 = []) : Calls Try.prog 7 #[.agg #[.int .i64 a, .int .i64 b, .int .i64 c, .int .i64 d, .int .i64 e], .slice (some ⟨b1, o1, none⟩) n1 c1, .bool x2] w fun e w' => e = .returned (.bool true) ∧ Below w.heap.size w w' := by
  subst hp
  obtain ⟨e1, hbr1⟩ := row_of_cells (w := w) (S := fun _ => none) (ks := [.i64, .i64]) (b := b1) (o := o1) (n := n1) (c := c1) (f := fun i q => cellN w b1 (o1 + i * 2 + q)) (by decide) hc1
  refine law_ok (E := mk X7ET) (mkOk X7ET_told) (n := 3) (A := (takesET_rA a b c d e e1 n1 c1 (fun i q => cellN w b1 (o1 + i * 2 + q)) )) (f := 7) (fn := Try.f7) (by kernel_rfl) («as» := [five' a b c d e, rsl 0 0 n1 c1, .bool true]) (bs := [.row true [.i64, .i64] e1 n1 c1 fun i q => cellN w b1 (o1 + i * 2 + q)]) (args' := #[.agg #[.int .i64 a, .int .i64 b, .int .i64 c, .int .i64 d, .int .i64 e], .slice (some ⟨b1, o1, none⟩) n1 c1, .bool true]) [⟨b1, o1, 2⟩] rfl (fun j o x h h' => by
      rcases j with _ | j
      · obtain rfl := Option.some.inj h
        obtain rfl := Option.some.inj h'
        exact ⟨rfl, hbr1, hb1⟩
      · simp at h) (.cons (groundT_refl rfl) (.cons (by have q := VR.rsl (S := fun b => ([⟨b1, o1, 2⟩] : List Rx.Loc)[b]?) (b := 0) 0 n1 c1 rfl; simpa [rsl] using q) (.cons (groundT_refl rfl) .nil))) ?_
  exact cast (takesET_rE a b c d e e1 n1 c1 (fun i q => cellN w b1 (o1 + i * 2 + q)) fun _ _ => True) (takesET_rP a b c d e e1 n1 c1 (fun i q => cellN w b1 (o1 + i * 2 + q)) (fun _ _ => True) hI h1 h2)
theorem walk_r_FT (w : World) {a b c d e : Int} (hI : InC a b c d e) (b1 o1 n1 c1 : Nat) (hb1 : b1 < w.heap.size) (hc1 : ∀ (i j : Nat) k, i < n1 → ([.i64, .i64] : List IntKind)[j]? = some k → w.cell? ⟨b1, o1 + i * 2 + j, none⟩ = some (.int k (cellN w b1 (o1 + i * 2 + j)))) (x2 : Bool) (hp : x2 = true) (h1 : (ckF a b c d e n1 (fun i q => cellN w b1 (o1 + i * 2 + q))).2 = 0) (h2 : ¬ sel (selE (fun i q => cellN w b1 (o1 + i * 2 + q)) 0) n1 = []) (h3 : ¬ sel (selE (fun i q => cellN w b1 (o1 + i * 2 + q)) 2) n1 = []) (h4 : List.length (sel (selE (fun i q => cellN w b1 (o1 + i * 2 + q)) 2) n1) = 2) : Calls Try.prog 7 #[.agg #[.int .i64 a, .int .i64 b, .int .i64 c, .int .i64 d, .int .i64 e], .slice (some ⟨b1, o1, none⟩) n1 c1, .bool x2] w fun e w' => e = .returned (.bool true) ∧ Below w.heap.size w w' := by
  subst hp
  obtain ⟨e1, hbr1⟩ := row_of_cells (w := w) (S := fun _ => none) (ks := [.i64, .i64]) (b := b1) (o := o1) (n := n1) (c := c1) (f := fun i q => cellN w b1 (o1 + i * 2 + q)) (by decide) hc1
  refine law_ok (E := mk X7FT) (mkOk X7FT_told) (n := 3) (A := (takesFT_rA a b c d e e1 n1 c1 (fun i q => cellN w b1 (o1 + i * 2 + q)) )) (f := 7) (fn := Try.f7) (by kernel_rfl) («as» := [five' a b c d e, rsl 0 0 n1 c1, .bool true]) (bs := [.row true [.i64, .i64] e1 n1 c1 fun i q => cellN w b1 (o1 + i * 2 + q)]) (args' := #[.agg #[.int .i64 a, .int .i64 b, .int .i64 c, .int .i64 d, .int .i64 e], .slice (some ⟨b1, o1, none⟩) n1 c1, .bool true]) [⟨b1, o1, 2⟩] rfl (fun j o x h h' => by
      rcases j with _ | j
      · obtain rfl := Option.some.inj h
        obtain rfl := Option.some.inj h'
        exact ⟨rfl, hbr1, hb1⟩
      · simp at h) (.cons (groundT_refl rfl) (.cons (by have q := VR.rsl (S := fun b => ([⟨b1, o1, 2⟩] : List Rx.Loc)[b]?) (b := 0) 0 n1 c1 rfl; simpa [rsl] using q) (.cons (groundT_refl rfl) .nil))) ?_
  exact cast (takesFT_rE a b c d e e1 n1 c1 (fun i q => cellN w b1 (o1 + i * 2 + q)) fun _ _ => True) (takesFT_rP a b c d e e1 n1 c1 (fun i q => cellN w b1 (o1 + i * 2 + q)) (fun _ _ => True) hI h1 h2 h3 h4)
theorem walk_r_FNN (w : World) {a b c d e : Int} (hI : InC a b c d e) (b1 o1 n1 c1 : Nat) (hb1 : b1 < w.heap.size) (hc1 : ∀ (i j : Nat) k, i < n1 → ([.i64, .i64] : List IntKind)[j]? = some k → w.cell? ⟨b1, o1 + i * 2 + j, none⟩ = some (.int k (cellN w b1 (o1 + i * 2 + j)))) (x2 : Bool) (hp : x2 = false) (h1 : (ckF a b c d e n1 (fun i q => cellN w b1 (o1 + i * 2 + q))).2 = 0) (h2 : ¬ sel (selE (fun i q => cellN w b1 (o1 + i * 2 + q)) 0) n1 = []) (h3 : sel (selE (fun i q => cellN w b1 (o1 + i * 2 + q)) 2) n1 = []) (h5 : List.length (sel (selE (fun i q => cellN w b1 (o1 + i * 2 + q)) 0) n1) = 1) : Calls Try.prog 7 #[.agg #[.int .i64 a, .int .i64 b, .int .i64 c, .int .i64 d, .int .i64 e], .slice (some ⟨b1, o1, none⟩) n1 c1, .bool x2] w fun e w' => e = .returned (.bool true) ∧ Below w.heap.size w w' := by
  subst hp
  obtain ⟨e1, hbr1⟩ := row_of_cells (w := w) (S := fun _ => none) (ks := [.i64, .i64]) (b := b1) (o := o1) (n := n1) (c := c1) (f := fun i q => cellN w b1 (o1 + i * 2 + q)) (by decide) hc1
  refine law_ok (E := mk X7FNN) (mkOk X7FNN_told) (n := 3) (A := (takesFNN_rA a b c d e e1 n1 c1 (fun i q => cellN w b1 (o1 + i * 2 + q)) )) (f := 7) (fn := Try.f7) (by kernel_rfl) («as» := [five' a b c d e, rsl 0 0 n1 c1, .bool false]) (bs := [.row true [.i64, .i64] e1 n1 c1 fun i q => cellN w b1 (o1 + i * 2 + q)]) (args' := #[.agg #[.int .i64 a, .int .i64 b, .int .i64 c, .int .i64 d, .int .i64 e], .slice (some ⟨b1, o1, none⟩) n1 c1, .bool false]) [⟨b1, o1, 2⟩] rfl (fun j o x h h' => by
      rcases j with _ | j
      · obtain rfl := Option.some.inj h
        obtain rfl := Option.some.inj h'
        exact ⟨rfl, hbr1, hb1⟩
      · simp at h) (.cons (groundT_refl rfl) (.cons (by have q := VR.rsl (S := fun b => ([⟨b1, o1, 2⟩] : List Rx.Loc)[b]?) (b := 0) 0 n1 c1 rfl; simpa [rsl] using q) (.cons (groundT_refl rfl) .nil))) ?_
  exact cast (takesFNN_rE a b c d e e1 n1 c1 (fun i q => cellN w b1 (o1 + i * 2 + q)) fun _ _ => True) (takesFNN_rP a b c d e e1 n1 c1 (fun i q => cellN w b1 (o1 + i * 2 + q)) (fun _ _ => True) hI h1 h2 h3 h5)
theorem walk_r_FNR (w : World) {a b c d e : Int} (hI : InC a b c d e) (b1 o1 n1 c1 : Nat) (hb1 : b1 < w.heap.size) (hc1 : ∀ (i j : Nat) k, i < n1 → ([.i64, .i64] : List IntKind)[j]? = some k → w.cell? ⟨b1, o1 + i * 2 + j, none⟩ = some (.int k (cellN w b1 (o1 + i * 2 + j)))) (x2 : Bool) (hp : x2 = false) (h1 : (ckF a b c d e n1 (fun i q => cellN w b1 (o1 + i * 2 + q))).2 = 0) (h2 : ¬ sel (selE (fun i q => cellN w b1 (o1 + i * 2 + q)) 0) n1 = []) (h3 : ¬ sel (selE (fun i q => cellN w b1 (o1 + i * 2 + q)) 2) n1 = []) (h5 : List.length (sel (selE (fun i q => cellN w b1 (o1 + i * 2 + q)) 0) n1) = 1) : Calls Try.prog 7 #[.agg #[.int .i64 a, .int .i64 b, .int .i64 c, .int .i64 d, .int .i64 e], .slice (some ⟨b1, o1, none⟩) n1 c1, .bool x2] w fun e w' => e = .returned (.bool true) ∧ Below w.heap.size w w' := by
  subst hp
  obtain ⟨e1, hbr1⟩ := row_of_cells (w := w) (S := fun _ => none) (ks := [.i64, .i64]) (b := b1) (o := o1) (n := n1) (c := c1) (f := fun i q => cellN w b1 (o1 + i * 2 + q)) (by decide) hc1
  refine law_ok (E := mk X7FNR) (mkOk X7FNR_told) (n := 3) (A := (takesFNR_rA a b c d e e1 n1 c1 (fun i q => cellN w b1 (o1 + i * 2 + q)) )) (f := 7) (fn := Try.f7) (by kernel_rfl) («as» := [five' a b c d e, rsl 0 0 n1 c1, .bool false]) (bs := [.row true [.i64, .i64] e1 n1 c1 fun i q => cellN w b1 (o1 + i * 2 + q)]) (args' := #[.agg #[.int .i64 a, .int .i64 b, .int .i64 c, .int .i64 d, .int .i64 e], .slice (some ⟨b1, o1, none⟩) n1 c1, .bool false]) [⟨b1, o1, 2⟩] rfl (fun j o x h h' => by
      rcases j with _ | j
      · obtain rfl := Option.some.inj h
        obtain rfl := Option.some.inj h'
        exact ⟨rfl, hbr1, hb1⟩
      · simp at h) (.cons (groundT_refl rfl) (.cons (by have q := VR.rsl (S := fun b => ([⟨b1, o1, 2⟩] : List Rx.Loc)[b]?) (b := 0) 0 n1 c1 rfl; simpa [rsl] using q) (.cons (groundT_refl rfl) .nil))) ?_
  exact cast (takesFNR_rE a b c d e e1 n1 c1 (fun i q => cellN w b1 (o1 + i * 2 + q)) fun _ _ => True) (takesFNR_rP a b c d e e1 n1 c1 (fun i q => cellN w b1 (o1 + i * 2 + q)) (fun _ _ => True) hI h1 h2 h3 h5)
theorem walk_r_FRN (w : World) {a b c d e : Int} (hI : InC a b c d e) (b1 o1 n1 c1 : Nat) (hb1 : b1 < w.heap.size) (hc1 : ∀ (i j : Nat) k, i < n1 → ([.i64, .i64] : List IntKind)[j]? = some k → w.cell? ⟨b1, o1 + i * 2 + j, none⟩ = some (.int k (cellN w b1 (o1 + i * 2 + j)))) (x2 : Bool) (hp : x2 = false) (h1 : (ckF a b c d e n1 (fun i q => cellN w b1 (o1 + i * 2 + q))).2 = 0) (h2 : ¬ sel (selE (fun i q => cellN w b1 (o1 + i * 2 + q)) 0) n1 = []) (h3 : sel (selE (fun i q => cellN w b1 (o1 + i * 2 + q)) 2) n1 = []) (h5 : ¬ List.length (sel (selE (fun i q => cellN w b1 (o1 + i * 2 + q)) 0) n1) = 1) : Calls Try.prog 7 #[.agg #[.int .i64 a, .int .i64 b, .int .i64 c, .int .i64 d, .int .i64 e], .slice (some ⟨b1, o1, none⟩) n1 c1, .bool x2] w fun e w' => e = .returned (.bool true) ∧ Below w.heap.size w w' := by
  subst hp
  obtain ⟨e1, hbr1⟩ := row_of_cells (w := w) (S := fun _ => none) (ks := [.i64, .i64]) (b := b1) (o := o1) (n := n1) (c := c1) (f := fun i q => cellN w b1 (o1 + i * 2 + q)) (by decide) hc1
  refine law_ok (E := mk X7FRN) (mkOk X7FRN_told) (n := 3) (A := (takesFRN_rA a b c d e e1 n1 c1 (fun i q => cellN w b1 (o1 + i * 2 + q)) )) (f := 7) (fn := Try.f7) (by kernel_rfl) («as» := [five' a b c d e, rsl 0 0 n1 c1, .bool false]) (bs := [.row true [.i64, .i64] e1 n1 c1 fun i q => cellN w b1 (o1 + i * 2 + q)]) (args' := #[.agg #[.int .i64 a, .int .i64 b, .int .i64 c, .int .i64 d, .int .i64 e], .slice (some ⟨b1, o1, none⟩) n1 c1, .bool false]) [⟨b1, o1, 2⟩] rfl (fun j o x h h' => by
      rcases j with _ | j
      · obtain rfl := Option.some.inj h
        obtain rfl := Option.some.inj h'
        exact ⟨rfl, hbr1, hb1⟩
      · simp at h) (.cons (groundT_refl rfl) (.cons (by have q := VR.rsl (S := fun b => ([⟨b1, o1, 2⟩] : List Rx.Loc)[b]?) (b := 0) 0 n1 c1 rfl; simpa [rsl] using q) (.cons (groundT_refl rfl) .nil))) ?_
  exact cast (takesFRN_rE a b c d e e1 n1 c1 (fun i q => cellN w b1 (o1 + i * 2 + q)) fun _ _ => True) (takesFRN_rP a b c d e e1 n1 c1 (fun i q => cellN w b1 (o1 + i * 2 + q)) (fun _ _ => True) hI h1 h2 h3 h5)
theorem walk_r_FRR (w : World) {a b c d e : Int} (hI : InC a b c d e) (b1 o1 n1 c1 : Nat) (hb1 : b1 < w.heap.size) (hc1 : ∀ (i j : Nat) k, i < n1 → ([.i64, .i64] : List IntKind)[j]? = some k → w.cell? ⟨b1, o1 + i * 2 + j, none⟩ = some (.int k (cellN w b1 (o1 + i * 2 + j)))) (x2 : Bool) (hp : x2 = false) (h1 : (ckF a b c d e n1 (fun i q => cellN w b1 (o1 + i * 2 + q))).2 = 0) (h2 : ¬ sel (selE (fun i q => cellN w b1 (o1 + i * 2 + q)) 0) n1 = []) (h3 : ¬ sel (selE (fun i q => cellN w b1 (o1 + i * 2 + q)) 2) n1 = []) (h5 : ¬ List.length (sel (selE (fun i q => cellN w b1 (o1 + i * 2 + q)) 0) n1) = 1) : Calls Try.prog 7 #[.agg #[.int .i64 a, .int .i64 b, .int .i64 c, .int .i64 d, .int .i64 e], .slice (some ⟨b1, o1, none⟩) n1 c1, .bool x2] w fun e w' => e = .returned (.bool true) ∧ Below w.heap.size w w' := by
  subst hp
  obtain ⟨e1, hbr1⟩ := row_of_cells (w := w) (S := fun _ => none) (ks := [.i64, .i64]) (b := b1) (o := o1) (n := n1) (c := c1) (f := fun i q => cellN w b1 (o1 + i * 2 + q)) (by decide) hc1
  refine law_ok (E := mk X7FRR) (mkOk X7FRR_told) (n := 3) (A := (takesFRR_rA a b c d e e1 n1 c1 (fun i q => cellN w b1 (o1 + i * 2 + q)) )) (f := 7) (fn := Try.f7) (by kernel_rfl) («as» := [five' a b c d e, rsl 0 0 n1 c1, .bool false]) (bs := [.row true [.i64, .i64] e1 n1 c1 fun i q => cellN w b1 (o1 + i * 2 + q)]) (args' := #[.agg #[.int .i64 a, .int .i64 b, .int .i64 c, .int .i64 d, .int .i64 e], .slice (some ⟨b1, o1, none⟩) n1 c1, .bool false]) [⟨b1, o1, 2⟩] rfl (fun j o x h h' => by
      rcases j with _ | j
      · obtain rfl := Option.some.inj h
        obtain rfl := Option.some.inj h'
        exact ⟨rfl, hbr1, hb1⟩
      · simp at h) (.cons (groundT_refl rfl) (.cons (by have q := VR.rsl (S := fun b => ([⟨b1, o1, 2⟩] : List Rx.Loc)[b]?) (b := 0) 0 n1 c1 rfl; simpa [rsl] using q) (.cons (groundT_refl rfl) .nil))) ?_
  exact cast (takesFRR_rE a b c d e e1 n1 c1 (fun i q => cellN w b1 (o1 + i * 2 + q)) fun _ _ => True) (takesFRR_rP a b c d e e1 n1 c1 (fun i q => cellN w b1 (o1 + i * 2 + q)) (fun _ _ => True) hI h1 h2 h3 h5)
theorem walk_r_TNN (w : World) {a b c d e : Int} (hI : InC a b c d e) (b1 o1 n1 c1 : Nat) (hb1 : b1 < w.heap.size) (hc1 : ∀ (i j : Nat) k, i < n1 → ([.i64, .i64] : List IntKind)[j]? = some k → w.cell? ⟨b1, o1 + i * 2 + j, none⟩ = some (.int k (cellN w b1 (o1 + i * 2 + j)))) (x2 : Bool) (hp : x2 = true) (h1 : (ckF a b c d e n1 (fun i q => cellN w b1 (o1 + i * 2 + q))).2 = 0) (h2 : ¬ sel (selE (fun i q => cellN w b1 (o1 + i * 2 + q)) 0) n1 = []) (h3 : sel (selE (fun i q => cellN w b1 (o1 + i * 2 + q)) 2) n1 = []) (h5 : List.length (sel (selE (fun i q => cellN w b1 (o1 + i * 2 + q)) 0) n1) = 1) : Calls Try.prog 7 #[.agg #[.int .i64 a, .int .i64 b, .int .i64 c, .int .i64 d, .int .i64 e], .slice (some ⟨b1, o1, none⟩) n1 c1, .bool x2] w fun e w' => e = .returned (.bool true) ∧ Below w.heap.size w w' := by
  subst hp
  obtain ⟨e1, hbr1⟩ := row_of_cells (w := w) (S := fun _ => none) (ks := [.i64, .i64]) (b := b1) (o := o1) (n := n1) (c := c1) (f := fun i q => cellN w b1 (o1 + i * 2 + q)) (by decide) hc1
  refine law_ok (E := mk X7TNN) (mkOk X7TNN_told) (n := 3) (A := (takesTNN_rA a b c d e e1 n1 c1 (fun i q => cellN w b1 (o1 + i * 2 + q)) )) (f := 7) (fn := Try.f7) (by kernel_rfl) («as» := [five' a b c d e, rsl 0 0 n1 c1, .bool true]) (bs := [.row true [.i64, .i64] e1 n1 c1 fun i q => cellN w b1 (o1 + i * 2 + q)]) (args' := #[.agg #[.int .i64 a, .int .i64 b, .int .i64 c, .int .i64 d, .int .i64 e], .slice (some ⟨b1, o1, none⟩) n1 c1, .bool true]) [⟨b1, o1, 2⟩] rfl (fun j o x h h' => by
      rcases j with _ | j
      · obtain rfl := Option.some.inj h
        obtain rfl := Option.some.inj h'
        exact ⟨rfl, hbr1, hb1⟩
      · simp at h) (.cons (groundT_refl rfl) (.cons (by have q := VR.rsl (S := fun b => ([⟨b1, o1, 2⟩] : List Rx.Loc)[b]?) (b := 0) 0 n1 c1 rfl; simpa [rsl] using q) (.cons (groundT_refl rfl) .nil))) ?_
  exact cast (takesTNN_rE a b c d e e1 n1 c1 (fun i q => cellN w b1 (o1 + i * 2 + q)) fun _ _ => True) (takesTNN_rP a b c d e e1 n1 c1 (fun i q => cellN w b1 (o1 + i * 2 + q)) (fun _ _ => True) hI h1 h2 h3 h5)
theorem walk_r_TNR (w : World) {a b c d e : Int} (hI : InC a b c d e) (b1 o1 n1 c1 : Nat) (hb1 : b1 < w.heap.size) (hc1 : ∀ (i j : Nat) k, i < n1 → ([.i64, .i64] : List IntKind)[j]? = some k → w.cell? ⟨b1, o1 + i * 2 + j, none⟩ = some (.int k (cellN w b1 (o1 + i * 2 + j)))) (x2 : Bool) (hp : x2 = true) (h1 : (ckF a b c d e n1 (fun i q => cellN w b1 (o1 + i * 2 + q))).2 = 0) (h2 : ¬ sel (selE (fun i q => cellN w b1 (o1 + i * 2 + q)) 0) n1 = []) (h3 : ¬ sel (selE (fun i q => cellN w b1 (o1 + i * 2 + q)) 2) n1 = []) (h5 : List.length (sel (selE (fun i q => cellN w b1 (o1 + i * 2 + q)) 0) n1) = 1) (h4 : ¬ List.length (sel (selE (fun i q => cellN w b1 (o1 + i * 2 + q)) 2) n1) = 2) : Calls Try.prog 7 #[.agg #[.int .i64 a, .int .i64 b, .int .i64 c, .int .i64 d, .int .i64 e], .slice (some ⟨b1, o1, none⟩) n1 c1, .bool x2] w fun e w' => e = .returned (.bool true) ∧ Below w.heap.size w w' := by
  subst hp
  obtain ⟨e1, hbr1⟩ := row_of_cells (w := w) (S := fun _ => none) (ks := [.i64, .i64]) (b := b1) (o := o1) (n := n1) (c := c1) (f := fun i q => cellN w b1 (o1 + i * 2 + q)) (by decide) hc1
  refine law_ok (E := mk X7TNR) (mkOk X7TNR_told) (n := 3) (A := (takesTNR_rA a b c d e e1 n1 c1 (fun i q => cellN w b1 (o1 + i * 2 + q)) )) (f := 7) (fn := Try.f7) (by kernel_rfl) («as» := [five' a b c d e, rsl 0 0 n1 c1, .bool true]) (bs := [.row true [.i64, .i64] e1 n1 c1 fun i q => cellN w b1 (o1 + i * 2 + q)]) (args' := #[.agg #[.int .i64 a, .int .i64 b, .int .i64 c, .int .i64 d, .int .i64 e], .slice (some ⟨b1, o1, none⟩) n1 c1, .bool true]) [⟨b1, o1, 2⟩] rfl (fun j o x h h' => by
      rcases j with _ | j
      · obtain rfl := Option.some.inj h
        obtain rfl := Option.some.inj h'
        exact ⟨rfl, hbr1, hb1⟩
      · simp at h) (.cons (groundT_refl rfl) (.cons (by have q := VR.rsl (S := fun b => ([⟨b1, o1, 2⟩] : List Rx.Loc)[b]?) (b := 0) 0 n1 c1 rfl; simpa [rsl] using q) (.cons (groundT_refl rfl) .nil))) ?_
  exact cast (takesTNR_rE a b c d e e1 n1 c1 (fun i q => cellN w b1 (o1 + i * 2 + q)) fun _ _ => True) (takesTNR_rP a b c d e e1 n1 c1 (fun i q => cellN w b1 (o1 + i * 2 + q)) (fun _ _ => True) hI h1 h2 h3 h5 h4)
theorem walk_r_TRN (w : World) {a b c d e : Int} (hI : InC a b c d e) (b1 o1 n1 c1 : Nat) (hb1 : b1 < w.heap.size) (hc1 : ∀ (i j : Nat) k, i < n1 → ([.i64, .i64] : List IntKind)[j]? = some k → w.cell? ⟨b1, o1 + i * 2 + j, none⟩ = some (.int k (cellN w b1 (o1 + i * 2 + j)))) (x2 : Bool) (hp : x2 = true) (h1 : (ckF a b c d e n1 (fun i q => cellN w b1 (o1 + i * 2 + q))).2 = 0) (h2 : ¬ sel (selE (fun i q => cellN w b1 (o1 + i * 2 + q)) 0) n1 = []) (h3 : sel (selE (fun i q => cellN w b1 (o1 + i * 2 + q)) 2) n1 = []) (h5 : ¬ List.length (sel (selE (fun i q => cellN w b1 (o1 + i * 2 + q)) 0) n1) = 1) : Calls Try.prog 7 #[.agg #[.int .i64 a, .int .i64 b, .int .i64 c, .int .i64 d, .int .i64 e], .slice (some ⟨b1, o1, none⟩) n1 c1, .bool x2] w fun e w' => e = .returned (.bool true) ∧ Below w.heap.size w w' := by
  subst hp
  obtain ⟨e1, hbr1⟩ := row_of_cells (w := w) (S := fun _ => none) (ks := [.i64, .i64]) (b := b1) (o := o1) (n := n1) (c := c1) (f := fun i q => cellN w b1 (o1 + i * 2 + q)) (by decide) hc1
  refine law_ok (E := mk X7TRN) (mkOk X7TRN_told) (n := 3) (A := (takesTRN_rA a b c d e e1 n1 c1 (fun i q => cellN w b1 (o1 + i * 2 + q)) )) (f := 7) (fn := Try.f7) (by kernel_rfl) («as» := [five' a b c d e, rsl 0 0 n1 c1, .bool true]) (bs := [.row true [.i64, .i64] e1 n1 c1 fun i q => cellN w b1 (o1 + i * 2 + q)]) (args' := #[.agg #[.int .i64 a, .int .i64 b, .int .i64 c, .int .i64 d, .int .i64 e], .slice (some ⟨b1, o1, none⟩) n1 c1, .bool true]) [⟨b1, o1, 2⟩] rfl (fun j o x h h' => by
      rcases j with _ | j
      · obtain rfl := Option.some.inj h
        obtain rfl := Option.some.inj h'
        exact ⟨rfl, hbr1, hb1⟩
      · simp at h) (.cons (groundT_refl rfl) (.cons (by have q := VR.rsl (S := fun b => ([⟨b1, o1, 2⟩] : List Rx.Loc)[b]?) (b := 0) 0 n1 c1 rfl; simpa [rsl] using q) (.cons (groundT_refl rfl) .nil))) ?_
  exact cast (takesTRN_rE a b c d e e1 n1 c1 (fun i q => cellN w b1 (o1 + i * 2 + q)) fun _ _ => True) (takesTRN_rP a b c d e e1 n1 c1 (fun i q => cellN w b1 (o1 + i * 2 + q)) (fun _ _ => True) hI h1 h2 h3 h5)
theorem walk_r_TRR (w : World) {a b c d e : Int} (hI : InC a b c d e) (b1 o1 n1 c1 : Nat) (hb1 : b1 < w.heap.size) (hc1 : ∀ (i j : Nat) k, i < n1 → ([.i64, .i64] : List IntKind)[j]? = some k → w.cell? ⟨b1, o1 + i * 2 + j, none⟩ = some (.int k (cellN w b1 (o1 + i * 2 + j)))) (x2 : Bool) (hp : x2 = true) (h1 : (ckF a b c d e n1 (fun i q => cellN w b1 (o1 + i * 2 + q))).2 = 0) (h2 : ¬ sel (selE (fun i q => cellN w b1 (o1 + i * 2 + q)) 0) n1 = []) (h3 : ¬ sel (selE (fun i q => cellN w b1 (o1 + i * 2 + q)) 2) n1 = []) (h5 : ¬ List.length (sel (selE (fun i q => cellN w b1 (o1 + i * 2 + q)) 0) n1) = 1) (h4 : ¬ List.length (sel (selE (fun i q => cellN w b1 (o1 + i * 2 + q)) 2) n1) = 2) : Calls Try.prog 7 #[.agg #[.int .i64 a, .int .i64 b, .int .i64 c, .int .i64 d, .int .i64 e], .slice (some ⟨b1, o1, none⟩) n1 c1, .bool x2] w fun e w' => e = .returned (.bool true) ∧ Below w.heap.size w w' := by
  subst hp
  obtain ⟨e1, hbr1⟩ := row_of_cells (w := w) (S := fun _ => none) (ks := [.i64, .i64]) (b := b1) (o := o1) (n := n1) (c := c1) (f := fun i q => cellN w b1 (o1 + i * 2 + q)) (by decide) hc1
  refine law_ok (E := mk X7TRR) (mkOk X7TRR_told) (n := 3) (A := (takesTRR_rA a b c d e e1 n1 c1 (fun i q => cellN w b1 (o1 + i * 2 + q)) )) (f := 7) (fn := Try.f7) (by kernel_rfl) («as» := [five' a b c d e, rsl 0 0 n1 c1, .bool true]) (bs := [.row true [.i64, .i64] e1 n1 c1 fun i q => cellN w b1 (o1 + i * 2 + q)]) (args' := #[.agg #[.int .i64 a, .int .i64 b, .int .i64 c, .int .i64 d, .int .i64 e], .slice (some ⟨b1, o1, none⟩) n1 c1, .bool true]) [⟨b1, o1, 2⟩] rfl (fun j o x h h' => by
      rcases j with _ | j
      · obtain rfl := Option.some.inj h
        obtain rfl := Option.some.inj h'
        exact ⟨rfl, hbr1, hb1⟩
      · simp at h) (.cons (groundT_refl rfl) (.cons (by have q := VR.rsl (S := fun b => ([⟨b1, o1, 2⟩] : List Rx.Loc)[b]?) (b := 0) 0 n1 c1 rfl; simpa [rsl] using q) (.cons (groundT_refl rfl) .nil))) ?_
  exact cast (takesTRR_rE a b c d e e1 n1 c1 (fun i q => cellN w b1 (o1 + i * 2 + q)) fun _ _ => True) (takesTRR_rP a b c d e e1 n1 c1 (fun i q => cellN w b1 (o1 + i * 2 + q)) (fun _ _ => True) hI h1 h2 h3 h5 h4)
theorem walk_r (w : World) {a b c d e : Int} (hI : InC a b c d e) (b1 o1 n1 c1 : Nat) (hb1 : b1 < w.heap.size) (hc1 : ∀ (i j : Nat) k, i < n1 → ([.i64, .i64] : List IntKind)[j]? = some k → w.cell? ⟨b1, o1 + i * 2 + j, none⟩ = some (.int k (cellN w b1 (o1 + i * 2 + j)))) (x2 : Bool) : Calls Try.prog 7 #[.agg #[.int .i64 a, .int .i64 b, .int .i64 c, .int .i64 d, .int .i64 e], .slice (some ⟨b1, o1, none⟩) n1 c1, .bool x2] w fun e w' => e = .returned (.bool true) ∧ Below w.heap.size w w' := by
  by_cases h1 : (ckF a b c d e n1 (fun i q => cellN w b1 (o1 + i * 2 + q))).2 = 0
  · by_cases h2 : sel (selE (fun i q => cellN w b1 (o1 + i * 2 + q)) 0) n1 = []
    ·
      rcases Bool.eq_false_or_eq_true x2 with hp | hp
      · exact walk_r_ET w hI b1 o1 n1 c1 hb1 hc1 x2 hp h1 h2
      · exact walk_r_EF w hI b1 o1 n1 c1 hb1 hc1 x2 hp h1 h2
    · by_cases h5 : List.length (sel (selE (fun i q => cellN w b1 (o1 + i * 2 + q)) 0) n1) = 1
      · by_cases h3 : sel (selE (fun i q => cellN w b1 (o1 + i * 2 + q)) 2) n1 = []
        ·
          rcases Bool.eq_false_or_eq_true x2 with hp | hp
          · exact walk_r_TNN w hI b1 o1 n1 c1 hb1 hc1 x2 hp h1 h2 h3 h5
          · exact walk_r_FNN w hI b1 o1 n1 c1 hb1 hc1 x2 hp h1 h2 h3 h5
        ·
          rcases Bool.eq_false_or_eq_true x2 with hp | hp
          · by_cases h4 : List.length (sel (selE (fun i q => cellN w b1 (o1 + i * 2 + q)) 2) n1) = 2
            · exact walk_r_FT w hI b1 o1 n1 c1 hb1 hc1 x2 hp h1 h2 h3 h4
            · exact walk_r_TNR w hI b1 o1 n1 c1 hb1 hc1 x2 hp h1 h2 h3 h5 h4
          · exact walk_r_FNR w hI b1 o1 n1 c1 hb1 hc1 x2 hp h1 h2 h3 h5
      · by_cases h3 : sel (selE (fun i q => cellN w b1 (o1 + i * 2 + q)) 2) n1 = []
        ·
          rcases Bool.eq_false_or_eq_true x2 with hp | hp
          · exact walk_r_TRN w hI b1 o1 n1 c1 hb1 hc1 x2 hp h1 h2 h3 h5
          · exact walk_r_FRN w hI b1 o1 n1 c1 hb1 hc1 x2 hp h1 h2 h3 h5
        ·
          rcases Bool.eq_false_or_eq_true x2 with hp | hp
          · by_cases h4 : List.length (sel (selE (fun i q => cellN w b1 (o1 + i * 2 + q)) 2) n1) = 2
            · exact walk_r_FT w hI b1 o1 n1 c1 hb1 hc1 x2 hp h1 h2 h3 h4
            · exact walk_r_TRR w hI b1 o1 n1 c1 hb1 hc1 x2 hp h1 h2 h3 h5 h4
          · exact walk_r_FRR w hI b1 o1 n1 c1 hb1 hc1 x2 hp h1 h2 h3 h5
  ·
    rcases Bool.eq_false_or_eq_true x2 with hp | hp
    · exact walk_r_BT w hI b1 o1 n1 c1 hb1 hc1 x2 hp h1
    · exact walk_r_BF w hI b1 o1 n1 c1 hb1 hc1 x2 hp h1
theorem rowk1 {fs : Array Field} (h : Try.prog.underlying 54 = some (.struct fs)) : ∀ (j : Nat) (f : Field) (k : IntKind), fs[j]? = some f → ([.i64, .i64] : List IntKind)[j]? = some k → Try.prog.underlying f.type = some (.int k) := by
  rw [Try.underlying54] at h
  obtain rfl := TypeDesc.struct.inj (Option.some.inj h)
  intro j f k hf hk
  match j, hf, hk with
  | 0, hf, hk =>
    obtain rfl := Option.some.inj hf
    obtain rfl := Option.some.inj hk
    exact Try.underlying3
  | 1, hf, hk =>
    obtain rfl := Option.some.inj hf
    obtain rfl := Option.some.inj hk
    exact Try.underlying3
  | q + 2, hf, hk => simp at hk

set_option maxRecDepth 100000 in
set_option maxHeartbeats 4000000 in
theorem lifted (os : Os) (started : os.Started) (H : Type) (enc : TypeId × Value → H) :
    ReturnsInHanded {} Try.checked os 7 .any (Rows.framesTakesSpec.pre6 enc Try.prog Try.f7 Rows.framesTakesRow.domain false) (Rows.framesTakesSpec.post enc Try.prog Try.f7 false true false false) := by
  refine returnsInHanded_of_change (C := Try.checked) own started (by kernel_rfl) Try.func7
    (ChangeSpec.witness6 (enc := enc) (C := Try.checked) false ⟨#[], #[.agg #[.int .i64 0, .int .i64 0, .int .i64 0, .int .i64 0, .int .i64 0], .slice none 0 0, .bool false], []⟩ 8 (by kernel_rfl) (by kernel_rfl) (by kernel_rfl) (by kernel_rfl)) ?_
  intro W base args ds gs before hval0 hW hcnd _
  have hval : ∀ (j : Nat) t v, Try.f7.params[j]? = some t → args[j]? = some v → Value.okWide Try.prog W .any base t v := hval0
  have hW' := hW
  obtain ⟨p, q, hA0, hV, rfl, hfz, hnd⟩ := hW
  have hA : DataW.TrodAll enc Try.prog W 0 (fun _ => true) true Try.f7.params.toList args.toList ds p := hA0
  rw [Try.params7] at hA hval
  obtain ⟨rfl, rfl⟩ := trodVars_none hV
  simp only [List.append_nil] at hW'
  obtain ⟨v0, vs0, d0, ds0, p0, q0, hv0, rfl, rfl, t0, hA0z⟩ := trodAll_cons hA
  obtain ⟨v1, vs1, d1, ds1, p1, q1, hv1, rfl, rfl, t1, hA1z⟩ := trodAll_cons hA0z
  obtain ⟨v2, vs2, d2, ds2, p2, q2, hv2, rfl, rfl, t2, hA2z⟩ := trodAll_cons hA1z
  obtain ⟨rfl, rfl, rfl⟩ := trodAll_nil hA2z
  obtain rfl : args = #[v0, v1, v2] := by
    apply Array.ext'
    rw [hv0]
    rw [hv1]
    rw [hv2]
  clear hv0 hv1 hv2
  obtain ⟨vl0, yl0, n0, rfl, hvl0, hf0⟩ := Ev.open_fields Try.underlying23 (by kernel_rfl) cells23 (hval 0 23 v0 rfl rfl) t0
  obtain ⟨u0_0, u0_1, u0_2, u0_3, u0_4, rfl⟩ : ∃ u0_0 u0_1 u0_2 u0_3 u0_4, vl0 = [u0_0, u0_1, u0_2, u0_3, u0_4] := by
    exact len5 (hvl0.trans (by kernel_rfl))
  obtain ⟨w0_0, y0_0, hw0_0, hy0_0⟩ := hf0 0 _ rfl
  obtain rfl : u0_0 = w0_0 := Option.some.inj hw0_0
  obtain ⟨x0, e0_0, -, wa0⟩ := DataW.trod_int Try.underlying3 hy0_0
  simp at e0_0
  subst e0_0
  obtain ⟨w0_1, y0_1, hw0_1, hy0_1⟩ := hf0 1 _ rfl
  obtain rfl : u0_1 = w0_1 := Option.some.inj hw0_1
  obtain ⟨x1, e0_1, -, wa1⟩ := DataW.trod_int Try.underlying3 hy0_1
  simp at e0_1
  subst e0_1
  obtain ⟨w0_2, y0_2, hw0_2, hy0_2⟩ := hf0 2 _ rfl
  obtain rfl : u0_2 = w0_2 := Option.some.inj hw0_2
  obtain ⟨x2, e0_2, -, wa2⟩ := DataW.trod_int Try.underlying3 hy0_2
  simp at e0_2
  subst e0_2
  obtain ⟨w0_3, y0_3, hw0_3, hy0_3⟩ := hf0 3 _ rfl
  obtain rfl : u0_3 = w0_3 := Option.some.inj hw0_3
  obtain ⟨x3, e0_3, -, wa3⟩ := DataW.trod_int Try.underlying3 hy0_3
  simp at e0_3
  subst e0_3
  obtain ⟨w0_4, y0_4, hw0_4, hy0_4⟩ := hf0 4 _ rfl
  obtain rfl : u0_4 = w0_4 := Option.some.inj hw0_4
  obtain ⟨x4, e0_4, -, wa4⟩ := DataW.trod_int Try.underlying3 hy0_4
  simp at e0_4
  subst e0_4
  obtain ⟨z2, rfl, hd2, hp2⟩ := open_bool Try.underlying4 (hval 2 4 v2 rfl rfl) t2
  rcases rows_in (ks := [.i64, .i64]) Try.underlying24 Try.underlying54 (by kernel_rfl) (by kernel_rfl) (by kernel_rfl) (rowk1 Try.underlying54) (hval 1 24 v1 rfl rfl) t1 with rfl | ⟨b1, o1, n1, c1, rfl, hb1, hn1, hc1⟩
  · exact (walk_n W (InC.mk (Frm.i64wf wa0) (Frm.i64wf wa1) (Frm.i64wf wa2) (Frm.i64wf wa3) (Frm.i64wf wa4)) z2).mono fun e W' ⟨he, hg⟩ => (by
      subst he
      exact ⟨_, rfl, Frm.post_true (by kernel_rfl) (by kernel_rfl) rfl rfl Try.underlying4 hW' hg rfl⟩)
  · exact (walk_r W (InC.mk (Frm.i64wf wa0) (Frm.i64wf wa1) (Frm.i64wf wa2) (Frm.i64wf wa3) (Frm.i64wf wa4)) b1 o1 n1 c1 hb1 hc1 z2).mono fun e W' ⟨he, hg⟩ => (by
      subst he
      exact ⟨_, rfl, Frm.post_true (by kernel_rfl) (by kernel_rfl) rfl rfl Try.underlying4 hW' hg rfl⟩)

theorem over : Rows.framesTakesRow.holds Try.pinned (OpenSpec.ofChange Rows.framesTakesSpec) :=
  OpenClaim.holds_of_wide 7 Try.f7 rfl rfl rfl rfl rfl rfl rfl ⟨rfl, rfl, rfl, rfl, rfl⟩ rfl rfl rfl rfl rfl (by kernel_rfl) Try.func7 (by kernel_rfl)
    (of_decide_eq_true (by kernel_rfl)) (by unfold Func.isWrapper; first | (rw [if_pos (by decide +kernel)]; kernel_rfl) | (rw [if_neg (by decide +kernel)]; exact ⟨rfl, rfl⟩))
    (fun os started H enc _ => lifted os started H enc)

theorem proved : Rows.FramesTakesSaid := over
#print axioms proved
end Go.Proofs.Ytkflmglpniebfaa.framesTakes
