/-
  'BumpFew': few cars are needed for sizes of at most half of a car. No project text.
-/
import Derived.Test.YtkflmglpniebfaaFewB
import Derived.Test.YtkflmglpniebfaaFrm
import Derived.Test.YtkflmglpniebfaaRows
import Derived.Test.YtkflmglpniebfaaSy
import Derived.Test.YtkflmglpniebfaaArr
namespace Go.Proofs.Ytkflmglpniebfaa.bumpFew
open Go.Rx Go.Proofs.Ytkflmglpniebfaa.Fr
open Go.ChangeShapes Go.WideShapes Go.ChangeAt Go.RowKit
set_option linter.unusedVariables false
theorem own : ownKnob Try.prog.godebug = none := by kernel_rfl
theorem len5 {l : List Value} (h : l.length = 5) : ∃ a0 a1 a2 a3 a4, l = [a0, a1, a2, a3, a4] := by
  match l, h with
  | [a0, a1, a2, a3, a4], _ => exact ⟨a0, a1, a2, a3, a4, rfl⟩
theorem cells23 : Try.prog.cellsOf 23 = 5 := by kernel_rfl
theorem lenS1 {l : List Value} (h : l.length = 3) : ∃ a0 a1 a2, l = [a0, a1, a2] := by
  match l, h with
  | [a0, a1, a2], _ => exact ⟨a0, a1, a2, rfl⟩
theorem cellsS1 : Try.prog.cellsOf 62 = 3 := by kernel_rfl
theorem ctS1 : Try.prog.cellTypes Try.prog.depth 62 = some [24, 32, 3] := by kernel_rfl
theorem cap_le {P : Program} {w : World} {r : Reach} {b0 : Nat} {t e : TypeId} {b o n c : Nat} (ht : P.underlying t = some (.slice e)) (hv : Value.okWide P w r b0 t (.slice (some ⟨b, o, none⟩) n c)) : n ≤ c := by
  rcases slice_in ht hv with h | ⟨b', o', n', c', h, -, h2, -⟩
  · cases h
  · injection h with q1 q2 q3
    omega
theorem fields_wide {P : Program} {w : World} {r : Reach} {b0 : Nat} {t : TypeId} {fs : Array Field} {v : Value} {ts : List TypeId} (ht : P.underlying t = some (.struct fs)) (hts : P.cellTypes P.depth t = some ts) (hc : P.cellsOf t = ts.length) (hv : Value.okWide P w r b0 t v) :
    ∃ cs, v = .agg cs ∧ cs.size = ts.length ∧ ∀ (i : Nat) u e, cs[i]? = some u → ts[i]? = some e → Cell.okWide P w r b0 e u := by
  simp only [Value.okWide, ht] at hv
  obtain ⟨cs, h1, h2, ts', h3, -, h4⟩ := hv
  rw [hts] at h3
  obtain rfl := Option.some.inj h3
  refine ⟨cs, h1, h2.trans hc, fun i u e hu he => ?_⟩
  obtain ⟨e', k1, k2⟩ := h4 i u hu
  have hi : i < ts.length := (List.getElem?_eq_some_iff.1 he).1
  rw [Nat.mod_eq_of_lt hi, he] at k1
  obtain rfl := Option.some.inj k1
  exact k2
theorem slc_trod {H : Type} {enc : TypeId × Value → H} {P : Program} {w : World} {base : Nat} {spare : Nat → Bool} {held : Bool} {r : Reach} {b0 : Nat} {t e : TypeId} {v : Value} {n : Nat} {y : DataW H × List MemPlace} (ht : P.underlying t = some (.slice e)) (hv : Value.okWide P w r b0 t v) (h : DataW.trod enc P w base spare held n t [v] = some y) : DataW.Trod enc P w base spare held t v y.1 y.2 := by
  refine ⟨n, ?_⟩
  rcases slice_in ht hv with rfl | ⟨b, o, m, c, rfl, -⟩ <;> exact h
theorem u8wf {z : Int} (h : (Lit.int .u8 z).wf = true) : 0 ≤ z ∧ z ≤ 255 := by
  simp only [Lit.wf, Bool.and_eq_true, decide_eq_true_eq] at h
  exact h
theorem walk_nnn_A (w : World) {a b c d e : Int} (hI : InC a b c d e) (x3 : Int) (hx3 : In64 x3) (hf : 30 < 0 ∨ 30 < 0 ∨ 60 < 0) : Calls Try.prog 15 #[.agg #[.int .i64 a, .int .i64 b, .int .i64 c, .int .i64 d, .int .i64 e], .agg #[.slice none 0 0, .slice none 0 0, .int .i64 x3], .slice none 0 0] w fun e w' => e = .returned (.bool true) ∧ Below w.heap.size w w' := by
  refine law_ok (E := mkB XL15A) (mkOkB XL15A_told) (n := 4) (I := noI) (A := (bfewA_nnnA a b c d e  x3)) (f := 15) (fn := Try.f15) (by kernel_rfl) («as» := [five' a b c d e, .agg ⟨[.slice none 0 0, .slice none 0 0, .int .i64 x3]⟩, .slice none 0 0]) (bs := []) (args' := #[.agg #[.int .i64 a, .int .i64 b, .int .i64 c, .int .i64 d, .int .i64 e], .agg #[.slice none 0 0, .slice none 0 0, .int .i64 x3], .slice none 0 0]) [] rfl (fun j o x h => by simp at h) (.cons (groundT_refl rfl) (.cons (have z : LR (fun b => ([] : List Rx.Loc)[b]?) [.slice none 0 0, .slice none 0 0, .int .i64 x3] [.slice none 0 0, .slice none 0 0, .int .i64 x3] := (LR.cons (.slN 0 0) (LR.cons (.slN 0 0) (LR.cons (groundT_refl rfl) LR.nil)))
    VR.agg z.1 z.2) (.cons (.slN 0 0) .nil))) ?_
  exact cast (bfewA_nnnE a b c d e  x3 fun _ _ => True) (bfewA_nnnP a b c d e  x3 (fun _ _ => True) hI hf)
theorem walk_nnn_B (w : World) {a b c d e : Int} (hI : InC a b c d e) (x3 : Int) (hx3 : In64 x3) (hf1 : 0 ≤ 30) (hf2 : 0 ≤ 30) (hf3 : 0 ≤ 60) (h1 : ¬ (bck a b c d e 0 zF 0 zF).2 = 0) : Calls Try.prog 15 #[.agg #[.int .i64 a, .int .i64 b, .int .i64 c, .int .i64 d, .int .i64 e], .agg #[.slice none 0 0, .slice none 0 0, .int .i64 x3], .slice none 0 0] w fun e w' => e = .returned (.bool true) ∧ Below w.heap.size w w' := by
  refine law_ok (E := mkB XL15B) (mkOkB XL15B_told) (n := 4) (I := noI) (A := (bfewB_nnnA a b c d e  x3)) (f := 15) (fn := Try.f15) (by kernel_rfl) («as» := [five' a b c d e, .agg ⟨[.slice none 0 0, .slice none 0 0, .int .i64 x3]⟩, .slice none 0 0]) (bs := []) (args' := #[.agg #[.int .i64 a, .int .i64 b, .int .i64 c, .int .i64 d, .int .i64 e], .agg #[.slice none 0 0, .slice none 0 0, .int .i64 x3], .slice none 0 0]) [] rfl (fun j o x h => by simp at h) (.cons (groundT_refl rfl) (.cons (have z : LR (fun b => ([] : List Rx.Loc)[b]?) [.slice none 0 0, .slice none 0 0, .int .i64 x3] [.slice none 0 0, .slice none 0 0, .int .i64 x3] := (LR.cons (.slN 0 0) (LR.cons (.slN 0 0) (LR.cons (groundT_refl rfl) LR.nil)))
    VR.agg z.1 z.2) (.cons (.slN 0 0) .nil))) ?_
  exact cast (bfewB_nnnE a b c d e  x3 fun _ _ => True) (bfewB_nnnP a b c d e  x3 (fun _ _ => True) hI hf1 hf2 hf3 h1)
theorem walk_nnn (w : World) {a b c d e : Int} (hI : InC a b c d e) (x3 : Int) (hx3 : In64 x3) : Calls Try.prog 15 #[.agg #[.int .i64 a, .int .i64 b, .int .i64 c, .int .i64 d, .int .i64 e], .agg #[.slice none 0 0, .slice none 0 0, .int .i64 x3], .slice none 0 0] w fun e w' => e = .returned (.bool true) ∧ Below w.heap.size w w' := by
  by_cases hf : 30 < 0 ∨ 30 < 0 ∨ 60 < 0
  · exact walk_nnn_A w hI x3 hx3 hf
  · have hf1 : 0 ≤ 30 := by omega
    have hf2 : 0 ≤ 30 := by omega
    have hf3 : 0 ≤ 60 := by omega
    by_cases h1 : (bck a b c d e 0 zF 0 zF).2 = 0
    · have g := (bck_ok h1)
      have g1 := g.1
      have g2 := g.2.1
      unfold good at g1
      omega
    · exact walk_nnn_B w hI x3 hx3 hf1 hf2 hf3 h1
theorem walk_nnr_A (w : World) {a b c d e : Int} (hI : InC a b c d e) (x3 : Int) (hx3 : In64 x3) (b4 o4 n4 c4 : Nat) (hb4 : b4 < w.heap.size) (hk4 : n4 ≤ c4) (hc4 : ∀ (i j : Nat) k, i < n4 → ([.u8] : List IntKind)[j]? = some k → w.cell? ⟨b4, o4 + i * 1 + j, none⟩ = some (.int k (cellN w b4 (o4 + i * 1 + j)))) (hu4 : ∀ k, k < n4 → 0 ≤ (fun i q => cellN w b4 (o4 + i * 1 + q)) k 0 ∧ (fun i q => cellN w b4 (o4 + i * 1 + q)) k 0 ≤ 255) (hf : 30 < 0 ∨ 30 < 0 ∨ 60 < n4) : Calls Try.prog 15 #[.agg #[.int .i64 a, .int .i64 b, .int .i64 c, .int .i64 d, .int .i64 e], .agg #[.slice none 0 0, .slice none 0 0, .int .i64 x3], .slice (some ⟨b4, o4, none⟩) n4 c4] w fun e w' => e = .returned (.bool true) ∧ Below w.heap.size w w' := by
  obtain ⟨e4, hbr4⟩ := row_of_cells (w := w) (S := fun _ => none) (ks := [.u8]) (b := b4) (o := o4) (n := n4) (c := c4) (f := fun i q => cellN w b4 (o4 + i * 1 + q)) (by decide) hc4
  refine law_ok (E := mkB XL15A) (mkOkB XL15A_told) (n := 4) (I := noI) (A := (bfewA_nnrA a b c d e e4 n4 c4 (fun i q => cellN w b4 (o4 + i * 1 + q)) x3)) (f := 15) (fn := Try.f15) (by kernel_rfl) («as» := [five' a b c d e, .agg ⟨[.slice none 0 0, .slice none 0 0, .int .i64 x3]⟩, rsl 0 0 n4 c4]) (bs := [.row true [.u8] e4 n4 c4 fun i q => cellN w b4 (o4 + i * 1 + q)]) (args' := #[.agg #[.int .i64 a, .int .i64 b, .int .i64 c, .int .i64 d, .int .i64 e], .agg #[.slice none 0 0, .slice none 0 0, .int .i64 x3], .slice (some ⟨b4, o4, none⟩) n4 c4]) [⟨b4, o4, 1⟩] rfl (fun j o x h h' => by
      rcases j with _ | j
      · obtain rfl := Option.some.inj h
        obtain rfl := Option.some.inj h'
        exact ⟨rfl, hbr4, hb4⟩
      · simp at h) (.cons (groundT_refl rfl) (.cons (have z : LR (fun b => ([⟨b4, o4, 1⟩] : List Rx.Loc)[b]?) [.slice none 0 0, .slice none 0 0, .int .i64 x3] [.slice none 0 0, .slice none 0 0, .int .i64 x3] := (LR.cons (.slN 0 0) (LR.cons (.slN 0 0) (LR.cons (groundT_refl rfl) LR.nil)))
    VR.agg z.1 z.2) (.cons (by have q := VR.rsl (S := fun b => ([⟨b4, o4, 1⟩] : List Rx.Loc)[b]?) (b := 0) 0 n4 c4 rfl; simpa [rsl] using q) .nil))) ?_
  exact cast (bfewA_nnrE a b c d e e4 n4 c4 (fun i q => cellN w b4 (o4 + i * 1 + q)) x3 fun _ _ => True) (bfewA_nnrP a b c d e e4 n4 c4 (fun i q => cellN w b4 (o4 + i * 1 + q)) x3 (fun _ _ => True) hI hf)
theorem walk_nnr_B (w : World) {a b c d e : Int} (hI : InC a b c d e) (x3 : Int) (hx3 : In64 x3) (b4 o4 n4 c4 : Nat) (hb4 : b4 < w.heap.size) (hk4 : n4 ≤ c4) (hc4 : ∀ (i j : Nat) k, i < n4 → ([.u8] : List IntKind)[j]? = some k → w.cell? ⟨b4, o4 + i * 1 + j, none⟩ = some (.int k (cellN w b4 (o4 + i * 1 + j)))) (hu4 : ∀ k, k < n4 → 0 ≤ (fun i q => cellN w b4 (o4 + i * 1 + q)) k 0 ∧ (fun i q => cellN w b4 (o4 + i * 1 + q)) k 0 ≤ 255) (hf1 : 0 ≤ 30) (hf2 : 0 ≤ 30) (hf3 : n4 ≤ 60) (h1 : ¬ (bck a b c d e 0 zF 0 zF).2 = 0) : Calls Try.prog 15 #[.agg #[.int .i64 a, .int .i64 b, .int .i64 c, .int .i64 d, .int .i64 e], .agg #[.slice none 0 0, .slice none 0 0, .int .i64 x3], .slice (some ⟨b4, o4, none⟩) n4 c4] w fun e w' => e = .returned (.bool true) ∧ Below w.heap.size w w' := by
  obtain ⟨e4, hbr4⟩ := row_of_cells (w := w) (S := fun _ => none) (ks := [.u8]) (b := b4) (o := o4) (n := n4) (c := c4) (f := fun i q => cellN w b4 (o4 + i * 1 + q)) (by decide) hc4
  refine law_ok (E := mkB XL15B) (mkOkB XL15B_told) (n := 4) (I := noI) (A := (bfewB_nnrA a b c d e e4 n4 c4 (fun i q => cellN w b4 (o4 + i * 1 + q)) x3)) (f := 15) (fn := Try.f15) (by kernel_rfl) («as» := [five' a b c d e, .agg ⟨[.slice none 0 0, .slice none 0 0, .int .i64 x3]⟩, rsl 0 0 n4 c4]) (bs := [.row true [.u8] e4 n4 c4 fun i q => cellN w b4 (o4 + i * 1 + q)]) (args' := #[.agg #[.int .i64 a, .int .i64 b, .int .i64 c, .int .i64 d, .int .i64 e], .agg #[.slice none 0 0, .slice none 0 0, .int .i64 x3], .slice (some ⟨b4, o4, none⟩) n4 c4]) [⟨b4, o4, 1⟩] rfl (fun j o x h h' => by
      rcases j with _ | j
      · obtain rfl := Option.some.inj h
        obtain rfl := Option.some.inj h'
        exact ⟨rfl, hbr4, hb4⟩
      · simp at h) (.cons (groundT_refl rfl) (.cons (have z : LR (fun b => ([⟨b4, o4, 1⟩] : List Rx.Loc)[b]?) [.slice none 0 0, .slice none 0 0, .int .i64 x3] [.slice none 0 0, .slice none 0 0, .int .i64 x3] := (LR.cons (.slN 0 0) (LR.cons (.slN 0 0) (LR.cons (groundT_refl rfl) LR.nil)))
    VR.agg z.1 z.2) (.cons (by have q := VR.rsl (S := fun b => ([⟨b4, o4, 1⟩] : List Rx.Loc)[b]?) (b := 0) 0 n4 c4 rfl; simpa [rsl] using q) .nil))) ?_
  exact cast (bfewB_nnrE a b c d e e4 n4 c4 (fun i q => cellN w b4 (o4 + i * 1 + q)) x3 fun _ _ => True) (bfewB_nnrP a b c d e e4 n4 c4 (fun i q => cellN w b4 (o4 + i * 1 + q)) x3 (fun _ _ => True) hI hf1 hf2 hf3 h1)
theorem walk_nnr (w : World) {a b c d e : Int} (hI : InC a b c d e) (x3 : Int) (hx3 : In64 x3) (b4 o4 n4 c4 : Nat) (hb4 : b4 < w.heap.size) (hk4 : n4 ≤ c4) (hc4 : ∀ (i j : Nat) k, i < n4 → ([.u8] : List IntKind)[j]? = some k → w.cell? ⟨b4, o4 + i * 1 + j, none⟩ = some (.int k (cellN w b4 (o4 + i * 1 + j)))) (hu4 : ∀ k, k < n4 → 0 ≤ (fun i q => cellN w b4 (o4 + i * 1 + q)) k 0 ∧ (fun i q => cellN w b4 (o4 + i * 1 + q)) k 0 ≤ 255) : Calls Try.prog 15 #[.agg #[.int .i64 a, .int .i64 b, .int .i64 c, .int .i64 d, .int .i64 e], .agg #[.slice none 0 0, .slice none 0 0, .int .i64 x3], .slice (some ⟨b4, o4, none⟩) n4 c4] w fun e w' => e = .returned (.bool true) ∧ Below w.heap.size w w' := by
  by_cases hf : 30 < 0 ∨ 30 < 0 ∨ 60 < n4
  · exact walk_nnr_A w hI x3 hx3 b4 o4 n4 c4 hb4 hk4 hc4 hu4 hf
  · have hf1 : 0 ≤ 30 := by omega
    have hf2 : 0 ≤ 30 := by omega
    have hf3 : n4 ≤ 60 := by omega
    by_cases h1 : (bck a b c d e 0 zF 0 zF).2 = 0
    · have g := (bck_ok h1)
      have g1 := g.1
      have g2 := g.2.1
      unfold good at g1
      omega
    · exact walk_nnr_B w hI x3 hx3 b4 o4 n4 c4 hb4 hk4 hc4 hu4 hf1 hf2 hf3 h1
theorem walk_nrn_A (w : World) {a b c d e : Int} (hI : InC a b c d e) (b2 o2 n2 c2 : Nat) (hb2 : b2 < w.heap.size) (hk2 : n2 ≤ c2) (hc2 : ∀ (i j : Nat) k, i < n2 → ([.i64] : List IntKind)[j]? = some k → w.cell? ⟨b2, o2 + i * 1 + j, none⟩ = some (.int k (cellN w b2 (o2 + i * 1 + j)))) (x3 : Int) (hx3 : In64 x3) (hf : 30 < 0 ∨ 30 < n2 ∨ 60 < 0) : Calls Try.prog 15 #[.agg #[.int .i64 a, .int .i64 b, .int .i64 c, .int .i64 d, .int .i64 e], .agg #[.slice none 0 0, .slice (some ⟨b2, o2, none⟩) n2 c2, .int .i64 x3], .slice none 0 0] w fun e w' => e = .returned (.bool true) ∧ Below w.heap.size w w' := by
  obtain ⟨e2, hbr2⟩ := row_of_cells (w := w) (S := fun _ => none) (ks := [.i64]) (b := b2) (o := o2) (n := n2) (c := c2) (f := fun i q => cellN w b2 (o2 + i * 1 + q)) (by decide) hc2
  refine law_ok (E := mkB XL15A) (mkOkB XL15A_told) (n := 4) (I := noI) (A := (bfewA_nrnA a b c d e e2 n2 c2 (fun i q => cellN w b2 (o2 + i * 1 + q)) x3)) (f := 15) (fn := Try.f15) (by kernel_rfl) («as» := [five' a b c d e, .agg ⟨[.slice none 0 0, rsl 0 0 n2 c2, .int .i64 x3]⟩, .slice none 0 0]) (bs := [.row true [.i64] e2 n2 c2 fun i q => cellN w b2 (o2 + i * 1 + q)]) (args' := #[.agg #[.int .i64 a, .int .i64 b, .int .i64 c, .int .i64 d, .int .i64 e], .agg #[.slice none 0 0, .slice (some ⟨b2, o2, none⟩) n2 c2, .int .i64 x3], .slice none 0 0]) [⟨b2, o2, 1⟩] rfl (fun j o x h h' => by
      rcases j with _ | j
      · obtain rfl := Option.some.inj h
        obtain rfl := Option.some.inj h'
        exact ⟨rfl, hbr2, hb2⟩
      · simp at h) (.cons (groundT_refl rfl) (.cons (have z : LR (fun b => ([⟨b2, o2, 1⟩] : List Rx.Loc)[b]?) [.slice none 0 0, rsl 0 0 n2 c2, .int .i64 x3] [.slice none 0 0, .slice (some ⟨b2, o2, none⟩) n2 c2, .int .i64 x3] := (LR.cons (.slN 0 0) (LR.cons (by have q := VR.rsl (S := fun b => ([⟨b2, o2, 1⟩] : List Rx.Loc)[b]?) (b := 0) 0 n2 c2 rfl; simpa [rsl] using q) (LR.cons (groundT_refl rfl) LR.nil)))
    VR.agg z.1 z.2) (.cons (.slN 0 0) .nil))) ?_
  exact cast (bfewA_nrnE a b c d e e2 n2 c2 (fun i q => cellN w b2 (o2 + i * 1 + q)) x3 fun _ _ => True) (bfewA_nrnP a b c d e e2 n2 c2 (fun i q => cellN w b2 (o2 + i * 1 + q)) x3 (fun _ _ => True) hI hk2 hf)
theorem walk_nrn_B (w : World) {a b c d e : Int} (hI : InC a b c d e) (b2 o2 n2 c2 : Nat) (hb2 : b2 < w.heap.size) (hk2 : n2 ≤ c2) (hc2 : ∀ (i j : Nat) k, i < n2 → ([.i64] : List IntKind)[j]? = some k → w.cell? ⟨b2, o2 + i * 1 + j, none⟩ = some (.int k (cellN w b2 (o2 + i * 1 + j)))) (x3 : Int) (hx3 : In64 x3) (hf1 : 0 ≤ 30) (hf2 : n2 ≤ 30) (hf3 : 0 ≤ 60) (h1 : ¬ (bck a b c d e 0 zF n2 (fun i q => cellN w b2 (o2 + i * 1 + q))).2 = 0) : Calls Try.prog 15 #[.agg #[.int .i64 a, .int .i64 b, .int .i64 c, .int .i64 d, .int .i64 e], .agg #[.slice none 0 0, .slice (some ⟨b2, o2, none⟩) n2 c2, .int .i64 x3], .slice none 0 0] w fun e w' => e = .returned (.bool true) ∧ Below w.heap.size w w' := by
  obtain ⟨e2, hbr2⟩ := row_of_cells (w := w) (S := fun _ => none) (ks := [.i64]) (b := b2) (o := o2) (n := n2) (c := c2) (f := fun i q => cellN w b2 (o2 + i * 1 + q)) (by decide) hc2
  refine law_ok (E := mkB XL15B) (mkOkB XL15B_told) (n := 4) (I := noI) (A := (bfewB_nrnA a b c d e e2 n2 c2 (fun i q => cellN w b2 (o2 + i * 1 + q)) x3)) (f := 15) (fn := Try.f15) (by kernel_rfl) («as» := [five' a b c d e, .agg ⟨[.slice none 0 0, rsl 0 0 n2 c2, .int .i64 x3]⟩, .slice none 0 0]) (bs := [.row true [.i64] e2 n2 c2 fun i q => cellN w b2 (o2 + i * 1 + q)]) (args' := #[.agg #[.int .i64 a, .int .i64 b, .int .i64 c, .int .i64 d, .int .i64 e], .agg #[.slice none 0 0, .slice (some ⟨b2, o2, none⟩) n2 c2, .int .i64 x3], .slice none 0 0]) [⟨b2, o2, 1⟩] rfl (fun j o x h h' => by
      rcases j with _ | j
      · obtain rfl := Option.some.inj h
        obtain rfl := Option.some.inj h'
        exact ⟨rfl, hbr2, hb2⟩
      · simp at h) (.cons (groundT_refl rfl) (.cons (have z : LR (fun b => ([⟨b2, o2, 1⟩] : List Rx.Loc)[b]?) [.slice none 0 0, rsl 0 0 n2 c2, .int .i64 x3] [.slice none 0 0, .slice (some ⟨b2, o2, none⟩) n2 c2, .int .i64 x3] := (LR.cons (.slN 0 0) (LR.cons (by have q := VR.rsl (S := fun b => ([⟨b2, o2, 1⟩] : List Rx.Loc)[b]?) (b := 0) 0 n2 c2 rfl; simpa [rsl] using q) (LR.cons (groundT_refl rfl) LR.nil)))
    VR.agg z.1 z.2) (.cons (.slN 0 0) .nil))) ?_
  exact cast (bfewB_nrnE a b c d e e2 n2 c2 (fun i q => cellN w b2 (o2 + i * 1 + q)) x3 fun _ _ => True) (bfewB_nrnP a b c d e e2 n2 c2 (fun i q => cellN w b2 (o2 + i * 1 + q)) x3 (fun _ _ => True) hI hk2 hf1 hf2 hf3 h1)
theorem walk_nrn (w : World) {a b c d e : Int} (hI : InC a b c d e) (b2 o2 n2 c2 : Nat) (hb2 : b2 < w.heap.size) (hk2 : n2 ≤ c2) (hc2 : ∀ (i j : Nat) k, i < n2 → ([.i64] : List IntKind)[j]? = some k → w.cell? ⟨b2, o2 + i * 1 + j, none⟩ = some (.int k (cellN w b2 (o2 + i * 1 + j)))) (x3 : Int) (hx3 : In64 x3) : Calls Try.prog 15 #[.agg #[.int .i64 a, .int .i64 b, .int .i64 c, .int .i64 d, .int .i64 e], .agg #[.slice none 0 0, .slice (some ⟨b2, o2, none⟩) n2 c2, .int .i64 x3], .slice none 0 0] w fun e w' => e = .returned (.bool true) ∧ Below w.heap.size w w' := by
  by_cases hf : 30 < 0 ∨ 30 < n2 ∨ 60 < 0
  · exact walk_nrn_A w hI b2 o2 n2 c2 hb2 hk2 hc2 x3 hx3 hf
  · have hf1 : 0 ≤ 30 := by omega
    have hf2 : n2 ≤ 30 := by omega
    have hf3 : 0 ≤ 60 := by omega
    by_cases h1 : (bck a b c d e 0 zF n2 (fun i q => cellN w b2 (o2 + i * 1 + q))).2 = 0
    · have g := (bck_ok h1)
      have g1 := g.1
      have g2 := g.2.1
      unfold good at g1
      omega
    · exact walk_nrn_B w hI b2 o2 n2 c2 hb2 hk2 hc2 x3 hx3 hf1 hf2 hf3 h1
theorem walk_nrr_A (w : World) {a b c d e : Int} (hI : InC a b c d e) (b2 o2 n2 c2 : Nat) (hb2 : b2 < w.heap.size) (hk2 : n2 ≤ c2) (hc2 : ∀ (i j : Nat) k, i < n2 → ([.i64] : List IntKind)[j]? = some k → w.cell? ⟨b2, o2 + i * 1 + j, none⟩ = some (.int k (cellN w b2 (o2 + i * 1 + j)))) (x3 : Int) (hx3 : In64 x3) (b4 o4 n4 c4 : Nat) (hb4 : b4 < w.heap.size) (hk4 : n4 ≤ c4) (hc4 : ∀ (i j : Nat) k, i < n4 → ([.u8] : List IntKind)[j]? = some k → w.cell? ⟨b4, o4 + i * 1 + j, none⟩ = some (.int k (cellN w b4 (o4 + i * 1 + j)))) (hu4 : ∀ k, k < n4 → 0 ≤ (fun i q => cellN w b4 (o4 + i * 1 + q)) k 0 ∧ (fun i q => cellN w b4 (o4 + i * 1 + q)) k 0 ≤ 255) (hf : 30 < 0 ∨ 30 < n2 ∨ 60 < n4) : Calls Try.prog 15 #[.agg #[.int .i64 a, .int .i64 b, .int .i64 c, .int .i64 d, .int .i64 e], .agg #[.slice none 0 0, .slice (some ⟨b2, o2, none⟩) n2 c2, .int .i64 x3], .slice (some ⟨b4, o4, none⟩) n4 c4] w fun e w' => e = .returned (.bool true) ∧ Below w.heap.size w w' := by
  obtain ⟨e2, hbr2⟩ := row_of_cells (w := w) (S := fun _ => none) (ks := [.i64]) (b := b2) (o := o2) (n := n2) (c := c2) (f := fun i q => cellN w b2 (o2 + i * 1 + q)) (by decide) hc2
  obtain ⟨e4, hbr4⟩ := row_of_cells (w := w) (S := fun _ => none) (ks := [.u8]) (b := b4) (o := o4) (n := n4) (c := c4) (f := fun i q => cellN w b4 (o4 + i * 1 + q)) (by decide) hc4
  refine law_ok (E := mkB XL15A) (mkOkB XL15A_told) (n := 4) (I := noI) (A := (bfewA_nrrA a b c d e e2 n2 c2 (fun i q => cellN w b2 (o2 + i * 1 + q)) e4 n4 c4 (fun i q => cellN w b4 (o4 + i * 1 + q)) x3)) (f := 15) (fn := Try.f15) (by kernel_rfl) («as» := [five' a b c d e, .agg ⟨[.slice none 0 0, rsl 0 0 n2 c2, .int .i64 x3]⟩, rsl 1 0 n4 c4]) (bs := [.row true [.i64] e2 n2 c2 fun i q => cellN w b2 (o2 + i * 1 + q), .row true [.u8] e4 n4 c4 fun i q => cellN w b4 (o4 + i * 1 + q)]) (args' := #[.agg #[.int .i64 a, .int .i64 b, .int .i64 c, .int .i64 d, .int .i64 e], .agg #[.slice none 0 0, .slice (some ⟨b2, o2, none⟩) n2 c2, .int .i64 x3], .slice (some ⟨b4, o4, none⟩) n4 c4]) [⟨b2, o2, 1⟩, ⟨b4, o4, 1⟩] rfl (fun j o x h h' => by
      rcases j with _ | _ | j
      · obtain rfl := Option.some.inj h
        obtain rfl := Option.some.inj h'
        exact ⟨rfl, hbr2, hb2⟩
      · obtain rfl := Option.some.inj h
        obtain rfl := Option.some.inj h'
        exact ⟨rfl, hbr4, hb4⟩
      · simp at h) (.cons (groundT_refl rfl) (.cons (have z : LR (fun b => ([⟨b2, o2, 1⟩, ⟨b4, o4, 1⟩] : List Rx.Loc)[b]?) [.slice none 0 0, rsl 0 0 n2 c2, .int .i64 x3] [.slice none 0 0, .slice (some ⟨b2, o2, none⟩) n2 c2, .int .i64 x3] := (LR.cons (.slN 0 0) (LR.cons (by have q := VR.rsl (S := fun b => ([⟨b2, o2, 1⟩, ⟨b4, o4, 1⟩] : List Rx.Loc)[b]?) (b := 0) 0 n2 c2 rfl; simpa [rsl] using q) (LR.cons (groundT_refl rfl) LR.nil)))
    VR.agg z.1 z.2) (.cons (by have q := VR.rsl (S := fun b => ([⟨b2, o2, 1⟩, ⟨b4, o4, 1⟩] : List Rx.Loc)[b]?) (b := 1) 0 n4 c4 rfl; simpa [rsl] using q) .nil))) ?_
  exact cast (bfewA_nrrE a b c d e e2 n2 c2 (fun i q => cellN w b2 (o2 + i * 1 + q)) e4 n4 c4 (fun i q => cellN w b4 (o4 + i * 1 + q)) x3 fun _ _ => True) (bfewA_nrrP a b c d e e2 n2 c2 (fun i q => cellN w b2 (o2 + i * 1 + q)) e4 n4 c4 (fun i q => cellN w b4 (o4 + i * 1 + q)) x3 (fun _ _ => True) hI hk2 hf)
theorem walk_nrr_B (w : World) {a b c d e : Int} (hI : InC a b c d e) (b2 o2 n2 c2 : Nat) (hb2 : b2 < w.heap.size) (hk2 : n2 ≤ c2) (hc2 : ∀ (i j : Nat) k, i < n2 → ([.i64] : List IntKind)[j]? = some k → w.cell? ⟨b2, o2 + i * 1 + j, none⟩ = some (.int k (cellN w b2 (o2 + i * 1 + j)))) (x3 : Int) (hx3 : In64 x3) (b4 o4 n4 c4 : Nat) (hb4 : b4 < w.heap.size) (hk4 : n4 ≤ c4) (hc4 : ∀ (i j : Nat) k, i < n4 → ([.u8] : List IntKind)[j]? = some k → w.cell? ⟨b4, o4 + i * 1 + j, none⟩ = some (.int k (cellN w b4 (o4 + i * 1 + j)))) (hu4 : ∀ k, k < n4 → 0 ≤ (fun i q => cellN w b4 (o4 + i * 1 + q)) k 0 ∧ (fun i q => cellN w b4 (o4 + i * 1 + q)) k 0 ≤ 255) (hf1 : 0 ≤ 30) (hf2 : n2 ≤ 30) (hf3 : n4 ≤ 60) (h1 : ¬ (bck a b c d e 0 zF n2 (fun i q => cellN w b2 (o2 + i * 1 + q))).2 = 0) : Calls Try.prog 15 #[.agg #[.int .i64 a, .int .i64 b, .int .i64 c, .int .i64 d, .int .i64 e], .agg #[.slice none 0 0, .slice (some ⟨b2, o2, none⟩) n2 c2, .int .i64 x3], .slice (some ⟨b4, o4, none⟩) n4 c4] w fun e w' => e = .returned (.bool true) ∧ Below w.heap.size w w' := by
  obtain ⟨e2, hbr2⟩ := row_of_cells (w := w) (S := fun _ => none) (ks := [.i64]) (b := b2) (o := o2) (n := n2) (c := c2) (f := fun i q => cellN w b2 (o2 + i * 1 + q)) (by decide) hc2
  obtain ⟨e4, hbr4⟩ := row_of_cells (w := w) (S := fun _ => none) (ks := [.u8]) (b := b4) (o := o4) (n := n4) (c := c4) (f := fun i q => cellN w b4 (o4 + i * 1 + q)) (by decide) hc4
  refine law_ok (E := mkB XL15B) (mkOkB XL15B_told) (n := 4) (I := noI) (A := (bfewB_nrrA a b c d e e2 n2 c2 (fun i q => cellN w b2 (o2 + i * 1 + q)) e4 n4 c4 (fun i q => cellN w b4 (o4 + i * 1 + q)) x3)) (f := 15) (fn := Try.f15) (by kernel_rfl) («as» := [five' a b c d e, .agg ⟨[.slice none 0 0, rsl 0 0 n2 c2, .int .i64 x3]⟩, rsl 1 0 n4 c4]) (bs := [.row true [.i64] e2 n2 c2 fun i q => cellN w b2 (o2 + i * 1 + q), .row true [.u8] e4 n4 c4 fun i q => cellN w b4 (o4 + i * 1 + q)]) (args' := #[.agg #[.int .i64 a, .int .i64 b, .int .i64 c, .int .i64 d, .int .i64 e], .agg #[.slice none 0 0, .slice (some ⟨b2, o2, none⟩) n2 c2, .int .i64 x3], .slice (some ⟨b4, o4, none⟩) n4 c4]) [⟨b2, o2, 1⟩, ⟨b4, o4, 1⟩] rfl (fun j o x h h' => by
      rcases j with _ | _ | j
      · obtain rfl := Option.some.inj h
        obtain rfl := Option.some.inj h'
        exact ⟨rfl, hbr2, hb2⟩
      · obtain rfl := Option.some.inj h
        obtain rfl := Option.some.inj h'
        exact ⟨rfl, hbr4, hb4⟩
      · simp at h) (.cons (groundT_refl rfl) (.cons (have z : LR (fun b => ([⟨b2, o2, 1⟩, ⟨b4, o4, 1⟩] : List Rx.Loc)[b]?) [.slice none 0 0, rsl 0 0 n2 c2, .int .i64 x3] [.slice none 0 0, .slice (some ⟨b2, o2, none⟩) n2 c2, .int .i64 x3] := (LR.cons (.slN 0 0) (LR.cons (by have q := VR.rsl (S := fun b => ([⟨b2, o2, 1⟩, ⟨b4, o4, 1⟩] : List Rx.Loc)[b]?) (b := 0) 0 n2 c2 rfl; simpa [rsl] using q) (LR.cons (groundT_refl rfl) LR.nil)))
    VR.agg z.1 z.2) (.cons (by have q := VR.rsl (S := fun b => ([⟨b2, o2, 1⟩, ⟨b4, o4, 1⟩] : List Rx.Loc)[b]?) (b := 1) 0 n4 c4 rfl; simpa [rsl] using q) .nil))) ?_
  exact cast (bfewB_nrrE a b c d e e2 n2 c2 (fun i q => cellN w b2 (o2 + i * 1 + q)) e4 n4 c4 (fun i q => cellN w b4 (o4 + i * 1 + q)) x3 fun _ _ => True) (bfewB_nrrP a b c d e e2 n2 c2 (fun i q => cellN w b2 (o2 + i * 1 + q)) e4 n4 c4 (fun i q => cellN w b4 (o4 + i * 1 + q)) x3 (fun _ _ => True) hI hk2 hf1 hf2 hf3 h1)
theorem walk_nrr (w : World) {a b c d e : Int} (hI : InC a b c d e) (b2 o2 n2 c2 : Nat) (hb2 : b2 < w.heap.size) (hk2 : n2 ≤ c2) (hc2 : ∀ (i j : Nat) k, i < n2 → ([.i64] : List IntKind)[j]? = some k → w.cell? ⟨b2, o2 + i * 1 + j, none⟩ = some (.int k (cellN w b2 (o2 + i * 1 + j)))) (x3 : Int) (hx3 : In64 x3) (b4 o4 n4 c4 : Nat) (hb4 : b4 < w.heap.size) (hk4 : n4 ≤ c4) (hc4 : ∀ (i j : Nat) k, i < n4 → ([.u8] : List IntKind)[j]? = some k → w.cell? ⟨b4, o4 + i * 1 + j, none⟩ = some (.int k (cellN w b4 (o4 + i * 1 + j)))) (hu4 : ∀ k, k < n4 → 0 ≤ (fun i q => cellN w b4 (o4 + i * 1 + q)) k 0 ∧ (fun i q => cellN w b4 (o4 + i * 1 + q)) k 0 ≤ 255) : Calls Try.prog 15 #[.agg #[.int .i64 a, .int .i64 b, .int .i64 c, .int .i64 d, .int .i64 e], .agg #[.slice none 0 0, .slice (some ⟨b2, o2, none⟩) n2 c2, .int .i64 x3], .slice (some ⟨b4, o4, none⟩) n4 c4] w fun e w' => e = .returned (.bool true) ∧ Below w.heap.size w w' := by
  by_cases hf : 30 < 0 ∨ 30 < n2 ∨ 60 < n4
  · exact walk_nrr_A w hI b2 o2 n2 c2 hb2 hk2 hc2 x3 hx3 b4 o4 n4 c4 hb4 hk4 hc4 hu4 hf
  · have hf1 : 0 ≤ 30 := by omega
    have hf2 : n2 ≤ 30 := by omega
    have hf3 : n4 ≤ 60 := by omega
    by_cases h1 : (bck a b c d e 0 zF n2 (fun i q => cellN w b2 (o2 + i * 1 + q))).2 = 0
    · have g := (bck_ok h1)
      have g1 := g.1
      have g2 := g.2.1
      unfold good at g1
      omega
    · exact walk_nrr_B w hI b2 o2 n2 c2 hb2 hk2 hc2 x3 hx3 b4 o4 n4 c4 hb4 hk4 hc4 hu4 hf1 hf2 hf3 h1
theorem walk_rnn_A (w : World) {a b c d e : Int} (hI : InC a b c d e) (b1 o1 n1 c1 : Nat) (hb1 : b1 < w.heap.size) (hk1 : n1 ≤ c1) (hc1 : ∀ (i j : Nat) k, i < n1 → ([.i64, .i64] : List IntKind)[j]? = some k → w.cell? ⟨b1, o1 + i * 2 + j, none⟩ = some (.int k (cellN w b1 (o1 + i * 2 + j)))) (x3 : Int) (hx3 : In64 x3) (hf : 30 < n1 ∨ 30 < 0 ∨ 60 < 0) : Calls Try.prog 15 #[.agg #[.int .i64 a, .int .i64 b, .int .i64 c, .int .i64 d, .int .i64 e], .agg #[.slice (some ⟨b1, o1, none⟩) n1 c1, .slice none 0 0, .int .i64 x3], .slice none 0 0] w fun e w' => e = .returned (.bool true) ∧ Below w.heap.size w w' := by
  obtain ⟨e1, hbr1⟩ := row_of_cells (w := w) (S := fun _ => none) (ks := [.i64, .i64]) (b := b1) (o := o1) (n := n1) (c := c1) (f := fun i q => cellN w b1 (o1 + i * 2 + q)) (by decide) hc1
  refine law_ok (E := mkB XL15A) (mkOkB XL15A_told) (n := 4) (I := noI) (A := (bfewA_rnnA a b c d e e1 n1 c1 (fun i q => cellN w b1 (o1 + i * 2 + q)) x3)) (f := 15) (fn := Try.f15) (by kernel_rfl) («as» := [five' a b c d e, .agg ⟨[rsl 0 0 n1 c1, .slice none 0 0, .int .i64 x3]⟩, .slice none 0 0]) (bs := [.row true [.i64, .i64] e1 n1 c1 fun i q => cellN w b1 (o1 + i * 2 + q)]) (args' := #[.agg #[.int .i64 a, .int .i64 b, .int .i64 c, .int .i64 d, .int .i64 e], .agg #[.slice (some ⟨b1, o1, none⟩) n1 c1, .slice none 0 0, .int .i64 x3], .slice none 0 0]) [⟨b1, o1, 2⟩] rfl (fun j o x h h' => by
      rcases j with _ | j
      · obtain rfl := Option.some.inj h
        obtain rfl := Option.some.inj h'
        exact ⟨rfl, hbr1, hb1⟩
      · simp at h) (.cons (groundT_refl rfl) (.cons (have z : LR (fun b => ([⟨b1, o1, 2⟩] : List Rx.Loc)[b]?) [rsl 0 0 n1 c1, .slice none 0 0, .int .i64 x3] [.slice (some ⟨b1, o1, none⟩) n1 c1, .slice none 0 0, .int .i64 x3] := (LR.cons (by have q := VR.rsl (S := fun b => ([⟨b1, o1, 2⟩] : List Rx.Loc)[b]?) (b := 0) 0 n1 c1 rfl; simpa [rsl] using q) (LR.cons (.slN 0 0) (LR.cons (groundT_refl rfl) LR.nil)))
    VR.agg z.1 z.2) (.cons (.slN 0 0) .nil))) ?_
  exact cast (bfewA_rnnE a b c d e e1 n1 c1 (fun i q => cellN w b1 (o1 + i * 2 + q)) x3 fun _ _ => True) (bfewA_rnnP a b c d e e1 n1 c1 (fun i q => cellN w b1 (o1 + i * 2 + q)) x3 (fun _ _ => True) hI hf)
theorem walk_rnn_B (w : World) {a b c d e : Int} (hI : InC a b c d e) (b1 o1 n1 c1 : Nat) (hb1 : b1 < w.heap.size) (hk1 : n1 ≤ c1) (hc1 : ∀ (i j : Nat) k, i < n1 → ([.i64, .i64] : List IntKind)[j]? = some k → w.cell? ⟨b1, o1 + i * 2 + j, none⟩ = some (.int k (cellN w b1 (o1 + i * 2 + j)))) (x3 : Int) (hx3 : In64 x3) (hf1 : n1 ≤ 30) (hf2 : 0 ≤ 30) (hf3 : 0 ≤ 60) (h1 : ¬ (bck a b c d e n1 (fun i q => cellN w b1 (o1 + i * 2 + q)) 0 zF).2 = 0) : Calls Try.prog 15 #[.agg #[.int .i64 a, .int .i64 b, .int .i64 c, .int .i64 d, .int .i64 e], .agg #[.slice (some ⟨b1, o1, none⟩) n1 c1, .slice none 0 0, .int .i64 x3], .slice none 0 0] w fun e w' => e = .returned (.bool true) ∧ Below w.heap.size w w' := by
  obtain ⟨e1, hbr1⟩ := row_of_cells (w := w) (S := fun _ => none) (ks := [.i64, .i64]) (b := b1) (o := o1) (n := n1) (c := c1) (f := fun i q => cellN w b1 (o1 + i * 2 + q)) (by decide) hc1
  refine law_ok (E := mkB XL15B) (mkOkB XL15B_told) (n := 4) (I := noI) (A := (bfewB_rnnA a b c d e e1 n1 c1 (fun i q => cellN w b1 (o1 + i * 2 + q)) x3)) (f := 15) (fn := Try.f15) (by kernel_rfl) («as» := [five' a b c d e, .agg ⟨[rsl 0 0 n1 c1, .slice none 0 0, .int .i64 x3]⟩, .slice none 0 0]) (bs := [.row true [.i64, .i64] e1 n1 c1 fun i q => cellN w b1 (o1 + i * 2 + q)]) (args' := #[.agg #[.int .i64 a, .int .i64 b, .int .i64 c, .int .i64 d, .int .i64 e], .agg #[.slice (some ⟨b1, o1, none⟩) n1 c1, .slice none 0 0, .int .i64 x3], .slice none 0 0]) [⟨b1, o1, 2⟩] rfl (fun j o x h h' => by
      rcases j with _ | j
      · obtain rfl := Option.some.inj h
        obtain rfl := Option.some.inj h'
        exact ⟨rfl, hbr1, hb1⟩
      · simp at h) (.cons (groundT_refl rfl) (.cons (have z : LR (fun b => ([⟨b1, o1, 2⟩] : List Rx.Loc)[b]?) [rsl 0 0 n1 c1, .slice none 0 0, .int .i64 x3] [.slice (some ⟨b1, o1, none⟩) n1 c1, .slice none 0 0, .int .i64 x3] := (LR.cons (by have q := VR.rsl (S := fun b => ([⟨b1, o1, 2⟩] : List Rx.Loc)[b]?) (b := 0) 0 n1 c1 rfl; simpa [rsl] using q) (LR.cons (.slN 0 0) (LR.cons (groundT_refl rfl) LR.nil)))
    VR.agg z.1 z.2) (.cons (.slN 0 0) .nil))) ?_
  exact cast (bfewB_rnnE a b c d e e1 n1 c1 (fun i q => cellN w b1 (o1 + i * 2 + q)) x3 fun _ _ => True) (bfewB_rnnP a b c d e e1 n1 c1 (fun i q => cellN w b1 (o1 + i * 2 + q)) x3 (fun _ _ => True) hI hf1 hf2 hf3 h1)
theorem walk_rnn_Z (w : World) {a b c d e : Int} (hI : InC a b c d e) (b1 o1 n1 c1 : Nat) (hb1 : b1 < w.heap.size) (hk1 : n1 ≤ c1) (hc1 : ∀ (i j : Nat) k, i < n1 → ([.i64, .i64] : List IntKind)[j]? = some k → w.cell? ⟨b1, o1 + i * 2 + j, none⟩ = some (.int k (cellN w b1 (o1 + i * 2 + j)))) (x3 : Int) (hx3 : In64 x3) (hf1 : n1 ≤ 30) (hf2 : 0 ≤ 30) (hf3 : 0 ≤ 60) (h1 : (bck a b c d e n1 (fun i q => cellN w b1 (o1 + i * 2 + q)) 0 zF).2 = 0) (hn : 0 = 0) : Calls Try.prog 15 #[.agg #[.int .i64 a, .int .i64 b, .int .i64 c, .int .i64 d, .int .i64 e], .agg #[.slice (some ⟨b1, o1, none⟩) n1 c1, .slice none 0 0, .int .i64 x3], .slice none 0 0] w fun e w' => e = .returned (.bool true) ∧ Below w.heap.size w w' := by
  obtain ⟨e1, hbr1⟩ := row_of_cells (w := w) (S := fun _ => none) (ks := [.i64, .i64]) (b := b1) (o := o1) (n := n1) (c := c1) (f := fun i q => cellN w b1 (o1 + i * 2 + q)) (by decide) hc1
  refine law_ok (E := mkB XL15Z) (mkOkB XL15Z_told) (n := 4) (I := noI) (A := (bfewZ_rnnA a b c d e e1 n1 c1 (fun i q => cellN w b1 (o1 + i * 2 + q)) x3)) (f := 15) (fn := Try.f15) (by kernel_rfl) («as» := [five' a b c d e, .agg ⟨[rsl 0 0 n1 c1, .slice none 0 0, .int .i64 x3]⟩, .slice none 0 0]) (bs := [.row true [.i64, .i64] e1 n1 c1 fun i q => cellN w b1 (o1 + i * 2 + q)]) (args' := #[.agg #[.int .i64 a, .int .i64 b, .int .i64 c, .int .i64 d, .int .i64 e], .agg #[.slice (some ⟨b1, o1, none⟩) n1 c1, .slice none 0 0, .int .i64 x3], .slice none 0 0]) [⟨b1, o1, 2⟩] rfl (fun j o x h h' => by
      rcases j with _ | j
      · obtain rfl := Option.some.inj h
        obtain rfl := Option.some.inj h'
        exact ⟨rfl, hbr1, hb1⟩
      · simp at h) (.cons (groundT_refl rfl) (.cons (have z : LR (fun b => ([⟨b1, o1, 2⟩] : List Rx.Loc)[b]?) [rsl 0 0 n1 c1, .slice none 0 0, .int .i64 x3] [.slice (some ⟨b1, o1, none⟩) n1 c1, .slice none 0 0, .int .i64 x3] := (LR.cons (by have q := VR.rsl (S := fun b => ([⟨b1, o1, 2⟩] : List Rx.Loc)[b]?) (b := 0) 0 n1 c1 rfl; simpa [rsl] using q) (LR.cons (.slN 0 0) (LR.cons (groundT_refl rfl) LR.nil)))
    VR.agg z.1 z.2) (.cons (.slN 0 0) .nil))) ?_
  exact cast (bfewZ_rnnE a b c d e e1 n1 c1 (fun i q => cellN w b1 (o1 + i * 2 + q)) x3 fun _ _ => True) (bfewZ_rnnP a b c d e e1 n1 c1 (fun i q => cellN w b1 (o1 + i * 2 + q)) x3 (fun _ _ => True) hI hf1 hf2 hf3 h1 hn)
theorem walk_rnn (w : World) {a b c d e : Int} (hI : InC a b c d e) (b1 o1 n1 c1 : Nat) (hb1 : b1 < w.heap.size) (hk1 : n1 ≤ c1) (hc1 : ∀ (i j : Nat) k, i < n1 → ([.i64, .i64] : List IntKind)[j]? = some k → w.cell? ⟨b1, o1 + i * 2 + j, none⟩ = some (.int k (cellN w b1 (o1 + i * 2 + j)))) (x3 : Int) (hx3 : In64 x3) : Calls Try.prog 15 #[.agg #[.int .i64 a, .int .i64 b, .int .i64 c, .int .i64 d, .int .i64 e], .agg #[.slice (some ⟨b1, o1, none⟩) n1 c1, .slice none 0 0, .int .i64 x3], .slice none 0 0] w fun e w' => e = .returned (.bool true) ∧ Below w.heap.size w w' := by
  by_cases hf : 30 < n1 ∨ 30 < 0 ∨ 60 < 0
  · exact walk_rnn_A w hI b1 o1 n1 c1 hb1 hk1 hc1 x3 hx3 hf
  · have hf1 : n1 ≤ 30 := by omega
    have hf2 : 0 ≤ 30 := by omega
    have hf3 : 0 ≤ 60 := by omega
    by_cases h1 : (bck a b c d e n1 (fun i q => cellN w b1 (o1 + i * 2 + q)) 0 zF).2 = 0
    · exact walk_rnn_Z w hI b1 o1 n1 c1 hb1 hk1 hc1 x3 hx3 hf1 hf2 hf3 h1 rfl
    · exact walk_rnn_B w hI b1 o1 n1 c1 hb1 hk1 hc1 x3 hx3 hf1 hf2 hf3 h1
theorem walk_rnr_A (w : World) {a b c d e : Int} (hI : InC a b c d e) (b1 o1 n1 c1 : Nat) (hb1 : b1 < w.heap.size) (hk1 : n1 ≤ c1) (hc1 : ∀ (i j : Nat) k, i < n1 → ([.i64, .i64] : List IntKind)[j]? = some k → w.cell? ⟨b1, o1 + i * 2 + j, none⟩ = some (.int k (cellN w b1 (o1 + i * 2 + j)))) (x3 : Int) (hx3 : In64 x3) (b4 o4 n4 c4 : Nat) (hb4 : b4 < w.heap.size) (hk4 : n4 ≤ c4) (hc4 : ∀ (i j : Nat) k, i < n4 → ([.u8] : List IntKind)[j]? = some k → w.cell? ⟨b4, o4 + i * 1 + j, none⟩ = some (.int k (cellN w b4 (o4 + i * 1 + j)))) (hu4 : ∀ k, k < n4 → 0 ≤ (fun i q => cellN w b4 (o4 + i * 1 + q)) k 0 ∧ (fun i q => cellN w b4 (o4 + i * 1 + q)) k 0 ≤ 255) (hf : 30 < n1 ∨ 30 < 0 ∨ 60 < n4) : Calls Try.prog 15 #[.agg #[.int .i64 a, .int .i64 b, .int .i64 c, .int .i64 d, .int .i64 e], .agg #[.slice (some ⟨b1, o1, none⟩) n1 c1, .slice none 0 0, .int .i64 x3], .slice (some ⟨b4, o4, none⟩) n4 c4] w fun e w' => e = .returned (.bool true) ∧ Below w.heap.size w w' := by
  obtain ⟨e1, hbr1⟩ := row_of_cells (w := w) (S := fun _ => none) (ks := [.i64, .i64]) (b := b1) (o := o1) (n := n1) (c := c1) (f := fun i q => cellN w b1 (o1 + i * 2 + q)) (by decide) hc1
  obtain ⟨e4, hbr4⟩ := row_of_cells (w := w) (S := fun _ => none) (ks := [.u8]) (b := b4) (o := o4) (n := n4) (c := c4) (f := fun i q => cellN w b4 (o4 + i * 1 + q)) (by decide) hc4
  refine law_ok (E := mkB XL15A) (mkOkB XL15A_told) (n := 4) (I := noI) (A := (bfewA_rnrA a b c d e e1 n1 c1 (fun i q => cellN w b1 (o1 + i * 2 + q)) e4 n4 c4 (fun i q => cellN w b4 (o4 + i * 1 + q)) x3)) (f := 15) (fn := Try.f15) (by kernel_rfl) («as» := [five' a b c d e, .agg ⟨[rsl 0 0 n1 c1, .slice none 0 0, .int .i64 x3]⟩, rsl 1 0 n4 c4]) (bs := [.row true [.i64, .i64] e1 n1 c1 fun i q => cellN w b1 (o1 + i * 2 + q), .row true [.u8] e4 n4 c4 fun i q => cellN w b4 (o4 + i * 1 + q)]) (args' := #[.agg #[.int .i64 a, .int .i64 b, .int .i64 c, .int .i64 d, .int .i64 e], .agg #[.slice (some ⟨b1, o1, none⟩) n1 c1, .slice none 0 0, .int .i64 x3], .slice (some ⟨b4, o4, none⟩) n4 c4]) [⟨b1, o1, 2⟩, ⟨b4, o4, 1⟩] rfl (fun j o x h h' => by
      rcases j with _ | _ | j
      · obtain rfl := Option.some.inj h
        obtain rfl := Option.some.inj h'
        exact ⟨rfl, hbr1, hb1⟩
      · obtain rfl := Option.some.inj h
        obtain rfl := Option.some.inj h'
        exact ⟨rfl, hbr4, hb4⟩
      · simp at h) (.cons (groundT_refl rfl) (.cons (have z : LR (fun b => ([⟨b1, o1, 2⟩, ⟨b4, o4, 1⟩] : List Rx.Loc)[b]?) [rsl 0 0 n1 c1, .slice none 0 0, .int .i64 x3] [.slice (some ⟨b1, o1, none⟩) n1 c1, .slice none 0 0, .int .i64 x3] := (LR.cons (by have q := VR.rsl (S := fun b => ([⟨b1, o1, 2⟩, ⟨b4, o4, 1⟩] : List Rx.Loc)[b]?) (b := 0) 0 n1 c1 rfl; simpa [rsl] using q) (LR.cons (.slN 0 0) (LR.cons (groundT_refl rfl) LR.nil)))
    VR.agg z.1 z.2) (.cons (by have q := VR.rsl (S := fun b => ([⟨b1, o1, 2⟩, ⟨b4, o4, 1⟩] : List Rx.Loc)[b]?) (b := 1) 0 n4 c4 rfl; simpa [rsl] using q) .nil))) ?_
  exact cast (bfewA_rnrE a b c d e e1 n1 c1 (fun i q => cellN w b1 (o1 + i * 2 + q)) e4 n4 c4 (fun i q => cellN w b4 (o4 + i * 1 + q)) x3 fun _ _ => True) (bfewA_rnrP a b c d e e1 n1 c1 (fun i q => cellN w b1 (o1 + i * 2 + q)) e4 n4 c4 (fun i q => cellN w b4 (o4 + i * 1 + q)) x3 (fun _ _ => True) hI hf)
theorem walk_rnr_B (w : World) {a b c d e : Int} (hI : InC a b c d e) (b1 o1 n1 c1 : Nat) (hb1 : b1 < w.heap.size) (hk1 : n1 ≤ c1) (hc1 : ∀ (i j : Nat) k, i < n1 → ([.i64, .i64] : List IntKind)[j]? = some k → w.cell? ⟨b1, o1 + i * 2 + j, none⟩ = some (.int k (cellN w b1 (o1 + i * 2 + j)))) (x3 : Int) (hx3 : In64 x3) (b4 o4 n4 c4 : Nat) (hb4 : b4 < w.heap.size) (hk4 : n4 ≤ c4) (hc4 : ∀ (i j : Nat) k, i < n4 → ([.u8] : List IntKind)[j]? = some k → w.cell? ⟨b4, o4 + i * 1 + j, none⟩ = some (.int k (cellN w b4 (o4 + i * 1 + j)))) (hu4 : ∀ k, k < n4 → 0 ≤ (fun i q => cellN w b4 (o4 + i * 1 + q)) k 0 ∧ (fun i q => cellN w b4 (o4 + i * 1 + q)) k 0 ≤ 255) (hf1 : n1 ≤ 30) (hf2 : 0 ≤ 30) (hf3 : n4 ≤ 60) (h1 : ¬ (bck a b c d e n1 (fun i q => cellN w b1 (o1 + i * 2 + q)) 0 zF).2 = 0) : Calls Try.prog 15 #[.agg #[.int .i64 a, .int .i64 b, .int .i64 c, .int .i64 d, .int .i64 e], .agg #[.slice (some ⟨b1, o1, none⟩) n1 c1, .slice none 0 0, .int .i64 x3], .slice (some ⟨b4, o4, none⟩) n4 c4] w fun e w' => e = .returned (.bool true) ∧ Below w.heap.size w w' := by
  obtain ⟨e1, hbr1⟩ := row_of_cells (w := w) (S := fun _ => none) (ks := [.i64, .i64]) (b := b1) (o := o1) (n := n1) (c := c1) (f := fun i q => cellN w b1 (o1 + i * 2 + q)) (by decide) hc1
  obtain ⟨e4, hbr4⟩ := row_of_cells (w := w) (S := fun _ => none) (ks := [.u8]) (b := b4) (o := o4) (n := n4) (c := c4) (f := fun i q => cellN w b4 (o4 + i * 1 + q)) (by decide) hc4
  refine law_ok (E := mkB XL15B) (mkOkB XL15B_told) (n := 4) (I := noI) (A := (bfewB_rnrA a b c d e e1 n1 c1 (fun i q => cellN w b1 (o1 + i * 2 + q)) e4 n4 c4 (fun i q => cellN w b4 (o4 + i * 1 + q)) x3)) (f := 15) (fn := Try.f15) (by kernel_rfl) («as» := [five' a b c d e, .agg ⟨[rsl 0 0 n1 c1, .slice none 0 0, .int .i64 x3]⟩, rsl 1 0 n4 c4]) (bs := [.row true [.i64, .i64] e1 n1 c1 fun i q => cellN w b1 (o1 + i * 2 + q), .row true [.u8] e4 n4 c4 fun i q => cellN w b4 (o4 + i * 1 + q)]) (args' := #[.agg #[.int .i64 a, .int .i64 b, .int .i64 c, .int .i64 d, .int .i64 e], .agg #[.slice (some ⟨b1, o1, none⟩) n1 c1, .slice none 0 0, .int .i64 x3], .slice (some ⟨b4, o4, none⟩) n4 c4]) [⟨b1, o1, 2⟩, ⟨b4, o4, 1⟩] rfl (fun j o x h h' => by
      rcases j with _ | _ | j
      · obtain rfl := Option.some.inj h
        obtain rfl := Option.some.inj h'
        exact ⟨rfl, hbr1, hb1⟩
      · obtain rfl := Option.some.inj h
        obtain rfl := Option.some.inj h'
        exact ⟨rfl, hbr4, hb4⟩
      · simp at h) (.cons (groundT_refl rfl) (.cons (have z : LR (fun b => ([⟨b1, o1, 2⟩, ⟨b4, o4, 1⟩] : List Rx.Loc)[b]?) [rsl 0 0 n1 c1, .slice none 0 0, .int .i64 x3] [.slice (some ⟨b1, o1, none⟩) n1 c1, .slice none 0 0, .int .i64 x3] := (LR.cons (by have q := VR.rsl (S := fun b => ([⟨b1, o1, 2⟩, ⟨b4, o4, 1⟩] : List Rx.Loc)[b]?) (b := 0) 0 n1 c1 rfl; simpa [rsl] using q) (LR.cons (.slN 0 0) (LR.cons (groundT_refl rfl) LR.nil)))
    VR.agg z.1 z.2) (.cons (by have q := VR.rsl (S := fun b => ([⟨b1, o1, 2⟩, ⟨b4, o4, 1⟩] : List Rx.Loc)[b]?) (b := 1) 0 n4 c4 rfl; simpa [rsl] using q) .nil))) ?_
  exact cast (bfewB_rnrE a b c d e e1 n1 c1 (fun i q => cellN w b1 (o1 + i * 2 + q)) e4 n4 c4 (fun i q => cellN w b4 (o4 + i * 1 + q)) x3 fun _ _ => True) (bfewB_rnrP a b c d e e1 n1 c1 (fun i q => cellN w b1 (o1 + i * 2 + q)) e4 n4 c4 (fun i q => cellN w b4 (o4 + i * 1 + q)) x3 (fun _ _ => True) hI hf1 hf2 hf3 h1)
theorem walk_rnr_Z (w : World) {a b c d e : Int} (hI : InC a b c d e) (b1 o1 n1 c1 : Nat) (hb1 : b1 < w.heap.size) (hk1 : n1 ≤ c1) (hc1 : ∀ (i j : Nat) k, i < n1 → ([.i64, .i64] : List IntKind)[j]? = some k → w.cell? ⟨b1, o1 + i * 2 + j, none⟩ = some (.int k (cellN w b1 (o1 + i * 2 + j)))) (x3 : Int) (hx3 : In64 x3) (b4 o4 n4 c4 : Nat) (hb4 : b4 < w.heap.size) (hk4 : n4 ≤ c4) (hc4 : ∀ (i j : Nat) k, i < n4 → ([.u8] : List IntKind)[j]? = some k → w.cell? ⟨b4, o4 + i * 1 + j, none⟩ = some (.int k (cellN w b4 (o4 + i * 1 + j)))) (hu4 : ∀ k, k < n4 → 0 ≤ (fun i q => cellN w b4 (o4 + i * 1 + q)) k 0 ∧ (fun i q => cellN w b4 (o4 + i * 1 + q)) k 0 ≤ 255) (hf1 : n1 ≤ 30) (hf2 : 0 ≤ 30) (hf3 : n4 ≤ 60) (h1 : (bck a b c d e n1 (fun i q => cellN w b1 (o1 + i * 2 + q)) 0 zF).2 = 0) (hn : n4 = 0) : Calls Try.prog 15 #[.agg #[.int .i64 a, .int .i64 b, .int .i64 c, .int .i64 d, .int .i64 e], .agg #[.slice (some ⟨b1, o1, none⟩) n1 c1, .slice none 0 0, .int .i64 x3], .slice (some ⟨b4, o4, none⟩) n4 c4] w fun e w' => e = .returned (.bool true) ∧ Below w.heap.size w w' := by
  obtain ⟨e1, hbr1⟩ := row_of_cells (w := w) (S := fun _ => none) (ks := [.i64, .i64]) (b := b1) (o := o1) (n := n1) (c := c1) (f := fun i q => cellN w b1 (o1 + i * 2 + q)) (by decide) hc1
  obtain ⟨e4, hbr4⟩ := row_of_cells (w := w) (S := fun _ => none) (ks := [.u8]) (b := b4) (o := o4) (n := n4) (c := c4) (f := fun i q => cellN w b4 (o4 + i * 1 + q)) (by decide) hc4
  refine law_ok (E := mkB XL15Z) (mkOkB XL15Z_told) (n := 4) (I := noI) (A := (bfewZ_rnrA a b c d e e1 n1 c1 (fun i q => cellN w b1 (o1 + i * 2 + q)) e4 n4 c4 (fun i q => cellN w b4 (o4 + i * 1 + q)) x3)) (f := 15) (fn := Try.f15) (by kernel_rfl) («as» := [five' a b c d e, .agg ⟨[rsl 0 0 n1 c1, .slice none 0 0, .int .i64 x3]⟩, rsl 1 0 n4 c4]) (bs := [.row true [.i64, .i64] e1 n1 c1 fun i q => cellN w b1 (o1 + i * 2 + q), .row true [.u8] e4 n4 c4 fun i q => cellN w b4 (o4 + i * 1 + q)]) (args' := #[.agg #[.int .i64 a, .int .i64 b, .int .i64 c, .int .i64 d, .int .i64 e], .agg #[.slice (some ⟨b1, o1, none⟩) n1 c1, .slice none 0 0, .int .i64 x3], .slice (some ⟨b4, o4, none⟩) n4 c4]) [⟨b1, o1, 2⟩, ⟨b4, o4, 1⟩] rfl (fun j o x h h' => by
      rcases j with _ | _ | j
      · obtain rfl := Option.some.inj h
        obtain rfl := Option.some.inj h'
        exact ⟨rfl, hbr1, hb1⟩
      · obtain rfl := Option.some.inj h
        obtain rfl := Option.some.inj h'
        exact ⟨rfl, hbr4, hb4⟩
      · simp at h) (.cons (groundT_refl rfl) (.cons (have z : LR (fun b => ([⟨b1, o1, 2⟩, ⟨b4, o4, 1⟩] : List Rx.Loc)[b]?) [rsl 0 0 n1 c1, .slice none 0 0, .int .i64 x3] [.slice (some ⟨b1, o1, none⟩) n1 c1, .slice none 0 0, .int .i64 x3] := (LR.cons (by have q := VR.rsl (S := fun b => ([⟨b1, o1, 2⟩, ⟨b4, o4, 1⟩] : List Rx.Loc)[b]?) (b := 0) 0 n1 c1 rfl; simpa [rsl] using q) (LR.cons (.slN 0 0) (LR.cons (groundT_refl rfl) LR.nil)))
    VR.agg z.1 z.2) (.cons (by have q := VR.rsl (S := fun b => ([⟨b1, o1, 2⟩, ⟨b4, o4, 1⟩] : List Rx.Loc)[b]?) (b := 1) 0 n4 c4 rfl; simpa [rsl] using q) .nil))) ?_
  exact cast (bfewZ_rnrE a b c d e e1 n1 c1 (fun i q => cellN w b1 (o1 + i * 2 + q)) e4 n4 c4 (fun i q => cellN w b4 (o4 + i * 1 + q)) x3 fun _ _ => True) (bfewZ_rnrP a b c d e e1 n1 c1 (fun i q => cellN w b1 (o1 + i * 2 + q)) e4 n4 c4 (fun i q => cellN w b4 (o4 + i * 1 + q)) x3 (fun _ _ => True) hI hf1 hf2 hf3 h1 hn)
theorem walk_rnr_G (w : World) {a b c d e : Int} (hI : InC a b c d e) (b1 o1 n1 c1 : Nat) (hb1 : b1 < w.heap.size) (hk1 : n1 ≤ c1) (hc1 : ∀ (i j : Nat) k, i < n1 → ([.i64, .i64] : List IntKind)[j]? = some k → w.cell? ⟨b1, o1 + i * 2 + j, none⟩ = some (.int k (cellN w b1 (o1 + i * 2 + j)))) (x3 : Int) (hx3 : In64 x3) (b4 o4 n4 c4 : Nat) (hb4 : b4 < w.heap.size) (hk4 : n4 ≤ c4) (hc4 : ∀ (i j : Nat) k, i < n4 → ([.u8] : List IntKind)[j]? = some k → w.cell? ⟨b4, o4 + i * 1 + j, none⟩ = some (.int k (cellN w b4 (o4 + i * 1 + j)))) (hu4 : ∀ k, k < n4 → 0 ≤ (fun i q => cellN w b4 (o4 + i * 1 + q)) k 0 ∧ (fun i q => cellN w b4 (o4 + i * 1 + q)) k 0 ≤ 255) (hf1 : n1 ≤ 30) (hf2 : 0 ≤ 30) (hf3 : n4 ≤ 60) (h1 : (bck a b c d e n1 (fun i q => cellN w b1 (o1 + i * 2 + q)) 0 zF).2 = 0) (hn : 0 < n4) (hu : ∀ k, k < n4 → 0 ≤ (fun i q => cellN w b4 (o4 + i * 1 + q)) k 0 ∧ (fun i q => cellN w b4 (o4 + i * 1 + q)) k 0 ≤ 255) : Calls Try.prog 15 #[.agg #[.int .i64 a, .int .i64 b, .int .i64 c, .int .i64 d, .int .i64 e], .agg #[.slice (some ⟨b1, o1, none⟩) n1 c1, .slice none 0 0, .int .i64 x3], .slice (some ⟨b4, o4, none⟩) n4 c4] w fun e w' => e = .returned (.bool true) ∧ Below w.heap.size w w' := by
  obtain ⟨e1, hbr1⟩ := row_of_cells (w := w) (S := fun _ => none) (ks := [.i64, .i64]) (b := b1) (o := o1) (n := n1) (c := c1) (f := fun i q => cellN w b1 (o1 + i * 2 + q)) (by decide) hc1
  obtain ⟨e4, hbr4⟩ := row_of_cells (w := w) (S := fun _ => none) (ks := [.u8]) (b := b4) (o := o4) (n := n4) (c := c4) (f := fun i q => cellN w b4 (o4 + i * 1 + q)) (by decide) hc4
  refine law_ok (E := mkB XL15G) (mkOkB XL15G_told) (n := 4) (I := noI) (A := (bfewG_rnrA a b c d e e1 n1 c1 (fun i q => cellN w b1 (o1 + i * 2 + q)) e4 n4 c4 (fun i q => cellN w b4 (o4 + i * 1 + q)) x3)) (f := 15) (fn := Try.f15) (by kernel_rfl) («as» := [five' a b c d e, .agg ⟨[rsl 0 0 n1 c1, .slice none 0 0, .int .i64 x3]⟩, rsl 1 0 n4 c4]) (bs := [.row true [.i64, .i64] e1 n1 c1 fun i q => cellN w b1 (o1 + i * 2 + q), .row true [.u8] e4 n4 c4 fun i q => cellN w b4 (o4 + i * 1 + q)]) (args' := #[.agg #[.int .i64 a, .int .i64 b, .int .i64 c, .int .i64 d, .int .i64 e], .agg #[.slice (some ⟨b1, o1, none⟩) n1 c1, .slice none 0 0, .int .i64 x3], .slice (some ⟨b4, o4, none⟩) n4 c4]) [⟨b1, o1, 2⟩, ⟨b4, o4, 1⟩] rfl (fun j o x h h' => by
      rcases j with _ | _ | j
      · obtain rfl := Option.some.inj h
        obtain rfl := Option.some.inj h'
        exact ⟨rfl, hbr1, hb1⟩
      · obtain rfl := Option.some.inj h
        obtain rfl := Option.some.inj h'
        exact ⟨rfl, hbr4, hb4⟩
      · simp at h) (.cons (groundT_refl rfl) (.cons (have z : LR (fun b => ([⟨b1, o1, 2⟩, ⟨b4, o4, 1⟩] : List Rx.Loc)[b]?) [rsl 0 0 n1 c1, .slice none 0 0, .int .i64 x3] [.slice (some ⟨b1, o1, none⟩) n1 c1, .slice none 0 0, .int .i64 x3] := (LR.cons (by have q := VR.rsl (S := fun b => ([⟨b1, o1, 2⟩, ⟨b4, o4, 1⟩] : List Rx.Loc)[b]?) (b := 0) 0 n1 c1 rfl; simpa [rsl] using q) (LR.cons (.slN 0 0) (LR.cons (groundT_refl rfl) LR.nil)))
    VR.agg z.1 z.2) (.cons (by have q := VR.rsl (S := fun b => ([⟨b1, o1, 2⟩, ⟨b4, o4, 1⟩] : List Rx.Loc)[b]?) (b := 1) 0 n4 c4 rfl; simpa [rsl] using q) .nil))) ?_
  exact cast (bfewG_rnrE a b c d e e1 n1 c1 (fun i q => cellN w b1 (o1 + i * 2 + q)) e4 n4 c4 (fun i q => cellN w b4 (o4 + i * 1 + q)) x3 fun _ _ => True) (bfewG_rnrP a b c d e e1 n1 c1 (fun i q => cellN w b1 (o1 + i * 2 + q)) e4 n4 c4 (fun i q => cellN w b4 (o4 + i * 1 + q)) x3 (fun _ _ => True) hI hf1 hf2 hf3 h1 hn hu)
theorem walk_rnr (w : World) {a b c d e : Int} (hI : InC a b c d e) (b1 o1 n1 c1 : Nat) (hb1 : b1 < w.heap.size) (hk1 : n1 ≤ c1) (hc1 : ∀ (i j : Nat) k, i < n1 → ([.i64, .i64] : List IntKind)[j]? = some k → w.cell? ⟨b1, o1 + i * 2 + j, none⟩ = some (.int k (cellN w b1 (o1 + i * 2 + j)))) (x3 : Int) (hx3 : In64 x3) (b4 o4 n4 c4 : Nat) (hb4 : b4 < w.heap.size) (hk4 : n4 ≤ c4) (hc4 : ∀ (i j : Nat) k, i < n4 → ([.u8] : List IntKind)[j]? = some k → w.cell? ⟨b4, o4 + i * 1 + j, none⟩ = some (.int k (cellN w b4 (o4 + i * 1 + j)))) (hu4 : ∀ k, k < n4 → 0 ≤ (fun i q => cellN w b4 (o4 + i * 1 + q)) k 0 ∧ (fun i q => cellN w b4 (o4 + i * 1 + q)) k 0 ≤ 255) : Calls Try.prog 15 #[.agg #[.int .i64 a, .int .i64 b, .int .i64 c, .int .i64 d, .int .i64 e], .agg #[.slice (some ⟨b1, o1, none⟩) n1 c1, .slice none 0 0, .int .i64 x3], .slice (some ⟨b4, o4, none⟩) n4 c4] w fun e w' => e = .returned (.bool true) ∧ Below w.heap.size w w' := by
  by_cases hf : 30 < n1 ∨ 30 < 0 ∨ 60 < n4
  · exact walk_rnr_A w hI b1 o1 n1 c1 hb1 hk1 hc1 x3 hx3 b4 o4 n4 c4 hb4 hk4 hc4 hu4 hf
  · have hf1 : n1 ≤ 30 := by omega
    have hf2 : 0 ≤ 30 := by omega
    have hf3 : n4 ≤ 60 := by omega
    by_cases h1 : (bck a b c d e n1 (fun i q => cellN w b1 (o1 + i * 2 + q)) 0 zF).2 = 0
    · by_cases hn : 0 < n4
      · exact walk_rnr_G w hI b1 o1 n1 c1 hb1 hk1 hc1 x3 hx3 b4 o4 n4 c4 hb4 hk4 hc4 hu4 hf1 hf2 hf3 h1 hn hu4
      · have hn0 : n4 = 0 := by omega
        exact walk_rnr_Z w hI b1 o1 n1 c1 hb1 hk1 hc1 x3 hx3 b4 o4 n4 c4 hb4 hk4 hc4 hu4 hf1 hf2 hf3 h1 hn0
    · exact walk_rnr_B w hI b1 o1 n1 c1 hb1 hk1 hc1 x3 hx3 b4 o4 n4 c4 hb4 hk4 hc4 hu4 hf1 hf2 hf3 h1
theorem walk_rrn_A (w : World) {a b c d e : Int} (hI : InC a b c d e) (b1 o1 n1 c1 : Nat) (hb1 : b1 < w.heap.size) (hk1 : n1 ≤ c1) (hc1 : ∀ (i j : Nat) k, i < n1 → ([.i64, .i64] : List IntKind)[j]? = some k → w.cell? ⟨b1, o1 + i * 2 + j, none⟩ = some (.int k (cellN w b1 (o1 + i * 2 + j)))) (b2 o2 n2 c2 : Nat) (hb2 : b2 < w.heap.size) (hk2 : n2 ≤ c2) (hc2 : ∀ (i j : Nat) k, i < n2 → ([.i64] : List IntKind)[j]? = some k → w.cell? ⟨b2, o2 + i * 1 + j, none⟩ = some (.int k (cellN w b2 (o2 + i * 1 + j)))) (x3 : Int) (hx3 : In64 x3) (hf : 30 < n1 ∨ 30 < n2 ∨ 60 < 0) : Calls Try.prog 15 #[.agg #[.int .i64 a, .int .i64 b, .int .i64 c, .int .i64 d, .int .i64 e], .agg #[.slice (some ⟨b1, o1, none⟩) n1 c1, .slice (some ⟨b2, o2, none⟩) n2 c2, .int .i64 x3], .slice none 0 0] w fun e w' => e = .returned (.bool true) ∧ Below w.heap.size w w' := by
  obtain ⟨e1, hbr1⟩ := row_of_cells (w := w) (S := fun _ => none) (ks := [.i64, .i64]) (b := b1) (o := o1) (n := n1) (c := c1) (f := fun i q => cellN w b1 (o1 + i * 2 + q)) (by decide) hc1
  obtain ⟨e2, hbr2⟩ := row_of_cells (w := w) (S := fun _ => none) (ks := [.i64]) (b := b2) (o := o2) (n := n2) (c := c2) (f := fun i q => cellN w b2 (o2 + i * 1 + q)) (by decide) hc2
  refine law_ok (E := mkB XL15A) (mkOkB XL15A_told) (n := 4) (I := noI) (A := (bfewA_rrnA a b c d e e1 n1 c1 (fun i q => cellN w b1 (o1 + i * 2 + q)) e2 n2 c2 (fun i q => cellN w b2 (o2 + i * 1 + q)) x3)) (f := 15) (fn := Try.f15) (by kernel_rfl) («as» := [five' a b c d e, .agg ⟨[rsl 0 0 n1 c1, rsl 1 0 n2 c2, .int .i64 x3]⟩, .slice none 0 0]) (bs := [.row true [.i64, .i64] e1 n1 c1 fun i q => cellN w b1 (o1 + i * 2 + q), .row true [.i64] e2 n2 c2 fun i q => cellN w b2 (o2 + i * 1 + q)]) (args' := #[.agg #[.int .i64 a, .int .i64 b, .int .i64 c, .int .i64 d, .int .i64 e], .agg #[.slice (some ⟨b1, o1, none⟩) n1 c1, .slice (some ⟨b2, o2, none⟩) n2 c2, .int .i64 x3], .slice none 0 0]) [⟨b1, o1, 2⟩, ⟨b2, o2, 1⟩] rfl (fun j o x h h' => by
      rcases j with _ | _ | j
      · obtain rfl := Option.some.inj h
        obtain rfl := Option.some.inj h'
        exact ⟨rfl, hbr1, hb1⟩
      · obtain rfl := Option.some.inj h
        obtain rfl := Option.some.inj h'
        exact ⟨rfl, hbr2, hb2⟩
      · simp at h) (.cons (groundT_refl rfl) (.cons (have z : LR (fun b => ([⟨b1, o1, 2⟩, ⟨b2, o2, 1⟩] : List Rx.Loc)[b]?) [rsl 0 0 n1 c1, rsl 1 0 n2 c2, .int .i64 x3] [.slice (some ⟨b1, o1, none⟩) n1 c1, .slice (some ⟨b2, o2, none⟩) n2 c2, .int .i64 x3] := (LR.cons (by have q := VR.rsl (S := fun b => ([⟨b1, o1, 2⟩, ⟨b2, o2, 1⟩] : List Rx.Loc)[b]?) (b := 0) 0 n1 c1 rfl; simpa [rsl] using q) (LR.cons (by have q := VR.rsl (S := fun b => ([⟨b1, o1, 2⟩, ⟨b2, o2, 1⟩] : List Rx.Loc)[b]?) (b := 1) 0 n2 c2 rfl; simpa [rsl] using q) (LR.cons (groundT_refl rfl) LR.nil)))
    VR.agg z.1 z.2) (.cons (.slN 0 0) .nil))) ?_
  exact cast (bfewA_rrnE a b c d e e1 n1 c1 (fun i q => cellN w b1 (o1 + i * 2 + q)) e2 n2 c2 (fun i q => cellN w b2 (o2 + i * 1 + q)) x3 fun _ _ => True) (bfewA_rrnP a b c d e e1 n1 c1 (fun i q => cellN w b1 (o1 + i * 2 + q)) e2 n2 c2 (fun i q => cellN w b2 (o2 + i * 1 + q)) x3 (fun _ _ => True) hI hk2 hf)
theorem walk_rrn_B (w : World) {a b c d e : Int} (hI : InC a b c d e) (b1 o1 n1 c1 : Nat) (hb1 : b1 < w.heap.size) (hk1 : n1 ≤ c1) (hc1 : ∀ (i j : Nat) k, i < n1 → ([.i64, .i64] : List IntKind)[j]? = some k → w.cell? ⟨b1, o1 + i * 2 + j, none⟩ = some (.int k (cellN w b1 (o1 + i * 2 + j)))) (b2 o2 n2 c2 : Nat) (hb2 : b2 < w.heap.size) (hk2 : n2 ≤ c2) (hc2 : ∀ (i j : Nat) k, i < n2 → ([.i64] : List IntKind)[j]? = some k → w.cell? ⟨b2, o2 + i * 1 + j, none⟩ = some (.int k (cellN w b2 (o2 + i * 1 + j)))) (x3 : Int) (hx3 : In64 x3) (hf1 : n1 ≤ 30) (hf2 : n2 ≤ 30) (hf3 : 0 ≤ 60) (h1 : ¬ (bck a b c d e n1 (fun i q => cellN w b1 (o1 + i * 2 + q)) n2 (fun i q => cellN w b2 (o2 + i * 1 + q))).2 = 0) : Calls Try.prog 15 #[.agg #[.int .i64 a, .int .i64 b, .int .i64 c, .int .i64 d, .int .i64 e], .agg #[.slice (some ⟨b1, o1, none⟩) n1 c1, .slice (some ⟨b2, o2, none⟩) n2 c2, .int .i64 x3], .slice none 0 0] w fun e w' => e = .returned (.bool true) ∧ Below w.heap.size w w' := by
  obtain ⟨e1, hbr1⟩ := row_of_cells (w := w) (S := fun _ => none) (ks := [.i64, .i64]) (b := b1) (o := o1) (n := n1) (c := c1) (f := fun i q => cellN w b1 (o1 + i * 2 + q)) (by decide) hc1
  obtain ⟨e2, hbr2⟩ := row_of_cells (w := w) (S := fun _ => none) (ks := [.i64]) (b := b2) (o := o2) (n := n2) (c := c2) (f := fun i q => cellN w b2 (o2 + i * 1 + q)) (by decide) hc2
  refine law_ok (E := mkB XL15B) (mkOkB XL15B_told) (n := 4) (I := noI) (A := (bfewB_rrnA a b c d e e1 n1 c1 (fun i q => cellN w b1 (o1 + i * 2 + q)) e2 n2 c2 (fun i q => cellN w b2 (o2 + i * 1 + q)) x3)) (f := 15) (fn := Try.f15) (by kernel_rfl) («as» := [five' a b c d e, .agg ⟨[rsl 0 0 n1 c1, rsl 1 0 n2 c2, .int .i64 x3]⟩, .slice none 0 0]) (bs := [.row true [.i64, .i64] e1 n1 c1 fun i q => cellN w b1 (o1 + i * 2 + q), .row true [.i64] e2 n2 c2 fun i q => cellN w b2 (o2 + i * 1 + q)]) (args' := #[.agg #[.int .i64 a, .int .i64 b, .int .i64 c, .int .i64 d, .int .i64 e], .agg #[.slice (some ⟨b1, o1, none⟩) n1 c1, .slice (some ⟨b2, o2, none⟩) n2 c2, .int .i64 x3], .slice none 0 0]) [⟨b1, o1, 2⟩, ⟨b2, o2, 1⟩] rfl (fun j o x h h' => by
      rcases j with _ | _ | j
      · obtain rfl := Option.some.inj h
        obtain rfl := Option.some.inj h'
        exact ⟨rfl, hbr1, hb1⟩
      · obtain rfl := Option.some.inj h
        obtain rfl := Option.some.inj h'
        exact ⟨rfl, hbr2, hb2⟩
      · simp at h) (.cons (groundT_refl rfl) (.cons (have z : LR (fun b => ([⟨b1, o1, 2⟩, ⟨b2, o2, 1⟩] : List Rx.Loc)[b]?) [rsl 0 0 n1 c1, rsl 1 0 n2 c2, .int .i64 x3] [.slice (some ⟨b1, o1, none⟩) n1 c1, .slice (some ⟨b2, o2, none⟩) n2 c2, .int .i64 x3] := (LR.cons (by have q := VR.rsl (S := fun b => ([⟨b1, o1, 2⟩, ⟨b2, o2, 1⟩] : List Rx.Loc)[b]?) (b := 0) 0 n1 c1 rfl; simpa [rsl] using q) (LR.cons (by have q := VR.rsl (S := fun b => ([⟨b1, o1, 2⟩, ⟨b2, o2, 1⟩] : List Rx.Loc)[b]?) (b := 1) 0 n2 c2 rfl; simpa [rsl] using q) (LR.cons (groundT_refl rfl) LR.nil)))
    VR.agg z.1 z.2) (.cons (.slN 0 0) .nil))) ?_
  exact cast (bfewB_rrnE a b c d e e1 n1 c1 (fun i q => cellN w b1 (o1 + i * 2 + q)) e2 n2 c2 (fun i q => cellN w b2 (o2 + i * 1 + q)) x3 fun _ _ => True) (bfewB_rrnP a b c d e e1 n1 c1 (fun i q => cellN w b1 (o1 + i * 2 + q)) e2 n2 c2 (fun i q => cellN w b2 (o2 + i * 1 + q)) x3 (fun _ _ => True) hI hk2 hf1 hf2 hf3 h1)
theorem walk_rrn_Z (w : World) {a b c d e : Int} (hI : InC a b c d e) (b1 o1 n1 c1 : Nat) (hb1 : b1 < w.heap.size) (hk1 : n1 ≤ c1) (hc1 : ∀ (i j : Nat) k, i < n1 → ([.i64, .i64] : List IntKind)[j]? = some k → w.cell? ⟨b1, o1 + i * 2 + j, none⟩ = some (.int k (cellN w b1 (o1 + i * 2 + j)))) (b2 o2 n2 c2 : Nat) (hb2 : b2 < w.heap.size) (hk2 : n2 ≤ c2) (hc2 : ∀ (i j : Nat) k, i < n2 → ([.i64] : List IntKind)[j]? = some k → w.cell? ⟨b2, o2 + i * 1 + j, none⟩ = some (.int k (cellN w b2 (o2 + i * 1 + j)))) (x3 : Int) (hx3 : In64 x3) (hf1 : n1 ≤ 30) (hf2 : n2 ≤ 30) (hf3 : 0 ≤ 60) (h1 : (bck a b c d e n1 (fun i q => cellN w b1 (o1 + i * 2 + q)) n2 (fun i q => cellN w b2 (o2 + i * 1 + q))).2 = 0) (hn : 0 = 0) : Calls Try.prog 15 #[.agg #[.int .i64 a, .int .i64 b, .int .i64 c, .int .i64 d, .int .i64 e], .agg #[.slice (some ⟨b1, o1, none⟩) n1 c1, .slice (some ⟨b2, o2, none⟩) n2 c2, .int .i64 x3], .slice none 0 0] w fun e w' => e = .returned (.bool true) ∧ Below w.heap.size w w' := by
  obtain ⟨e1, hbr1⟩ := row_of_cells (w := w) (S := fun _ => none) (ks := [.i64, .i64]) (b := b1) (o := o1) (n := n1) (c := c1) (f := fun i q => cellN w b1 (o1 + i * 2 + q)) (by decide) hc1
  obtain ⟨e2, hbr2⟩ := row_of_cells (w := w) (S := fun _ => none) (ks := [.i64]) (b := b2) (o := o2) (n := n2) (c := c2) (f := fun i q => cellN w b2 (o2 + i * 1 + q)) (by decide) hc2
  refine law_ok (E := mkB XL15Z) (mkOkB XL15Z_told) (n := 4) (I := noI) (A := (bfewZ_rrnA a b c d e e1 n1 c1 (fun i q => cellN w b1 (o1 + i * 2 + q)) e2 n2 c2 (fun i q => cellN w b2 (o2 + i * 1 + q)) x3)) (f := 15) (fn := Try.f15) (by kernel_rfl) («as» := [five' a b c d e, .agg ⟨[rsl 0 0 n1 c1, rsl 1 0 n2 c2, .int .i64 x3]⟩, .slice none 0 0]) (bs := [.row true [.i64, .i64] e1 n1 c1 fun i q => cellN w b1 (o1 + i * 2 + q), .row true [.i64] e2 n2 c2 fun i q => cellN w b2 (o2 + i * 1 + q)]) (args' := #[.agg #[.int .i64 a, .int .i64 b, .int .i64 c, .int .i64 d, .int .i64 e], .agg #[.slice (some ⟨b1, o1, none⟩) n1 c1, .slice (some ⟨b2, o2, none⟩) n2 c2, .int .i64 x3], .slice none 0 0]) [⟨b1, o1, 2⟩, ⟨b2, o2, 1⟩] rfl (fun j o x h h' => by
      rcases j with _ | _ | j
      · obtain rfl := Option.some.inj h
        obtain rfl := Option.some.inj h'
        exact ⟨rfl, hbr1, hb1⟩
      · obtain rfl := Option.some.inj h
        obtain rfl := Option.some.inj h'
        exact ⟨rfl, hbr2, hb2⟩
      · simp at h) (.cons (groundT_refl rfl) (.cons (have z : LR (fun b => ([⟨b1, o1, 2⟩, ⟨b2, o2, 1⟩] : List Rx.Loc)[b]?) [rsl 0 0 n1 c1, rsl 1 0 n2 c2, .int .i64 x3] [.slice (some ⟨b1, o1, none⟩) n1 c1, .slice (some ⟨b2, o2, none⟩) n2 c2, .int .i64 x3] := (LR.cons (by have q := VR.rsl (S := fun b => ([⟨b1, o1, 2⟩, ⟨b2, o2, 1⟩] : List Rx.Loc)[b]?) (b := 0) 0 n1 c1 rfl; simpa [rsl] using q) (LR.cons (by have q := VR.rsl (S := fun b => ([⟨b1, o1, 2⟩, ⟨b2, o2, 1⟩] : List Rx.Loc)[b]?) (b := 1) 0 n2 c2 rfl; simpa [rsl] using q) (LR.cons (groundT_refl rfl) LR.nil)))
    VR.agg z.1 z.2) (.cons (.slN 0 0) .nil))) ?_
  exact cast (bfewZ_rrnE a b c d e e1 n1 c1 (fun i q => cellN w b1 (o1 + i * 2 + q)) e2 n2 c2 (fun i q => cellN w b2 (o2 + i * 1 + q)) x3 fun _ _ => True) (bfewZ_rrnP a b c d e e1 n1 c1 (fun i q => cellN w b1 (o1 + i * 2 + q)) e2 n2 c2 (fun i q => cellN w b2 (o2 + i * 1 + q)) x3 (fun _ _ => True) hI hk2 hf1 hf2 hf3 h1 hn)
theorem walk_rrn (w : World) {a b c d e : Int} (hI : InC a b c d e) (b1 o1 n1 c1 : Nat) (hb1 : b1 < w.heap.size) (hk1 : n1 ≤ c1) (hc1 : ∀ (i j : Nat) k, i < n1 → ([.i64, .i64] : List IntKind)[j]? = some k → w.cell? ⟨b1, o1 + i * 2 + j, none⟩ = some (.int k (cellN w b1 (o1 + i * 2 + j)))) (b2 o2 n2 c2 : Nat) (hb2 : b2 < w.heap.size) (hk2 : n2 ≤ c2) (hc2 : ∀ (i j : Nat) k, i < n2 → ([.i64] : List IntKind)[j]? = some k → w.cell? ⟨b2, o2 + i * 1 + j, none⟩ = some (.int k (cellN w b2 (o2 + i * 1 + j)))) (x3 : Int) (hx3 : In64 x3) : Calls Try.prog 15 #[.agg #[.int .i64 a, .int .i64 b, .int .i64 c, .int .i64 d, .int .i64 e], .agg #[.slice (some ⟨b1, o1, none⟩) n1 c1, .slice (some ⟨b2, o2, none⟩) n2 c2, .int .i64 x3], .slice none 0 0] w fun e w' => e = .returned (.bool true) ∧ Below w.heap.size w w' := by
  by_cases hf : 30 < n1 ∨ 30 < n2 ∨ 60 < 0
  · exact walk_rrn_A w hI b1 o1 n1 c1 hb1 hk1 hc1 b2 o2 n2 c2 hb2 hk2 hc2 x3 hx3 hf
  · have hf1 : n1 ≤ 30 := by omega
    have hf2 : n2 ≤ 30 := by omega
    have hf3 : 0 ≤ 60 := by omega
    by_cases h1 : (bck a b c d e n1 (fun i q => cellN w b1 (o1 + i * 2 + q)) n2 (fun i q => cellN w b2 (o2 + i * 1 + q))).2 = 0
    · exact walk_rrn_Z w hI b1 o1 n1 c1 hb1 hk1 hc1 b2 o2 n2 c2 hb2 hk2 hc2 x3 hx3 hf1 hf2 hf3 h1 rfl
    · exact walk_rrn_B w hI b1 o1 n1 c1 hb1 hk1 hc1 b2 o2 n2 c2 hb2 hk2 hc2 x3 hx3 hf1 hf2 hf3 h1
theorem walk_rrr_A (w : World) {a b c d e : Int} (hI : InC a b c d e) (b1 o1 n1 c1 : Nat) (hb1 : b1 < w.heap.size) (hk1 : n1 ≤ c1) (hc1 : ∀ (i j : Nat) k, i < n1 → ([.i64, .i64] : List IntKind)[j]? = some k → w.cell? ⟨b1, o1 + i * 2 + j, none⟩ = some (.int k (cellN w b1 (o1 + i * 2 + j)))) (b2 o2 n2 c2 : Nat) (hb2 : b2 < w.heap.size) (hk2 : n2 ≤ c2) (hc2 : ∀ (i j : Nat) k, i < n2 → ([.i64] : List IntKind)[j]? = some k → w.cell? ⟨b2, o2 + i * 1 + j, none⟩ = some (.int k (cellN w b2 (o2 + i * 1 + j)))) (x3 : Int) (hx3 : In64 x3) (b4 o4 n4 c4 : Nat) (hb4 : b4 < w.heap.size) (hk4 : n4 ≤ c4) (hc4 : ∀ (i j : Nat) k, i < n4 → ([.u8] : List IntKind)[j]? = some k → w.cell? ⟨b4, o4 + i * 1 + j, none⟩ = some (.int k (cellN w b4 (o4 + i * 1 + j)))) (hu4 : ∀ k, k < n4 → 0 ≤ (fun i q => cellN w b4 (o4 + i * 1 + q)) k 0 ∧ (fun i q => cellN w b4 (o4 + i * 1 + q)) k 0 ≤ 255) (hf : 30 < n1 ∨ 30 < n2 ∨ 60 < n4) : Calls Try.prog 15 #[.agg #[.int .i64 a, .int .i64 b, .int .i64 c, .int .i64 d, .int .i64 e], .agg #[.slice (some ⟨b1, o1, none⟩) n1 c1, .slice (some ⟨b2, o2, none⟩) n2 c2, .int .i64 x3], .slice (some ⟨b4, o4, none⟩) n4 c4] w fun e w' => e = .returned (.bool true) ∧ Below w.heap.size w w' := by
  obtain ⟨e1, hbr1⟩ := row_of_cells (w := w) (S := fun _ => none) (ks := [.i64, .i64]) (b := b1) (o := o1) (n := n1) (c := c1) (f := fun i q => cellN w b1 (o1 + i * 2 + q)) (by decide) hc1
  obtain ⟨e2, hbr2⟩ := row_of_cells (w := w) (S := fun _ => none) (ks := [.i64]) (b := b2) (o := o2) (n := n2) (c := c2) (f := fun i q => cellN w b2 (o2 + i * 1 + q)) (by decide) hc2
  obtain ⟨e4, hbr4⟩ := row_of_cells (w := w) (S := fun _ => none) (ks := [.u8]) (b := b4) (o := o4) (n := n4) (c := c4) (f := fun i q => cellN w b4 (o4 + i * 1 + q)) (by decide) hc4
  refine law_ok (E := mkB XL15A) (mkOkB XL15A_told) (n := 4) (I := noI) (A := (bfewA_rrrA a b c d e e1 n1 c1 (fun i q => cellN w b1 (o1 + i * 2 + q)) e2 n2 c2 (fun i q => cellN w b2 (o2 + i * 1 + q)) e4 n4 c4 (fun i q => cellN w b4 (o4 + i * 1 + q)) x3)) (f := 15) (fn := Try.f15) (by kernel_rfl) («as» := [five' a b c d e, .agg ⟨[rsl 0 0 n1 c1, rsl 1 0 n2 c2, .int .i64 x3]⟩, rsl 2 0 n4 c4]) (bs := [.row true [.i64, .i64] e1 n1 c1 fun i q => cellN w b1 (o1 + i * 2 + q), .row true [.i64] e2 n2 c2 fun i q => cellN w b2 (o2 + i * 1 + q), .row true [.u8] e4 n4 c4 fun i q => cellN w b4 (o4 + i * 1 + q)]) (args' := #[.agg #[.int .i64 a, .int .i64 b, .int .i64 c, .int .i64 d, .int .i64 e], .agg #[.slice (some ⟨b1, o1, none⟩) n1 c1, .slice (some ⟨b2, o2, none⟩) n2 c2, .int .i64 x3], .slice (some ⟨b4, o4, none⟩) n4 c4]) [⟨b1, o1, 2⟩, ⟨b2, o2, 1⟩, ⟨b4, o4, 1⟩] rfl (fun j o x h h' => by
      rcases j with _ | _ | _ | j
      · obtain rfl := Option.some.inj h
        obtain rfl := Option.some.inj h'
        exact ⟨rfl, hbr1, hb1⟩
      · obtain rfl := Option.some.inj h
        obtain rfl := Option.some.inj h'
        exact ⟨rfl, hbr2, hb2⟩
      · obtain rfl := Option.some.inj h
        obtain rfl := Option.some.inj h'
        exact ⟨rfl, hbr4, hb4⟩
      · simp at h) (.cons (groundT_refl rfl) (.cons (have z : LR (fun b => ([⟨b1, o1, 2⟩, ⟨b2, o2, 1⟩, ⟨b4, o4, 1⟩] : List Rx.Loc)[b]?) [rsl 0 0 n1 c1, rsl 1 0 n2 c2, .int .i64 x3] [.slice (some ⟨b1, o1, none⟩) n1 c1, .slice (some ⟨b2, o2, none⟩) n2 c2, .int .i64 x3] := (LR.cons (by have q := VR.rsl (S := fun b => ([⟨b1, o1, 2⟩, ⟨b2, o2, 1⟩, ⟨b4, o4, 1⟩] : List Rx.Loc)[b]?) (b := 0) 0 n1 c1 rfl; simpa [rsl] using q) (LR.cons (by have q := VR.rsl (S := fun b => ([⟨b1, o1, 2⟩, ⟨b2, o2, 1⟩, ⟨b4, o4, 1⟩] : List Rx.Loc)[b]?) (b := 1) 0 n2 c2 rfl; simpa [rsl] using q) (LR.cons (groundT_refl rfl) LR.nil)))
    VR.agg z.1 z.2) (.cons (by have q := VR.rsl (S := fun b => ([⟨b1, o1, 2⟩, ⟨b2, o2, 1⟩, ⟨b4, o4, 1⟩] : List Rx.Loc)[b]?) (b := 2) 0 n4 c4 rfl; simpa [rsl] using q) .nil))) ?_
  exact cast (bfewA_rrrE a b c d e e1 n1 c1 (fun i q => cellN w b1 (o1 + i * 2 + q)) e2 n2 c2 (fun i q => cellN w b2 (o2 + i * 1 + q)) e4 n4 c4 (fun i q => cellN w b4 (o4 + i * 1 + q)) x3 fun _ _ => True) (bfewA_rrrP a b c d e e1 n1 c1 (fun i q => cellN w b1 (o1 + i * 2 + q)) e2 n2 c2 (fun i q => cellN w b2 (o2 + i * 1 + q)) e4 n4 c4 (fun i q => cellN w b4 (o4 + i * 1 + q)) x3 (fun _ _ => True) hI hk2 hf)
theorem walk_rrr_B (w : World) {a b c d e : Int} (hI : InC a b c d e) (b1 o1 n1 c1 : Nat) (hb1 : b1 < w.heap.size) (hk1 : n1 ≤ c1) (hc1 : ∀ (i j : Nat) k, i < n1 → ([.i64, .i64] : List IntKind)[j]? = some k → w.cell? ⟨b1, o1 + i * 2 + j, none⟩ = some (.int k (cellN w b1 (o1 + i * 2 + j)))) (b2 o2 n2 c2 : Nat) (hb2 : b2 < w.heap.size) (hk2 : n2 ≤ c2) (hc2 : ∀ (i j : Nat) k, i < n2 → ([.i64] : List IntKind)[j]? = some k → w.cell? ⟨b2, o2 + i * 1 + j, none⟩ = some (.int k (cellN w b2 (o2 + i * 1 + j)))) (x3 : Int) (hx3 : In64 x3) (b4 o4 n4 c4 : Nat) (hb4 : b4 < w.heap.size) (hk4 : n4 ≤ c4) (hc4 : ∀ (i j : Nat) k, i < n4 → ([.u8] : List IntKind)[j]? = some k → w.cell? ⟨b4, o4 + i * 1 + j, none⟩ = some (.int k (cellN w b4 (o4 + i * 1 + j)))) (hu4 : ∀ k, k < n4 → 0 ≤ (fun i q => cellN w b4 (o4 + i * 1 + q)) k 0 ∧ (fun i q => cellN w b4 (o4 + i * 1 + q)) k 0 ≤ 255) (hf1 : n1 ≤ 30) (hf2 : n2 ≤ 30) (hf3 : n4 ≤ 60) (h1 : ¬ (bck a b c d e n1 (fun i q => cellN w b1 (o1 + i * 2 + q)) n2 (fun i q => cellN w b2 (o2 + i * 1 + q))).2 = 0) : Calls Try.prog 15 #[.agg #[.int .i64 a, .int .i64 b, .int .i64 c, .int .i64 d, .int .i64 e], .agg #[.slice (some ⟨b1, o1, none⟩) n1 c1, .slice (some ⟨b2, o2, none⟩) n2 c2, .int .i64 x3], .slice (some ⟨b4, o4, none⟩) n4 c4] w fun e w' => e = .returned (.bool true) ∧ Below w.heap.size w w' := by
  obtain ⟨e1, hbr1⟩ := row_of_cells (w := w) (S := fun _ => none) (ks := [.i64, .i64]) (b := b1) (o := o1) (n := n1) (c := c1) (f := fun i q => cellN w b1 (o1 + i * 2 + q)) (by decide) hc1
  obtain ⟨e2, hbr2⟩ := row_of_cells (w := w) (S := fun _ => none) (ks := [.i64]) (b := b2) (o := o2) (n := n2) (c := c2) (f := fun i q => cellN w b2 (o2 + i * 1 + q)) (by decide) hc2
  obtain ⟨e4, hbr4⟩ := row_of_cells (w := w) (S := fun _ => none) (ks := [.u8]) (b := b4) (o := o4) (n := n4) (c := c4) (f := fun i q => cellN w b4 (o4 + i * 1 + q)) (by decide) hc4
  refine law_ok (E := mkB XL15B) (mkOkB XL15B_told) (n := 4) (I := noI) (A := (bfewB_rrrA a b c d e e1 n1 c1 (fun i q => cellN w b1 (o1 + i * 2 + q)) e2 n2 c2 (fun i q => cellN w b2 (o2 + i * 1 + q)) e4 n4 c4 (fun i q => cellN w b4 (o4 + i * 1 + q)) x3)) (f := 15) (fn := Try.f15) (by kernel_rfl) («as» := [five' a b c d e, .agg ⟨[rsl 0 0 n1 c1, rsl 1 0 n2 c2, .int .i64 x3]⟩, rsl 2 0 n4 c4]) (bs := [.row true [.i64, .i64] e1 n1 c1 fun i q => cellN w b1 (o1 + i * 2 + q), .row true [.i64] e2 n2 c2 fun i q => cellN w b2 (o2 + i * 1 + q), .row true [.u8] e4 n4 c4 fun i q => cellN w b4 (o4 + i * 1 + q)]) (args' := #[.agg #[.int .i64 a, .int .i64 b, .int .i64 c, .int .i64 d, .int .i64 e], .agg #[.slice (some ⟨b1, o1, none⟩) n1 c1, .slice (some ⟨b2, o2, none⟩) n2 c2, .int .i64 x3], .slice (some ⟨b4, o4, none⟩) n4 c4]) [⟨b1, o1, 2⟩, ⟨b2, o2, 1⟩, ⟨b4, o4, 1⟩] rfl (fun j o x h h' => by
      rcases j with _ | _ | _ | j
      · obtain rfl := Option.some.inj h
        obtain rfl := Option.some.inj h'
        exact ⟨rfl, hbr1, hb1⟩
      · obtain rfl := Option.some.inj h
        obtain rfl := Option.some.inj h'
        exact ⟨rfl, hbr2, hb2⟩
      · obtain rfl := Option.some.inj h
        obtain rfl := Option.some.inj h'
        exact ⟨rfl, hbr4, hb4⟩
      · simp at h) (.cons (groundT_refl rfl) (.cons (have z : LR (fun b => ([⟨b1, o1, 2⟩, ⟨b2, o2, 1⟩, ⟨b4, o4, 1⟩] : List Rx.Loc)[b]?) [rsl 0 0 n1 c1, rsl 1 0 n2 c2, .int .i64 x3] [.slice (some ⟨b1, o1, none⟩) n1 c1, .slice (some ⟨b2, o2, none⟩) n2 c2, .int .i64 x3] := (LR.cons (by have q := VR.rsl (S := fun b => ([⟨b1, o1, 2⟩, ⟨b2, o2, 1⟩, ⟨b4, o4, 1⟩] : List Rx.Loc)[b]?) (b := 0) 0 n1 c1 rfl; simpa [rsl] using q) (LR.cons (by have q := VR.rsl (S := fun b => ([⟨b1, o1, 2⟩, ⟨b2, o2, 1⟩, ⟨b4, o4, 1⟩] : List Rx.Loc)[b]?) (b := 1) 0 n2 c2 rfl; simpa [rsl] using q) (LR.cons (groundT_refl rfl) LR.nil)))
    VR.agg z.1 z.2) (.cons (by have q := VR.rsl (S := fun b => ([⟨b1, o1, 2⟩, ⟨b2, o2, 1⟩, ⟨b4, o4, 1⟩] : List Rx.Loc)[b]?) (b := 2) 0 n4 c4 rfl; simpa [rsl] using q) .nil))) ?_
  exact cast (bfewB_rrrE a b c d e e1 n1 c1 (fun i q => cellN w b1 (o1 + i * 2 + q)) e2 n2 c2 (fun i q => cellN w b2 (o2 + i * 1 + q)) e4 n4 c4 (fun i q => cellN w b4 (o4 + i * 1 + q)) x3 fun _ _ => True) (bfewB_rrrP a b c d e e1 n1 c1 (fun i q => cellN w b1 (o1 + i * 2 + q)) e2 n2 c2 (fun i q => cellN w b2 (o2 + i * 1 + q)) e4 n4 c4 (fun i q => cellN w b4 (o4 + i * 1 + q)) x3 (fun _ _ => True) hI hk2 hf1 hf2 hf3 h1)
theorem walk_rrr_Z (w : World) {a b c d e : Int} (hI : InC a b c d e) (b1 o1 n1 c1 : Nat) (hb1 : b1 < w.heap.size) (hk1 : n1 ≤ c1) (hc1 : ∀ (i j : Nat) k, i < n1 → ([.i64, .i64] : List IntKind)[j]? = some k → w.cell? ⟨b1, o1 + i * 2 + j, none⟩ = some (.int k (cellN w b1 (o1 + i * 2 + j)))) (b2 o2 n2 c2 : Nat) (hb2 : b2 < w.heap.size) (hk2 : n2 ≤ c2) (hc2 : ∀ (i j : Nat) k, i < n2 → ([.i64] : List IntKind)[j]? = some k → w.cell? ⟨b2, o2 + i * 1 + j, none⟩ = some (.int k (cellN w b2 (o2 + i * 1 + j)))) (x3 : Int) (hx3 : In64 x3) (b4 o4 n4 c4 : Nat) (hb4 : b4 < w.heap.size) (hk4 : n4 ≤ c4) (hc4 : ∀ (i j : Nat) k, i < n4 → ([.u8] : List IntKind)[j]? = some k → w.cell? ⟨b4, o4 + i * 1 + j, none⟩ = some (.int k (cellN w b4 (o4 + i * 1 + j)))) (hu4 : ∀ k, k < n4 → 0 ≤ (fun i q => cellN w b4 (o4 + i * 1 + q)) k 0 ∧ (fun i q => cellN w b4 (o4 + i * 1 + q)) k 0 ≤ 255) (hf1 : n1 ≤ 30) (hf2 : n2 ≤ 30) (hf3 : n4 ≤ 60) (h1 : (bck a b c d e n1 (fun i q => cellN w b1 (o1 + i * 2 + q)) n2 (fun i q => cellN w b2 (o2 + i * 1 + q))).2 = 0) (hn : n4 = 0) : Calls Try.prog 15 #[.agg #[.int .i64 a, .int .i64 b, .int .i64 c, .int .i64 d, .int .i64 e], .agg #[.slice (some ⟨b1, o1, none⟩) n1 c1, .slice (some ⟨b2, o2, none⟩) n2 c2, .int .i64 x3], .slice (some ⟨b4, o4, none⟩) n4 c4] w fun e w' => e = .returned (.bool true) ∧ Below w.heap.size w w' := by
  obtain ⟨e1, hbr1⟩ := row_of_cells (w := w) (S := fun _ => none) (ks := [.i64, .i64]) (b := b1) (o := o1) (n := n1) (c := c1) (f := fun i q => cellN w b1 (o1 + i * 2 + q)) (by decide) hc1
  obtain ⟨e2, hbr2⟩ := row_of_cells (w := w) (S := fun _ => none) (ks := [.i64]) (b := b2) (o := o2) (n := n2) (c := c2) (f := fun i q => cellN w b2 (o2 + i * 1 + q)) (by decide) hc2
  obtain ⟨e4, hbr4⟩ := row_of_cells (w := w) (S := fun _ => none) (ks := [.u8]) (b := b4) (o := o4) (n := n4) (c := c4) (f := fun i q => cellN w b4 (o4 + i * 1 + q)) (by decide) hc4
  refine law_ok (E := mkB XL15Z) (mkOkB XL15Z_told) (n := 4) (I := noI) (A := (bfewZ_rrrA a b c d e e1 n1 c1 (fun i q => cellN w b1 (o1 + i * 2 + q)) e2 n2 c2 (fun i q => cellN w b2 (o2 + i * 1 + q)) e4 n4 c4 (fun i q => cellN w b4 (o4 + i * 1 + q)) x3)) (f := 15) (fn := Try.f15) (by kernel_rfl) («as» := [five' a b c d e, .agg ⟨[rsl 0 0 n1 c1, rsl 1 0 n2 c2, .int .i64 x3]⟩, rsl 2 0 n4 c4]) (bs := [.row true [.i64, .i64] e1 n1 c1 fun i q => cellN w b1 (o1 + i * 2 + q), .row true [.i64] e2 n2 c2 fun i q => cellN w b2 (o2 + i * 1 + q), .row true [.u8] e4 n4 c4 fun i q => cellN w b4 (o4 + i * 1 + q)]) (args' := #[.agg #[.int .i64 a, .int .i64 b, .int .i64 c, .int .i64 d, .int .i64 e], .agg #[.slice (some ⟨b1, o1, none⟩) n1 c1, .slice (some ⟨b2, o2, none⟩) n2 c2, .int .i64 x3], .slice (some ⟨b4, o4, none⟩) n4 c4]) [⟨b1, o1, 2⟩, ⟨b2, o2, 1⟩, ⟨b4, o4, 1⟩] rfl (fun j o x h h' => by
      rcases j with _ | _ | _ | j
      · obtain rfl := Option.some.inj h
        obtain rfl := Option.some.inj h'
        exact ⟨rfl, hbr1, hb1⟩
      · obtain rfl := Option.some.inj h
        obtain rfl := Option.some.inj h'
        exact ⟨rfl, hbr2, hb2⟩
      · obtain rfl := Option.some.inj h
        obtain rfl := Option.some.inj h'
        exact ⟨rfl, hbr4, hb4⟩
      · simp at h) (.cons (groundT_refl rfl) (.cons (have z : LR (fun b => ([⟨b1, o1, 2⟩, ⟨b2, o2, 1⟩, ⟨b4, o4, 1⟩] : List Rx.Loc)[b]?) [rsl 0 0 n1 c1, rsl 1 0 n2 c2, .int .i64 x3] [.slice (some ⟨b1, o1, none⟩) n1 c1, .slice (some ⟨b2, o2, none⟩) n2 c2, .int .i64 x3] := (LR.cons (by have q := VR.rsl (S := fun b => ([⟨b1, o1, 2⟩, ⟨b2, o2, 1⟩, ⟨b4, o4, 1⟩] : List Rx.Loc)[b]?) (b := 0) 0 n1 c1 rfl; simpa [rsl] using q) (LR.cons (by have q := VR.rsl (S := fun b => ([⟨b1, o1, 2⟩, ⟨b2, o2, 1⟩, ⟨b4, o4, 1⟩] : List Rx.Loc)[b]?) (b := 1) 0 n2 c2 rfl; simpa [rsl] using q) (LR.cons (groundT_refl rfl) LR.nil)))
    VR.agg z.1 z.2) (.cons (by have q := VR.rsl (S := fun b => ([⟨b1, o1, 2⟩, ⟨b2, o2, 1⟩, ⟨b4, o4, 1⟩] : List Rx.Loc)[b]?) (b := 2) 0 n4 c4 rfl; simpa [rsl] using q) .nil))) ?_
  exact cast (bfewZ_rrrE a b c d e e1 n1 c1 (fun i q => cellN w b1 (o1 + i * 2 + q)) e2 n2 c2 (fun i q => cellN w b2 (o2 + i * 1 + q)) e4 n4 c4 (fun i q => cellN w b4 (o4 + i * 1 + q)) x3 fun _ _ => True) (bfewZ_rrrP a b c d e e1 n1 c1 (fun i q => cellN w b1 (o1 + i * 2 + q)) e2 n2 c2 (fun i q => cellN w b2 (o2 + i * 1 + q)) e4 n4 c4 (fun i q => cellN w b4 (o4 + i * 1 + q)) x3 (fun _ _ => True) hI hk2 hf1 hf2 hf3 h1 hn)
theorem walk_rrr_G (w : World) {a b c d e : Int} (hI : InC a b c d e) (b1 o1 n1 c1 : Nat) (hb1 : b1 < w.heap.size) (hk1 : n1 ≤ c1) (hc1 : ∀ (i j : Nat) k, i < n1 → ([.i64, .i64] : List IntKind)[j]? = some k → w.cell? ⟨b1, o1 + i * 2 + j, none⟩ = some (.int k (cellN w b1 (o1 + i * 2 + j)))) (b2 o2 n2 c2 : Nat) (hb2 : b2 < w.heap.size) (hk2 : n2 ≤ c2) (hc2 : ∀ (i j : Nat) k, i < n2 → ([.i64] : List IntKind)[j]? = some k → w.cell? ⟨b2, o2 + i * 1 + j, none⟩ = some (.int k (cellN w b2 (o2 + i * 1 + j)))) (x3 : Int) (hx3 : In64 x3) (b4 o4 n4 c4 : Nat) (hb4 : b4 < w.heap.size) (hk4 : n4 ≤ c4) (hc4 : ∀ (i j : Nat) k, i < n4 → ([.u8] : List IntKind)[j]? = some k → w.cell? ⟨b4, o4 + i * 1 + j, none⟩ = some (.int k (cellN w b4 (o4 + i * 1 + j)))) (hu4 : ∀ k, k < n4 → 0 ≤ (fun i q => cellN w b4 (o4 + i * 1 + q)) k 0 ∧ (fun i q => cellN w b4 (o4 + i * 1 + q)) k 0 ≤ 255) (hf1 : n1 ≤ 30) (hf2 : n2 ≤ 30) (hf3 : n4 ≤ 60) (h1 : (bck a b c d e n1 (fun i q => cellN w b1 (o1 + i * 2 + q)) n2 (fun i q => cellN w b2 (o2 + i * 1 + q))).2 = 0) (hn : 0 < n4) (hu : ∀ k, k < n4 → 0 ≤ (fun i q => cellN w b4 (o4 + i * 1 + q)) k 0 ∧ (fun i q => cellN w b4 (o4 + i * 1 + q)) k 0 ≤ 255) : Calls Try.prog 15 #[.agg #[.int .i64 a, .int .i64 b, .int .i64 c, .int .i64 d, .int .i64 e], .agg #[.slice (some ⟨b1, o1, none⟩) n1 c1, .slice (some ⟨b2, o2, none⟩) n2 c2, .int .i64 x3], .slice (some ⟨b4, o4, none⟩) n4 c4] w fun e w' => e = .returned (.bool true) ∧ Below w.heap.size w w' := by
  obtain ⟨e1, hbr1⟩ := row_of_cells (w := w) (S := fun _ => none) (ks := [.i64, .i64]) (b := b1) (o := o1) (n := n1) (c := c1) (f := fun i q => cellN w b1 (o1 + i * 2 + q)) (by decide) hc1
  obtain ⟨e2, hbr2⟩ := row_of_cells (w := w) (S := fun _ => none) (ks := [.i64]) (b := b2) (o := o2) (n := n2) (c := c2) (f := fun i q => cellN w b2 (o2 + i * 1 + q)) (by decide) hc2
  obtain ⟨e4, hbr4⟩ := row_of_cells (w := w) (S := fun _ => none) (ks := [.u8]) (b := b4) (o := o4) (n := n4) (c := c4) (f := fun i q => cellN w b4 (o4 + i * 1 + q)) (by decide) hc4
  refine law_ok (E := mkB XL15G) (mkOkB XL15G_told) (n := 4) (I := noI) (A := (bfewG_rrrA a b c d e e1 n1 c1 (fun i q => cellN w b1 (o1 + i * 2 + q)) e2 n2 c2 (fun i q => cellN w b2 (o2 + i * 1 + q)) e4 n4 c4 (fun i q => cellN w b4 (o4 + i * 1 + q)) x3)) (f := 15) (fn := Try.f15) (by kernel_rfl) («as» := [five' a b c d e, .agg ⟨[rsl 0 0 n1 c1, rsl 1 0 n2 c2, .int .i64 x3]⟩, rsl 2 0 n4 c4]) (bs := [.row true [.i64, .i64] e1 n1 c1 fun i q => cellN w b1 (o1 + i * 2 + q), .row true [.i64] e2 n2 c2 fun i q => cellN w b2 (o2 + i * 1 + q), .row true [.u8] e4 n4 c4 fun i q => cellN w b4 (o4 + i * 1 + q)]) (args' := #[.agg #[.int .i64 a, .int .i64 b, .int .i64 c, .int .i64 d, .int .i64 e], .agg #[.slice (some ⟨b1, o1, none⟩) n1 c1, .slice (some ⟨b2, o2, none⟩) n2 c2, .int .i64 x3], .slice (some ⟨b4, o4, none⟩) n4 c4]) [⟨b1, o1, 2⟩, ⟨b2, o2, 1⟩, ⟨b4, o4, 1⟩] rfl (fun j o x h h' => by
      rcases j with _ | _ | _ | j
      · obtain rfl := Option.some.inj h
        obtain rfl := Option.some.inj h'
        exact ⟨rfl, hbr1, hb1⟩
      · obtain rfl := Option.some.inj h
        obtain rfl := Option.some.inj h'
        exact ⟨rfl, hbr2, hb2⟩
      · obtain rfl := Option.some.inj h
        obtain rfl := Option.some.inj h'
        exact ⟨rfl, hbr4, hb4⟩
      · simp at h) (.cons (groundT_refl rfl) (.cons (have z : LR (fun b => ([⟨b1, o1, 2⟩, ⟨b2, o2, 1⟩, ⟨b4, o4, 1⟩] : List Rx.Loc)[b]?) [rsl 0 0 n1 c1, rsl 1 0 n2 c2, .int .i64 x3] [.slice (some ⟨b1, o1, none⟩) n1 c1, .slice (some ⟨b2, o2, none⟩) n2 c2, .int .i64 x3] := (LR.cons (by have q := VR.rsl (S := fun b => ([⟨b1, o1, 2⟩, ⟨b2, o2, 1⟩, ⟨b4, o4, 1⟩] : List Rx.Loc)[b]?) (b := 0) 0 n1 c1 rfl; simpa [rsl] using q) (LR.cons (by have q := VR.rsl (S := fun b => ([⟨b1, o1, 2⟩, ⟨b2, o2, 1⟩, ⟨b4, o4, 1⟩] : List Rx.Loc)[b]?) (b := 1) 0 n2 c2 rfl; simpa [rsl] using q) (LR.cons (groundT_refl rfl) LR.nil)))
    VR.agg z.1 z.2) (.cons (by have q := VR.rsl (S := fun b => ([⟨b1, o1, 2⟩, ⟨b2, o2, 1⟩, ⟨b4, o4, 1⟩] : List Rx.Loc)[b]?) (b := 2) 0 n4 c4 rfl; simpa [rsl] using q) .nil))) ?_
  exact cast (bfewG_rrrE a b c d e e1 n1 c1 (fun i q => cellN w b1 (o1 + i * 2 + q)) e2 n2 c2 (fun i q => cellN w b2 (o2 + i * 1 + q)) e4 n4 c4 (fun i q => cellN w b4 (o4 + i * 1 + q)) x3 fun _ _ => True) (bfewG_rrrP a b c d e e1 n1 c1 (fun i q => cellN w b1 (o1 + i * 2 + q)) e2 n2 c2 (fun i q => cellN w b2 (o2 + i * 1 + q)) e4 n4 c4 (fun i q => cellN w b4 (o4 + i * 1 + q)) x3 (fun _ _ => True) hI hk2 hf1 hf2 hf3 h1 hn hu)
theorem walk_rrr (w : World) {a b c d e : Int} (hI : InC a b c d e) (b1 o1 n1 c1 : Nat) (hb1 : b1 < w.heap.size) (hk1 : n1 ≤ c1) (hc1 : ∀ (i j : Nat) k, i < n1 → ([.i64, .i64] : List IntKind)[j]? = some k → w.cell? ⟨b1, o1 + i * 2 + j, none⟩ = some (.int k (cellN w b1 (o1 + i * 2 + j)))) (b2 o2 n2 c2 : Nat) (hb2 : b2 < w.heap.size) (hk2 : n2 ≤ c2) (hc2 : ∀ (i j : Nat) k, i < n2 → ([.i64] : List IntKind)[j]? = some k → w.cell? ⟨b2, o2 + i * 1 + j, none⟩ = some (.int k (cellN w b2 (o2 + i * 1 + j)))) (x3 : Int) (hx3 : In64 x3) (b4 o4 n4 c4 : Nat) (hb4 : b4 < w.heap.size) (hk4 : n4 ≤ c4) (hc4 : ∀ (i j : Nat) k, i < n4 → ([.u8] : List IntKind)[j]? = some k → w.cell? ⟨b4, o4 + i * 1 + j, none⟩ = some (.int k (cellN w b4 (o4 + i * 1 + j)))) (hu4 : ∀ k, k < n4 → 0 ≤ (fun i q => cellN w b4 (o4 + i * 1 + q)) k 0 ∧ (fun i q => cellN w b4 (o4 + i * 1 + q)) k 0 ≤ 255) : Calls Try.prog 15 #[.agg #[.int .i64 a, .int .i64 b, .int .i64 c, .int .i64 d, .int .i64 e], .agg #[.slice (some ⟨b1, o1, none⟩) n1 c1, .slice (some ⟨b2, o2, none⟩) n2 c2, .int .i64 x3], .slice (some ⟨b4, o4, none⟩) n4 c4] w fun e w' => e = .returned (.bool true) ∧ Below w.heap.size w w' := by
  by_cases hf : 30 < n1 ∨ 30 < n2 ∨ 60 < n4
  · exact walk_rrr_A w hI b1 o1 n1 c1 hb1 hk1 hc1 b2 o2 n2 c2 hb2 hk2 hc2 x3 hx3 b4 o4 n4 c4 hb4 hk4 hc4 hu4 hf
  · have hf1 : n1 ≤ 30 := by omega
    have hf2 : n2 ≤ 30 := by omega
    have hf3 : n4 ≤ 60 := by omega
    by_cases h1 : (bck a b c d e n1 (fun i q => cellN w b1 (o1 + i * 2 + q)) n2 (fun i q => cellN w b2 (o2 + i * 1 + q))).2 = 0
    · by_cases hn : 0 < n4
      · exact walk_rrr_G w hI b1 o1 n1 c1 hb1 hk1 hc1 b2 o2 n2 c2 hb2 hk2 hc2 x3 hx3 b4 o4 n4 c4 hb4 hk4 hc4 hu4 hf1 hf2 hf3 h1 hn hu4
      · have hn0 : n4 = 0 := by omega
        exact walk_rrr_Z w hI b1 o1 n1 c1 hb1 hk1 hc1 b2 o2 n2 c2 hb2 hk2 hc2 x3 hx3 b4 o4 n4 c4 hb4 hk4 hc4 hu4 hf1 hf2 hf3 h1 hn0
    · exact walk_rrr_B w hI b1 o1 n1 c1 hb1 hk1 hc1 b2 o2 n2 c2 hb2 hk2 hc2 x3 hx3 b4 o4 n4 c4 hb4 hk4 hc4 hu4 hf1 hf2 hf3 h1
theorem rowk1 {fs : Array Field} (h : Try.prog.underlying 54 = some (.struct fs)) : ∀ (j : Nat) (f : Field) (k : IntKind), fs[j]? = some f → ([.i64, .i64] : List IntKind)[j]? = some k → Try.prog.underlying f.type = some (.int k) := by
  rw [Try.underlying54] at h
  obtain rfl := TypeDesc.struct.inj (Option.some.inj h)
  intro j f k hf hk
  match j, hf, hk with
  | 0, hf, hk =>
    obtain rfl := Option.some.inj hf
    obtain rfl := Option.some.inj hk
    exact Try.underlying3
  | 1, hf, hk =>
    obtain rfl := Option.some.inj hf
    obtain rfl := Option.some.inj hk
    exact Try.underlying3
  | q + 2, hf, hk => simp at hk

set_option maxRecDepth 100000 in
set_option maxHeartbeats 4000000 in
theorem lifted (os : Os) (started : os.Started) (H : Type) (enc : TypeId × Value → H) :
    ReturnsInHanded {} Try.checked os 15 .any (Rows.bumpFewSpec.pre6 enc Try.prog Try.f15 Rows.bumpFewRow.domain false) (Rows.bumpFewSpec.post enc Try.prog Try.f15 false true false false) := by
  refine returnsInHanded_of_change (C := Try.checked) own started (by kernel_rfl) Try.func15
    (ChangeSpec.witness6 (enc := enc) (C := Try.checked) false ⟨#[], #[.agg #[.int .i64 0, .int .i64 0, .int .i64 0, .int .i64 0, .int .i64 0], .agg #[.slice none 0 0, .slice none 0 0, .int .i64 0], .slice none 0 0], []⟩ 8 (by kernel_rfl) (by kernel_rfl) (by kernel_rfl) (by kernel_rfl)) ?_
  intro W base args ds gs before hval0 hW hcnd _
  have hval : ∀ (j : Nat) t v, Try.f15.params[j]? = some t → args[j]? = some v → Value.okWide Try.prog W .any base t v := hval0
  have hW' := hW
  obtain ⟨p, q, hA0, hV, rfl, hfz, hnd⟩ := hW
  have hA : DataW.TrodAll enc Try.prog W 0 (fun _ => true) true Try.f15.params.toList args.toList ds p := hA0
  rw [Try.params15] at hA hval
  obtain ⟨rfl, rfl⟩ := trodVars_none hV
  simp only [List.append_nil] at hW'
  obtain ⟨v0, vs0, d0, ds0, p0, q0, hv0, rfl, rfl, t0, hA0z⟩ := trodAll_cons hA
  obtain ⟨v1, vs1, d1, ds1, p1, q1, hv1, rfl, rfl, t1, hA1z⟩ := trodAll_cons hA0z
  obtain ⟨v2, vs2, d2, ds2, p2, q2, hv2, rfl, rfl, t2, hA2z⟩ := trodAll_cons hA1z
  obtain ⟨rfl, rfl, rfl⟩ := trodAll_nil hA2z
  obtain rfl : args = #[v0, v1, v2] := by
    apply Array.ext'
    rw [hv0]
    rw [hv1]
    rw [hv2]
  clear hv0 hv1 hv2
  obtain ⟨vl0, yl0, n0, rfl, hvl0, hf0⟩ := Ev.open_fields Try.underlying23 (by kernel_rfl) cells23 (hval 0 23 v0 rfl rfl) t0
  obtain ⟨u0_0, u0_1, u0_2, u0_3, u0_4, rfl⟩ : ∃ u0_0 u0_1 u0_2 u0_3 u0_4, vl0 = [u0_0, u0_1, u0_2, u0_3, u0_4] := by
    exact len5 (hvl0.trans (by kernel_rfl))
  obtain ⟨w0_0, y0_0, hw0_0, hy0_0⟩ := hf0 0 _ rfl
  obtain rfl : u0_0 = w0_0 := Option.some.inj hw0_0
  obtain ⟨x0, e0_0, -, wa0⟩ := DataW.trod_int Try.underlying3 hy0_0
  simp at e0_0
  subst e0_0
  obtain ⟨w0_1, y0_1, hw0_1, hy0_1⟩ := hf0 1 _ rfl
  obtain rfl : u0_1 = w0_1 := Option.some.inj hw0_1
  obtain ⟨x1, e0_1, -, wa1⟩ := DataW.trod_int Try.underlying3 hy0_1
  simp at e0_1
  subst e0_1
  obtain ⟨w0_2, y0_2, hw0_2, hy0_2⟩ := hf0 2 _ rfl
  obtain rfl : u0_2 = w0_2 := Option.some.inj hw0_2
  obtain ⟨x2, e0_2, -, wa2⟩ := DataW.trod_int Try.underlying3 hy0_2
  simp at e0_2
  subst e0_2
  obtain ⟨w0_3, y0_3, hw0_3, hy0_3⟩ := hf0 3 _ rfl
  obtain rfl : u0_3 = w0_3 := Option.some.inj hw0_3
  obtain ⟨x3, e0_3, -, wa3⟩ := DataW.trod_int Try.underlying3 hy0_3
  simp at e0_3
  subst e0_3
  obtain ⟨w0_4, y0_4, hw0_4, hy0_4⟩ := hf0 4 _ rfl
  obtain rfl : u0_4 = w0_4 := Option.some.inj hw0_4
  obtain ⟨x4, e0_4, -, wa4⟩ := DataW.trod_int Try.underlying3 hy0_4
  simp at e0_4
  subst e0_4
  obtain ⟨cs1, rfl, hsz1, hcw1⟩ := fields_wide Try.underlying62 ctS1 cellsS1 (hval 1 62 v1 rfl rfl)
  obtain ⟨vl1, yl1, n1z, hag1, hvl1, hf1⟩ := Ev.open_fields Try.underlying62 (by kernel_rfl) cellsS1 (hval 1 62 _ rfl rfl) t1
  obtain rfl : cs1 = ⟨vl1⟩ := by injection hag1
  obtain ⟨u1_0, u1_1, u1_2, rfl⟩ : ∃ u1_0 u1_1 u1_2, vl1 = [u1_0, u1_1, u1_2] := by
    exact lenS1 (hvl1.trans (by kernel_rfl))
  obtain ⟨w1_0, y1_0, hw1_0, hy1_0⟩ := hf1 0 _ rfl
  obtain rfl : u1_0 = w1_0 := Option.some.inj hw1_0
  have hvr1 : Value.okWide Try.prog W .any base 24 u1_0 := by
    have z := hcw1 0 _ _ rfl rfl
    simp only [Value.okWide, Try.underlying24]
    exact z
  obtain ⟨w1_1, y1_1, hw1_1, hy1_1⟩ := hf1 1 _ rfl
  obtain rfl : u1_1 = w1_1 := Option.some.inj hw1_1
  have hvr2 : Value.okWide Try.prog W .any base 32 u1_1 := by
    have z := hcw1 1 _ _ rfl rfl
    simp only [Value.okWide, Try.underlying32]
    exact z
  obtain ⟨w1_2, y1_2, hw1_2, hy1_2⟩ := hf1 2 _ rfl
  obtain rfl : u1_2 = w1_2 := Option.some.inj hw1_2
  obtain ⟨z3, e1_2, -, wz3⟩ := DataW.trod_int Try.underlying3 hy1_2
  simp at e1_2
  subst e1_2
  have hvv1 := hvr1
  rcases rows_in (ks := [.i64, .i64]) Try.underlying24 Try.underlying54 (by kernel_rfl) (by kernel_rfl) (by kernel_rfl) (rowk1 Try.underlying54) hvr1 (slc_trod Try.underlying24 hvr1 hy1_0) with rfl | ⟨b1, o1, n1, c1, rfl, hb1, hn1, hc1⟩
  · have hvv2 := hvr2
    rcases ints_in (k := .i64) Try.underlying32 Try.underlying3 (by kernel_rfl) hvr2 (slc_trod Try.underlying32 hvr2 hy1_1) with rfl | ⟨b2, o2, n2, c2, rfl, hb2, hn2, hc2, hwf2⟩
    · have hvv4 := (hval 2 75 v2 rfl rfl)
      rcases ints_in (k := .u8) Try.underlying75 Try.underlying5 (by kernel_rfl) (hval 2 75 v2 rfl rfl) t2 with rfl | ⟨b4, o4, n4, c4, rfl, hb4, hn4, hc4, hwf4⟩
      · exact (walk_nnn W (InC.mk (Frm.i64wf wa0) (Frm.i64wf wa1) (Frm.i64wf wa2) (Frm.i64wf wa3) (Frm.i64wf wa4)) z3 (Frm.i64wf wz3)).mono fun e W' ⟨he, hg⟩ => (by
      subst he
      exact ⟨_, rfl, Frm.post_true (by kernel_rfl) (by kernel_rfl) rfl rfl Try.underlying4 hW' hg rfl⟩)
      · exact (walk_nnr W (InC.mk (Frm.i64wf wa0) (Frm.i64wf wa1) (Frm.i64wf wa2) (Frm.i64wf wa3) (Frm.i64wf wa4)) z3 (Frm.i64wf wz3) b4 o4 n4 c4 hb4 (cap_le Try.underlying75 hvv4) hc4 (fun k hk => by simpa using u8wf (hwf4 k hk))).mono fun e W' ⟨he, hg⟩ => (by
      subst he
      exact ⟨_, rfl, Frm.post_true (by kernel_rfl) (by kernel_rfl) rfl rfl Try.underlying4 hW' hg rfl⟩)
    · have hvv4 := (hval 2 75 v2 rfl rfl)
      rcases ints_in (k := .u8) Try.underlying75 Try.underlying5 (by kernel_rfl) (hval 2 75 v2 rfl rfl) t2 with rfl | ⟨b4, o4, n4, c4, rfl, hb4, hn4, hc4, hwf4⟩
      · exact (walk_nrn W (InC.mk (Frm.i64wf wa0) (Frm.i64wf wa1) (Frm.i64wf wa2) (Frm.i64wf wa3) (Frm.i64wf wa4)) b2 o2 n2 c2 hb2 (cap_le Try.underlying32 hvv2) hc2 z3 (Frm.i64wf wz3)).mono fun e W' ⟨he, hg⟩ => (by
      subst he
      exact ⟨_, rfl, Frm.post_true (by kernel_rfl) (by kernel_rfl) rfl rfl Try.underlying4 hW' hg rfl⟩)
      · exact (walk_nrr W (InC.mk (Frm.i64wf wa0) (Frm.i64wf wa1) (Frm.i64wf wa2) (Frm.i64wf wa3) (Frm.i64wf wa4)) b2 o2 n2 c2 hb2 (cap_le Try.underlying32 hvv2) hc2 z3 (Frm.i64wf wz3) b4 o4 n4 c4 hb4 (cap_le Try.underlying75 hvv4) hc4 (fun k hk => by simpa using u8wf (hwf4 k hk))).mono fun e W' ⟨he, hg⟩ => (by
      subst he
      exact ⟨_, rfl, Frm.post_true (by kernel_rfl) (by kernel_rfl) rfl rfl Try.underlying4 hW' hg rfl⟩)
  · have hvv2 := hvr2
    rcases ints_in (k := .i64) Try.underlying32 Try.underlying3 (by kernel_rfl) hvr2 (slc_trod Try.underlying32 hvr2 hy1_1) with rfl | ⟨b2, o2, n2, c2, rfl, hb2, hn2, hc2, hwf2⟩
    · have hvv4 := (hval 2 75 v2 rfl rfl)
      rcases ints_in (k := .u8) Try.underlying75 Try.underlying5 (by kernel_rfl) (hval 2 75 v2 rfl rfl) t2 with rfl | ⟨b4, o4, n4, c4, rfl, hb4, hn4, hc4, hwf4⟩
      · exact (walk_rnn W (InC.mk (Frm.i64wf wa0) (Frm.i64wf wa1) (Frm.i64wf wa2) (Frm.i64wf wa3) (Frm.i64wf wa4)) b1 o1 n1 c1 hb1 (cap_le Try.underlying24 hvv1) hc1 z3 (Frm.i64wf wz3)).mono fun e W' ⟨he, hg⟩ => (by
      subst he
      exact ⟨_, rfl, Frm.post_true (by kernel_rfl) (by kernel_rfl) rfl rfl Try.underlying4 hW' hg rfl⟩)
      · exact (walk_rnr W (InC.mk (Frm.i64wf wa0) (Frm.i64wf wa1) (Frm.i64wf wa2) (Frm.i64wf wa3) (Frm.i64wf wa4)) b1 o1 n1 c1 hb1 (cap_le Try.underlying24 hvv1) hc1 z3 (Frm.i64wf wz3) b4 o4 n4 c4 hb4 (cap_le Try.underlying75 hvv4) hc4 (fun k hk => by simpa using u8wf (hwf4 k hk))).mono fun e W' ⟨he, hg⟩ => (by
      subst he
      exact ⟨_, rfl, Frm.post_true (by kernel_rfl) (by kernel_rfl) rfl rfl Try.underlying4 hW' hg rfl⟩)
    · have hvv4 := (hval 2 75 v2 rfl rfl)
      rcases ints_in (k := .u8) Try.underlying75 Try.underlying5 (by kernel_rfl) (hval 2 75 v2 rfl rfl) t2 with rfl | ⟨b4, o4, n4, c4, rfl, hb4, hn4, hc4, hwf4⟩
      · exact (walk_rrn W (InC.mk (Frm.i64wf wa0) (Frm.i64wf wa1) (Frm.i64wf wa2) (Frm.i64wf wa3) (Frm.i64wf wa4)) b1 o1 n1 c1 hb1 (cap_le Try.underlying24 hvv1) hc1 b2 o2 n2 c2 hb2 (cap_le Try.underlying32 hvv2) hc2 z3 (Frm.i64wf wz3)).mono fun e W' ⟨he, hg⟩ => (by
      subst he
      exact ⟨_, rfl, Frm.post_true (by kernel_rfl) (by kernel_rfl) rfl rfl Try.underlying4 hW' hg rfl⟩)
      · exact (walk_rrr W (InC.mk (Frm.i64wf wa0) (Frm.i64wf wa1) (Frm.i64wf wa2) (Frm.i64wf wa3) (Frm.i64wf wa4)) b1 o1 n1 c1 hb1 (cap_le Try.underlying24 hvv1) hc1 b2 o2 n2 c2 hb2 (cap_le Try.underlying32 hvv2) hc2 z3 (Frm.i64wf wz3) b4 o4 n4 c4 hb4 (cap_le Try.underlying75 hvv4) hc4 (fun k hk => by simpa using u8wf (hwf4 k hk))).mono fun e W' ⟨he, hg⟩ => (by
      subst he
      exact ⟨_, rfl, Frm.post_true (by kernel_rfl) (by kernel_rfl) rfl rfl Try.underlying4 hW' hg rfl⟩)

theorem over : Rows.bumpFewRow.holds Try.pinned (OpenSpec.ofChange Rows.bumpFewSpec) :=
  OpenClaim.holds_of_wide 15 Try.f15 rfl rfl rfl rfl rfl rfl rfl ⟨rfl, rfl, rfl, rfl, rfl⟩ rfl rfl rfl rfl rfl (by kernel_rfl) Try.func15 (by kernel_rfl)
    (of_decide_eq_true (by kernel_rfl)) (by unfold Func.isWrapper; first | (rw [if_pos (by decide +kernel)]; kernel_rfl) | (rw [if_neg (by decide +kernel)]; exact ⟨rfl, rfl⟩))
    (fun os started H enc _ => lifted os started H enc)

theorem proved : Rows.BumpFewSaid := over
#print axioms proved
end Go.Proofs.Ytkflmglpniebfaa.bumpFew
