/-
  'BumpPlaces': where words are placed, in the last car or in one that is taken, or in a car of their own: as the reference says. No project text.
-/
import Derived.Test.YtkflmglpniebfaaZ5
import Derived.Test.YtkflmglpniebfaaPlB2
import Derived.Test.YtkflmglpniebfaaZ8
import Derived.Test.YtkflmglpniebfaaRows
namespace Go.Proofs.Ytkflmglpniebfaa.bumpPlaces
set_option maxRecDepth 100000
set_option maxHeartbeats 4000000
open Go.Rx Go.Proofs.Ytkflmglpniebfaa.Fr
open Go.ChangeShapes Go.WideShapes Go.ChangeAt Go.RowKit
set_option linter.unusedVariables false
theorem own : ownKnob Try.prog.godebug = none := by kernel_rfl
theorem len5 {l : List Value} (h : l.length = 5) : ∃ a0 a1 a2 a3 a4, l = [a0, a1, a2, a3, a4] := by
  match l, h with
  | [a0, a1, a2, a3, a4], _ => exact ⟨a0, a1, a2, a3, a4, rfl⟩
theorem cells23 : Try.prog.cellsOf 23 = 5 := by kernel_rfl
theorem lenS1 {l : List Value} (h : l.length = 3) : ∃ a0 a1 a2, l = [a0, a1, a2] := by
  match l, h with
  | [a0, a1, a2], _ => exact ⟨a0, a1, a2, rfl⟩
theorem cellsS1 : Try.prog.cellsOf 62 = 3 := by kernel_rfl
theorem ctS1 : Try.prog.cellTypes Try.prog.depth 62 = some [24, 32, 3] := by kernel_rfl
theorem cap_le {P : Program} {w : World} {r : Reach} {b0 : Nat} {t e : TypeId} {b o n c : Nat} (ht : P.underlying t = some (.slice e)) (hv : Value.okWide P w r b0 t (.slice (some ⟨b, o, none⟩) n c)) : n ≤ c := by
  rcases slice_in ht hv with h | ⟨b', o', n', c', h, -, h2, -⟩
  · cases h
  · injection h with q1 q2 q3
    omega
theorem fields_wide {P : Program} {w : World} {r : Reach} {b0 : Nat} {t : TypeId} {fs : Array Field} {v : Value} {ts : List TypeId} (ht : P.underlying t = some (.struct fs)) (hts : P.cellTypes P.depth t = some ts) (hc : P.cellsOf t = ts.length) (hv : Value.okWide P w r b0 t v) :
    ∃ cs, v = .agg cs ∧ cs.size = ts.length ∧ ∀ (i : Nat) u e, cs[i]? = some u → ts[i]? = some e → Cell.okWide P w r b0 e u := by
  simp only [Value.okWide, ht] at hv
  obtain ⟨cs, h1, h2, ts', h3, -, h4⟩ := hv
  rw [hts] at h3
  obtain rfl := Option.some.inj h3
  refine ⟨cs, h1, h2.trans hc, fun i u e hu he => ?_⟩
  obtain ⟨e', k1, k2⟩ := h4 i u hu
  have hi : i < ts.length := (List.getElem?_eq_some_iff.1 he).1
  rw [Nat.mod_eq_of_lt hi, he] at k1
  obtain rfl := Option.some.inj k1
  exact k2
theorem slc_trod {H : Type} {enc : TypeId × Value → H} {P : Program} {w : World} {base : Nat} {spare : Nat → Bool} {held : Bool} {r : Reach} {b0 : Nat} {t e : TypeId} {v : Value} {n : Nat} {y : DataW H × List MemPlace} (ht : P.underlying t = some (.slice e)) (hv : Value.okWide P w r b0 t v) (h : DataW.trod enc P w base spare held n t [v] = some y) : DataW.Trod enc P w base spare held t v y.1 y.2 := by
  refine ⟨n, ?_⟩
  rcases slice_in ht hv with rfl | ⟨b, o, m, c, rfl, -⟩ <;> exact h
theorem ask_own {a b c d e : Int} {n m : Nat} {f g : RF} {s y : Int} (h : askT a b c d e n f m g s y = 0) : askT a b c d e n f m g (-1) y = 0 := by
  obtain ⟨k0, k1, k2, k3, k4, k5⟩ := askT_bck h
  obtain ⟨g1, -⟩ := bck_ok k0
  unfold good at g1
  unfold askT
  rw [if_pos k0, if_neg (by omega), if_neg (by omega)]
theorem ent_nn {X : List (Nat × Rx.Spec)} (hX : ∀ p ∈ X, Fr.Told p.1 p.2) (w : World) {a b c d e : Int} (hI : InC a b c d e) (x3 : Int) (hx3 : In64 x3) (x4 : Int) (hx4 : In64 x4) (A : Ann) (h : bodyX (mkB X) (callI (mkB X) noI 4) A Try.f11 [five' a b c d e, .agg ⟨[.slice none 0 0, .slice none 0 0, .int .i64 x3]⟩, .int .i64 x4] (stOf []) fun v _ => v = .bool true) : Calls Try.prog 11 #[.agg #[.int .i64 a, .int .i64 b, .int .i64 c, .int .i64 d, .int .i64 e], .agg #[.slice none 0 0, .slice none 0 0, .int .i64 x3], .int .i64 x4] w fun e w' => e = .returned (.bool true) ∧ Below w.heap.size w w' := by
  refine law_ok (E := mkB X) (mkOkB hX) (n := 4) (I := noI) (A := A) (f := 11) (fn := Try.f11) (by kernel_rfl) («as» := [five' a b c d e, .agg ⟨[.slice none 0 0, .slice none 0 0, .int .i64 x3]⟩, .int .i64 x4]) (bs := []) (args' := #[.agg #[.int .i64 a, .int .i64 b, .int .i64 c, .int .i64 d, .int .i64 e], .agg #[.slice none 0 0, .slice none 0 0, .int .i64 x3], .int .i64 x4]) [] rfl (fun j o x h => by simp at h) (.cons (groundT_refl rfl) (.cons (have z : LR (fun b => ([] : List Rx.Loc)[b]?) [.slice none 0 0, .slice none 0 0, .int .i64 x3] [.slice none 0 0, .slice none 0 0, .int .i64 x3] := (LR.cons (.slN 0 0) (LR.cons (.slN 0 0) (LR.cons (groundT_refl rfl) LR.nil)))
    VR.agg z.1 z.2) (.cons (groundT_refl rfl) .nil))) ?_
  exact h
theorem walk_nn (w : World) {a b c d e : Int} (hI : InC a b c d e) (x3 : Int) (hx3 : In64 x3) (x4 : Int) (hx4 : In64 x4) : Calls Try.prog 11 #[.agg #[.int .i64 a, .int .i64 b, .int .i64 c, .int .i64 d, .int .i64 e], .agg #[.slice none 0 0, .slice none 0 0, .int .i64 x3], .int .i64 x4] w fun e w' => e = .returned (.bool true) ∧ Below w.heap.size w w' := by
  by_cases hf0 : 30 < 0 ∨ 30 < 0
  · exact ent_nn XL11far_told w hI x3 hx3 x4 hx4 ((bplfar_nnA a b c d e  x3 x4)) (cast (bplfar_nnE a b c d e  x3 x4 fun _ _ => True) (bplfar_nnP a b c d e  x3 x4 (fun _ _ => True) hI hf0))
  · have hf1 : 0 ≤ 30 := by omega
    have hf2 : 0 ≤ 30 := by omega
    by_cases h1 : askT a b c d e 0 zF 0 zF x3 x4 = 0
    · have g := bck_ok (askT_bck h1).1
      have g1 := g.1
      have g2 := g.2.1
      unfold good at g1
      omega
    · by_cases k1 : askT a b c d e 0 zF 0 zF (-1) x4 = 0
      · have g := bck_ok (askT_bck k1).1
        have g1 := g.1
        have g2 := g.2.1
        unfold good at g1
        omega
      · exact ent_nn XL11BB_told w hI x3 hx3 x4 hx4 ((bplBB_nnA a b c d e  x3 x4)) (cast (bplBB_nnE a b c d e  x3 x4 fun _ _ => True) (bplBB_nnP a b c d e  x3 x4 (fun _ _ => True) hI hf1 hf2 h1 k1))
theorem ent_nr {X : List (Nat × Rx.Spec)} (hX : ∀ p ∈ X, Fr.Told p.1 p.2) (w : World) {a b c d e : Int} (hI : InC a b c d e) (b2 o2 n2 c2 : Nat) (hb2 : b2 < w.heap.size) (hk2 : n2 ≤ c2) (hc2 : ∀ (i j : Nat) k, i < n2 → ([.i64] : List IntKind)[j]? = some k → w.cell? ⟨b2, o2 + i * 1 + j, none⟩ = some (.int k (cellN w b2 (o2 + i * 1 + j)))) (x3 : Int) (hx3 : In64 x3) (x4 : Int) (hx4 : In64 x4) (A : Nat → Ann) (h : ∀ (e2 : Nat), bodyX (mkB X) (callI (mkB X) noI 4) (A e2) Try.f11 [five' a b c d e, .agg ⟨[.slice none 0 0, rsl 0 0 n2 c2, .int .i64 x3]⟩, .int .i64 x4] (stOf [.row true [.i64] e2 n2 c2 fun i q => cellN w b2 (o2 + i * 1 + q)]) fun v _ => v = .bool true) : Calls Try.prog 11 #[.agg #[.int .i64 a, .int .i64 b, .int .i64 c, .int .i64 d, .int .i64 e], .agg #[.slice none 0 0, .slice (some ⟨b2, o2, none⟩) n2 c2, .int .i64 x3], .int .i64 x4] w fun e w' => e = .returned (.bool true) ∧ Below w.heap.size w w' := by
  obtain ⟨e2, hbr2⟩ := row_of_cells (w := w) (S := fun _ => none) (ks := [.i64]) (b := b2) (o := o2) (n := n2) (c := c2) (f := fun i q => cellN w b2 (o2 + i * 1 + q)) (by decide) hc2
  refine law_ok (E := mkB X) (mkOkB hX) (n := 4) (I := noI) (A := (A e2)) (f := 11) (fn := Try.f11) (by kernel_rfl) («as» := [five' a b c d e, .agg ⟨[.slice none 0 0, rsl 0 0 n2 c2, .int .i64 x3]⟩, .int .i64 x4]) (bs := [.row true [.i64] e2 n2 c2 fun i q => cellN w b2 (o2 + i * 1 + q)]) (args' := #[.agg #[.int .i64 a, .int .i64 b, .int .i64 c, .int .i64 d, .int .i64 e], .agg #[.slice none 0 0, .slice (some ⟨b2, o2, none⟩) n2 c2, .int .i64 x3], .int .i64 x4]) [⟨b2, o2, 1⟩] rfl (fun j o x h h' => by
      rcases j with _ | j
      · obtain rfl := Option.some.inj h
        obtain rfl := Option.some.inj h'
        exact ⟨rfl, hbr2, hb2⟩
      · simp at h) (.cons (groundT_refl rfl) (.cons (have z : LR (fun b => ([⟨b2, o2, 1⟩] : List Rx.Loc)[b]?) [.slice none 0 0, rsl 0 0 n2 c2, .int .i64 x3] [.slice none 0 0, .slice (some ⟨b2, o2, none⟩) n2 c2, .int .i64 x3] := (LR.cons (.slN 0 0) (LR.cons (by have q := VR.rsl (S := fun b => ([⟨b2, o2, 1⟩] : List Rx.Loc)[b]?) (b := 0) 0 n2 c2 rfl; simpa [rsl] using q) (LR.cons (groundT_refl rfl) LR.nil)))
    VR.agg z.1 z.2) (.cons (groundT_refl rfl) .nil))) ?_
  exact h e2
theorem walk_nr (w : World) {a b c d e : Int} (hI : InC a b c d e) (b2 o2 n2 c2 : Nat) (hb2 : b2 < w.heap.size) (hk2 : n2 ≤ c2) (hc2 : ∀ (i j : Nat) k, i < n2 → ([.i64] : List IntKind)[j]? = some k → w.cell? ⟨b2, o2 + i * 1 + j, none⟩ = some (.int k (cellN w b2 (o2 + i * 1 + j)))) (x3 : Int) (hx3 : In64 x3) (x4 : Int) (hx4 : In64 x4) : Calls Try.prog 11 #[.agg #[.int .i64 a, .int .i64 b, .int .i64 c, .int .i64 d, .int .i64 e], .agg #[.slice none 0 0, .slice (some ⟨b2, o2, none⟩) n2 c2, .int .i64 x3], .int .i64 x4] w fun e w' => e = .returned (.bool true) ∧ Below w.heap.size w w' := by
  by_cases hf0 : 30 < 0 ∨ 30 < n2
  · exact ent_nr XL11far_told w hI b2 o2 n2 c2 hb2 hk2 hc2 x3 hx3 x4 hx4 (fun e2 => (bplfar_nrA a b c d e e2 n2 c2 (fun i q => cellN w b2 (o2 + i * 1 + q)) x3 x4)) (fun e2 => cast (bplfar_nrE a b c d e e2 n2 c2 (fun i q => cellN w b2 (o2 + i * 1 + q)) x3 x4 fun _ _ => True) (bplfar_nrP a b c d e e2 n2 c2 (fun i q => cellN w b2 (o2 + i * 1 + q)) x3 x4 (fun _ _ => True) hI hk2 hf0))
  · have hf1 : 0 ≤ 30 := by omega
    have hf2 : n2 ≤ 30 := by omega
    by_cases h1 : askT a b c d e 0 zF n2 (fun i q => cellN w b2 (o2 + i * 1 + q)) x3 x4 = 0
    · have g := bck_ok (askT_bck h1).1
      have g1 := g.1
      have g2 := g.2.1
      unfold good at g1
      omega
    · by_cases k1 : askT a b c d e 0 zF n2 (fun i q => cellN w b2 (o2 + i * 1 + q)) (-1) x4 = 0
      · have g := bck_ok (askT_bck k1).1
        have g1 := g.1
        have g2 := g.2.1
        unfold good at g1
        omega
      · exact ent_nr XL11BB_told w hI b2 o2 n2 c2 hb2 hk2 hc2 x3 hx3 x4 hx4 (fun e2 => (bplBB_nrA a b c d e e2 n2 c2 (fun i q => cellN w b2 (o2 + i * 1 + q)) x3 x4)) (fun e2 => cast (bplBB_nrE a b c d e e2 n2 c2 (fun i q => cellN w b2 (o2 + i * 1 + q)) x3 x4 fun _ _ => True) (bplBB_nrP a b c d e e2 n2 c2 (fun i q => cellN w b2 (o2 + i * 1 + q)) x3 x4 (fun _ _ => True) hI hk2 hf1 hf2 h1 k1))
theorem ent_rn {X : List (Nat × Rx.Spec)} (hX : ∀ p ∈ X, Fr.Told p.1 p.2) (w : World) {a b c d e : Int} (hI : InC a b c d e) (b1 o1 n1 c1 : Nat) (hb1 : b1 < w.heap.size) (hk1 : n1 ≤ c1) (hc1 : ∀ (i j : Nat) k, i < n1 → ([.i64, .i64] : List IntKind)[j]? = some k → w.cell? ⟨b1, o1 + i * 2 + j, none⟩ = some (.int k (cellN w b1 (o1 + i * 2 + j)))) (x3 : Int) (hx3 : In64 x3) (x4 : Int) (hx4 : In64 x4) (A : Nat → Ann) (h : ∀ (e1 : Nat), bodyX (mkB X) (callI (mkB X) noI 4) (A e1) Try.f11 [five' a b c d e, .agg ⟨[rsl 0 0 n1 c1, .slice none 0 0, .int .i64 x3]⟩, .int .i64 x4] (stOf [.row true [.i64, .i64] e1 n1 c1 fun i q => cellN w b1 (o1 + i * 2 + q)]) fun v _ => v = .bool true) : Calls Try.prog 11 #[.agg #[.int .i64 a, .int .i64 b, .int .i64 c, .int .i64 d, .int .i64 e], .agg #[.slice (some ⟨b1, o1, none⟩) n1 c1, .slice none 0 0, .int .i64 x3], .int .i64 x4] w fun e w' => e = .returned (.bool true) ∧ Below w.heap.size w w' := by
  obtain ⟨e1, hbr1⟩ := row_of_cells (w := w) (S := fun _ => none) (ks := [.i64, .i64]) (b := b1) (o := o1) (n := n1) (c := c1) (f := fun i q => cellN w b1 (o1 + i * 2 + q)) (by decide) hc1
  refine law_ok (E := mkB X) (mkOkB hX) (n := 4) (I := noI) (A := (A e1)) (f := 11) (fn := Try.f11) (by kernel_rfl) («as» := [five' a b c d e, .agg ⟨[rsl 0 0 n1 c1, .slice none 0 0, .int .i64 x3]⟩, .int .i64 x4]) (bs := [.row true [.i64, .i64] e1 n1 c1 fun i q => cellN w b1 (o1 + i * 2 + q)]) (args' := #[.agg #[.int .i64 a, .int .i64 b, .int .i64 c, .int .i64 d, .int .i64 e], .agg #[.slice (some ⟨b1, o1, none⟩) n1 c1, .slice none 0 0, .int .i64 x3], .int .i64 x4]) [⟨b1, o1, 2⟩] rfl (fun j o x h h' => by
      rcases j with _ | j
      · obtain rfl := Option.some.inj h
        obtain rfl := Option.some.inj h'
        exact ⟨rfl, hbr1, hb1⟩
      · simp at h) (.cons (groundT_refl rfl) (.cons (have z : LR (fun b => ([⟨b1, o1, 2⟩] : List Rx.Loc)[b]?) [rsl 0 0 n1 c1, .slice none 0 0, .int .i64 x3] [.slice (some ⟨b1, o1, none⟩) n1 c1, .slice none 0 0, .int .i64 x3] := (LR.cons (by have q := VR.rsl (S := fun b => ([⟨b1, o1, 2⟩] : List Rx.Loc)[b]?) (b := 0) 0 n1 c1 rfl; simpa [rsl] using q) (LR.cons (.slN 0 0) (LR.cons (groundT_refl rfl) LR.nil)))
    VR.agg z.1 z.2) (.cons (groundT_refl rfl) .nil))) ?_
  exact h e1
theorem walk_rn (w : World) {a b c d e : Int} (hI : InC a b c d e) (b1 o1 n1 c1 : Nat) (hb1 : b1 < w.heap.size) (hk1 : n1 ≤ c1) (hc1 : ∀ (i j : Nat) k, i < n1 → ([.i64, .i64] : List IntKind)[j]? = some k → w.cell? ⟨b1, o1 + i * 2 + j, none⟩ = some (.int k (cellN w b1 (o1 + i * 2 + j)))) (x3 : Int) (hx3 : In64 x3) (x4 : Int) (hx4 : In64 x4) : Calls Try.prog 11 #[.agg #[.int .i64 a, .int .i64 b, .int .i64 c, .int .i64 d, .int .i64 e], .agg #[.slice (some ⟨b1, o1, none⟩) n1 c1, .slice none 0 0, .int .i64 x3], .int .i64 x4] w fun e w' => e = .returned (.bool true) ∧ Below w.heap.size w w' := by
  by_cases hf0 : 30 < n1 ∨ 30 < 0
  · exact ent_rn XL11far_told w hI b1 o1 n1 c1 hb1 hk1 hc1 x3 hx3 x4 hx4 (fun e1 => (bplfar_rnA a b c d e e1 n1 c1 (fun i q => cellN w b1 (o1 + i * 2 + q)) x3 x4)) (fun e1 => cast (bplfar_rnE a b c d e e1 n1 c1 (fun i q => cellN w b1 (o1 + i * 2 + q)) x3 x4 fun _ _ => True) (bplfar_rnP a b c d e e1 n1 c1 (fun i q => cellN w b1 (o1 + i * 2 + q)) x3 x4 (fun _ _ => True) hI hf0))
  · have hf1 : n1 ≤ 30 := by omega
    have hf2 : 0 ≤ 30 := by omega
    by_cases h1 : askT a b c d e n1 (fun i q => cellN w b1 (o1 + i * 2 + q)) 0 zF x3 x4 = 0
    · have k1 := ask_own h1
      by_cases hu : useT a (fun i q => cellN w b1 (o1 + i * 2 + q)) 0 zF x3 x4
      · exact absurd hu.1 (by omega)
      · by_cases hs : sel (selE (fun i q => cellN w b1 (o1 + i * 2 + q)) 0) n1 = []
        · exact ent_rn XL11FF_told w hI b1 o1 n1 c1 hb1 hk1 hc1 x3 hx3 x4 hx4 (fun e1 => (bplFF_rnA a b c d e e1 n1 c1 (fun i q => cellN w b1 (o1 + i * 2 + q)) x3 x4)) (fun e1 => cast (bplFF_rnE a b c d e e1 n1 c1 (fun i q => cellN w b1 (o1 + i * 2 + q)) x3 x4 fun _ _ => True) (bplFF_rnP a b c d e e1 n1 c1 (fun i q => cellN w b1 (o1 + i * 2 + q)) x3 x4 (fun _ _ => True) hI hf1 hf2 h1 hu hs k1 (.inl hs)))
        · by_cases kf : sel (selE (fun i q => cellN w b1 (o1 + i * 2 + q)) 0) n1 = [] ∨ List.length (sel (selE (fun i q => cellN w b1 (o1 + i * 2 + q)) 2) n1) = 2
          · exact ent_rn XL11TFN_told w hI b1 o1 n1 c1 hb1 hk1 hc1 x3 hx3 x4 hx4 (fun e1 => (bplTFN_rA a b c d e e1 n1 c1 (fun i q => cellN w b1 (o1 + i * 2 + q)) x3 x4)) (fun e1 => cast (bplTFN_rE a b c d e e1 n1 c1 (fun i q => cellN w b1 (o1 + i * 2 + q)) x3 x4 fun _ _ => True) (bplTFN_rP a b c d e e1 n1 c1 (fun i q => cellN w b1 (o1 + i * 2 + q)) x3 x4 (fun _ _ => True) hI hf1 hf2 h1 hu hs k1 kf))
          · exact ent_rn XL11TAN_told w hI b1 o1 n1 c1 hb1 hk1 hc1 x3 hx3 x4 hx4 (fun e1 => (bplTAN_rA a b c d e e1 n1 c1 (fun i q => cellN w b1 (o1 + i * 2 + q)) x3 x4)) (fun e1 => cast (bplTAN_rE a b c d e e1 n1 c1 (fun i q => cellN w b1 (o1 + i * 2 + q)) x3 x4 fun _ _ => True) (bplTAN_rP a b c d e e1 n1 c1 (fun i q => cellN w b1 (o1 + i * 2 + q)) x3 x4 (fun _ _ => True) hI hf1 hf2 h1 hu hs k1 kf))
    · by_cases k1 : askT a b c d e n1 (fun i q => cellN w b1 (o1 + i * 2 + q)) 0 zF (-1) x4 = 0
      · by_cases kf : sel (selE (fun i q => cellN w b1 (o1 + i * 2 + q)) 0) n1 = [] ∨ List.length (sel (selE (fun i q => cellN w b1 (o1 + i * 2 + q)) 2) n1) = 2
        · exact ent_rn XL11BF_told w hI b1 o1 n1 c1 hb1 hk1 hc1 x3 hx3 x4 hx4 (fun e1 => (bplBF_rnA a b c d e e1 n1 c1 (fun i q => cellN w b1 (o1 + i * 2 + q)) x3 x4)) (fun e1 => cast (bplBF_rnE a b c d e e1 n1 c1 (fun i q => cellN w b1 (o1 + i * 2 + q)) x3 x4 fun _ _ => True) (bplBF_rnP a b c d e e1 n1 c1 (fun i q => cellN w b1 (o1 + i * 2 + q)) x3 x4 (fun _ _ => True) hI hf1 hf2 h1 k1 kf))
        · exact ent_rn XL11BAN_told w hI b1 o1 n1 c1 hb1 hk1 hc1 x3 hx3 x4 hx4 (fun e1 => (bplBAN_rA a b c d e e1 n1 c1 (fun i q => cellN w b1 (o1 + i * 2 + q)) x3 x4)) (fun e1 => cast (bplBAN_rE a b c d e e1 n1 c1 (fun i q => cellN w b1 (o1 + i * 2 + q)) x3 x4 fun _ _ => True) (bplBAN_rP a b c d e e1 n1 c1 (fun i q => cellN w b1 (o1 + i * 2 + q)) x3 x4 (fun _ _ => True) hI hf1 hf2 h1 k1 kf))
      · exact ent_rn XL11BB_told w hI b1 o1 n1 c1 hb1 hk1 hc1 x3 hx3 x4 hx4 (fun e1 => (bplBB_rnA a b c d e e1 n1 c1 (fun i q => cellN w b1 (o1 + i * 2 + q)) x3 x4)) (fun e1 => cast (bplBB_rnE a b c d e e1 n1 c1 (fun i q => cellN w b1 (o1 + i * 2 + q)) x3 x4 fun _ _ => True) (bplBB_rnP a b c d e e1 n1 c1 (fun i q => cellN w b1 (o1 + i * 2 + q)) x3 x4 (fun _ _ => True) hI hf1 hf2 h1 k1))
theorem ent_rr {X : List (Nat × Rx.Spec)} (hX : ∀ p ∈ X, Fr.Told p.1 p.2) (w : World) {a b c d e : Int} (hI : InC a b c d e) (b1 o1 n1 c1 : Nat) (hb1 : b1 < w.heap.size) (hk1 : n1 ≤ c1) (hc1 : ∀ (i j : Nat) k, i < n1 → ([.i64, .i64] : List IntKind)[j]? = some k → w.cell? ⟨b1, o1 + i * 2 + j, none⟩ = some (.int k (cellN w b1 (o1 + i * 2 + j)))) (b2 o2 n2 c2 : Nat) (hb2 : b2 < w.heap.size) (hk2 : n2 ≤ c2) (hc2 : ∀ (i j : Nat) k, i < n2 → ([.i64] : List IntKind)[j]? = some k → w.cell? ⟨b2, o2 + i * 1 + j, none⟩ = some (.int k (cellN w b2 (o2 + i * 1 + j)))) (x3 : Int) (hx3 : In64 x3) (x4 : Int) (hx4 : In64 x4) (A : Nat → Nat → Ann) (h : ∀ (e1 : Nat) (e2 : Nat), bodyX (mkB X) (callI (mkB X) noI 4) (A e1 e2) Try.f11 [five' a b c d e, .agg ⟨[rsl 0 0 n1 c1, rsl 1 0 n2 c2, .int .i64 x3]⟩, .int .i64 x4] (stOf [.row true [.i64, .i64] e1 n1 c1 fun i q => cellN w b1 (o1 + i * 2 + q), .row true [.i64] e2 n2 c2 fun i q => cellN w b2 (o2 + i * 1 + q)]) fun v _ => v = .bool true) : Calls Try.prog 11 #[.agg #[.int .i64 a, .int .i64 b, .int .i64 c, .int .i64 d, .int .i64 e], .agg #[.slice (some ⟨b1, o1, none⟩) n1 c1, .slice (some ⟨b2, o2, none⟩) n2 c2, .int .i64 x3], .int .i64 x4] w fun e w' => e = .returned (.bool true) ∧ Below w.heap.size w w' := by
  obtain ⟨e1, hbr1⟩ := row_of_cells (w := w) (S := fun _ => none) (ks := [.i64, .i64]) (b := b1) (o := o1) (n := n1) (c := c1) (f := fun i q => cellN w b1 (o1 + i * 2 + q)) (by decide) hc1
  obtain ⟨e2, hbr2⟩ := row_of_cells (w := w) (S := fun _ => none) (ks := [.i64]) (b := b2) (o := o2) (n := n2) (c := c2) (f := fun i q => cellN w b2 (o2 + i * 1 + q)) (by decide) hc2
  refine law_ok (E := mkB X) (mkOkB hX) (n := 4) (I := noI) (A := (A e1 e2)) (f := 11) (fn := Try.f11) (by kernel_rfl) («as» := [five' a b c d e, .agg ⟨[rsl 0 0 n1 c1, rsl 1 0 n2 c2, .int .i64 x3]⟩, .int .i64 x4]) (bs := [.row true [.i64, .i64] e1 n1 c1 fun i q => cellN w b1 (o1 + i * 2 + q), .row true [.i64] e2 n2 c2 fun i q => cellN w b2 (o2 + i * 1 + q)]) (args' := #[.agg #[.int .i64 a, .int .i64 b, .int .i64 c, .int .i64 d, .int .i64 e], .agg #[.slice (some ⟨b1, o1, none⟩) n1 c1, .slice (some ⟨b2, o2, none⟩) n2 c2, .int .i64 x3], .int .i64 x4]) [⟨b1, o1, 2⟩, ⟨b2, o2, 1⟩] rfl (fun j o x h h' => by
      rcases j with _ | _ | j
      · obtain rfl := Option.some.inj h
        obtain rfl := Option.some.inj h'
        exact ⟨rfl, hbr1, hb1⟩
      · obtain rfl := Option.some.inj h
        obtain rfl := Option.some.inj h'
        exact ⟨rfl, hbr2, hb2⟩
      · simp at h) (.cons (groundT_refl rfl) (.cons (have z : LR (fun b => ([⟨b1, o1, 2⟩, ⟨b2, o2, 1⟩] : List Rx.Loc)[b]?) [rsl 0 0 n1 c1, rsl 1 0 n2 c2, .int .i64 x3] [.slice (some ⟨b1, o1, none⟩) n1 c1, .slice (some ⟨b2, o2, none⟩) n2 c2, .int .i64 x3] := (LR.cons (by have q := VR.rsl (S := fun b => ([⟨b1, o1, 2⟩, ⟨b2, o2, 1⟩] : List Rx.Loc)[b]?) (b := 0) 0 n1 c1 rfl; simpa [rsl] using q) (LR.cons (by have q := VR.rsl (S := fun b => ([⟨b1, o1, 2⟩, ⟨b2, o2, 1⟩] : List Rx.Loc)[b]?) (b := 1) 0 n2 c2 rfl; simpa [rsl] using q) (LR.cons (groundT_refl rfl) LR.nil)))
    VR.agg z.1 z.2) (.cons (groundT_refl rfl) .nil))) ?_
  exact h e1 e2
theorem walk_rr (w : World) {a b c d e : Int} (hI : InC a b c d e) (b1 o1 n1 c1 : Nat) (hb1 : b1 < w.heap.size) (hk1 : n1 ≤ c1) (hc1 : ∀ (i j : Nat) k, i < n1 → ([.i64, .i64] : List IntKind)[j]? = some k → w.cell? ⟨b1, o1 + i * 2 + j, none⟩ = some (.int k (cellN w b1 (o1 + i * 2 + j)))) (b2 o2 n2 c2 : Nat) (hb2 : b2 < w.heap.size) (hk2 : n2 ≤ c2) (hc2 : ∀ (i j : Nat) k, i < n2 → ([.i64] : List IntKind)[j]? = some k → w.cell? ⟨b2, o2 + i * 1 + j, none⟩ = some (.int k (cellN w b2 (o2 + i * 1 + j)))) (x3 : Int) (hx3 : In64 x3) (x4 : Int) (hx4 : In64 x4) : Calls Try.prog 11 #[.agg #[.int .i64 a, .int .i64 b, .int .i64 c, .int .i64 d, .int .i64 e], .agg #[.slice (some ⟨b1, o1, none⟩) n1 c1, .slice (some ⟨b2, o2, none⟩) n2 c2, .int .i64 x3], .int .i64 x4] w fun e w' => e = .returned (.bool true) ∧ Below w.heap.size w w' := by
  by_cases hf0 : 30 < n1 ∨ 30 < n2
  · exact ent_rr XL11far_told w hI b1 o1 n1 c1 hb1 hk1 hc1 b2 o2 n2 c2 hb2 hk2 hc2 x3 hx3 x4 hx4 (fun e1 e2 => (bplfar_rrA a b c d e e1 n1 c1 (fun i q => cellN w b1 (o1 + i * 2 + q)) e2 n2 c2 (fun i q => cellN w b2 (o2 + i * 1 + q)) x3 x4)) (fun e1 e2 => cast (bplfar_rrE a b c d e e1 n1 c1 (fun i q => cellN w b1 (o1 + i * 2 + q)) e2 n2 c2 (fun i q => cellN w b2 (o2 + i * 1 + q)) x3 x4 fun _ _ => True) (bplfar_rrP a b c d e e1 n1 c1 (fun i q => cellN w b1 (o1 + i * 2 + q)) e2 n2 c2 (fun i q => cellN w b2 (o2 + i * 1 + q)) x3 x4 (fun _ _ => True) hI hk2 hf0))
  · have hf1 : n1 ≤ 30 := by omega
    have hf2 : n2 ≤ 30 := by omega
    by_cases h1 : askT a b c d e n1 (fun i q => cellN w b1 (o1 + i * 2 + q)) n2 (fun i q => cellN w b2 (o2 + i * 1 + q)) x3 x4 = 0
    · have k1 := ask_own h1
      by_cases hu : useT a (fun i q => cellN w b1 (o1 + i * 2 + q)) n2 (fun i q => cellN w b2 (o2 + i * 1 + q)) x3 x4
      · by_cases kf : sel (selE (fun i q => cellN w b1 (o1 + i * 2 + q)) 0) n1 = [] ∨ List.length (sel (selE (fun i q => cellN w b1 (o1 + i * 2 + q)) 2) n1) = 2
        · exact ent_rr XL11UF_told w hI b1 o1 n1 c1 hb1 hk1 hc1 b2 o2 n2 c2 hb2 hk2 hc2 x3 hx3 x4 hx4 (fun e1 e2 => (bplUF_rrA a b c d e e1 n1 c1 (fun i q => cellN w b1 (o1 + i * 2 + q)) e2 n2 c2 (fun i q => cellN w b2 (o2 + i * 1 + q)) x3 x4)) (fun e1 e2 => cast (bplUF_rrE a b c d e e1 n1 c1 (fun i q => cellN w b1 (o1 + i * 2 + q)) e2 n2 c2 (fun i q => cellN w b2 (o2 + i * 1 + q)) x3 x4 fun _ _ => True) (bplUF_rrP a b c d e e1 n1 c1 (fun i q => cellN w b1 (o1 + i * 2 + q)) e2 n2 c2 (fun i q => cellN w b2 (o2 + i * 1 + q)) x3 x4 (fun _ _ => True) hI hk2 hf1 hf2 h1 hu k1 kf))
        · by_cases ki : 0 < n2 ∧ (fun i q => cellN w b1 (o1 + i * 2 + q)) ((fun i q => cellN w b2 (o2 + i * 1 + q)) (Int.toNat (((n2 : Nat) : Int) - 1)) 0).toNat 0 = 1
          · exact ent_rr XL11UIG_told w hI b1 o1 n1 c1 hb1 hk1 hc1 b2 o2 n2 c2 hb2 hk2 hc2 x3 hx3 x4 hx4 (fun e1 e2 => (bplUIG_rrA a b c d e e1 n1 c1 (fun i q => cellN w b1 (o1 + i * 2 + q)) e2 n2 c2 (fun i q => cellN w b2 (o2 + i * 1 + q)) x3 x4)) (fun e1 e2 => cast (bplUIG_rrE a b c d e e1 n1 c1 (fun i q => cellN w b1 (o1 + i * 2 + q)) e2 n2 c2 (fun i q => cellN w b2 (o2 + i * 1 + q)) x3 x4 fun _ _ => True) (bplUIG_rrP a b c d e e1 n1 c1 (fun i q => cellN w b1 (o1 + i * 2 + q)) e2 n2 c2 (fun i q => cellN w b2 (o2 + i * 1 + q)) x3 x4 (fun _ _ => True) hI hk2 hf1 hf2 h1 hu k1 kf ki hu.1))
          · exact ent_rr XL11UAG_told w hI b1 o1 n1 c1 hb1 hk1 hc1 b2 o2 n2 c2 hb2 hk2 hc2 x3 hx3 x4 hx4 (fun e1 e2 => (bplUAG_rrA a b c d e e1 n1 c1 (fun i q => cellN w b1 (o1 + i * 2 + q)) e2 n2 c2 (fun i q => cellN w b2 (o2 + i * 1 + q)) x3 x4)) (fun e1 e2 => cast (bplUAG_rrE a b c d e e1 n1 c1 (fun i q => cellN w b1 (o1 + i * 2 + q)) e2 n2 c2 (fun i q => cellN w b2 (o2 + i * 1 + q)) x3 x4 fun _ _ => True) (bplUAG_rrP a b c d e e1 n1 c1 (fun i q => cellN w b1 (o1 + i * 2 + q)) e2 n2 c2 (fun i q => cellN w b2 (o2 + i * 1 + q)) x3 x4 (fun _ _ => True) hI hk2 hf1 hf2 h1 hu k1 kf hu.1 ki))
      · by_cases hs : sel (selE (fun i q => cellN w b1 (o1 + i * 2 + q)) 0) n1 = []
        · exact ent_rr XL11FF_told w hI b1 o1 n1 c1 hb1 hk1 hc1 b2 o2 n2 c2 hb2 hk2 hc2 x3 hx3 x4 hx4 (fun e1 e2 => (bplFF_rrA a b c d e e1 n1 c1 (fun i q => cellN w b1 (o1 + i * 2 + q)) e2 n2 c2 (fun i q => cellN w b2 (o2 + i * 1 + q)) x3 x4)) (fun e1 e2 => cast (bplFF_rrE a b c d e e1 n1 c1 (fun i q => cellN w b1 (o1 + i * 2 + q)) e2 n2 c2 (fun i q => cellN w b2 (o2 + i * 1 + q)) x3 x4 fun _ _ => True) (bplFF_rrP a b c d e e1 n1 c1 (fun i q => cellN w b1 (o1 + i * 2 + q)) e2 n2 c2 (fun i q => cellN w b2 (o2 + i * 1 + q)) x3 x4 (fun _ _ => True) hI hk2 hf1 hf2 h1 hu hs k1 (.inl hs)))
        · by_cases kf : sel (selE (fun i q => cellN w b1 (o1 + i * 2 + q)) 0) n1 = [] ∨ List.length (sel (selE (fun i q => cellN w b1 (o1 + i * 2 + q)) 2) n1) = 2
          · by_cases ht : 0 < n2
            · exact ent_rr XL11TFG_told w hI b1 o1 n1 c1 hb1 hk1 hc1 b2 o2 n2 c2 hb2 hk2 hc2 x3 hx3 x4 hx4 (fun e1 e2 => (bplTFG_rrA a b c d e e1 n1 c1 (fun i q => cellN w b1 (o1 + i * 2 + q)) e2 n2 c2 (fun i q => cellN w b2 (o2 + i * 1 + q)) x3 x4)) (fun e1 e2 => cast (bplTFG_rrE a b c d e e1 n1 c1 (fun i q => cellN w b1 (o1 + i * 2 + q)) e2 n2 c2 (fun i q => cellN w b2 (o2 + i * 1 + q)) x3 x4 fun _ _ => True) (bplTFG_rrP a b c d e e1 n1 c1 (fun i q => cellN w b1 (o1 + i * 2 + q)) e2 n2 c2 (fun i q => cellN w b2 (o2 + i * 1 + q)) x3 x4 (fun _ _ => True) hI hk2 hf1 hf2 h1 hu hs k1 kf ht))
            · have ht0 : n2 = 0 := by omega
              exact ent_rr XL11TFE_told w hI b1 o1 n1 c1 hb1 hk1 hc1 b2 o2 n2 c2 hb2 hk2 hc2 x3 hx3 x4 hx4 (fun e1 e2 => (bplTFE_rrA a b c d e e1 n1 c1 (fun i q => cellN w b1 (o1 + i * 2 + q)) e2 n2 c2 (fun i q => cellN w b2 (o2 + i * 1 + q)) x3 x4)) (fun e1 e2 => cast (bplTFE_rrE a b c d e e1 n1 c1 (fun i q => cellN w b1 (o1 + i * 2 + q)) e2 n2 c2 (fun i q => cellN w b2 (o2 + i * 1 + q)) x3 x4 fun _ _ => True) (bplTFE_rrP a b c d e e1 n1 c1 (fun i q => cellN w b1 (o1 + i * 2 + q)) e2 n2 c2 (fun i q => cellN w b2 (o2 + i * 1 + q)) x3 x4 (fun _ _ => True) hI hk2 hf1 hf2 h1 hu hs k1 kf ht0))
          · by_cases ht : 0 < n2
            · by_cases ki : 0 < n2 ∧ (fun i q => cellN w b1 (o1 + i * 2 + q)) ((fun i q => cellN w b2 (o2 + i * 1 + q)) (Int.toNat (((n2 : Nat) : Int) - 1)) 0).toNat 0 = 1
              · exact ent_rr XL11TIG_told w hI b1 o1 n1 c1 hb1 hk1 hc1 b2 o2 n2 c2 hb2 hk2 hc2 x3 hx3 x4 hx4 (fun e1 e2 => (bplTIG_rrA a b c d e e1 n1 c1 (fun i q => cellN w b1 (o1 + i * 2 + q)) e2 n2 c2 (fun i q => cellN w b2 (o2 + i * 1 + q)) x3 x4)) (fun e1 e2 => cast (bplTIG_rrE a b c d e e1 n1 c1 (fun i q => cellN w b1 (o1 + i * 2 + q)) e2 n2 c2 (fun i q => cellN w b2 (o2 + i * 1 + q)) x3 x4 fun _ _ => True) (bplTIG_rrP a b c d e e1 n1 c1 (fun i q => cellN w b1 (o1 + i * 2 + q)) e2 n2 c2 (fun i q => cellN w b2 (o2 + i * 1 + q)) x3 x4 (fun _ _ => True) hI hk2 hf1 hf2 h1 hu hs k1 kf ki ht))
              · exact ent_rr XL11TAG_told w hI b1 o1 n1 c1 hb1 hk1 hc1 b2 o2 n2 c2 hb2 hk2 hc2 x3 hx3 x4 hx4 (fun e1 e2 => (bplTAG_rrA a b c d e e1 n1 c1 (fun i q => cellN w b1 (o1 + i * 2 + q)) e2 n2 c2 (fun i q => cellN w b2 (o2 + i * 1 + q)) x3 x4)) (fun e1 e2 => cast (bplTAG_rrE a b c d e e1 n1 c1 (fun i q => cellN w b1 (o1 + i * 2 + q)) e2 n2 c2 (fun i q => cellN w b2 (o2 + i * 1 + q)) x3 x4 fun _ _ => True) (bplTAG_rrP a b c d e e1 n1 c1 (fun i q => cellN w b1 (o1 + i * 2 + q)) e2 n2 c2 (fun i q => cellN w b2 (o2 + i * 1 + q)) x3 x4 (fun _ _ => True) hI hk2 hf1 hf2 h1 hu hs k1 kf ht ki))
            · have ht0 : n2 = 0 := by omega
              exact ent_rr XL11TAE_told w hI b1 o1 n1 c1 hb1 hk1 hc1 b2 o2 n2 c2 hb2 hk2 hc2 x3 hx3 x4 hx4 (fun e1 e2 => (bplTAE_rrA a b c d e e1 n1 c1 (fun i q => cellN w b1 (o1 + i * 2 + q)) e2 n2 c2 (fun i q => cellN w b2 (o2 + i * 1 + q)) x3 x4)) (fun e1 e2 => cast (bplTAE_rrE a b c d e e1 n1 c1 (fun i q => cellN w b1 (o1 + i * 2 + q)) e2 n2 c2 (fun i q => cellN w b2 (o2 + i * 1 + q)) x3 x4 fun _ _ => True) (bplTAE_rrP a b c d e e1 n1 c1 (fun i q => cellN w b1 (o1 + i * 2 + q)) e2 n2 c2 (fun i q => cellN w b2 (o2 + i * 1 + q)) x3 x4 (fun _ _ => True) hI hk2 hf1 hf2 h1 hu hs k1 kf ht0))
    · by_cases k1 : askT a b c d e n1 (fun i q => cellN w b1 (o1 + i * 2 + q)) n2 (fun i q => cellN w b2 (o2 + i * 1 + q)) (-1) x4 = 0
      · by_cases kf : sel (selE (fun i q => cellN w b1 (o1 + i * 2 + q)) 0) n1 = [] ∨ List.length (sel (selE (fun i q => cellN w b1 (o1 + i * 2 + q)) 2) n1) = 2
        · exact ent_rr XL11BF_told w hI b1 o1 n1 c1 hb1 hk1 hc1 b2 o2 n2 c2 hb2 hk2 hc2 x3 hx3 x4 hx4 (fun e1 e2 => (bplBF_rrA a b c d e e1 n1 c1 (fun i q => cellN w b1 (o1 + i * 2 + q)) e2 n2 c2 (fun i q => cellN w b2 (o2 + i * 1 + q)) x3 x4)) (fun e1 e2 => cast (bplBF_rrE a b c d e e1 n1 c1 (fun i q => cellN w b1 (o1 + i * 2 + q)) e2 n2 c2 (fun i q => cellN w b2 (o2 + i * 1 + q)) x3 x4 fun _ _ => True) (bplBF_rrP a b c d e e1 n1 c1 (fun i q => cellN w b1 (o1 + i * 2 + q)) e2 n2 c2 (fun i q => cellN w b2 (o2 + i * 1 + q)) x3 x4 (fun _ _ => True) hI hk2 hf1 hf2 h1 k1 kf))
        · by_cases ht : 0 < n2
          · by_cases ki : 0 < n2 ∧ (fun i q => cellN w b1 (o1 + i * 2 + q)) ((fun i q => cellN w b2 (o2 + i * 1 + q)) (Int.toNat (((n2 : Nat) : Int) - 1)) 0).toNat 0 = 1
            · exact ent_rr XL11BIG_told w hI b1 o1 n1 c1 hb1 hk1 hc1 b2 o2 n2 c2 hb2 hk2 hc2 x3 hx3 x4 hx4 (fun e1 e2 => (bplBIG_rrA a b c d e e1 n1 c1 (fun i q => cellN w b1 (o1 + i * 2 + q)) e2 n2 c2 (fun i q => cellN w b2 (o2 + i * 1 + q)) x3 x4)) (fun e1 e2 => cast (bplBIG_rrE a b c d e e1 n1 c1 (fun i q => cellN w b1 (o1 + i * 2 + q)) e2 n2 c2 (fun i q => cellN w b2 (o2 + i * 1 + q)) x3 x4 fun _ _ => True) (bplBIG_rrP a b c d e e1 n1 c1 (fun i q => cellN w b1 (o1 + i * 2 + q)) e2 n2 c2 (fun i q => cellN w b2 (o2 + i * 1 + q)) x3 x4 (fun _ _ => True) hI hk2 hf1 hf2 h1 k1 kf ki ht))
            · exact ent_rr XL11BAG_told w hI b1 o1 n1 c1 hb1 hk1 hc1 b2 o2 n2 c2 hb2 hk2 hc2 x3 hx3 x4 hx4 (fun e1 e2 => (bplBAG_rrA a b c d e e1 n1 c1 (fun i q => cellN w b1 (o1 + i * 2 + q)) e2 n2 c2 (fun i q => cellN w b2 (o2 + i * 1 + q)) x3 x4)) (fun e1 e2 => cast (bplBAG_rrE a b c d e e1 n1 c1 (fun i q => cellN w b1 (o1 + i * 2 + q)) e2 n2 c2 (fun i q => cellN w b2 (o2 + i * 1 + q)) x3 x4 fun _ _ => True) (bplBAG_rrP a b c d e e1 n1 c1 (fun i q => cellN w b1 (o1 + i * 2 + q)) e2 n2 c2 (fun i q => cellN w b2 (o2 + i * 1 + q)) x3 x4 (fun _ _ => True) hI hk2 hf1 hf2 h1 k1 kf ht ki))
          · have ht0 : n2 = 0 := by omega
            exact ent_rr XL11BAE_told w hI b1 o1 n1 c1 hb1 hk1 hc1 b2 o2 n2 c2 hb2 hk2 hc2 x3 hx3 x4 hx4 (fun e1 e2 => (bplBAE_rrA a b c d e e1 n1 c1 (fun i q => cellN w b1 (o1 + i * 2 + q)) e2 n2 c2 (fun i q => cellN w b2 (o2 + i * 1 + q)) x3 x4)) (fun e1 e2 => cast (bplBAE_rrE a b c d e e1 n1 c1 (fun i q => cellN w b1 (o1 + i * 2 + q)) e2 n2 c2 (fun i q => cellN w b2 (o2 + i * 1 + q)) x3 x4 fun _ _ => True) (bplBAE_rrP a b c d e e1 n1 c1 (fun i q => cellN w b1 (o1 + i * 2 + q)) e2 n2 c2 (fun i q => cellN w b2 (o2 + i * 1 + q)) x3 x4 (fun _ _ => True) hI hk2 hf1 hf2 h1 k1 kf ht0))
      · exact ent_rr XL11BB_told w hI b1 o1 n1 c1 hb1 hk1 hc1 b2 o2 n2 c2 hb2 hk2 hc2 x3 hx3 x4 hx4 (fun e1 e2 => (bplBB_rrA a b c d e e1 n1 c1 (fun i q => cellN w b1 (o1 + i * 2 + q)) e2 n2 c2 (fun i q => cellN w b2 (o2 + i * 1 + q)) x3 x4)) (fun e1 e2 => cast (bplBB_rrE a b c d e e1 n1 c1 (fun i q => cellN w b1 (o1 + i * 2 + q)) e2 n2 c2 (fun i q => cellN w b2 (o2 + i * 1 + q)) x3 x4 fun _ _ => True) (bplBB_rrP a b c d e e1 n1 c1 (fun i q => cellN w b1 (o1 + i * 2 + q)) e2 n2 c2 (fun i q => cellN w b2 (o2 + i * 1 + q)) x3 x4 (fun _ _ => True) hI hk2 hf1 hf2 h1 k1))
theorem rowk1 {fs : Array Field} (h : Try.prog.underlying 54 = some (.struct fs)) : ∀ (j : Nat) (f : Field) (k : IntKind), fs[j]? = some f → ([.i64, .i64] : List IntKind)[j]? = some k → Try.prog.underlying f.type = some (.int k) := by
  rw [Try.underlying54] at h
  obtain rfl := TypeDesc.struct.inj (Option.some.inj h)
  intro j f k hf hk
  match j, hf, hk with
  | 0, hf, hk =>
    obtain rfl := Option.some.inj hf
    obtain rfl := Option.some.inj hk
    exact Try.underlying3
  | 1, hf, hk =>
    obtain rfl := Option.some.inj hf
    obtain rfl := Option.some.inj hk
    exact Try.underlying3
  | q + 2, hf, hk => simp at hk

theorem lifted (os : Os) (started : os.Started) (H : Type) (enc : TypeId × Value → H) :
    ReturnsInHanded {} Try.checked os 11 .any (Rows.bumpPlacesSpec.pre6 enc Try.prog Try.f11 Rows.bumpPlacesRow.domain false) (Rows.bumpPlacesSpec.post enc Try.prog Try.f11 false true false false) := by
  refine returnsInHanded_of_change (C := Try.checked) own started (by kernel_rfl) Try.func11
    (ChangeSpec.witness6 (enc := enc) (C := Try.checked) false ⟨#[], #[.agg #[.int .i64 0, .int .i64 0, .int .i64 0, .int .i64 0, .int .i64 0], .agg #[.slice none 0 0, .slice none 0 0, .int .i64 0], .int .i64 0], []⟩ 8 (by kernel_rfl) (by kernel_rfl) (by kernel_rfl) (by kernel_rfl)) ?_
  intro W base args ds gs before hval0 hW hcnd _
  have hval : ∀ (j : Nat) t v, Try.f11.params[j]? = some t → args[j]? = some v → Value.okWide Try.prog W .any base t v := hval0
  have hW' := hW
  obtain ⟨p, q, hA0, hV, rfl, hfz, hnd⟩ := hW
  have hA : DataW.TrodAll enc Try.prog W 0 (fun _ => true) true Try.f11.params.toList args.toList ds p := hA0
  rw [Try.params11] at hA hval
  obtain ⟨rfl, rfl⟩ := trodVars_none hV
  simp only [List.append_nil] at hW'
  obtain ⟨v0, vs0, d0, ds0, p0, q0, hv0, rfl, rfl, t0, hA0z⟩ := trodAll_cons hA
  obtain ⟨v1, vs1, d1, ds1, p1, q1, hv1, rfl, rfl, t1, hA1z⟩ := trodAll_cons hA0z
  obtain ⟨v2, vs2, d2, ds2, p2, q2, hv2, rfl, rfl, t2, hA2z⟩ := trodAll_cons hA1z
  obtain ⟨rfl, rfl, rfl⟩ := trodAll_nil hA2z
  obtain rfl : args = #[v0, v1, v2] := by
    apply Array.ext'
    rw [hv0]
    rw [hv1]
    rw [hv2]
  clear hv0 hv1 hv2
  obtain ⟨vl0, yl0, n0, rfl, hvl0, hf0⟩ := Ev.open_fields Try.underlying23 (by kernel_rfl) cells23 (hval 0 23 v0 rfl rfl) t0
  obtain ⟨u0_0, u0_1, u0_2, u0_3, u0_4, rfl⟩ : ∃ u0_0 u0_1 u0_2 u0_3 u0_4, vl0 = [u0_0, u0_1, u0_2, u0_3, u0_4] := by
    exact len5 (hvl0.trans (by kernel_rfl))
  obtain ⟨w0_0, y0_0, hw0_0, hy0_0⟩ := hf0 0 _ rfl
  obtain rfl : u0_0 = w0_0 := Option.some.inj hw0_0
  obtain ⟨x0, e0_0, -, wa0⟩ := DataW.trod_int Try.underlying3 hy0_0
  simp at e0_0
  subst e0_0
  obtain ⟨w0_1, y0_1, hw0_1, hy0_1⟩ := hf0 1 _ rfl
  obtain rfl : u0_1 = w0_1 := Option.some.inj hw0_1
  obtain ⟨x1, e0_1, -, wa1⟩ := DataW.trod_int Try.underlying3 hy0_1
  simp at e0_1
  subst e0_1
  obtain ⟨w0_2, y0_2, hw0_2, hy0_2⟩ := hf0 2 _ rfl
  obtain rfl : u0_2 = w0_2 := Option.some.inj hw0_2
  obtain ⟨x2, e0_2, -, wa2⟩ := DataW.trod_int Try.underlying3 hy0_2
  simp at e0_2
  subst e0_2
  obtain ⟨w0_3, y0_3, hw0_3, hy0_3⟩ := hf0 3 _ rfl
  obtain rfl : u0_3 = w0_3 := Option.some.inj hw0_3
  obtain ⟨x3, e0_3, -, wa3⟩ := DataW.trod_int Try.underlying3 hy0_3
  simp at e0_3
  subst e0_3
  obtain ⟨w0_4, y0_4, hw0_4, hy0_4⟩ := hf0 4 _ rfl
  obtain rfl : u0_4 = w0_4 := Option.some.inj hw0_4
  obtain ⟨x4, e0_4, -, wa4⟩ := DataW.trod_int Try.underlying3 hy0_4
  simp at e0_4
  subst e0_4
  obtain ⟨cs1, rfl, hsz1, hcw1⟩ := fields_wide Try.underlying62 ctS1 cellsS1 (hval 1 62 v1 rfl rfl)
  obtain ⟨vl1, yl1, n1z, hag1, hvl1, hf1⟩ := Ev.open_fields Try.underlying62 (by kernel_rfl) cellsS1 (hval 1 62 _ rfl rfl) t1
  obtain rfl : cs1 = ⟨vl1⟩ := by injection hag1
  obtain ⟨u1_0, u1_1, u1_2, rfl⟩ : ∃ u1_0 u1_1 u1_2, vl1 = [u1_0, u1_1, u1_2] := by
    exact lenS1 (hvl1.trans (by kernel_rfl))
  obtain ⟨w1_0, y1_0, hw1_0, hy1_0⟩ := hf1 0 _ rfl
  obtain rfl : u1_0 = w1_0 := Option.some.inj hw1_0
  have hvr1 : Value.okWide Try.prog W .any base 24 u1_0 := by
    have z := hcw1 0 _ _ rfl rfl
    simp only [Value.okWide, Try.underlying24]
    exact z
  obtain ⟨w1_1, y1_1, hw1_1, hy1_1⟩ := hf1 1 _ rfl
  obtain rfl : u1_1 = w1_1 := Option.some.inj hw1_1
  have hvr2 : Value.okWide Try.prog W .any base 32 u1_1 := by
    have z := hcw1 1 _ _ rfl rfl
    simp only [Value.okWide, Try.underlying32]
    exact z
  obtain ⟨w1_2, y1_2, hw1_2, hy1_2⟩ := hf1 2 _ rfl
  obtain rfl : u1_2 = w1_2 := Option.some.inj hw1_2
  obtain ⟨z3, e1_2, -, wz3⟩ := DataW.trod_int Try.underlying3 hy1_2
  simp at e1_2
  subst e1_2
  obtain ⟨z4, rfl, hd4, hp4, wz4⟩ := open_int Try.underlying3 (hval 2 3 v2 rfl rfl) t2
  have hvv1 := hvr1
  rcases rows_in (ks := [.i64, .i64]) Try.underlying24 Try.underlying54 (by kernel_rfl) (by kernel_rfl) (by kernel_rfl) (rowk1 Try.underlying54) hvr1 (slc_trod Try.underlying24 hvr1 hy1_0) with rfl | ⟨b1, o1, n1, c1, rfl, hb1, hn1, hc1⟩
  · have hvv2 := hvr2
    rcases ints_in (k := .i64) Try.underlying32 Try.underlying3 (by kernel_rfl) hvr2 (slc_trod Try.underlying32 hvr2 hy1_1) with rfl | ⟨b2, o2, n2, c2, rfl, hb2, hn2, hc2, hwf2⟩
    · exact (walk_nn W (InC.mk (Frm.i64wf wa0) (Frm.i64wf wa1) (Frm.i64wf wa2) (Frm.i64wf wa3) (Frm.i64wf wa4)) z3 (Frm.i64wf wz3) z4 (Frm.i64wf wz4)).mono fun e W' ⟨he, hg⟩ => (by
      subst he
      exact ⟨_, rfl, Frm.post_true (by kernel_rfl) (by kernel_rfl) rfl rfl Try.underlying4 hW' hg rfl⟩)
    · exact (walk_nr W (InC.mk (Frm.i64wf wa0) (Frm.i64wf wa1) (Frm.i64wf wa2) (Frm.i64wf wa3) (Frm.i64wf wa4)) b2 o2 n2 c2 hb2 (cap_le Try.underlying32 hvv2) hc2 z3 (Frm.i64wf wz3) z4 (Frm.i64wf wz4)).mono fun e W' ⟨he, hg⟩ => (by
      subst he
      exact ⟨_, rfl, Frm.post_true (by kernel_rfl) (by kernel_rfl) rfl rfl Try.underlying4 hW' hg rfl⟩)
  · have hvv2 := hvr2
    rcases ints_in (k := .i64) Try.underlying32 Try.underlying3 (by kernel_rfl) hvr2 (slc_trod Try.underlying32 hvr2 hy1_1) with rfl | ⟨b2, o2, n2, c2, rfl, hb2, hn2, hc2, hwf2⟩
    · exact (walk_rn W (InC.mk (Frm.i64wf wa0) (Frm.i64wf wa1) (Frm.i64wf wa2) (Frm.i64wf wa3) (Frm.i64wf wa4)) b1 o1 n1 c1 hb1 (cap_le Try.underlying24 hvv1) hc1 z3 (Frm.i64wf wz3) z4 (Frm.i64wf wz4)).mono fun e W' ⟨he, hg⟩ => (by
      subst he
      exact ⟨_, rfl, Frm.post_true (by kernel_rfl) (by kernel_rfl) rfl rfl Try.underlying4 hW' hg rfl⟩)
    · exact (walk_rr W (InC.mk (Frm.i64wf wa0) (Frm.i64wf wa1) (Frm.i64wf wa2) (Frm.i64wf wa3) (Frm.i64wf wa4)) b1 o1 n1 c1 hb1 (cap_le Try.underlying24 hvv1) hc1 b2 o2 n2 c2 hb2 (cap_le Try.underlying32 hvv2) hc2 z3 (Frm.i64wf wz3) z4 (Frm.i64wf wz4)).mono fun e W' ⟨he, hg⟩ => (by
      subst he
      exact ⟨_, rfl, Frm.post_true (by kernel_rfl) (by kernel_rfl) rfl rfl Try.underlying4 hW' hg rfl⟩)

theorem over : Rows.bumpPlacesRow.holds Try.pinned (OpenSpec.ofChange Rows.bumpPlacesSpec) :=
  OpenClaim.holds_of_wide 11 Try.f11 rfl rfl rfl rfl rfl rfl rfl ⟨rfl, rfl, rfl, rfl, rfl⟩ rfl rfl rfl rfl rfl (by kernel_rfl) Try.func11 (by kernel_rfl)
    (of_decide_eq_true (by kernel_rfl)) (by unfold Func.isWrapper; first | (rw [if_pos (by decide +kernel)]; kernel_rfl) | (rw [if_neg (by decide +kernel)]; exact ⟨rfl, rfl⟩))
    (fun os started H enc _ => lifted os started H enc)

theorem proved : Rows.BumpPlacesSaid := over
#print axioms proved
end Go.Proofs.Ytkflmglpniebfaa.bumpPlaces
