/-
  'AdmitSums': what a run admits is at most what is left, and the slack; a run in two parts is a run at once. No project text.
-/
import Derived.Test.YtnpgeeajlbglaaaSumsB
import Derived.Test.YtnpgeeajlbglaaaFrm
import Derived.Test.YtnpgeeajlbglaaaRows
import Derived.Test.YtnpgeeajlbglaaaSy
import Derived.Test.YtnpgeeajlbglaaaArr
namespace Go.Proofs.Ytnpgeeajlbglaaa.admitSums
open Go.Rx Go.Proofs.Ytnpgeeajlbglaaa.Fr
open Go.ChangeShapes Go.WideShapes Go.ChangeAt Go.RowKit
set_option linter.unusedVariables false
theorem own : ownKnob Try.prog.godebug = none := by kernel_rfl
theorem len5 {l : List Value} (h : l.length = 5) : ∃ a0 a1 a2 a3 a4, l = [a0, a1, a2, a3, a4] := by
  match l, h with
  | [a0, a1, a2, a3, a4], _ => exact ⟨a0, a1, a2, a3, a4, rfl⟩
theorem cells23 : Try.prog.cellsOf 54 = 5 := by kernel_rfl
theorem lenS1 {l : List Value} (h : l.length = 2) : ∃ a0 a1, l = [a0, a1] := by
  match l, h with
  | [a0, a1], _ => exact ⟨a0, a1, rfl⟩
theorem cellsS1 : Try.prog.cellsOf 56 = 2 := by kernel_rfl
theorem ctS1 : Try.prog.cellTypes Try.prog.depth 56 = some [3, 3] := by kernel_rfl
theorem cap_le {P : Program} {w : World} {r : Reach} {b0 : Nat} {t e : TypeId} {b o n c : Nat} (ht : P.underlying t = some (.slice e)) (hv : Value.okWide P w r b0 t (.slice (some ⟨b, o, none⟩) n c)) : n ≤ c := by
  rcases slice_in ht hv with h | ⟨b', o', n', c', h, -, h2, -⟩
  · cases h
  · injection h with q1 q2 q3
    omega
theorem fields_wide {P : Program} {w : World} {r : Reach} {b0 : Nat} {t : TypeId} {fs : Array Field} {v : Value} {ts : List TypeId} (ht : P.underlying t = some (.struct fs)) (hts : P.cellTypes P.depth t = some ts) (hc : P.cellsOf t = ts.length) (hv : Value.okWide P w r b0 t v) :
    ∃ cs, v = .agg cs ∧ cs.size = ts.length ∧ ∀ (i : Nat) u e, cs[i]? = some u → ts[i]? = some e → Cell.okWide P w r b0 e u := by
  simp only [Value.okWide, ht] at hv
  obtain ⟨cs, h1, h2, ts', h3, -, h4⟩ := hv
  rw [hts] at h3
  obtain rfl := Option.some.inj h3
  refine ⟨cs, h1, h2.trans hc, fun i u e hu he => ?_⟩
  obtain ⟨e', k1, k2⟩ := h4 i u hu
  have hi : i < ts.length := (List.getElem?_eq_some_iff.1 he).1
  rw [Nat.mod_eq_of_lt hi, he] at k1
  obtain rfl := Option.some.inj k1
  exact k2
theorem walk_n_A (w : World) {a b c d e : Int} (hI : InC a b c d e) (x1 : Int) (hx1 : In64 x1) (x2 : Int) (hx2 : In64 x2) (hf : 60 < 0) : Calls Try.prog 11 #[.agg #[.int .i64 a, .int .i64 b, .int .i64 c, .int .i64 d, .int .i64 e], .agg #[.int .i64 x1, .int .i64 x2], .slice none 0 0] w fun e w' => e = .returned (.bool true) ∧ Below w.heap.size w w' := by
  refine law_ok (E := mk XL11A) (mkOk XL11A_told) (n := 4) (I := noI) (A := (lsumA_nA a b c d e  x1 x2)) (f := 11) (fn := Try.f11) (by kernel_rfl) («as» := [five' a b c d e, .agg ⟨[.int .i64 x1, .int .i64 x2]⟩, .slice none 0 0]) (bs := []) (args' := #[.agg #[.int .i64 a, .int .i64 b, .int .i64 c, .int .i64 d, .int .i64 e], .agg #[.int .i64 x1, .int .i64 x2], .slice none 0 0]) [] rfl (fun j o x h => by simp at h) (.cons (groundT_refl rfl) (.cons (have z : LR (fun b => ([] : List Rx.Loc)[b]?) [.int .i64 x1, .int .i64 x2] [.int .i64 x1, .int .i64 x2] := (LR.cons (groundT_refl rfl) (LR.cons (groundT_refl rfl) LR.nil))
    VR.agg z.1 z.2) (.cons (.slN 0 0) .nil))) ?_
  exact cast (lsumA_nE a b c d e  x1 x2 fun _ _ => True) (lsumA_nP a b c d e  x1 x2 (fun _ _ => True) hI hf)
theorem walk_n_B (w : World) {a b c d e : Int} (hI : InC a b c d e) (x1 : Int) (hx1 : In64 x1) (x2 : Int) (hx2 : In64 x2) (hf1 : 0 ≤ 60) (h1 : ¬ ste a b c d e x1 x2 = 0) : Calls Try.prog 11 #[.agg #[.int .i64 a, .int .i64 b, .int .i64 c, .int .i64 d, .int .i64 e], .agg #[.int .i64 x1, .int .i64 x2], .slice none 0 0] w fun e w' => e = .returned (.bool true) ∧ Below w.heap.size w w' := by
  refine law_ok (E := mk XL11B) (mkOk XL11B_told) (n := 4) (I := noI) (A := (lsumB_nA a b c d e  x1 x2)) (f := 11) (fn := Try.f11) (by kernel_rfl) («as» := [five' a b c d e, .agg ⟨[.int .i64 x1, .int .i64 x2]⟩, .slice none 0 0]) (bs := []) (args' := #[.agg #[.int .i64 a, .int .i64 b, .int .i64 c, .int .i64 d, .int .i64 e], .agg #[.int .i64 x1, .int .i64 x2], .slice none 0 0]) [] rfl (fun j o x h => by simp at h) (.cons (groundT_refl rfl) (.cons (have z : LR (fun b => ([] : List Rx.Loc)[b]?) [.int .i64 x1, .int .i64 x2] [.int .i64 x1, .int .i64 x2] := (LR.cons (groundT_refl rfl) (LR.cons (groundT_refl rfl) LR.nil))
    VR.agg z.1 z.2) (.cons (.slN 0 0) .nil))) ?_
  exact cast (lsumB_nE a b c d e  x1 x2 fun _ _ => True) (lsumB_nP a b c d e  x1 x2 (fun _ _ => True) hI hf1 h1)
theorem walk_n_G (w : World) {a b c d e : Int} (hI : InC a b c d e) (x1 : Int) (hx1 : In64 x1) (x2 : Int) (hx2 : In64 x2) (hf1 : 0 ≤ 60) (h1 : ste a b c d e x1 x2 = 0) : Calls Try.prog 11 #[.agg #[.int .i64 a, .int .i64 b, .int .i64 c, .int .i64 d, .int .i64 e], .agg #[.int .i64 x1, .int .i64 x2], .slice none 0 0] w fun e w' => e = .returned (.bool true) ∧ Below w.heap.size w w' := by
  refine law_ok (E := mk XL11G) (mkOk XL11G_told) (n := 4) (I := noI) (A := (lsumG_nA a b c d e  x1 x2)) (f := 11) (fn := Try.f11) (by kernel_rfl) («as» := [five' a b c d e, .agg ⟨[.int .i64 x1, .int .i64 x2]⟩, .slice none 0 0]) (bs := []) (args' := #[.agg #[.int .i64 a, .int .i64 b, .int .i64 c, .int .i64 d, .int .i64 e], .agg #[.int .i64 x1, .int .i64 x2], .slice none 0 0]) [] rfl (fun j o x h => by simp at h) (.cons (groundT_refl rfl) (.cons (have z : LR (fun b => ([] : List Rx.Loc)[b]?) [.int .i64 x1, .int .i64 x2] [.int .i64 x1, .int .i64 x2] := (LR.cons (groundT_refl rfl) (LR.cons (groundT_refl rfl) LR.nil))
    VR.agg z.1 z.2) (.cons (.slN 0 0) .nil))) ?_
  exact cast (lsumG_nE a b c d e  x1 x2 fun _ _ => True) (lsumG_nP a b c d e  x1 x2 (fun _ _ => True) hI hf1 h1)
theorem walk_n (w : World) {a b c d e : Int} (hI : InC a b c d e) (x1 : Int) (hx1 : In64 x1) (x2 : Int) (hx2 : In64 x2) : Calls Try.prog 11 #[.agg #[.int .i64 a, .int .i64 b, .int .i64 c, .int .i64 d, .int .i64 e], .agg #[.int .i64 x1, .int .i64 x2], .slice none 0 0] w fun e w' => e = .returned (.bool true) ∧ Below w.heap.size w w' := by
  by_cases hf : 60 < 0
  · exact walk_n_A w hI x1 hx1 x2 hx2 hf
  · have hf1 : 0 ≤ 60 := by omega
    by_cases h1 : ste a b c d e x1 x2 = 0
    · exact walk_n_G w hI x1 hx1 x2 hx2 hf1 h1
    · exact walk_n_B w hI x1 hx1 x2 hx2 hf1 h1
theorem walk_r_A (w : World) {a b c d e : Int} (hI : InC a b c d e) (x1 : Int) (hx1 : In64 x1) (x2 : Int) (hx2 : In64 x2) (b3 o3 n3 c3 : Nat) (hb3 : b3 < w.heap.size) (hk3 : n3 ≤ c3) (hc3 : ∀ (i j : Nat) k, i < n3 → ([.i64] : List IntKind)[j]? = some k → w.cell? ⟨b3, o3 + i * 1 + j, none⟩ = some (.int k (cellN w b3 (o3 + i * 1 + j)))) (hf : 60 < n3) : Calls Try.prog 11 #[.agg #[.int .i64 a, .int .i64 b, .int .i64 c, .int .i64 d, .int .i64 e], .agg #[.int .i64 x1, .int .i64 x2], .slice (some ⟨b3, o3, none⟩) n3 c3] w fun e w' => e = .returned (.bool true) ∧ Below w.heap.size w w' := by
  obtain ⟨e3, hbr3⟩ := row_of_cells (w := w) (S := fun _ => none) (ks := [.i64]) (b := b3) (o := o3) (n := n3) (c := c3) (f := fun i q => cellN w b3 (o3 + i * 1 + q)) (by decide) hc3
  refine law_ok (E := mk XL11A) (mkOk XL11A_told) (n := 4) (I := noI) (A := (lsumA_rA a b c d e e3 n3 c3 (fun i q => cellN w b3 (o3 + i * 1 + q)) x1 x2)) (f := 11) (fn := Try.f11) (by kernel_rfl) («as» := [five' a b c d e, .agg ⟨[.int .i64 x1, .int .i64 x2]⟩, rsl 0 0 n3 c3]) (bs := [.row true [.i64] e3 n3 c3 fun i q => cellN w b3 (o3 + i * 1 + q)]) (args' := #[.agg #[.int .i64 a, .int .i64 b, .int .i64 c, .int .i64 d, .int .i64 e], .agg #[.int .i64 x1, .int .i64 x2], .slice (some ⟨b3, o3, none⟩) n3 c3]) [⟨b3, o3, 1⟩] rfl (fun j o x h h' => by
      rcases j with _ | j
      · obtain rfl := Option.some.inj h
        obtain rfl := Option.some.inj h'
        exact ⟨rfl, hbr3, hb3⟩
      · simp at h) (.cons (groundT_refl rfl) (.cons (have z : LR (fun b => ([⟨b3, o3, 1⟩] : List Rx.Loc)[b]?) [.int .i64 x1, .int .i64 x2] [.int .i64 x1, .int .i64 x2] := (LR.cons (groundT_refl rfl) (LR.cons (groundT_refl rfl) LR.nil))
    VR.agg z.1 z.2) (.cons (by have q := VR.rsl (S := fun b => ([⟨b3, o3, 1⟩] : List Rx.Loc)[b]?) (b := 0) 0 n3 c3 rfl; simpa [rsl] using q) .nil))) ?_
  exact cast (lsumA_rE a b c d e e3 n3 c3 (fun i q => cellN w b3 (o3 + i * 1 + q)) x1 x2 fun _ _ => True) (lsumA_rP a b c d e e3 n3 c3 (fun i q => cellN w b3 (o3 + i * 1 + q)) x1 x2 (fun _ _ => True) hI hk3 hf)
theorem walk_r_B (w : World) {a b c d e : Int} (hI : InC a b c d e) (x1 : Int) (hx1 : In64 x1) (x2 : Int) (hx2 : In64 x2) (b3 o3 n3 c3 : Nat) (hb3 : b3 < w.heap.size) (hk3 : n3 ≤ c3) (hc3 : ∀ (i j : Nat) k, i < n3 → ([.i64] : List IntKind)[j]? = some k → w.cell? ⟨b3, o3 + i * 1 + j, none⟩ = some (.int k (cellN w b3 (o3 + i * 1 + j)))) (hf1 : n3 ≤ 60) (h1 : ¬ ste a b c d e x1 x2 = 0) : Calls Try.prog 11 #[.agg #[.int .i64 a, .int .i64 b, .int .i64 c, .int .i64 d, .int .i64 e], .agg #[.int .i64 x1, .int .i64 x2], .slice (some ⟨b3, o3, none⟩) n3 c3] w fun e w' => e = .returned (.bool true) ∧ Below w.heap.size w w' := by
  obtain ⟨e3, hbr3⟩ := row_of_cells (w := w) (S := fun _ => none) (ks := [.i64]) (b := b3) (o := o3) (n := n3) (c := c3) (f := fun i q => cellN w b3 (o3 + i * 1 + q)) (by decide) hc3
  refine law_ok (E := mk XL11B) (mkOk XL11B_told) (n := 4) (I := noI) (A := (lsumB_rA a b c d e e3 n3 c3 (fun i q => cellN w b3 (o3 + i * 1 + q)) x1 x2)) (f := 11) (fn := Try.f11) (by kernel_rfl) («as» := [five' a b c d e, .agg ⟨[.int .i64 x1, .int .i64 x2]⟩, rsl 0 0 n3 c3]) (bs := [.row true [.i64] e3 n3 c3 fun i q => cellN w b3 (o3 + i * 1 + q)]) (args' := #[.agg #[.int .i64 a, .int .i64 b, .int .i64 c, .int .i64 d, .int .i64 e], .agg #[.int .i64 x1, .int .i64 x2], .slice (some ⟨b3, o3, none⟩) n3 c3]) [⟨b3, o3, 1⟩] rfl (fun j o x h h' => by
      rcases j with _ | j
      · obtain rfl := Option.some.inj h
        obtain rfl := Option.some.inj h'
        exact ⟨rfl, hbr3, hb3⟩
      · simp at h) (.cons (groundT_refl rfl) (.cons (have z : LR (fun b => ([⟨b3, o3, 1⟩] : List Rx.Loc)[b]?) [.int .i64 x1, .int .i64 x2] [.int .i64 x1, .int .i64 x2] := (LR.cons (groundT_refl rfl) (LR.cons (groundT_refl rfl) LR.nil))
    VR.agg z.1 z.2) (.cons (by have q := VR.rsl (S := fun b => ([⟨b3, o3, 1⟩] : List Rx.Loc)[b]?) (b := 0) 0 n3 c3 rfl; simpa [rsl] using q) .nil))) ?_
  exact cast (lsumB_rE a b c d e e3 n3 c3 (fun i q => cellN w b3 (o3 + i * 1 + q)) x1 x2 fun _ _ => True) (lsumB_rP a b c d e e3 n3 c3 (fun i q => cellN w b3 (o3 + i * 1 + q)) x1 x2 (fun _ _ => True) hI hk3 hf1 h1)
theorem walk_r_G (w : World) {a b c d e : Int} (hI : InC a b c d e) (x1 : Int) (hx1 : In64 x1) (x2 : Int) (hx2 : In64 x2) (b3 o3 n3 c3 : Nat) (hb3 : b3 < w.heap.size) (hk3 : n3 ≤ c3) (hc3 : ∀ (i j : Nat) k, i < n3 → ([.i64] : List IntKind)[j]? = some k → w.cell? ⟨b3, o3 + i * 1 + j, none⟩ = some (.int k (cellN w b3 (o3 + i * 1 + j)))) (hf1 : n3 ≤ 60) (h1 : ste a b c d e x1 x2 = 0) : Calls Try.prog 11 #[.agg #[.int .i64 a, .int .i64 b, .int .i64 c, .int .i64 d, .int .i64 e], .agg #[.int .i64 x1, .int .i64 x2], .slice (some ⟨b3, o3, none⟩) n3 c3] w fun e w' => e = .returned (.bool true) ∧ Below w.heap.size w w' := by
  obtain ⟨e3, hbr3⟩ := row_of_cells (w := w) (S := fun _ => none) (ks := [.i64]) (b := b3) (o := o3) (n := n3) (c := c3) (f := fun i q => cellN w b3 (o3 + i * 1 + q)) (by decide) hc3
  refine law_ok (E := mk XL11G) (mkOk XL11G_told) (n := 4) (I := noI) (A := (lsumG_rA a b c d e e3 n3 c3 (fun i q => cellN w b3 (o3 + i * 1 + q)) x1 x2)) (f := 11) (fn := Try.f11) (by kernel_rfl) («as» := [five' a b c d e, .agg ⟨[.int .i64 x1, .int .i64 x2]⟩, rsl 0 0 n3 c3]) (bs := [.row true [.i64] e3 n3 c3 fun i q => cellN w b3 (o3 + i * 1 + q)]) (args' := #[.agg #[.int .i64 a, .int .i64 b, .int .i64 c, .int .i64 d, .int .i64 e], .agg #[.int .i64 x1, .int .i64 x2], .slice (some ⟨b3, o3, none⟩) n3 c3]) [⟨b3, o3, 1⟩] rfl (fun j o x h h' => by
      rcases j with _ | j
      · obtain rfl := Option.some.inj h
        obtain rfl := Option.some.inj h'
        exact ⟨rfl, hbr3, hb3⟩
      · simp at h) (.cons (groundT_refl rfl) (.cons (have z : LR (fun b => ([⟨b3, o3, 1⟩] : List Rx.Loc)[b]?) [.int .i64 x1, .int .i64 x2] [.int .i64 x1, .int .i64 x2] := (LR.cons (groundT_refl rfl) (LR.cons (groundT_refl rfl) LR.nil))
    VR.agg z.1 z.2) (.cons (by have q := VR.rsl (S := fun b => ([⟨b3, o3, 1⟩] : List Rx.Loc)[b]?) (b := 0) 0 n3 c3 rfl; simpa [rsl] using q) .nil))) ?_
  exact cast (lsumG_rE a b c d e e3 n3 c3 (fun i q => cellN w b3 (o3 + i * 1 + q)) x1 x2 fun _ _ => True) (lsumG_rP a b c d e e3 n3 c3 (fun i q => cellN w b3 (o3 + i * 1 + q)) x1 x2 (fun _ _ => True) hI hk3 hf1 h1)
theorem walk_r (w : World) {a b c d e : Int} (hI : InC a b c d e) (x1 : Int) (hx1 : In64 x1) (x2 : Int) (hx2 : In64 x2) (b3 o3 n3 c3 : Nat) (hb3 : b3 < w.heap.size) (hk3 : n3 ≤ c3) (hc3 : ∀ (i j : Nat) k, i < n3 → ([.i64] : List IntKind)[j]? = some k → w.cell? ⟨b3, o3 + i * 1 + j, none⟩ = some (.int k (cellN w b3 (o3 + i * 1 + j)))) : Calls Try.prog 11 #[.agg #[.int .i64 a, .int .i64 b, .int .i64 c, .int .i64 d, .int .i64 e], .agg #[.int .i64 x1, .int .i64 x2], .slice (some ⟨b3, o3, none⟩) n3 c3] w fun e w' => e = .returned (.bool true) ∧ Below w.heap.size w w' := by
  by_cases hf : 60 < n3
  · exact walk_r_A w hI x1 hx1 x2 hx2 b3 o3 n3 c3 hb3 hk3 hc3 hf
  · have hf1 : n3 ≤ 60 := by omega
    by_cases h1 : ste a b c d e x1 x2 = 0
    · exact walk_r_G w hI x1 hx1 x2 hx2 b3 o3 n3 c3 hb3 hk3 hc3 hf1 h1
    · exact walk_r_B w hI x1 hx1 x2 hx2 b3 o3 n3 c3 hb3 hk3 hc3 hf1 h1

set_option maxRecDepth 100000 in
set_option maxHeartbeats 4000000 in
theorem lifted (os : Os) (started : os.Started) (H : Type) (enc : TypeId × Value → H) :
    ReturnsInHanded {} Try.checked os 11 .any (Rows.admitSumsSpec.pre6 enc Try.prog Try.f11 Rows.admitSumsRow.domain false) (Rows.admitSumsSpec.post enc Try.prog Try.f11 false true false false) := by
  refine returnsInHanded_of_change (C := Try.checked) own started (by kernel_rfl) Try.func11
    (ChangeSpec.witness6 (enc := enc) (C := Try.checked) false ⟨#[], #[.agg #[.int .i64 0, .int .i64 0, .int .i64 0, .int .i64 0, .int .i64 0], .agg #[.int .i64 0, .int .i64 0], .slice none 0 0], []⟩ 8 (by kernel_rfl) (by kernel_rfl) (by kernel_rfl) (by kernel_rfl)) ?_
  intro W base args ds gs before hval0 hW hcnd _
  have hval : ∀ (j : Nat) t v, Try.f11.params[j]? = some t → args[j]? = some v → Value.okWide Try.prog W .any base t v := hval0
  have hW' := hW
  obtain ⟨p, q, hA0, hV, rfl, hfz, hnd⟩ := hW
  have hA : DataW.TrodAll enc Try.prog W 0 (fun _ => true) true Try.f11.params.toList args.toList ds p := hA0
  rw [Try.params11] at hA hval
  obtain ⟨rfl, rfl⟩ := trodVars_none hV
  simp only [List.append_nil] at hW'
  obtain ⟨v0, vs0, d0, ds0, p0, q0, hv0, rfl, rfl, t0, hA0z⟩ := trodAll_cons hA
  obtain ⟨v1, vs1, d1, ds1, p1, q1, hv1, rfl, rfl, t1, hA1z⟩ := trodAll_cons hA0z
  obtain ⟨v2, vs2, d2, ds2, p2, q2, hv2, rfl, rfl, t2, hA2z⟩ := trodAll_cons hA1z
  obtain ⟨rfl, rfl, rfl⟩ := trodAll_nil hA2z
  obtain rfl : args = #[v0, v1, v2] := by
    apply Array.ext'
    rw [hv0]
    rw [hv1]
    rw [hv2]
  clear hv0 hv1 hv2
  obtain ⟨vl0, yl0, n0, rfl, hvl0, hf0⟩ := Ev.open_fields Try.underlying54 (by kernel_rfl) cells23 (hval 0 54 v0 rfl rfl) t0
  obtain ⟨u0_0, u0_1, u0_2, u0_3, u0_4, rfl⟩ : ∃ u0_0 u0_1 u0_2 u0_3 u0_4, vl0 = [u0_0, u0_1, u0_2, u0_3, u0_4] := by
    exact len5 (hvl0.trans (by kernel_rfl))
  obtain ⟨w0_0, y0_0, hw0_0, hy0_0⟩ := hf0 0 _ rfl
  obtain rfl : u0_0 = w0_0 := Option.some.inj hw0_0
  obtain ⟨x0, e0_0, -, wa0⟩ := DataW.trod_int Try.underlying3 hy0_0
  simp at e0_0
  subst e0_0
  obtain ⟨w0_1, y0_1, hw0_1, hy0_1⟩ := hf0 1 _ rfl
  obtain rfl : u0_1 = w0_1 := Option.some.inj hw0_1
  obtain ⟨x1, e0_1, -, wa1⟩ := DataW.trod_int Try.underlying3 hy0_1
  simp at e0_1
  subst e0_1
  obtain ⟨w0_2, y0_2, hw0_2, hy0_2⟩ := hf0 2 _ rfl
  obtain rfl : u0_2 = w0_2 := Option.some.inj hw0_2
  obtain ⟨x2, e0_2, -, wa2⟩ := DataW.trod_int Try.underlying3 hy0_2
  simp at e0_2
  subst e0_2
  obtain ⟨w0_3, y0_3, hw0_3, hy0_3⟩ := hf0 3 _ rfl
  obtain rfl : u0_3 = w0_3 := Option.some.inj hw0_3
  obtain ⟨x3, e0_3, -, wa3⟩ := DataW.trod_int Try.underlying3 hy0_3
  simp at e0_3
  subst e0_3
  obtain ⟨w0_4, y0_4, hw0_4, hy0_4⟩ := hf0 4 _ rfl
  obtain rfl : u0_4 = w0_4 := Option.some.inj hw0_4
  obtain ⟨x4, e0_4, -, wa4⟩ := DataW.trod_int Try.underlying3 hy0_4
  simp at e0_4
  subst e0_4
  obtain ⟨cs1, rfl, hsz1, hcw1⟩ := fields_wide Try.underlying56 ctS1 cellsS1 (hval 1 56 v1 rfl rfl)
  obtain ⟨vl1, yl1, n1z, hag1, hvl1, hf1⟩ := Ev.open_fields Try.underlying56 (by kernel_rfl) cellsS1 (hval 1 56 _ rfl rfl) t1
  obtain rfl : cs1 = ⟨vl1⟩ := by injection hag1
  obtain ⟨u1_0, u1_1, rfl⟩ : ∃ u1_0 u1_1, vl1 = [u1_0, u1_1] := by
    exact lenS1 (hvl1.trans (by kernel_rfl))
  obtain ⟨w1_0, y1_0, hw1_0, hy1_0⟩ := hf1 0 _ rfl
  obtain rfl : u1_0 = w1_0 := Option.some.inj hw1_0
  obtain ⟨z1, e1_0, -, wz1⟩ := DataW.trod_int Try.underlying3 hy1_0
  simp at e1_0
  subst e1_0
  obtain ⟨w1_1, y1_1, hw1_1, hy1_1⟩ := hf1 1 _ rfl
  obtain rfl : u1_1 = w1_1 := Option.some.inj hw1_1
  obtain ⟨z2, e1_1, -, wz2⟩ := DataW.trod_int Try.underlying3 hy1_1
  simp at e1_1
  subst e1_1
  have hvv3 := (hval 2 32 v2 rfl rfl)
  rcases ints_in (k := .i64) Try.underlying32 Try.underlying3 (by kernel_rfl) (hval 2 32 v2 rfl rfl) t2 with rfl | ⟨b3, o3, n3, c3, rfl, hb3, hn3, hc3, hwf3⟩
  · exact (walk_n W (InC.mk (Frm.i64wf wa0) (Frm.i64wf wa1) (Frm.i64wf wa2) (Frm.i64wf wa3) (Frm.i64wf wa4)) z1 (Frm.i64wf wz1) z2 (Frm.i64wf wz2)).mono fun e W' ⟨he, hg⟩ => (by
      subst he
      exact ⟨_, rfl, Frm.post_true (by kernel_rfl) (by kernel_rfl) rfl rfl Try.underlying4 hW' hg rfl⟩)
  · exact (walk_r W (InC.mk (Frm.i64wf wa0) (Frm.i64wf wa1) (Frm.i64wf wa2) (Frm.i64wf wa3) (Frm.i64wf wa4)) z1 (Frm.i64wf wz1) z2 (Frm.i64wf wz2) b3 o3 n3 c3 hb3 (cap_le Try.underlying32 hvv3) hc3).mono fun e W' ⟨he, hg⟩ => (by
      subst he
      exact ⟨_, rfl, Frm.post_true (by kernel_rfl) (by kernel_rfl) rfl rfl Try.underlying4 hW' hg rfl⟩)

theorem over : Rows.admitSumsRow.holds Try.pinned (OpenSpec.ofChange Rows.admitSumsSpec) :=
  OpenClaim.holds_of_wide 11 Try.f11 rfl rfl rfl rfl rfl rfl rfl ⟨rfl, rfl, rfl, rfl, rfl⟩ rfl rfl rfl rfl rfl (by kernel_rfl) Try.func11 (by kernel_rfl)
    (of_decide_eq_true (by kernel_rfl)) (by unfold Func.isWrapper; first | (rw [if_pos (by decide +kernel)]; kernel_rfl) | (rw [if_neg (by decide +kernel)]; exact ⟨rfl, rfl⟩))
    (fun os started H enc _ => lifted os started H enc)

theorem proved : Rows.AdmitSumsSaid := over
#print axioms proved
end Go.Proofs.Ytnpgeeajlbglaaa.admitSums
