/-
  'ObjectsSets': a pointer field, a raw field is set as the reference says. No project text.
-/
import Derived.Test.YtfgeoglegebncaaZ5
import Derived.Test.YtfgeoglegebncaaZ7
import Derived.Test.YtfgeoglegebncaaRows
import Derived.Test.YtfgeoglegebncaaZ4
namespace Go.Proofs.Ytfgeoglegebncaa.objectsSets
set_option maxRecDepth 100000
set_option maxHeartbeats 4000000
open Go.Rx Go.Proofs.Ytfgeoglegebncaa.Fr
open Go.ChangeShapes Go.WideShapes Go.ChangeAt Go.RowKit
set_option linter.unusedVariables false
theorem own : ownKnob Try.prog.godebug = none := by kernel_rfl
theorem lenS1 {l : List Value} (h : l.length = 4) : ∃ a0 a1 a2 a3, l = [a0, a1, a2, a3] := by
  match l, h with
  | [a0, a1, a2, a3], _ => exact ⟨a0, a1, a2, a3, rfl⟩
theorem cellsS1 : Try.prog.cellsOf 74 = 4 := by kernel_rfl
theorem ctS1 : Try.prog.cellTypes Try.prog.depth 74 = some [3, 3, 3, 25] := by kernel_rfl
theorem cap_le {P : Program} {w : World} {r : Reach} {b0 : Nat} {t e : TypeId} {b o n c : Nat} (ht : P.underlying t = some (.slice e)) (hv : Value.okWide P w r b0 t (.slice (some ⟨b, o, none⟩) n c)) : n ≤ c := by
  rcases slice_in ht hv with h | ⟨b', o', n', c', h, -, h2, -⟩
  · cases h
  · injection h with q1 q2 q3
    omega
theorem fields_wide {P : Program} {w : World} {r : Reach} {b0 : Nat} {t : TypeId} {fs : Array Field} {v : Value} {ts : List TypeId} (ht : P.underlying t = some (.struct fs)) (hts : P.cellTypes P.depth t = some ts) (hc : P.cellsOf t = ts.length) (hv : Value.okWide P w r b0 t v) :
    ∃ cs, v = .agg cs ∧ cs.size = ts.length ∧ ∀ (i : Nat) u e, cs[i]? = some u → ts[i]? = some e → Cell.okWide P w r b0 e u := by
  simp only [Value.okWide, ht] at hv
  obtain ⟨cs, h1, h2, ts', h3, -, h4⟩ := hv
  rw [hts] at h3
  obtain rfl := Option.some.inj h3
  refine ⟨cs, h1, h2.trans hc, fun i u e hu he => ?_⟩
  obtain ⟨e', k1, k2⟩ := h4 i u hu
  have hi : i < ts.length := (List.getElem?_eq_some_iff.1 he).1
  rw [Nat.mod_eq_of_lt hi, he] at k1
  obtain rfl := Option.some.inj k1
  exact k2
theorem ent_n {X : List (Nat × Rx.Spec)} (hX : ∀ p ∈ X, Fr.Told p.1 p.2) (w : World) (x1 : Int) (hx1 : In64 x1) (x2 : Int) (hx2 : In64 x2) (x3 : Int) (hx3 : In64 x3) (x4 : Int) (hx4 : 0 ≤ x4 ∧ x4 ≤ 18446744073709551615) (A : Ann) (h : bodyX (mk X) (callI (mk X) noI 6) A Try.f11 [.slice none 0 0, .agg ⟨[.int .i64 x1, .int .i64 x2, .int .i64 x3, .int .u64 x4]⟩] (stOf []) fun v _ => v = .bool true) : Calls Try.prog 11 #[.slice none 0 0, .agg #[.int .i64 x1, .int .i64 x2, .int .i64 x3, .int .u64 x4]] w fun e w' => e = .returned (.bool true) ∧ Below w.heap.size w w' := by
  refine law_ok (E := mk X) (mkOk hX) (n := 6) (I := noI) (A := A) (f := 11) (fn := Try.f11) (by kernel_rfl) («as» := [.slice none 0 0, .agg ⟨[.int .i64 x1, .int .i64 x2, .int .i64 x3, .int .u64 x4]⟩]) (bs := []) (args' := #[.slice none 0 0, .agg #[.int .i64 x1, .int .i64 x2, .int .i64 x3, .int .u64 x4]]) [] rfl (fun j o x h => by simp at h) (.cons (.slN 0 0) (.cons (have z : LR (fun b => ([] : List Rx.Loc)[b]?) [.int .i64 x1, .int .i64 x2, .int .i64 x3, .int .u64 x4] [.int .i64 x1, .int .i64 x2, .int .i64 x3, .int .u64 x4] := (LR.cons (groundT_refl rfl) (LR.cons (groundT_refl rfl) (LR.cons (groundT_refl rfl) (LR.cons (groundT_refl rfl) LR.nil))))
    VR.agg z.1 z.2) .nil)) ?_
  exact h
theorem walk_n (w : World) (x1 : Int) (hx1 : In64 x1) (x2 : Int) (hx2 : In64 x2) (x3 : Int) (hx3 : In64 x3) (x4 : Int) (hx4 : 0 ≤ x4 ∧ x4 ≤ 18446744073709551615) : Calls Try.prog 11 #[.slice none 0 0, .agg #[.int .i64 x1, .int .i64 x2, .int .i64 x3, .int .u64 x4]] w fun e w' => e = .returned (.bool true) ∧ Below w.heap.size w w' := by
  by_cases h1 : Fr.spE 0 zF x1 x2 x3 = 0
  · by_cases h2 : Fr.rwE 0 zF x1 x2 = 0
    · exact ent_n X11GG_told w x1 hx1 x2 hx2 x3 hx3 x4 hx4 ((lsetGG_nA  x1 x2 x3 x4)) (cast (lsetGG_nE  x1 x2 x3 x4 fun _ _ => True) (lsetGG_nP  x1 x2 x3 x4 (fun _ _ => True) Ok64.nil h1 h2))
    · exact ent_n X11GB_told w x1 hx1 x2 hx2 x3 hx3 x4 hx4 ((lsetGB_nA  x1 x2 x3 x4)) (cast (lsetGB_nE  x1 x2 x3 x4 fun _ _ => True) (lsetGB_nP  x1 x2 x3 x4 (fun _ _ => True) Ok64.nil h1 h2))
  · by_cases h2 : Fr.rwE 0 zF x1 x2 = 0
    · exact ent_n X11BG_told w x1 hx1 x2 hx2 x3 hx3 x4 hx4 ((lsetBG_nA  x1 x2 x3 x4)) (cast (lsetBG_nE  x1 x2 x3 x4 fun _ _ => True) (lsetBG_nP  x1 x2 x3 x4 (fun _ _ => True) Ok64.nil h1 h2))
    · exact ent_n X11BB_told w x1 hx1 x2 hx2 x3 hx3 x4 hx4 ((lsetBB_nA  x1 x2 x3 x4)) (cast (lsetBB_nE  x1 x2 x3 x4 fun _ _ => True) (lsetBB_nP  x1 x2 x3 x4 (fun _ _ => True) Ok64.nil h1 h2))
theorem ent_r {X : List (Nat × Rx.Spec)} (hX : ∀ p ∈ X, Fr.Told p.1 p.2) (w : World) (b0 o0 n0 c0 : Nat) (hb0 : b0 < w.heap.size) (hk0 : n0 ≤ c0) (hc0 : ∀ (i j : Nat) k, i < n0 → ([.u64] : List IntKind)[j]? = some k → w.cell? ⟨b0, o0 + i * 1 + j, none⟩ = some (.int k (cellN w b0 (o0 + i * 1 + j)))) (hu0 : Fr.Ok64 n0 (fun i q => cellN w b0 (o0 + i * 1 + q))) (x1 : Int) (hx1 : In64 x1) (x2 : Int) (hx2 : In64 x2) (x3 : Int) (hx3 : In64 x3) (x4 : Int) (hx4 : 0 ≤ x4 ∧ x4 ≤ 18446744073709551615) (A : Nat → Ann) (h : ∀ (e0 : Nat), bodyX (mk X) (callI (mk X) noI 6) (A e0) Try.f11 [rsl 0 0 n0 c0, .agg ⟨[.int .i64 x1, .int .i64 x2, .int .i64 x3, .int .u64 x4]⟩] (stOf [.row true [.u64] e0 n0 c0 fun i q => cellN w b0 (o0 + i * 1 + q)]) fun v _ => v = .bool true) : Calls Try.prog 11 #[.slice (some ⟨b0, o0, none⟩) n0 c0, .agg #[.int .i64 x1, .int .i64 x2, .int .i64 x3, .int .u64 x4]] w fun e w' => e = .returned (.bool true) ∧ Below w.heap.size w w' := by
  obtain ⟨e0, hbr0⟩ := row_of_cells (w := w) (S := fun _ => none) (ks := [.u64]) (b := b0) (o := o0) (n := n0) (c := c0) (f := fun i q => cellN w b0 (o0 + i * 1 + q)) (by decide) hc0
  refine law_ok (E := mk X) (mkOk hX) (n := 6) (I := noI) (A := (A e0)) (f := 11) (fn := Try.f11) (by kernel_rfl) («as» := [rsl 0 0 n0 c0, .agg ⟨[.int .i64 x1, .int .i64 x2, .int .i64 x3, .int .u64 x4]⟩]) (bs := [.row true [.u64] e0 n0 c0 fun i q => cellN w b0 (o0 + i * 1 + q)]) (args' := #[.slice (some ⟨b0, o0, none⟩) n0 c0, .agg #[.int .i64 x1, .int .i64 x2, .int .i64 x3, .int .u64 x4]]) [⟨b0, o0, 1⟩] rfl (fun j o x h h' => by
      rcases j with _ | j
      · obtain rfl := Option.some.inj h
        obtain rfl := Option.some.inj h'
        exact ⟨rfl, hbr0, hb0⟩
      · simp at h) (.cons (by have q := VR.rsl (S := fun b => ([⟨b0, o0, 1⟩] : List Rx.Loc)[b]?) (b := 0) 0 n0 c0 rfl; simpa [rsl] using q) (.cons (have z : LR (fun b => ([⟨b0, o0, 1⟩] : List Rx.Loc)[b]?) [.int .i64 x1, .int .i64 x2, .int .i64 x3, .int .u64 x4] [.int .i64 x1, .int .i64 x2, .int .i64 x3, .int .u64 x4] := (LR.cons (groundT_refl rfl) (LR.cons (groundT_refl rfl) (LR.cons (groundT_refl rfl) (LR.cons (groundT_refl rfl) LR.nil))))
    VR.agg z.1 z.2) .nil)) ?_
  exact h e0
theorem walk_r (w : World) (b0 o0 n0 c0 : Nat) (hb0 : b0 < w.heap.size) (hk0 : n0 ≤ c0) (hc0 : ∀ (i j : Nat) k, i < n0 → ([.u64] : List IntKind)[j]? = some k → w.cell? ⟨b0, o0 + i * 1 + j, none⟩ = some (.int k (cellN w b0 (o0 + i * 1 + j)))) (hu0 : Fr.Ok64 n0 (fun i q => cellN w b0 (o0 + i * 1 + q))) (x1 : Int) (hx1 : In64 x1) (x2 : Int) (hx2 : In64 x2) (x3 : Int) (hx3 : In64 x3) (x4 : Int) (hx4 : 0 ≤ x4 ∧ x4 ≤ 18446744073709551615) : Calls Try.prog 11 #[.slice (some ⟨b0, o0, none⟩) n0 c0, .agg #[.int .i64 x1, .int .i64 x2, .int .i64 x3, .int .u64 x4]] w fun e w' => e = .returned (.bool true) ∧ Below w.heap.size w w' := by
  by_cases h1 : Fr.spE n0 (fun i q => cellN w b0 (o0 + i * 1 + q)) x1 x2 x3 = 0
  · by_cases h2 : Fr.rwE n0 (fun i q => cellN w b0 (o0 + i * 1 + q)) x1 x2 = 0
    · exact ent_r X11GG_told w b0 o0 n0 c0 hb0 hk0 hc0 hu0 x1 hx1 x2 hx2 x3 hx3 x4 hx4 (fun e0 => (lsetGG_rA e0 n0 c0 (fun i q => cellN w b0 (o0 + i * 1 + q)) x1 x2 x3 x4)) (fun e0 => cast (lsetGG_rE e0 n0 c0 (fun i q => cellN w b0 (o0 + i * 1 + q)) x1 x2 x3 x4 fun _ _ => True) (lsetGG_rP e0 n0 c0 (fun i q => cellN w b0 (o0 + i * 1 + q)) x1 x2 x3 x4 (fun _ _ => True) hk0 hu0 h1 h2))
    · exact ent_r X11GB_told w b0 o0 n0 c0 hb0 hk0 hc0 hu0 x1 hx1 x2 hx2 x3 hx3 x4 hx4 (fun e0 => (lsetGB_rA e0 n0 c0 (fun i q => cellN w b0 (o0 + i * 1 + q)) x1 x2 x3 x4)) (fun e0 => cast (lsetGB_rE e0 n0 c0 (fun i q => cellN w b0 (o0 + i * 1 + q)) x1 x2 x3 x4 fun _ _ => True) (lsetGB_rP e0 n0 c0 (fun i q => cellN w b0 (o0 + i * 1 + q)) x1 x2 x3 x4 (fun _ _ => True) hk0 hu0 h1 h2))
  · by_cases h2 : Fr.rwE n0 (fun i q => cellN w b0 (o0 + i * 1 + q)) x1 x2 = 0
    · exact ent_r X11BG_told w b0 o0 n0 c0 hb0 hk0 hc0 hu0 x1 hx1 x2 hx2 x3 hx3 x4 hx4 (fun e0 => (lsetBG_rA e0 n0 c0 (fun i q => cellN w b0 (o0 + i * 1 + q)) x1 x2 x3 x4)) (fun e0 => cast (lsetBG_rE e0 n0 c0 (fun i q => cellN w b0 (o0 + i * 1 + q)) x1 x2 x3 x4 fun _ _ => True) (lsetBG_rP e0 n0 c0 (fun i q => cellN w b0 (o0 + i * 1 + q)) x1 x2 x3 x4 (fun _ _ => True) hk0 hu0 h1 h2))
    · exact ent_r X11BB_told w b0 o0 n0 c0 hb0 hk0 hc0 hu0 x1 hx1 x2 hx2 x3 hx3 x4 hx4 (fun e0 => (lsetBB_rA e0 n0 c0 (fun i q => cellN w b0 (o0 + i * 1 + q)) x1 x2 x3 x4)) (fun e0 => cast (lsetBB_rE e0 n0 c0 (fun i q => cellN w b0 (o0 + i * 1 + q)) x1 x2 x3 x4 fun _ _ => True) (lsetBB_rP e0 n0 c0 (fun i q => cellN w b0 (o0 + i * 1 + q)) x1 x2 x3 x4 (fun _ _ => True) hk0 hu0 h1 h2))

theorem lifted (os : Os) (started : os.Started) (H : Type) (enc : TypeId × Value → H) :
    ReturnsInHanded {} Try.checked os 11 .any (Rows.objectsSetsSpec.pre6 enc Try.prog Try.f11 Rows.objectsSetsRow.domain false) (Rows.objectsSetsSpec.post enc Try.prog Try.f11 false true false false) := by
  refine returnsInHanded_of_change (C := Try.checked) own started (by kernel_rfl) Try.func11
    (ChangeSpec.witness6 (enc := enc) (C := Try.checked) false ⟨#[], #[.slice none 0 0, .agg #[.int .i64 0, .int .i64 0, .int .i64 0, .int .u64 0]], []⟩ 8 (by kernel_rfl) (by kernel_rfl) (by kernel_rfl) (by kernel_rfl)) ?_
  intro W base args ds gs before hval0 hW hcnd _
  have hval : ∀ (j : Nat) t v, Try.f11.params[j]? = some t → args[j]? = some v → Value.okWide Try.prog W .any base t v := hval0
  have hW' := hW
  obtain ⟨p, q, hA0, hV, rfl, hfz, hnd⟩ := hW
  have hA : DataW.TrodAll enc Try.prog W 0 (fun _ => true) true Try.f11.params.toList args.toList ds p := hA0
  rw [Try.params11] at hA hval
  obtain ⟨rfl, rfl⟩ := trodVars_none hV
  simp only [List.append_nil] at hW'
  obtain ⟨v0, vs0, d0, ds0, p0, q0, hv0, rfl, rfl, t0, hA0z⟩ := trodAll_cons hA
  obtain ⟨v1, vs1, d1, ds1, p1, q1, hv1, rfl, rfl, t1, hA1z⟩ := trodAll_cons hA0z
  obtain ⟨rfl, rfl, rfl⟩ := trodAll_nil hA1z
  obtain rfl : args = #[v0, v1] := by
    apply Array.ext'
    rw [hv0]
    rw [hv1]
  clear hv0 hv1
  obtain ⟨cs1, rfl, hsz1, hcw1⟩ := fields_wide Try.underlying74 ctS1 cellsS1 (hval 1 74 v1 rfl rfl)
  obtain ⟨vl1, yl1, n1z, hag1, hvl1, hf1⟩ := Ev.open_fields Try.underlying74 (by kernel_rfl) cellsS1 (hval 1 74 _ rfl rfl) t1
  obtain rfl : cs1 = ⟨vl1⟩ := by injection hag1
  obtain ⟨u1_0, u1_1, u1_2, u1_3, rfl⟩ : ∃ u1_0 u1_1 u1_2 u1_3, vl1 = [u1_0, u1_1, u1_2, u1_3] := by
    exact lenS1 (hvl1.trans (by kernel_rfl))
  obtain ⟨w1_0, y1_0, hw1_0, hy1_0⟩ := hf1 0 _ rfl
  obtain rfl : u1_0 = w1_0 := Option.some.inj hw1_0
  obtain ⟨z1, e1_0, -, wz1⟩ := DataW.trod_int Try.underlying3 hy1_0
  simp at e1_0
  subst e1_0
  obtain ⟨w1_1, y1_1, hw1_1, hy1_1⟩ := hf1 1 _ rfl
  obtain rfl : u1_1 = w1_1 := Option.some.inj hw1_1
  obtain ⟨z2, e1_1, -, wz2⟩ := DataW.trod_int Try.underlying3 hy1_1
  simp at e1_1
  subst e1_1
  obtain ⟨w1_2, y1_2, hw1_2, hy1_2⟩ := hf1 2 _ rfl
  obtain rfl : u1_2 = w1_2 := Option.some.inj hw1_2
  obtain ⟨z3, e1_2, -, wz3⟩ := DataW.trod_int Try.underlying3 hy1_2
  simp at e1_2
  subst e1_2
  obtain ⟨w1_3, y1_3, hw1_3, hy1_3⟩ := hf1 3 _ rfl
  obtain rfl : u1_3 = w1_3 := Option.some.inj hw1_3
  obtain ⟨z4, e1_3, -, wz4⟩ := DataW.trod_int Try.underlying25 hy1_3
  simp at e1_3
  subst e1_3
  have hvv0 := (hval 0 24 v0 rfl rfl)
  rcases ints_in (k := .u64) Try.underlying24 Try.underlying25 (by kernel_rfl) (hval 0 24 v0 rfl rfl) t0 with rfl | ⟨b0, o0, n0, c0, rfl, hb0, hn0, hc0, hwf0⟩
  · exact (walk_n W z1 (Frm.i64wf wz1) z2 (Frm.i64wf wz2) z3 (Frm.i64wf wz3) z4 (Frm.u64wf wz4)).mono fun e W' ⟨he, hg⟩ => (by
      subst he
      exact ⟨_, rfl, Frm.post_true (by kernel_rfl) (by kernel_rfl) rfl rfl Try.underlying4 hW' hg rfl⟩)
  · exact (walk_r W b0 o0 n0 c0 hb0 (cap_le Try.underlying24 hvv0) hc0 ⟨fun k hk => by simpa using Frm.u64wf (hwf0 k hk)⟩ z1 (Frm.i64wf wz1) z2 (Frm.i64wf wz2) z3 (Frm.i64wf wz3) z4 (Frm.u64wf wz4)).mono fun e W' ⟨he, hg⟩ => (by
      subst he
      exact ⟨_, rfl, Frm.post_true (by kernel_rfl) (by kernel_rfl) rfl rfl Try.underlying4 hW' hg rfl⟩)

theorem over : Rows.objectsSetsRow.holds Try.pinned (OpenSpec.ofChange Rows.objectsSetsSpec) :=
  OpenClaim.holds_of_wide 11 Try.f11 rfl rfl rfl rfl rfl rfl rfl ⟨rfl, rfl, rfl, rfl, rfl⟩ rfl rfl rfl rfl rfl (by kernel_rfl) Try.func11 (by kernel_rfl)
    (of_decide_eq_true (by kernel_rfl)) (by unfold Func.isWrapper; first | (rw [if_pos (by decide +kernel)]; kernel_rfl) | (rw [if_neg (by decide +kernel)]; exact ⟨rfl, rfl⟩))
    (fun os started H enc _ => lifted os started H enc)

theorem proved : Rows.ObjectsSetsSaid := over
#print axioms proved
end Go.Proofs.Ytfgeoglegebncaa.objectsSets
