/-
  'ObjectsWhole': what is made is an object of this shape, whose fields are 0, and all other words stay. No project text.
-/
import Derived.Test.YtfgeoglegebncaaZ6
import Derived.Test.YtfgeoglegebncaaWhoGRR
import Derived.Test.YtfgeoglegebncaaZ9
import Derived.Test.YtfgeoglegebncaaRows
import Derived.Test.YtfgeoglegebncaaZ4
namespace Go.Proofs.Ytfgeoglegebncaa.objectsWhole
set_option maxRecDepth 100000
set_option maxHeartbeats 4000000
open Go.Rx Go.Proofs.Ytfgeoglegebncaa.Fr
open Go.ChangeShapes Go.WideShapes Go.ChangeAt Go.RowKit
set_option linter.unusedVariables false
theorem own : ownKnob Try.prog.godebug = none := by kernel_rfl
theorem lenS2 {l : List Value} (h : l.length = 2) : ∃ a0 a1, l = [a0, a1] := by
  match l, h with
  | [a0, a1], _ => exact ⟨a0, a1, rfl⟩
theorem cellsS2 : Try.prog.cellsOf 60 = 2 := by kernel_rfl
theorem ctS2 : Try.prog.cellTypes Try.prog.depth 60 = some [3, 3] := by kernel_rfl
theorem cap_le {P : Program} {w : World} {r : Reach} {b0 : Nat} {t e : TypeId} {b o n c : Nat} (ht : P.underlying t = some (.slice e)) (hv : Value.okWide P w r b0 t (.slice (some ⟨b, o, none⟩) n c)) : n ≤ c := by
  rcases slice_in ht hv with h | ⟨b', o', n', c', h, -, h2, -⟩
  · cases h
  · injection h with q1 q2 q3
    omega
theorem fields_wide {P : Program} {w : World} {r : Reach} {b0 : Nat} {t : TypeId} {fs : Array Field} {v : Value} {ts : List TypeId} (ht : P.underlying t = some (.struct fs)) (hts : P.cellTypes P.depth t = some ts) (hc : P.cellsOf t = ts.length) (hv : Value.okWide P w r b0 t v) :
    ∃ cs, v = .agg cs ∧ cs.size = ts.length ∧ ∀ (i : Nat) u e, cs[i]? = some u → ts[i]? = some e → Cell.okWide P w r b0 e u := by
  simp only [Value.okWide, ht] at hv
  obtain ⟨cs, h1, h2, ts', h3, -, h4⟩ := hv
  rw [hts] at h3
  obtain rfl := Option.some.inj h3
  refine ⟨cs, h1, h2.trans hc, fun i u e hu he => ?_⟩
  obtain ⟨e', k1, k2⟩ := h4 i u hu
  have hi : i < ts.length := (List.getElem?_eq_some_iff.1 he).1
  rw [Nat.mod_eq_of_lt hi, he] at k1
  obtain rfl := Option.some.inj k1
  exact k2
theorem ent_n {X : List (Nat × Rx.Spec)} (hX : ∀ p ∈ X, Fr.Told p.1 p.2) (w : World) (x1 : Int) (hx1 : In64 x1) (x2 : Int) (hx2 : In64 x2) (x3 : Int) (hx3 : In64 x3) (A : Ann) (h : bodyX (mk X) (callI (mk X) noI 6) A Try.f13 [.slice none 0 0, .int .i64 x1, .agg ⟨[.int .i64 x2, .int .i64 x3]⟩] (stOf []) fun v _ => v = .bool true) : Calls Try.prog 13 #[.slice none 0 0, .int .i64 x1, .agg #[.int .i64 x2, .int .i64 x3]] w fun e w' => e = .returned (.bool true) ∧ Below w.heap.size w w' := by
  refine law_ok (E := mk X) (mkOk hX) (n := 6) (I := noI) (A := A) (f := 13) (fn := Try.f13) (by kernel_rfl) («as» := [.slice none 0 0, .int .i64 x1, .agg ⟨[.int .i64 x2, .int .i64 x3]⟩]) (bs := []) (args' := #[.slice none 0 0, .int .i64 x1, .agg #[.int .i64 x2, .int .i64 x3]]) [] rfl (fun j o x h => by simp at h) (.cons (.slN 0 0) (.cons (groundT_refl rfl) (.cons (have z : LR (fun b => ([] : List Rx.Loc)[b]?) [.int .i64 x2, .int .i64 x3] [.int .i64 x2, .int .i64 x3] := (LR.cons (groundT_refl rfl) (LR.cons (groundT_refl rfl) LR.nil))
    VR.agg z.1 z.2) .nil))) ?_
  exact h
theorem walk_n (w : World) (x1 : Int) (hx1 : In64 x1) (x2 : Int) (hx2 : In64 x2) (x3 : Int) (hx3 : In64 x3) : Calls Try.prog 13 #[.slice none 0 0, .int .i64 x1, .agg #[.int .i64 x2, .int .i64 x3]] w fun e w' => e = .returned (.bool true) ∧ Below w.heap.size w w' := by
  by_cases h1 : Fr.mkE 0 zF x1 x2 x3 = 0
  · by_cases h2 : 0 < x2
    · by_cases h3 : Fr.eqF 0 zF (Fr.mkF zF (Int.toNat x1) (Int.toNat (1 + x2 + x3)) (1 + 256 * x2 + 65536 * x3))
      · exact ent_n X13GRN_told w x1 hx1 x2 hx2 x3 hx3 ((lwhoGRN_nA  x1 x2 x3)) (cast (lwhoGRN_nE  x1 x2 x3 fun _ _ => True) (lwhoGRN_nP  x1 x2 x3 (fun _ _ => True) Ok64.nil h1 h2 h3))
      · exact ent_n X13GRR_told w x1 hx1 x2 hx2 x3 hx3 ((lwhoGRR_nA  x1 x2 x3)) (cast (lwhoGRR_nE  x1 x2 x3 fun _ _ => True) (lwhoGRR_nP  x1 x2 x3 (fun _ _ => True) Ok64.nil h1 h2 h3))
    · by_cases h3 : Fr.eqF 0 zF (Fr.mkF zF (Int.toNat x1) (Int.toNat (1 + x2 + x3)) (1 + 256 * x2 + 65536 * x3))
      · exact ent_n X13GNN_told w x1 hx1 x2 hx2 x3 hx3 ((lwhoGNN_nA  x1 x2 x3)) (cast (lwhoGNN_nE  x1 x2 x3 fun _ _ => True) (lwhoGNN_nP  x1 x2 x3 (fun _ _ => True) Ok64.nil h1 h2 h3))
      · exact ent_n X13GNR_told w x1 hx1 x2 hx2 x3 hx3 ((lwhoGNR_nA  x1 x2 x3)) (cast (lwhoGNR_nE  x1 x2 x3 fun _ _ => True) (lwhoGNR_nP  x1 x2 x3 (fun _ _ => True) Ok64.nil h1 h2 h3))
  · exact ent_n X13B_told w x1 hx1 x2 hx2 x3 hx3 ((lwhoB_nA  x1 x2 x3)) (cast (lwhoB_nE  x1 x2 x3 fun _ _ => True) (lwhoB_nP  x1 x2 x3 (fun _ _ => True) Ok64.nil h1))
theorem ent_r {X : List (Nat × Rx.Spec)} (hX : ∀ p ∈ X, Fr.Told p.1 p.2) (w : World) (b0 o0 n0 c0 : Nat) (hb0 : b0 < w.heap.size) (hk0 : n0 ≤ c0) (hc0 : ∀ (i j : Nat) k, i < n0 → ([.u64] : List IntKind)[j]? = some k → w.cell? ⟨b0, o0 + i * 1 + j, none⟩ = some (.int k (cellN w b0 (o0 + i * 1 + j)))) (hu0 : Fr.Ok64 n0 (fun i q => cellN w b0 (o0 + i * 1 + q))) (x1 : Int) (hx1 : In64 x1) (x2 : Int) (hx2 : In64 x2) (x3 : Int) (hx3 : In64 x3) (A : Nat → Ann) (h : ∀ (e0 : Nat), bodyX (mk X) (callI (mk X) noI 6) (A e0) Try.f13 [rsl 0 0 n0 c0, .int .i64 x1, .agg ⟨[.int .i64 x2, .int .i64 x3]⟩] (stOf [.row true [.u64] e0 n0 c0 fun i q => cellN w b0 (o0 + i * 1 + q)]) fun v _ => v = .bool true) : Calls Try.prog 13 #[.slice (some ⟨b0, o0, none⟩) n0 c0, .int .i64 x1, .agg #[.int .i64 x2, .int .i64 x3]] w fun e w' => e = .returned (.bool true) ∧ Below w.heap.size w w' := by
  obtain ⟨e0, hbr0⟩ := row_of_cells (w := w) (S := fun _ => none) (ks := [.u64]) (b := b0) (o := o0) (n := n0) (c := c0) (f := fun i q => cellN w b0 (o0 + i * 1 + q)) (by decide) hc0
  refine law_ok (E := mk X) (mkOk hX) (n := 6) (I := noI) (A := (A e0)) (f := 13) (fn := Try.f13) (by kernel_rfl) («as» := [rsl 0 0 n0 c0, .int .i64 x1, .agg ⟨[.int .i64 x2, .int .i64 x3]⟩]) (bs := [.row true [.u64] e0 n0 c0 fun i q => cellN w b0 (o0 + i * 1 + q)]) (args' := #[.slice (some ⟨b0, o0, none⟩) n0 c0, .int .i64 x1, .agg #[.int .i64 x2, .int .i64 x3]]) [⟨b0, o0, 1⟩] rfl (fun j o x h h' => by
      rcases j with _ | j
      · obtain rfl := Option.some.inj h
        obtain rfl := Option.some.inj h'
        exact ⟨rfl, hbr0, hb0⟩
      · simp at h) (.cons (by have q := VR.rsl (S := fun b => ([⟨b0, o0, 1⟩] : List Rx.Loc)[b]?) (b := 0) 0 n0 c0 rfl; simpa [rsl] using q) (.cons (groundT_refl rfl) (.cons (have z : LR (fun b => ([⟨b0, o0, 1⟩] : List Rx.Loc)[b]?) [.int .i64 x2, .int .i64 x3] [.int .i64 x2, .int .i64 x3] := (LR.cons (groundT_refl rfl) (LR.cons (groundT_refl rfl) LR.nil))
    VR.agg z.1 z.2) .nil))) ?_
  exact h e0
theorem walk_r (w : World) (b0 o0 n0 c0 : Nat) (hb0 : b0 < w.heap.size) (hk0 : n0 ≤ c0) (hc0 : ∀ (i j : Nat) k, i < n0 → ([.u64] : List IntKind)[j]? = some k → w.cell? ⟨b0, o0 + i * 1 + j, none⟩ = some (.int k (cellN w b0 (o0 + i * 1 + j)))) (hu0 : Fr.Ok64 n0 (fun i q => cellN w b0 (o0 + i * 1 + q))) (x1 : Int) (hx1 : In64 x1) (x2 : Int) (hx2 : In64 x2) (x3 : Int) (hx3 : In64 x3) : Calls Try.prog 13 #[.slice (some ⟨b0, o0, none⟩) n0 c0, .int .i64 x1, .agg #[.int .i64 x2, .int .i64 x3]] w fun e w' => e = .returned (.bool true) ∧ Below w.heap.size w w' := by
  by_cases h1 : Fr.mkE n0 (fun i q => cellN w b0 (o0 + i * 1 + q)) x1 x2 x3 = 0
  · by_cases h2 : 0 < x2
    · by_cases h3 : Fr.eqF n0 (fun i q => cellN w b0 (o0 + i * 1 + q)) (Fr.mkF (fun i q => cellN w b0 (o0 + i * 1 + q)) (Int.toNat x1) (Int.toNat (1 + x2 + x3)) (1 + 256 * x2 + 65536 * x3))
      · exact ent_r X13GRN_told w b0 o0 n0 c0 hb0 hk0 hc0 hu0 x1 hx1 x2 hx2 x3 hx3 (fun e0 => (lwhoGRN_rA e0 n0 c0 (fun i q => cellN w b0 (o0 + i * 1 + q)) x1 x2 x3)) (fun e0 => cast (lwhoGRN_rE e0 n0 c0 (fun i q => cellN w b0 (o0 + i * 1 + q)) x1 x2 x3 fun _ _ => True) (lwhoGRN_rP e0 n0 c0 (fun i q => cellN w b0 (o0 + i * 1 + q)) x1 x2 x3 (fun _ _ => True) hk0 hu0 h1 h2 h3))
      · exact ent_r X13GRR_told w b0 o0 n0 c0 hb0 hk0 hc0 hu0 x1 hx1 x2 hx2 x3 hx3 (fun e0 => (lwhoGRR_rA e0 n0 c0 (fun i q => cellN w b0 (o0 + i * 1 + q)) x1 x2 x3)) (fun e0 => cast (lwhoGRR_rE e0 n0 c0 (fun i q => cellN w b0 (o0 + i * 1 + q)) x1 x2 x3 fun _ _ => True) (lwhoGRR_rP e0 n0 c0 (fun i q => cellN w b0 (o0 + i * 1 + q)) x1 x2 x3 (fun _ _ => True) hk0 hu0 h1 h2 h3))
    · by_cases h3 : Fr.eqF n0 (fun i q => cellN w b0 (o0 + i * 1 + q)) (Fr.mkF (fun i q => cellN w b0 (o0 + i * 1 + q)) (Int.toNat x1) (Int.toNat (1 + x2 + x3)) (1 + 256 * x2 + 65536 * x3))
      · exact ent_r X13GNN_told w b0 o0 n0 c0 hb0 hk0 hc0 hu0 x1 hx1 x2 hx2 x3 hx3 (fun e0 => (lwhoGNN_rA e0 n0 c0 (fun i q => cellN w b0 (o0 + i * 1 + q)) x1 x2 x3)) (fun e0 => cast (lwhoGNN_rE e0 n0 c0 (fun i q => cellN w b0 (o0 + i * 1 + q)) x1 x2 x3 fun _ _ => True) (lwhoGNN_rP e0 n0 c0 (fun i q => cellN w b0 (o0 + i * 1 + q)) x1 x2 x3 (fun _ _ => True) hk0 hu0 h1 h2 h3))
      · exact ent_r X13GNR_told w b0 o0 n0 c0 hb0 hk0 hc0 hu0 x1 hx1 x2 hx2 x3 hx3 (fun e0 => (lwhoGNR_rA e0 n0 c0 (fun i q => cellN w b0 (o0 + i * 1 + q)) x1 x2 x3)) (fun e0 => cast (lwhoGNR_rE e0 n0 c0 (fun i q => cellN w b0 (o0 + i * 1 + q)) x1 x2 x3 fun _ _ => True) (lwhoGNR_rP e0 n0 c0 (fun i q => cellN w b0 (o0 + i * 1 + q)) x1 x2 x3 (fun _ _ => True) hk0 hu0 h1 h2 h3))
  · exact ent_r X13B_told w b0 o0 n0 c0 hb0 hk0 hc0 hu0 x1 hx1 x2 hx2 x3 hx3 (fun e0 => (lwhoB_rA e0 n0 c0 (fun i q => cellN w b0 (o0 + i * 1 + q)) x1 x2 x3)) (fun e0 => cast (lwhoB_rE e0 n0 c0 (fun i q => cellN w b0 (o0 + i * 1 + q)) x1 x2 x3 fun _ _ => True) (lwhoB_rP e0 n0 c0 (fun i q => cellN w b0 (o0 + i * 1 + q)) x1 x2 x3 (fun _ _ => True) hk0 hu0 h1))

theorem lifted (os : Os) (started : os.Started) (H : Type) (enc : TypeId × Value → H) :
    ReturnsInHanded {} Try.checked os 13 .any (Rows.objectsWholeSpec.pre6 enc Try.prog Try.f13 Rows.objectsWholeRow.domain false) (Rows.objectsWholeSpec.post enc Try.prog Try.f13 false true false false) := by
  refine returnsInHanded_of_change (C := Try.checked) own started (by kernel_rfl) Try.func13
    (ChangeSpec.witness6 (enc := enc) (C := Try.checked) false ⟨#[], #[.slice none 0 0, .int .i64 0, .agg #[.int .i64 0, .int .i64 0]], []⟩ 8 (by kernel_rfl) (by kernel_rfl) (by kernel_rfl) (by kernel_rfl)) ?_
  intro W base args ds gs before hval0 hW hcnd _
  have hval : ∀ (j : Nat) t v, Try.f13.params[j]? = some t → args[j]? = some v → Value.okWide Try.prog W .any base t v := hval0
  have hW' := hW
  obtain ⟨p, q, hA0, hV, rfl, hfz, hnd⟩ := hW
  have hA : DataW.TrodAll enc Try.prog W 0 (fun _ => true) true Try.f13.params.toList args.toList ds p := hA0
  rw [Try.params13] at hA hval
  obtain ⟨rfl, rfl⟩ := trodVars_none hV
  simp only [List.append_nil] at hW'
  obtain ⟨v0, vs0, d0, ds0, p0, q0, hv0, rfl, rfl, t0, hA0z⟩ := trodAll_cons hA
  obtain ⟨v1, vs1, d1, ds1, p1, q1, hv1, rfl, rfl, t1, hA1z⟩ := trodAll_cons hA0z
  obtain ⟨v2, vs2, d2, ds2, p2, q2, hv2, rfl, rfl, t2, hA2z⟩ := trodAll_cons hA1z
  obtain ⟨rfl, rfl, rfl⟩ := trodAll_nil hA2z
  obtain rfl : args = #[v0, v1, v2] := by
    apply Array.ext'
    rw [hv0]
    rw [hv1]
    rw [hv2]
  clear hv0 hv1 hv2
  obtain ⟨z1, rfl, hd1, hp1, wz1⟩ := open_int Try.underlying3 (hval 1 3 v1 rfl rfl) t1
  obtain ⟨cs2, rfl, hsz2, hcw2⟩ := fields_wide Try.underlying60 ctS2 cellsS2 (hval 2 60 v2 rfl rfl)
  obtain ⟨vl2, yl2, n2z, hag2, hvl2, hf2⟩ := Ev.open_fields Try.underlying60 (by kernel_rfl) cellsS2 (hval 2 60 _ rfl rfl) t2
  obtain rfl : cs2 = ⟨vl2⟩ := by injection hag2
  obtain ⟨u2_0, u2_1, rfl⟩ : ∃ u2_0 u2_1, vl2 = [u2_0, u2_1] := by
    exact lenS2 (hvl2.trans (by kernel_rfl))
  obtain ⟨w2_0, y2_0, hw2_0, hy2_0⟩ := hf2 0 _ rfl
  obtain rfl : u2_0 = w2_0 := Option.some.inj hw2_0
  obtain ⟨z2, e2_0, -, wz2⟩ := DataW.trod_int Try.underlying3 hy2_0
  simp at e2_0
  subst e2_0
  obtain ⟨w2_1, y2_1, hw2_1, hy2_1⟩ := hf2 1 _ rfl
  obtain rfl : u2_1 = w2_1 := Option.some.inj hw2_1
  obtain ⟨z3, e2_1, -, wz3⟩ := DataW.trod_int Try.underlying3 hy2_1
  simp at e2_1
  subst e2_1
  have hvv0 := (hval 0 24 v0 rfl rfl)
  rcases ints_in (k := .u64) Try.underlying24 Try.underlying25 (by kernel_rfl) (hval 0 24 v0 rfl rfl) t0 with rfl | ⟨b0, o0, n0, c0, rfl, hb0, hn0, hc0, hwf0⟩
  · exact (walk_n W z1 (Frm.i64wf wz1) z2 (Frm.i64wf wz2) z3 (Frm.i64wf wz3)).mono fun e W' ⟨he, hg⟩ => (by
      subst he
      exact ⟨_, rfl, Frm.post_true (by kernel_rfl) (by kernel_rfl) rfl rfl Try.underlying4 hW' hg rfl⟩)
  · exact (walk_r W b0 o0 n0 c0 hb0 (cap_le Try.underlying24 hvv0) hc0 ⟨fun k hk => by simpa using Frm.u64wf (hwf0 k hk)⟩ z1 (Frm.i64wf wz1) z2 (Frm.i64wf wz2) z3 (Frm.i64wf wz3)).mono fun e W' ⟨he, hg⟩ => (by
      subst he
      exact ⟨_, rfl, Frm.post_true (by kernel_rfl) (by kernel_rfl) rfl rfl Try.underlying4 hW' hg rfl⟩)

theorem over : Rows.objectsWholeRow.holds Try.pinned (OpenSpec.ofChange Rows.objectsWholeSpec) :=
  OpenClaim.holds_of_wide 13 Try.f13 rfl rfl rfl rfl rfl rfl rfl ⟨rfl, rfl, rfl, rfl, rfl⟩ rfl rfl rfl rfl rfl (by kernel_rfl) Try.func13 (by kernel_rfl)
    (of_decide_eq_true (by kernel_rfl)) (by unfold Func.isWrapper; first | (rw [if_pos (by decide +kernel)]; kernel_rfl) | (rw [if_neg (by decide +kernel)]; exact ⟨rfl, rfl⟩))
    (fun os started H enc _ => lifted os started H enc)

theorem proved : Rows.ObjectsWholeSaid := over
#print axioms proved
end Go.Proofs.Ytfgeoglegebncaa.objectsWhole
