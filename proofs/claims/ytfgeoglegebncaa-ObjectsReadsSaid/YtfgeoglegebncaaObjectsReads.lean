/-
  'ObjectsReads': pointer fields and raw fields are read, objects are compared as the reference says. No project text.
-/
import Derived.Test.YtfgeoglegebncaaZ7
import Derived.Test.YtfgeoglegebncaaZ9
import Derived.Test.YtfgeoglegebncaaRows
import Derived.Test.YtfgeoglegebncaaSnd2
import Derived.Laws.StructEq
import Derived.Lib.SmallJoins
import Derived.Deep.Fields
namespace Go.Proofs.Ytfgeoglegebncaa.objectsReads
set_option maxRecDepth 100000
set_option maxHeartbeats 4000000
open Go.Rx Go.Proofs.Ytfgeoglegebncaa.Fr
open Go.ChangeShapes Go.WideShapes Go.ChangeAt Go.RowKit
set_option linter.unusedVariables false
theorem own : ownKnob Try.prog.godebug = none := by kernel_rfl
theorem cap_le {P : Program} {w : World} {r : Reach} {b0 : Nat} {t e : TypeId} {b o n c : Nat} (ht : P.underlying t = some (.slice e)) (hv : Value.okWide P w r b0 t (.slice (some ⟨b, o, none⟩) n c)) : n ≤ c := by
  rcases slice_in ht hv with h | ⟨b', o', n', c', h, -, h2, -⟩
  · cases h
  · injection h with q1 q2 q3
    omega
theorem ent_n {X : List (Nat × Rx.Spec)} (hX : ∀ p ∈ X, Fr.Told p.1 p.2) (w : World) (x1 : Int) (hx1 : In64 x1) (x2 : Int) (hx2 : In64 x2) (x3 : Int) (hx3 : In64 x3) (A : Ann) (h : bodyX (mk X) (callI (mk X) noI 6) A Try.f10 [.slice none 0 0, .int .i64 x1, .agg ⟨[.int .i64 x2, .int .i64 x3]⟩] (stOf []) fun v _ => v = .bool true) : Calls Try.prog 10 #[.slice none 0 0, .int .i64 x1, .agg #[.int .i64 x2, .int .i64 x3]] w fun e w' => e = .returned (.bool true) ∧ Below w.heap.size w w' := by
  refine law_ok (E := mk X) (mkOk hX) (n := 6) (I := noI) (A := A) (f := 10) (fn := Try.f10) (by kernel_rfl) («as» := [.slice none 0 0, .int .i64 x1, .agg ⟨[.int .i64 x2, .int .i64 x3]⟩]) (bs := []) (args' := #[.slice none 0 0, .int .i64 x1, .agg #[.int .i64 x2, .int .i64 x3]]) [] rfl (fun j o x h => by simp at h) (.cons (.slN 0 0) (.cons (groundT_refl rfl) (.cons (have z : LR (fun b => ([] : List Rx.Loc)[b]?) [.int .i64 x2, .int .i64 x3] [.int .i64 x2, .int .i64 x3] := (LR.cons (groundT_refl rfl) (LR.cons (groundT_refl rfl) LR.nil))
    VR.agg z.1 z.2) .nil))) ?_
  exact h
theorem walk_n (w : World) (x1 : Int) (hx1 : In64 x1) (x2 : Int) (hx2 : In64 x2) (x3 : Int) (hx3 : In64 x3) : Calls Try.prog 10 #[.slice none 0 0, .int .i64 x1, .agg #[.int .i64 x2, .int .i64 x3]] w fun e w' => e = .returned (.bool true) ∧ Below w.heap.size w w' := by
  by_cases h1 : Fr.obE 0 zF x1 = 0
  · by_cases h3 : Fr.obP 0 zF x1 = 0
    · by_cases h4 : Fr.alE 0 zF x1 x3 = 0
      · exact ent_n X10NG_told w x1 hx1 x2 hx2 x3 hx3 ((lreaNG_nA  x1 x2 x3)) (cast (lreaNG_nE  x1 x2 x3 fun _ _ => True) (lreaNG_nP  x1 x2 x3 (fun _ _ => True) Ok64.nil h1 h3 h4))
      · exact ent_n X10NB_told w x1 hx1 x2 hx2 x3 hx3 ((lreaNB_nA  x1 x2 x3)) (cast (lreaNB_nE  x1 x2 x3 fun _ _ => True) (lreaNB_nP  x1 x2 x3 (fun _ _ => True) Ok64.nil h1 h3 h4))
    · by_cases h2 : Fr.allP 0 zF x1
      · have h3 : 0 < Fr.obP 0 zF x1 := (by
          have z := Fr.obP_pos (n := 0) (f := zF) Ok64.nil x1
          omega)
        by_cases h4 : Fr.alE 0 zF x1 x3 = 0
        · exact ent_n X10RG_told w x1 hx1 x2 hx2 x3 hx3 ((lreaRG_nA  x1 x2 x3)) (cast (lreaRG_nE  x1 x2 x3 fun _ _ => True) (lreaRG_nP  x1 x2 x3 (fun _ _ => True) Ok64.nil h1 h3 h2 h4))
        · exact ent_n X10RB_told w x1 hx1 x2 hx2 x3 hx3 ((lreaRB_nA  x1 x2 x3)) (cast (lreaRB_nE  x1 x2 x3 fun _ _ => True) (lreaRB_nP  x1 x2 x3 (fun _ _ => True) Ok64.nil h1 h3 h2 h4))
      · by_cases h4 : Fr.alE 0 zF x1 x3 = 0
        · exact ent_n X10XG_told w x1 hx1 x2 hx2 x3 hx3 ((lreaXG_nA  x1 x2 x3)) (cast (lreaXG_nE  x1 x2 x3 fun _ _ => True) (lreaXG_nP  x1 x2 x3 (fun _ _ => True) Ok64.nil h1 h2 h4))
        · exact ent_n X10XB_told w x1 hx1 x2 hx2 x3 hx3 ((lreaXB_nA  x1 x2 x3)) (cast (lreaXB_nE  x1 x2 x3 fun _ _ => True) (lreaXB_nP  x1 x2 x3 (fun _ _ => True) Ok64.nil h1 h2 h4))
  · have h4 : ¬ Fr.alE 0 zF x1 x3 = 0 := (by
      have z := Fr.al_cases 0 zF x1 x3
      omega)
    exact ent_n X10BB_told w x1 hx1 x2 hx2 x3 hx3 ((lreaBB_nA  x1 x2 x3)) (cast (lreaBB_nE  x1 x2 x3 fun _ _ => True) (lreaBB_nP  x1 x2 x3 (fun _ _ => True) Ok64.nil h1 h4))
theorem ent_r {X : List (Nat × Rx.Spec)} (hX : ∀ p ∈ X, Fr.Told p.1 p.2) (w : World) (b0 o0 n0 c0 : Nat) (hb0 : b0 < w.heap.size) (hk0 : n0 ≤ c0) (hc0 : ∀ (i j : Nat) k, i < n0 → ([.u64] : List IntKind)[j]? = some k → w.cell? ⟨b0, o0 + i * 1 + j, none⟩ = some (.int k (cellN w b0 (o0 + i * 1 + j)))) (hu0 : Fr.Ok64 n0 (fun i q => cellN w b0 (o0 + i * 1 + q))) (x1 : Int) (hx1 : In64 x1) (x2 : Int) (hx2 : In64 x2) (x3 : Int) (hx3 : In64 x3) (A : Nat → Ann) (h : ∀ (e0 : Nat), bodyX (mk X) (callI (mk X) noI 6) (A e0) Try.f10 [rsl 0 0 n0 c0, .int .i64 x1, .agg ⟨[.int .i64 x2, .int .i64 x3]⟩] (stOf [.row true [.u64] e0 n0 c0 fun i q => cellN w b0 (o0 + i * 1 + q)]) fun v _ => v = .bool true) : Calls Try.prog 10 #[.slice (some ⟨b0, o0, none⟩) n0 c0, .int .i64 x1, .agg #[.int .i64 x2, .int .i64 x3]] w fun e w' => e = .returned (.bool true) ∧ Below w.heap.size w w' := by
  obtain ⟨e0, hbr0⟩ := row_of_cells (w := w) (S := fun _ => none) (ks := [.u64]) (b := b0) (o := o0) (n := n0) (c := c0) (f := fun i q => cellN w b0 (o0 + i * 1 + q)) (by decide) hc0
  refine law_ok (E := mk X) (mkOk hX) (n := 6) (I := noI) (A := (A e0)) (f := 10) (fn := Try.f10) (by kernel_rfl) («as» := [rsl 0 0 n0 c0, .int .i64 x1, .agg ⟨[.int .i64 x2, .int .i64 x3]⟩]) (bs := [.row true [.u64] e0 n0 c0 fun i q => cellN w b0 (o0 + i * 1 + q)]) (args' := #[.slice (some ⟨b0, o0, none⟩) n0 c0, .int .i64 x1, .agg #[.int .i64 x2, .int .i64 x3]]) [⟨b0, o0, 1⟩] rfl (fun j o x h h' => by
      rcases j with _ | j
      · obtain rfl := Option.some.inj h
        obtain rfl := Option.some.inj h'
        exact ⟨rfl, hbr0, hb0⟩
      · simp at h) (.cons (by have q := VR.rsl (S := fun b => ([⟨b0, o0, 1⟩] : List Rx.Loc)[b]?) (b := 0) 0 n0 c0 rfl; simpa [rsl] using q) (.cons (groundT_refl rfl) (.cons (have z : LR (fun b => ([⟨b0, o0, 1⟩] : List Rx.Loc)[b]?) [.int .i64 x2, .int .i64 x3] [.int .i64 x2, .int .i64 x3] := (LR.cons (groundT_refl rfl) (LR.cons (groundT_refl rfl) LR.nil))
    VR.agg z.1 z.2) .nil))) ?_
  exact h e0
theorem walk_r (w : World) (b0 o0 n0 c0 : Nat) (hb0 : b0 < w.heap.size) (hk0 : n0 ≤ c0) (hc0 : ∀ (i j : Nat) k, i < n0 → ([.u64] : List IntKind)[j]? = some k → w.cell? ⟨b0, o0 + i * 1 + j, none⟩ = some (.int k (cellN w b0 (o0 + i * 1 + j)))) (hu0 : Fr.Ok64 n0 (fun i q => cellN w b0 (o0 + i * 1 + q))) (x1 : Int) (hx1 : In64 x1) (x2 : Int) (hx2 : In64 x2) (x3 : Int) (hx3 : In64 x3) : Calls Try.prog 10 #[.slice (some ⟨b0, o0, none⟩) n0 c0, .int .i64 x1, .agg #[.int .i64 x2, .int .i64 x3]] w fun e w' => e = .returned (.bool true) ∧ Below w.heap.size w w' := by
  by_cases h1 : Fr.obE n0 (fun i q => cellN w b0 (o0 + i * 1 + q)) x1 = 0
  · by_cases h3 : Fr.obP n0 (fun i q => cellN w b0 (o0 + i * 1 + q)) x1 = 0
    · by_cases h4 : Fr.alE n0 (fun i q => cellN w b0 (o0 + i * 1 + q)) x1 x3 = 0
      · exact ent_r X10NG_told w b0 o0 n0 c0 hb0 hk0 hc0 hu0 x1 hx1 x2 hx2 x3 hx3 (fun e0 => (lreaNG_rA e0 n0 c0 (fun i q => cellN w b0 (o0 + i * 1 + q)) x1 x2 x3)) (fun e0 => cast (lreaNG_rE e0 n0 c0 (fun i q => cellN w b0 (o0 + i * 1 + q)) x1 x2 x3 fun _ _ => True) (lreaNG_rP e0 n0 c0 (fun i q => cellN w b0 (o0 + i * 1 + q)) x1 x2 x3 (fun _ _ => True) hk0 hu0 h1 h3 h4))
      · exact ent_r X10NB_told w b0 o0 n0 c0 hb0 hk0 hc0 hu0 x1 hx1 x2 hx2 x3 hx3 (fun e0 => (lreaNB_rA e0 n0 c0 (fun i q => cellN w b0 (o0 + i * 1 + q)) x1 x2 x3)) (fun e0 => cast (lreaNB_rE e0 n0 c0 (fun i q => cellN w b0 (o0 + i * 1 + q)) x1 x2 x3 fun _ _ => True) (lreaNB_rP e0 n0 c0 (fun i q => cellN w b0 (o0 + i * 1 + q)) x1 x2 x3 (fun _ _ => True) hk0 hu0 h1 h3 h4))
    · by_cases h2 : Fr.allP n0 (fun i q => cellN w b0 (o0 + i * 1 + q)) x1
      · have h3 : 0 < Fr.obP n0 (fun i q => cellN w b0 (o0 + i * 1 + q)) x1 := (by
          have z := Fr.obP_pos (n := n0) (f := (fun i q => cellN w b0 (o0 + i * 1 + q))) hu0 x1
          omega)
        by_cases h4 : Fr.alE n0 (fun i q => cellN w b0 (o0 + i * 1 + q)) x1 x3 = 0
        · exact ent_r X10RG_told w b0 o0 n0 c0 hb0 hk0 hc0 hu0 x1 hx1 x2 hx2 x3 hx3 (fun e0 => (lreaRG_rA e0 n0 c0 (fun i q => cellN w b0 (o0 + i * 1 + q)) x1 x2 x3)) (fun e0 => cast (lreaRG_rE e0 n0 c0 (fun i q => cellN w b0 (o0 + i * 1 + q)) x1 x2 x3 fun _ _ => True) (lreaRG_rP e0 n0 c0 (fun i q => cellN w b0 (o0 + i * 1 + q)) x1 x2 x3 (fun _ _ => True) hk0 hu0 h1 h3 h2 h4))
        · exact ent_r X10RB_told w b0 o0 n0 c0 hb0 hk0 hc0 hu0 x1 hx1 x2 hx2 x3 hx3 (fun e0 => (lreaRB_rA e0 n0 c0 (fun i q => cellN w b0 (o0 + i * 1 + q)) x1 x2 x3)) (fun e0 => cast (lreaRB_rE e0 n0 c0 (fun i q => cellN w b0 (o0 + i * 1 + q)) x1 x2 x3 fun _ _ => True) (lreaRB_rP e0 n0 c0 (fun i q => cellN w b0 (o0 + i * 1 + q)) x1 x2 x3 (fun _ _ => True) hk0 hu0 h1 h3 h2 h4))
      · by_cases h4 : Fr.alE n0 (fun i q => cellN w b0 (o0 + i * 1 + q)) x1 x3 = 0
        · exact ent_r X10XG_told w b0 o0 n0 c0 hb0 hk0 hc0 hu0 x1 hx1 x2 hx2 x3 hx3 (fun e0 => (lreaXG_rA e0 n0 c0 (fun i q => cellN w b0 (o0 + i * 1 + q)) x1 x2 x3)) (fun e0 => cast (lreaXG_rE e0 n0 c0 (fun i q => cellN w b0 (o0 + i * 1 + q)) x1 x2 x3 fun _ _ => True) (lreaXG_rP e0 n0 c0 (fun i q => cellN w b0 (o0 + i * 1 + q)) x1 x2 x3 (fun _ _ => True) hk0 hu0 h1 h2 h4))
        · exact ent_r X10XB_told w b0 o0 n0 c0 hb0 hk0 hc0 hu0 x1 hx1 x2 hx2 x3 hx3 (fun e0 => (lreaXB_rA e0 n0 c0 (fun i q => cellN w b0 (o0 + i * 1 + q)) x1 x2 x3)) (fun e0 => cast (lreaXB_rE e0 n0 c0 (fun i q => cellN w b0 (o0 + i * 1 + q)) x1 x2 x3 fun _ _ => True) (lreaXB_rP e0 n0 c0 (fun i q => cellN w b0 (o0 + i * 1 + q)) x1 x2 x3 (fun _ _ => True) hk0 hu0 h1 h2 h4))
  · have h4 : ¬ Fr.alE n0 (fun i q => cellN w b0 (o0 + i * 1 + q)) x1 x3 = 0 := (by
      have z := Fr.al_cases n0 (fun i q => cellN w b0 (o0 + i * 1 + q)) x1 x3
      omega)
    exact ent_r X10BB_told w b0 o0 n0 c0 hb0 hk0 hc0 hu0 x1 hx1 x2 hx2 x3 hx3 (fun e0 => (lreaBB_rA e0 n0 c0 (fun i q => cellN w b0 (o0 + i * 1 + q)) x1 x2 x3)) (fun e0 => cast (lreaBB_rE e0 n0 c0 (fun i q => cellN w b0 (o0 + i * 1 + q)) x1 x2 x3 fun _ _ => True) (lreaBB_rP e0 n0 c0 (fun i q => cellN w b0 (o0 + i * 1 + q)) x1 x2 x3 (fun _ _ => True) hk0 hu0 h1 h4))

theorem lifted (os : Os) (started : os.Started) (H : Type) (enc : TypeId × Value → H) :
    ReturnsInHanded {} Try.checked os 10 .any (Rows.objectsReadsSpec.pre6 enc Try.prog Try.f10 Rows.objectsReadsRow.domain false) (Rows.objectsReadsSpec.post enc Try.prog Try.f10 false true false false) := by
  refine returnsInHanded_of_change (C := Try.checked) own started (by kernel_rfl) Try.func10
    (ChangeSpec.witness6 (enc := enc) (C := Try.checked) false ⟨#[], #[.slice none 0 0, .int .i64 0, .agg #[.int .i64 0, .int .i64 0]], []⟩ 8 (by kernel_rfl) (by kernel_rfl) (by kernel_rfl) (by kernel_rfl)) ?_
  intro W base args ds gs before hval0 hW hcnd _
  have hval : ∀ (j : Nat) t v, Try.f10.params[j]? = some t → args[j]? = some v → Value.okWide Try.prog W .any base t v := hval0
  have hW' := hW
  obtain ⟨p, q, hA0, hV, rfl, hfz, hnd⟩ := hW
  have hA : DataW.TrodAll enc Try.prog W 0 (fun _ => true) true Try.f10.params.toList args.toList ds p := hA0
  rw [Try.params10] at hA hval
  obtain ⟨rfl, rfl⟩ := trodVars_none hV
  simp only [List.append_nil] at hW'
  obtain ⟨v0, vs0, d0, ds0, p0, q0, hv0, rfl, rfl, t0, hA0z⟩ := trodAll_cons hA
  obtain ⟨v1, vs1, d1, ds1, p1, q1, hv1, rfl, rfl, t1, hA1z⟩ := trodAll_cons hA0z
  obtain ⟨v2, vs2, d2, ds2, p2, q2, hv2, rfl, rfl, t2, hA2z⟩ := trodAll_cons hA1z
  obtain ⟨rfl, rfl, rfl⟩ := trodAll_nil hA2z
  obtain rfl : args = #[v0, v1, v2] := by
    apply Array.ext'
    rw [hv0]
    rw [hv1]
    rw [hv2]
  clear hv0 hv1 hv2
  obtain ⟨z1, rfl, hd1, hp1, wz1⟩ := open_int Try.underlying3 (hval 1 3 v1 rfl rfl) t1
  obtain ⟨z2, z3, rfl, wz2, wz3⟩ := open_arr2 Try.underlying69 Try.underlying3 (by kernel_rfl) (by kernel_rfl) (hval 2 69 v2 rfl rfl) t2
  have hvv0 := (hval 0 24 v0 rfl rfl)
  rcases ints_in (k := .u64) Try.underlying24 Try.underlying25 (by kernel_rfl) (hval 0 24 v0 rfl rfl) t0 with rfl | ⟨b0, o0, n0, c0, rfl, hb0, hn0, hc0, hwf0⟩
  · exact (walk_n W z1 (Frm.i64wf wz1) z2 (Frm.i64wf wz2) z3 (Frm.i64wf wz3)).mono fun e W' ⟨he, hg⟩ => (by
      subst he
      exact ⟨_, rfl, Frm.post_true (by kernel_rfl) (by kernel_rfl) rfl rfl Try.underlying4 hW' hg rfl⟩)
  · exact (walk_r W b0 o0 n0 c0 hb0 (cap_le Try.underlying24 hvv0) hc0 ⟨fun k hk => by simpa using Frm.u64wf (hwf0 k hk)⟩ z1 (Frm.i64wf wz1) z2 (Frm.i64wf wz2) z3 (Frm.i64wf wz3)).mono fun e W' ⟨he, hg⟩ => (by
      subst he
      exact ⟨_, rfl, Frm.post_true (by kernel_rfl) (by kernel_rfl) rfl rfl Try.underlying4 hW' hg rfl⟩)

theorem over : Rows.objectsReadsRow.holds Try.pinned (OpenSpec.ofChange Rows.objectsReadsSpec) :=
  OpenClaim.holds_of_wide 10 Try.f10 rfl rfl rfl rfl rfl rfl rfl ⟨rfl, rfl, rfl, rfl, rfl⟩ rfl rfl rfl rfl rfl (by kernel_rfl) Try.func10 (by kernel_rfl)
    (of_decide_eq_true (by kernel_rfl)) (by unfold Func.isWrapper; first | (rw [if_pos (by decide +kernel)]; kernel_rfl) | (rw [if_neg (by decide +kernel)]; exact ⟨rfl, rfl⟩))
    (fun os started H enc _ => lifted os started H enc)

theorem proved : Rows.ObjectsReadsSaid := over
#print axioms proved
end Go.Proofs.Ytfgeoglegebncaa.objectsReads
