/-
  'ObjectsAlike': an object is alike to itself, and to one of the same shape that has the same raw fields, and to no other. No project text.
-/
import Derived.Test.YtfgeoglegebncaaZ5
import Derived.Test.YtfgeoglegebncaaFrm
import Derived.Test.YtfgeoglegebncaaRows
import Derived.Test.YtfgeoglegebncaaZ4
import Derived.ChangeSlices
namespace Go.Proofs.Ytfgeoglegebncaa.objectsAlike
set_option maxRecDepth 100000
set_option maxHeartbeats 4000000
open Go.Rx Go.Proofs.Ytfgeoglegebncaa.Fr
open Go.ChangeShapes Go.WideShapes Go.ChangeAt Go.RowKit
set_option linter.unusedVariables false
theorem own : ownKnob Try.prog.godebug = none := by kernel_rfl
theorem lenS0 {l : List Value} (h : l.length = 2) : ∃ a0 a1, l = [a0, a1] := by
  match l, h with
  | [a0, a1], _ => exact ⟨a0, a1, rfl⟩
theorem cellsS0 : Try.prog.cellsOf 60 = 2 := by kernel_rfl
theorem ctS0 : Try.prog.cellTypes Try.prog.depth 60 = some [3, 3] := by kernel_rfl
theorem fields_wide {P : Program} {w : World} {r : Reach} {b0 : Nat} {t : TypeId} {fs : Array Field} {v : Value} {ts : List TypeId} (ht : P.underlying t = some (.struct fs)) (hts : P.cellTypes P.depth t = some ts) (hc : P.cellsOf t = ts.length) (hv : Value.okWide P w r b0 t v) :
    ∃ cs, v = .agg cs ∧ cs.size = ts.length ∧ ∀ (i : Nat) u e, cs[i]? = some u → ts[i]? = some e → Cell.okWide P w r b0 e u := by
  simp only [Value.okWide, ht] at hv
  obtain ⟨cs, h1, h2, ts', h3, -, h4⟩ := hv
  rw [hts] at h3
  obtain rfl := Option.some.inj h3
  refine ⟨cs, h1, h2.trans hc, fun i u e hu he => ?_⟩
  obtain ⟨e', k1, k2⟩ := h4 i u hu
  have hi : i < ts.length := (List.getElem?_eq_some_iff.1 he).1
  rw [Nat.mod_eq_of_lt hi, he] at k1
  obtain rfl := Option.some.inj k1
  exact k2
theorem u8wf {z : Int} (h : (Lit.int .u8 z).wf = true) : 0 ≤ z ∧ z ≤ 255 := by
  simp only [Lit.wf, Bool.and_eq_true, decide_eq_true_eq] at h
  exact h
theorem ent_z {X : List (Nat × Rx.Spec)} (hX : ∀ p ∈ X, Fr.Told p.1 p.2) (w : World) (x0 : Int) (hx0 : In64 x0) (x1 : Int) (hx1 : In64 x1) (x2 : Int) (hx2 : 0 ≤ x2 ∧ x2 ≤ 18446744073709551615) (x3 : Int) (hx3 : 0 ≤ x3 ∧ x3 ≤ 255) (A : Ann) (h : bodyX (mk X) (callI (mk X) noI 6) A Try.f14 [.agg ⟨[.int .i64 x0, .int .i64 x1]⟩, .int .u64 x2, .int .u8 x3] (stOf []) fun v _ => v = .bool true) : Calls Try.prog 14 #[.agg #[.int .i64 x0, .int .i64 x1], .int .u64 x2, .int .u8 x3] w fun e w' => e = .returned (.bool true) ∧ Below w.heap.size w w' := by
  refine law_ok (E := mk X) (mkOk hX) (n := 6) (I := noI) (A := A) (f := 14) (fn := Try.f14) (by kernel_rfl) («as» := [.agg ⟨[.int .i64 x0, .int .i64 x1]⟩, .int .u64 x2, .int .u8 x3]) (bs := []) (args' := #[.agg #[.int .i64 x0, .int .i64 x1], .int .u64 x2, .int .u8 x3]) [] rfl (fun j o x h => by simp at h) (.cons (have z : LR (fun b => ([] : List Rx.Loc)[b]?) [.int .i64 x0, .int .i64 x1] [.int .i64 x0, .int .i64 x1] := (LR.cons (groundT_refl rfl) (LR.cons (groundT_refl rfl) LR.nil))
    VR.agg z.1 z.2) (.cons (groundT_refl rfl) (.cons (groundT_refl rfl) .nil))) ?_
  exact h
theorem walk_z (w : World) (x0 : Int) (hx0 : In64 x0) (x1 : Int) (hx1 : In64 x1) (x2 : Int) (hx2 : 0 ≤ x2 ∧ x2 ≤ 18446744073709551615) (x3 : Int) (hx3 : 0 ≤ x3 ∧ x3 ≤ 255) : Calls Try.prog 14 #[.agg #[.int .i64 x0, .int .i64 x1], .int .u64 x2, .int .u8 x3] w fun e w' => e = .returned (.bool true) ∧ Below w.heap.size w w' := by
  by_cases h1 : Fr.sze x0 x1 = 0 ∧ Fr.szn x0 x1 ≤ 40
  · obtain ⟨h1, h2⟩ := h1
    by_cases h3 : 0 < x0
    · by_cases h4 : 0 < x1
      · exact ent_z X14_told w x0 hx0 x1 hx1 x2 hx2 x3 hx3 ((lalkPQ_zA x0 x1 x2 x3)) (cast (lalkPQ_zE x0 x1 x2 x3 fun _ _ => True) (lalkPQ_zP x0 x1 x2 x3 (fun _ _ => True) hx2 hx3 h1 h2 h3 h4))
      · exact ent_z X14_told w x0 hx0 x1 hx1 x2 hx2 x3 hx3 ((lalkPM_zA x0 x1 x2 x3)) (cast (lalkPM_zE x0 x1 x2 x3 fun _ _ => True) (lalkPM_zP x0 x1 x2 x3 (fun _ _ => True) hx2 hx3 h1 h2 h3 h4))
    · by_cases h4 : 0 < x1
      · exact ent_z X14_told w x0 hx0 x1 hx1 x2 hx2 x3 hx3 ((lalkNQ_zA x0 x1 x2 x3)) (cast (lalkNQ_zE x0 x1 x2 x3 fun _ _ => True) (lalkNQ_zP x0 x1 x2 x3 (fun _ _ => True) hx2 hx3 h1 h2 h3 h4))
      · exact ent_z X14_told w x0 hx0 x1 hx1 x2 hx2 x3 hx3 ((lalkNM_zA x0 x1 x2 x3)) (cast (lalkNM_zE x0 x1 x2 x3 fun _ _ => True) (lalkNM_zP x0 x1 x2 x3 (fun _ _ => True) hx2 hx3 h1 h2 h3 h4))
  · exact ent_z X14_told w x0 hx0 x1 hx1 x2 hx2 x3 hx3 ((lalkZ_zA x0 x1 x2 x3)) (cast (lalkZ_zE x0 x1 x2 x3 fun _ _ => True) (lalkZ_zP x0 x1 x2 x3 (fun _ _ => True) hx2 hx3 h1))

theorem lifted (os : Os) (started : os.Started) (H : Type) (enc : TypeId × Value → H) :
    ReturnsInHanded {} Try.checked os 14 .any (Rows.objectsAlikeSpec.pre6 enc Try.prog Try.f14 Rows.objectsAlikeRow.domain false) (Rows.objectsAlikeSpec.post enc Try.prog Try.f14 false true false false) := by
  refine returnsInHanded_of_change (C := Try.checked) own started (by kernel_rfl) Try.func14
    (ChangeSpec.witness6 (enc := enc) (C := Try.checked) false ⟨#[], #[.agg #[.int .i64 0, .int .i64 0], .int .u64 0, .int .u8 0], []⟩ 8 (by kernel_rfl) (by kernel_rfl) (by kernel_rfl) (by kernel_rfl)) ?_
  intro W base args ds gs before hval0 hW hcnd _
  have hval : ∀ (j : Nat) t v, Try.f14.params[j]? = some t → args[j]? = some v → Value.okWide Try.prog W .any base t v := hval0
  have hW' := hW
  obtain ⟨p, q, hA0, hV, rfl, hfz, hnd⟩ := hW
  have hA : DataW.TrodAll enc Try.prog W 0 (fun _ => true) true Try.f14.params.toList args.toList ds p := hA0
  rw [Try.params14] at hA hval
  obtain ⟨rfl, rfl⟩ := trodVars_none hV
  simp only [List.append_nil] at hW'
  obtain ⟨v0, vs0, d0, ds0, p0, q0, hv0, rfl, rfl, t0, hA0z⟩ := trodAll_cons hA
  obtain ⟨v1, vs1, d1, ds1, p1, q1, hv1, rfl, rfl, t1, hA1z⟩ := trodAll_cons hA0z
  obtain ⟨v2, vs2, d2, ds2, p2, q2, hv2, rfl, rfl, t2, hA2z⟩ := trodAll_cons hA1z
  obtain ⟨rfl, rfl, rfl⟩ := trodAll_nil hA2z
  obtain rfl : args = #[v0, v1, v2] := by
    apply Array.ext'
    rw [hv0]
    rw [hv1]
    rw [hv2]
  clear hv0 hv1 hv2
  obtain ⟨cs0, rfl, hsz0, hcw0⟩ := fields_wide Try.underlying60 ctS0 cellsS0 (hval 0 60 v0 rfl rfl)
  obtain ⟨vl0, yl0, n0z, hag0, hvl0, hf0⟩ := Ev.open_fields Try.underlying60 (by kernel_rfl) cellsS0 (hval 0 60 _ rfl rfl) t0
  obtain rfl : cs0 = ⟨vl0⟩ := by injection hag0
  obtain ⟨u0_0, u0_1, rfl⟩ : ∃ u0_0 u0_1, vl0 = [u0_0, u0_1] := by
    exact lenS0 (hvl0.trans (by kernel_rfl))
  obtain ⟨w0_0, y0_0, hw0_0, hy0_0⟩ := hf0 0 _ rfl
  obtain rfl : u0_0 = w0_0 := Option.some.inj hw0_0
  obtain ⟨z0, e0_0, -, wz0⟩ := DataW.trod_int Try.underlying3 hy0_0
  simp at e0_0
  subst e0_0
  obtain ⟨w0_1, y0_1, hw0_1, hy0_1⟩ := hf0 1 _ rfl
  obtain rfl : u0_1 = w0_1 := Option.some.inj hw0_1
  obtain ⟨z1, e0_1, -, wz1⟩ := DataW.trod_int Try.underlying3 hy0_1
  simp at e0_1
  subst e0_1
  obtain ⟨z2, rfl, hd2, hp2, wz2⟩ := open_int Try.underlying25 (hval 1 25 v1 rfl rfl) t1
  obtain ⟨z3, rfl, hd3, hp3, wz3⟩ := open_int Try.underlying5 (hval 2 5 v2 rfl rfl) t2
  exact (walk_z W z0 (Frm.i64wf wz0) z1 (Frm.i64wf wz1) z2 (Frm.u64wf wz2) z3 (u8wf wz3)).mono fun e W' ⟨he, hg⟩ => (by
      subst he
      exact ⟨_, rfl, Frm.post_true (by kernel_rfl) (by kernel_rfl) rfl rfl Try.underlying4 hW' hg rfl⟩)

theorem over : Rows.objectsAlikeRow.holds Try.pinned (OpenSpec.ofChange Rows.objectsAlikeSpec) :=
  OpenClaim.holds_of_wide 14 Try.f14 rfl rfl rfl rfl rfl rfl rfl ⟨rfl, rfl, rfl, rfl, rfl⟩ rfl rfl rfl rfl rfl (by kernel_rfl) Try.func14 (by kernel_rfl)
    (of_decide_eq_true (by kernel_rfl)) (by unfold Func.isWrapper; first | (rw [if_pos (by decide +kernel)]; kernel_rfl) | (rw [if_neg (by decide +kernel)]; exact ⟨rfl, rfl⟩))
    (fun os started H enc _ => lifted os started H enc)

theorem proved : Rows.ObjectsAlikeSaid := over
#print axioms proved
end Go.Proofs.Ytfgeoglegebncaa.objectsAlike
