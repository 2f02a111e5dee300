/-
  'HeaderSizes': there are as many shapes with a size as it has words; they ascend, and have this size; 2080 in all. No project text.
-/
import Derived.Test.YtnpgeeajlbglaaaSizB
import Derived.Test.YtnpgeeajlbglaaaFrm
import Derived.Test.YtnpgeeajlbglaaaRows
import Derived.Test.YtnpgeeajlbglaaaSy
import Derived.Test.YtnpgeeajlbglaaaRx2
import Derived.ChangeSlices
namespace Go.Proofs.Ytnpgeeajlbglaaa.headerSizes
open Go.Rx Go.Proofs.Ytnpgeeajlbglaaa.Fr
open Go.ChangeShapes Go.WideShapes Go.ChangeAt Go.RowKit
set_option linter.unusedVariables false
theorem own : ownKnob Try.prog.godebug = none := by kernel_rfl
theorem lenS1 {l : List Value} (h : l.length = 2) : ∃ a0 a1, l = [a0, a1] := by
  match l, h with
  | [a0, a1], _ => exact ⟨a0, a1, rfl⟩
theorem cellsS1 : Try.prog.cellsOf 23 = 2 := by kernel_rfl
theorem ctS1 : Try.prog.cellTypes Try.prog.depth 23 = some [3, 3] := by kernel_rfl
theorem fields_wide {P : Program} {w : World} {r : Reach} {b0 : Nat} {t : TypeId} {fs : Array Field} {v : Value} {ts : List TypeId} (ht : P.underlying t = some (.struct fs)) (hts : P.cellTypes P.depth t = some ts) (hc : P.cellsOf t = ts.length) (hv : Value.okWide P w r b0 t v) :
    ∃ cs, v = .agg cs ∧ cs.size = ts.length ∧ ∀ (i : Nat) u e, cs[i]? = some u → ts[i]? = some e → Cell.okWide P w r b0 e u := by
  simp only [Value.okWide, ht] at hv
  obtain ⟨cs, h1, h2, ts', h3, -, h4⟩ := hv
  rw [hts] at h3
  obtain rfl := Option.some.inj h3
  refine ⟨cs, h1, h2.trans hc, fun i u e hu he => ?_⟩
  obtain ⟨e', k1, k2⟩ := h4 i u hu
  have hi : i < ts.length := (List.getElem?_eq_some_iff.1 he).1
  rw [Nat.mod_eq_of_lt hi, he] at k1
  obtain rfl := Option.some.inj k1
  exact k2
theorem walk_z_B (w : World) (x0 : Int) (hx0 : In64 x0) (x1 : Int) (hx1 : In64 x1) (x2 : Int) (hx2 : In64 x2) (h1 : ¬ (1 ≤ x0 ∧ x0 ≤ 64)) : Calls Try.prog 3 #[.int .i64 x0, .agg #[.int .i64 x1, .int .i64 x2]] w fun e w' => e = .returned (.bool true) ∧ Below w.heap.size w w' := by
  refine law_ok (E := mk XH3B) (mkOk XH3B_told) (n := 4) (I := noI) (A := (hszB_zA x0 x1 x2)) (f := 3) (fn := Try.f3) (by kernel_rfl) («as» := [.int .i64 x0, .agg ⟨[.int .i64 x1, .int .i64 x2]⟩]) (bs := []) (args' := #[.int .i64 x0, .agg #[.int .i64 x1, .int .i64 x2]]) [] rfl (fun j o x h => by simp at h) (.cons (groundT_refl rfl) (.cons (have z : LR (fun b => ([] : List Rx.Loc)[b]?) [.int .i64 x1, .int .i64 x2] [.int .i64 x1, .int .i64 x2] := (LR.cons (groundT_refl rfl) (LR.cons (groundT_refl rfl) LR.nil))
    VR.agg z.1 z.2) .nil)) ?_
  exact cast (hszB_zE x0 x1 x2 fun _ _ => True) (hszB_zP x0 x1 x2 (fun _ _ => True) h1)
theorem walk_z_G (w : World) (x0 : Int) (hx0 : In64 x0) (x1 : Int) (hx1 : In64 x1) (x2 : Int) (hx2 : In64 x2) (h1 : 1 ≤ x0 ∧ x0 ≤ 64) : Calls Try.prog 3 #[.int .i64 x0, .agg #[.int .i64 x1, .int .i64 x2]] w fun e w' => e = .returned (.bool true) ∧ Below w.heap.size w w' := by
  refine law_ok (E := mk XH3G) (mkOk XH3G_told) (n := 4) (I := noI) (A := (hszG_zA x0 x1 x2)) (f := 3) (fn := Try.f3) (by kernel_rfl) («as» := [.int .i64 x0, .agg ⟨[.int .i64 x1, .int .i64 x2]⟩]) (bs := []) (args' := #[.int .i64 x0, .agg #[.int .i64 x1, .int .i64 x2]]) [] rfl (fun j o x h => by simp at h) (.cons (groundT_refl rfl) (.cons (have z : LR (fun b => ([] : List Rx.Loc)[b]?) [.int .i64 x1, .int .i64 x2] [.int .i64 x1, .int .i64 x2] := (LR.cons (groundT_refl rfl) (LR.cons (groundT_refl rfl) LR.nil))
    VR.agg z.1 z.2) .nil)) ?_
  exact cast (hszG_zE x0 x1 x2 fun _ _ => True) (hszG_zP x0 x1 x2 (fun _ _ => True) h1)
theorem walk_z (w : World) (x0 : Int) (hx0 : In64 x0) (x1 : Int) (hx1 : In64 x1) (x2 : Int) (hx2 : In64 x2) : Calls Try.prog 3 #[.int .i64 x0, .agg #[.int .i64 x1, .int .i64 x2]] w fun e w' => e = .returned (.bool true) ∧ Below w.heap.size w w' := by
  by_cases h1 : 1 ≤ x0 ∧ x0 ≤ 64
  · exact walk_z_G w x0 hx0 x1 hx1 x2 hx2 h1
  · exact walk_z_B w x0 hx0 x1 hx1 x2 hx2 h1

set_option maxRecDepth 100000 in
set_option maxHeartbeats 4000000 in
theorem lifted (os : Os) (started : os.Started) (H : Type) (enc : TypeId × Value → H) :
    ReturnsInHanded {} Try.checked os 3 .any (Rows.headerSizesSpec.pre6 enc Try.prog Try.f3 Rows.headerSizesRow.domain false) (Rows.headerSizesSpec.post enc Try.prog Try.f3 false true false false) := by
  refine returnsInHanded_of_change (C := Try.checked) own started (by kernel_rfl) Try.func3
    (ChangeSpec.witness6 (enc := enc) (C := Try.checked) false ⟨#[], #[.int .i64 0, .agg #[.int .i64 0, .int .i64 0]], []⟩ 8 (by kernel_rfl) (by kernel_rfl) (by kernel_rfl) (by kernel_rfl)) ?_
  intro W base args ds gs before hval0 hW hcnd _
  have hval : ∀ (j : Nat) t v, Try.f3.params[j]? = some t → args[j]? = some v → Value.okWide Try.prog W .any base t v := hval0
  have hW' := hW
  obtain ⟨p, q, hA0, hV, rfl, hfz, hnd⟩ := hW
  have hA : DataW.TrodAll enc Try.prog W 0 (fun _ => true) true Try.f3.params.toList args.toList ds p := hA0
  rw [Try.params3] at hA hval
  obtain ⟨rfl, rfl⟩ := trodVars_none hV
  simp only [List.append_nil] at hW'
  obtain ⟨v0, vs0, d0, ds0, p0, q0, hv0, rfl, rfl, t0, hA0z⟩ := trodAll_cons hA
  obtain ⟨v1, vs1, d1, ds1, p1, q1, hv1, rfl, rfl, t1, hA1z⟩ := trodAll_cons hA0z
  obtain ⟨rfl, rfl, rfl⟩ := trodAll_nil hA1z
  obtain rfl : args = #[v0, v1] := by
    apply Array.ext'
    rw [hv0]
    rw [hv1]
  clear hv0 hv1
  obtain ⟨z0, rfl, hd0, hp0, wz0⟩ := open_int Try.underlying3 (hval 0 3 v0 rfl rfl) t0
  obtain ⟨cs1, rfl, hsz1, hcw1⟩ := fields_wide Try.underlying23 ctS1 cellsS1 (hval 1 23 v1 rfl rfl)
  obtain ⟨vl1, yl1, n1z, hag1, hvl1, hf1⟩ := Ev.open_fields Try.underlying23 (by kernel_rfl) cellsS1 (hval 1 23 _ rfl rfl) t1
  obtain rfl : cs1 = ⟨vl1⟩ := by injection hag1
  obtain ⟨u1_0, u1_1, rfl⟩ : ∃ u1_0 u1_1, vl1 = [u1_0, u1_1] := by
    exact lenS1 (hvl1.trans (by kernel_rfl))
  obtain ⟨w1_0, y1_0, hw1_0, hy1_0⟩ := hf1 0 _ rfl
  obtain rfl : u1_0 = w1_0 := Option.some.inj hw1_0
  obtain ⟨z1, e1_0, -, wz1⟩ := DataW.trod_int Try.underlying3 hy1_0
  simp at e1_0
  subst e1_0
  obtain ⟨w1_1, y1_1, hw1_1, hy1_1⟩ := hf1 1 _ rfl
  obtain rfl : u1_1 = w1_1 := Option.some.inj hw1_1
  obtain ⟨z2, e1_1, -, wz2⟩ := DataW.trod_int Try.underlying3 hy1_1
  simp at e1_1
  subst e1_1
  exact (walk_z W z0 (Frm.i64wf wz0) z1 (Frm.i64wf wz1) z2 (Frm.i64wf wz2)).mono fun e W' ⟨he, hg⟩ => (by
      subst he
      exact ⟨_, rfl, Frm.post_true (by kernel_rfl) (by kernel_rfl) rfl rfl Try.underlying4 hW' hg rfl⟩)

theorem over : Rows.headerSizesRow.holds Try.pinned (OpenSpec.ofChange Rows.headerSizesSpec) :=
  OpenClaim.holds_of_wide 3 Try.f3 rfl rfl rfl rfl rfl rfl rfl ⟨rfl, rfl, rfl, rfl, rfl⟩ rfl rfl rfl rfl rfl (by kernel_rfl) Try.func3 (by kernel_rfl)
    (of_decide_eq_true (by kernel_rfl)) (by unfold Func.isWrapper; first | (rw [if_pos (by decide +kernel)]; kernel_rfl) | (rw [if_neg (by decide +kernel)]; exact ⟨rfl, rfl⟩))
    (fun os started H enc _ => lifted os started H enc)

theorem proved : Rows.HeaderSizesSaid := over
#print axioms proved
end Go.Proofs.Ytnpgeeajlbglaaa.headerSizes
