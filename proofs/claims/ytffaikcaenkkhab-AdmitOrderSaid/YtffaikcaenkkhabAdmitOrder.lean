/-
  'shunterlaw26.AdmitOrder' returns true for every input: what 'Admit' and 'After' return is known by contracts; the law's own loop is walked. CONDITIONS: none but those of the row.
-/
import Derived.Test.YtffaikcaenkkhabOrderLaw
import Derived.Test.YtffaikcaenkkhabRows
import Derived.Test.YtffaikcaenkkhabFrm
import Derived.Lib.SmallJoins
namespace Go.Proofs.Ytffaikcaenkkhab.admitOrder
open Go.ChangeShapes Go.WideShapes Go.ChangeAt Go.RowKit Go.Joins

theorem own : ownKnob Try.prog.godebug = none := by kernel_rfl
theorem len2 {l : List Value} (h : l.length = 2) : ∃ a0 a1, l = [a0, a1] := by
  match l, h with
  | [a0, a1], _ => exact ⟨a0, a1, rfl⟩
theorem len5 {l : List Value} (h : l.length = 5) : ∃ a0 a1 a2 a3 a4, l = [a0, a1, a2, a3, a4] := by
  match l, h with
  | [a0, a1, a2, a3, a4], _ => exact ⟨a0, a1, a2, a3, a4, rfl⟩
theorem cells23 : Try.prog.cellsOf 23 = 5 := by kernel_rfl
theorem cells25 : Try.prog.cellsOf 25 = 2 := by kernel_rfl
set_option maxRecDepth 100000 in
set_option maxHeartbeats 4000000 in
theorem lifted (os : Os) (started : os.Started) (H : Type) (enc : TypeId × Value → H) :
    ReturnsInHanded {} Try.checked os 6 .any (Rows.admitOrderSpec.pre6 enc Try.prog Try.f6 Rows.admitOrderRow.domain false) (Rows.admitOrderSpec.post enc Try.prog Try.f6 false true false false) := by
  refine returnsInHanded_of_change (C := Try.checked) own started (by kernel_rfl) Try.func6
    (ChangeSpec.witness6 (enc := enc) (C := Try.checked) false ⟨#[], #[.agg #[.int .i64 0, .int .i64 0, .int .i64 0, .int .i64 0, .int .i64 0], .agg #[.int .i64 0, .int .i64 0], .int .i64 0], []⟩ 8 (by kernel_rfl) (by kernel_rfl) (by kernel_rfl) (by kernel_rfl)) ?_
  intro W base args ds gs before hval0 hW hcnd _
  have hval : ∀ (j : Nat) t v, Try.f6.params[j]? = some t → args[j]? = some v → Value.okWide Try.prog W .any base t v := hval0
  have hW' := hW
  obtain ⟨p, q, hA0, hV, rfl, hfz, hnd⟩ := hW
  have hA : DataW.TrodAll enc Try.prog W 0 (fun _ => true) true Try.f6.params.toList args.toList ds p := hA0
  rw [Try.params6] at hA hval
  obtain ⟨rfl, rfl⟩ := trodVars_none hV
  simp only [List.append_nil] at hW'
  obtain ⟨v0, vs0, d0, ds0, p0, q0, hv0, rfl, rfl, t0, hA0⟩ := trodAll_cons hA
  obtain ⟨v1, vs1, d1, ds1, p1, q1, hv1, rfl, rfl, t1, hA1⟩ := trodAll_cons hA0
  obtain ⟨v2, vs2, d2, ds2, p2, q2, hv2, rfl, rfl, t2, hA2⟩ := trodAll_cons hA1
  obtain ⟨rfl, rfl, rfl⟩ := trodAll_nil hA2
  obtain rfl : args = #[v0, v1, v2] := by
    apply Array.ext'
    rw [hv0]
    rw [hv1]
    rw [hv2]
  clear hv0 hv1 hv2
  obtain ⟨vl0, yl0, n0, rfl, hvl0, hf0⟩ := Ev.open_fields Try.underlying23 (by kernel_rfl) cells23 (hval 0 23 v0 rfl rfl) t0
  obtain ⟨u0_0, u0_1, u0_2, u0_3, u0_4, rfl⟩ : ∃ u0_0 u0_1 u0_2 u0_3 u0_4, vl0 = [u0_0, u0_1, u0_2, u0_3, u0_4] := by
    exact len5 (hvl0.trans (by kernel_rfl))
  obtain ⟨w0_0, y0_0, hw0_0, hy0_0⟩ := hf0 0 _ rfl
  obtain rfl : u0_0 = w0_0 := Option.some.inj hw0_0
  obtain ⟨x0, e0_0, -, wa0⟩ := DataW.trod_int Try.underlying3 hy0_0
  simp at e0_0
  subst e0_0
  obtain ⟨w0_1, y0_1, hw0_1, hy0_1⟩ := hf0 1 _ rfl
  obtain rfl : u0_1 = w0_1 := Option.some.inj hw0_1
  obtain ⟨x1, e0_1, -, wa1⟩ := DataW.trod_int Try.underlying3 hy0_1
  simp at e0_1
  subst e0_1
  obtain ⟨w0_2, y0_2, hw0_2, hy0_2⟩ := hf0 2 _ rfl
  obtain rfl : u0_2 = w0_2 := Option.some.inj hw0_2
  obtain ⟨x2, e0_2, -, wa2⟩ := DataW.trod_int Try.underlying3 hy0_2
  simp at e0_2
  subst e0_2
  obtain ⟨w0_3, y0_3, hw0_3, hy0_3⟩ := hf0 3 _ rfl
  obtain rfl : u0_3 = w0_3 := Option.some.inj hw0_3
  obtain ⟨x3, e0_3, -, wa3⟩ := DataW.trod_int Try.underlying3 hy0_3
  simp at e0_3
  subst e0_3
  obtain ⟨w0_4, y0_4, hw0_4, hy0_4⟩ := hf0 4 _ rfl
  obtain rfl : u0_4 = w0_4 := Option.some.inj hw0_4
  obtain ⟨x4, e0_4, -, wa4⟩ := DataW.trod_int Try.underlying3 hy0_4
  simp at e0_4
  subst e0_4
  obtain ⟨vl1, yl1, n1, rfl, hvl1, hf1⟩ := Ev.open_fields Try.underlying25 (by kernel_rfl) cells25 (hval 1 25 v1 rfl rfl) t1
  obtain ⟨u1_0, u1_1, rfl⟩ : ∃ u1_0 u1_1, vl1 = [u1_0, u1_1] := by
    exact len2 (hvl1.trans (by kernel_rfl))
  obtain ⟨w1_0, y1_0, hw1_0, hy1_0⟩ := hf1 0 _ rfl
  obtain rfl : u1_0 = w1_0 := Option.some.inj hw1_0
  obtain ⟨x5, e1_0, -, wa5⟩ := DataW.trod_int Try.underlying3 hy1_0
  simp at e1_0
  subst e1_0
  obtain ⟨w1_1, y1_1, hw1_1, hy1_1⟩ := hf1 1 _ rfl
  obtain rfl : u1_1 = w1_1 := Option.some.inj hw1_1
  obtain ⟨x6, e1_1, -, wa6⟩ := DataW.trod_int Try.underlying3 hy1_1
  simp at e1_1
  subst e1_1
  obtain ⟨x7, rfl, hd2, hp2, wa7⟩ := open_int Try.underlying3 (hval 2 3 v2 rfl rfl) t2
  refine (Order.law (Frm.i64wf wa0) (Frm.i64wf wa1) (Frm.i64wf wa2) (Frm.i64wf wa3) (Frm.i64wf wa4) (Frm.i64wf wa5) (Frm.i64wf wa6) (Frm.i64wf wa7) W).mono fun e W' ⟨he, hg⟩ => ?_
  subst he
  exact ⟨_, rfl, Frm.post_true (by kernel_rfl) (by kernel_rfl) rfl rfl Try.underlying4 hW' hg rfl⟩

theorem over : Rows.admitOrderRow.holds Try.pinned (OpenSpec.ofChange Rows.admitOrderSpec) :=
  OpenClaim.holds_of_wide 6 Try.f6 rfl rfl rfl rfl rfl rfl rfl ⟨rfl, rfl, rfl, rfl, rfl⟩ rfl rfl rfl rfl rfl (by kernel_rfl) Try.func6 (by kernel_rfl)
    (of_decide_eq_true (by kernel_rfl)) (by unfold Func.isWrapper; first | (rw [if_pos (by decide +kernel)]; kernel_rfl) | (rw [if_neg (by decide +kernel)]; exact ⟨rfl, rfl⟩))
    (fun os started H enc _ => lifted os started H enc)

theorem proved : Rows.AdmitOrderSaid := over
#print axioms proved
end Go.Proofs.Ytffaikcaenkkhab.admitOrder
