/-
  'shunterlaw04.HeaderMarks' returns true for all numbers: of the second one each from 1 to 64 by itself, those below and those above at once. CONDITIONS: none but those of the row.
-/
import Derived.Test.YtknifojinmnkfaaHeaderMarksA
import Derived.Test.YtknifojinmnkfaaHeaderMarksB
import Derived.Test.YtknifojinmnkfaaHeaderMarksK
namespace Go.Proofs.Ytknifojinmnkfaa.headerMarks
open Go.ChangeShapes Go.WideShapes Go.ChangeAt Go.RowKit Go.Joins

theorem walk (x0 x1 : Int) (l0 : -9223372036854775808 ≤ x0) (u0 : x0 ≤ 9223372036854775807) (l1 : -9223372036854775808 ≤ x1) (u1 : x1 ≤ 9223372036854775807) (w : World) :
    Calls Try.prog 3 #[.int .i64 x0, .int .i64 x1] w fun e w' => e = .returned (.bool true) ∧ Below w.heap.size w w' := by
  by_cases h1 : x1 < 1
  · exact headerMarksA.walk x0 x1 ⟨l0, u0, l1, u1, h1⟩ w
  by_cases h2 : 64 < x1
  · exact headerMarksB.walk x0 x1 ⟨l0, u0, l1, u1, h2⟩ w
  rcases (by omega : x1 = 1 ∨ x1 = 2 ∨ x1 = 3 ∨ x1 = 4 ∨ x1 = 5 ∨ x1 = 6 ∨ x1 = 7 ∨ x1 = 8 ∨ x1 = 9 ∨ x1 = 10 ∨ x1 = 11 ∨ x1 = 12 ∨ x1 = 13 ∨ x1 = 14 ∨ x1 = 15 ∨ x1 = 16 ∨ x1 = 17 ∨ x1 = 18 ∨ x1 = 19 ∨ x1 = 20 ∨ x1 = 21 ∨ x1 = 22 ∨ x1 = 23 ∨ x1 = 24 ∨ x1 = 25 ∨ x1 = 26 ∨ x1 = 27 ∨ x1 = 28 ∨ x1 = 29 ∨ x1 = 30 ∨ x1 = 31 ∨ x1 = 32 ∨ x1 = 33 ∨ x1 = 34 ∨ x1 = 35 ∨ x1 = 36 ∨ x1 = 37 ∨ x1 = 38 ∨ x1 = 39 ∨ x1 = 40 ∨ x1 = 41 ∨ x1 = 42 ∨ x1 = 43 ∨ x1 = 44 ∨ x1 = 45 ∨ x1 = 46 ∨ x1 = 47 ∨ x1 = 48 ∨ x1 = 49 ∨ x1 = 50 ∨ x1 = 51 ∨ x1 = 52 ∨ x1 = 53 ∨ x1 = 54 ∨ x1 = 55 ∨ x1 = 56 ∨ x1 = 57 ∨ x1 = 58 ∨ x1 = 59 ∨ x1 = 60 ∨ x1 = 61 ∨ x1 = 62 ∨ x1 = 63 ∨ x1 = 64) with rfl | rfl | rfl | rfl | rfl | rfl | rfl | rfl | rfl | rfl | rfl | rfl | rfl | rfl | rfl | rfl | rfl | rfl | rfl | rfl | rfl | rfl | rfl | rfl | rfl | rfl | rfl | rfl | rfl | rfl | rfl | rfl | rfl | rfl | rfl | rfl | rfl | rfl | rfl | rfl | rfl | rfl | rfl | rfl | rfl | rfl | rfl | rfl | rfl | rfl | rfl | rfl | rfl | rfl | rfl | rfl | rfl | rfl | rfl | rfl | rfl | rfl | rfl | rfl
  · exact headerMarksK.walk_1 x0 ⟨l0, u0⟩ w
  · exact headerMarksK.walk_2 x0 ⟨l0, u0⟩ w
  · exact headerMarksK.walk_3 x0 ⟨l0, u0⟩ w
  · exact headerMarksK.walk_4 x0 ⟨l0, u0⟩ w
  · exact headerMarksK.walk_5 x0 ⟨l0, u0⟩ w
  · exact headerMarksK.walk_6 x0 ⟨l0, u0⟩ w
  · exact headerMarksK.walk_7 x0 ⟨l0, u0⟩ w
  · exact headerMarksK.walk_8 x0 ⟨l0, u0⟩ w
  · exact headerMarksK.walk_9 x0 ⟨l0, u0⟩ w
  · exact headerMarksK.walk_10 x0 ⟨l0, u0⟩ w
  · exact headerMarksK.walk_11 x0 ⟨l0, u0⟩ w
  · exact headerMarksK.walk_12 x0 ⟨l0, u0⟩ w
  · exact headerMarksK.walk_13 x0 ⟨l0, u0⟩ w
  · exact headerMarksK.walk_14 x0 ⟨l0, u0⟩ w
  · exact headerMarksK.walk_15 x0 ⟨l0, u0⟩ w
  · exact headerMarksK.walk_16 x0 ⟨l0, u0⟩ w
  · exact headerMarksK.walk_17 x0 ⟨l0, u0⟩ w
  · exact headerMarksK.walk_18 x0 ⟨l0, u0⟩ w
  · exact headerMarksK.walk_19 x0 ⟨l0, u0⟩ w
  · exact headerMarksK.walk_20 x0 ⟨l0, u0⟩ w
  · exact headerMarksK.walk_21 x0 ⟨l0, u0⟩ w
  · exact headerMarksK.walk_22 x0 ⟨l0, u0⟩ w
  · exact headerMarksK.walk_23 x0 ⟨l0, u0⟩ w
  · exact headerMarksK.walk_24 x0 ⟨l0, u0⟩ w
  · exact headerMarksK.walk_25 x0 ⟨l0, u0⟩ w
  · exact headerMarksK.walk_26 x0 ⟨l0, u0⟩ w
  · exact headerMarksK.walk_27 x0 ⟨l0, u0⟩ w
  · exact headerMarksK.walk_28 x0 ⟨l0, u0⟩ w
  · exact headerMarksK.walk_29 x0 ⟨l0, u0⟩ w
  · exact headerMarksK.walk_30 x0 ⟨l0, u0⟩ w
  · exact headerMarksK.walk_31 x0 ⟨l0, u0⟩ w
  · exact headerMarksK.walk_32 x0 ⟨l0, u0⟩ w
  · exact headerMarksK.walk_33 x0 ⟨l0, u0⟩ w
  · exact headerMarksK.walk_34 x0 ⟨l0, u0⟩ w
  · exact headerMarksK.walk_35 x0 ⟨l0, u0⟩ w
  · exact headerMarksK.walk_36 x0 ⟨l0, u0⟩ w
  · exact headerMarksK.walk_37 x0 ⟨l0, u0⟩ w
  · exact headerMarksK.walk_38 x0 ⟨l0, u0⟩ w
  · exact headerMarksK.walk_39 x0 ⟨l0, u0⟩ w
  · exact headerMarksK.walk_40 x0 ⟨l0, u0⟩ w
  · exact headerMarksK.walk_41 x0 ⟨l0, u0⟩ w
  · exact headerMarksK.walk_42 x0 ⟨l0, u0⟩ w
  · exact headerMarksK.walk_43 x0 ⟨l0, u0⟩ w
  · exact headerMarksK.walk_44 x0 ⟨l0, u0⟩ w
  · exact headerMarksK.walk_45 x0 ⟨l0, u0⟩ w
  · exact headerMarksK.walk_46 x0 ⟨l0, u0⟩ w
  · exact headerMarksK.walk_47 x0 ⟨l0, u0⟩ w
  · exact headerMarksK.walk_48 x0 ⟨l0, u0⟩ w
  · exact headerMarksK.walk_49 x0 ⟨l0, u0⟩ w
  · exact headerMarksK.walk_50 x0 ⟨l0, u0⟩ w
  · exact headerMarksK.walk_51 x0 ⟨l0, u0⟩ w
  · exact headerMarksK.walk_52 x0 ⟨l0, u0⟩ w
  · exact headerMarksK.walk_53 x0 ⟨l0, u0⟩ w
  · exact headerMarksK.walk_54 x0 ⟨l0, u0⟩ w
  · exact headerMarksK.walk_55 x0 ⟨l0, u0⟩ w
  · exact headerMarksK.walk_56 x0 ⟨l0, u0⟩ w
  · exact headerMarksK.walk_57 x0 ⟨l0, u0⟩ w
  · exact headerMarksK.walk_58 x0 ⟨l0, u0⟩ w
  · exact headerMarksK.walk_59 x0 ⟨l0, u0⟩ w
  · exact headerMarksK.walk_60 x0 ⟨l0, u0⟩ w
  · exact headerMarksK.walk_61 x0 ⟨l0, u0⟩ w
  · exact headerMarksK.walk_62 x0 ⟨l0, u0⟩ w
  · exact headerMarksK.walk_63 x0 ⟨l0, u0⟩ w
  · exact headerMarksK.walk_64 x0 ⟨l0, u0⟩ w

theorem own : ownKnob Try.prog.godebug = none := by kernel_rfl

set_option maxRecDepth 100000 in
theorem lifted (os : Os) (started : os.Started) (H : Type) (enc : TypeId × Value → H) :
    ReturnsInHanded {} Try.checked os 3 .any (Rows.headerMarksSpec.pre6 enc Try.prog Try.f3 Rows.headerMarksRow.domain false) (Rows.headerMarksSpec.post enc Try.prog Try.f3 false true false false) := by
  refine returnsInHanded_of_change (C := Try.checked) own started (by kernel_rfl) Try.func3
    (ChangeSpec.witness6 (enc := enc) (C := Try.checked) false ⟨#[], #[.int .i64 0, .int .i64 0], []⟩ 8 (by kernel_rfl) (by kernel_rfl) (by kernel_rfl) (by kernel_rfl)) ?_
  intro W base args ds gs before hval0 hW hcnd _
  have hval : ∀ (j : Nat) t v, Try.f3.params[j]? = some t → args[j]? = some v → Value.okWide Try.prog W .any base t v := hval0
  have hW' := hW
  obtain ⟨p, q, hA0, hV, rfl, hfz, hnd⟩ := hW
  have hA : DataW.TrodAll enc Try.prog W 0 (fun _ => true) true Try.f3.params.toList args.toList ds p := hA0
  rw [Try.params3] at hA hval
  obtain ⟨rfl, rfl⟩ := trodVars_none hV
  simp only [List.append_nil] at hW'
  obtain ⟨v0, vs0, d0, ds0, p0, q0, hv0, rfl, rfl, t0, hA0⟩ := trodAll_cons hA
  obtain ⟨v1, vs1, d1, ds1, p1, q1, hv1, rfl, rfl, t1, hA1⟩ := trodAll_cons hA0
  obtain ⟨rfl, rfl, rfl⟩ := trodAll_nil hA1
  obtain rfl : args = #[v0, v1] := by
    apply Array.ext'
    rw [hv0]
    rw [hv1]
  clear hv0 hv1
  obtain ⟨x0, rfl, hd0, hp0, wa0⟩ := open_int Try.underlying3 (hval 0 3 v0 rfl rfl) t0
  obtain ⟨x1, rfl, hd1, hp1, wa1⟩ := open_int Try.underlying3 (hval 1 3 v1 rfl rfl) t1
  refine (walk x0 x1 (Frm.i64wf wa0).1 (Frm.i64wf wa0).2 (Frm.i64wf wa1).1 (Frm.i64wf wa1).2 W).mono fun e W' ⟨he, hg⟩ => ?_
  subst he
  exact ⟨_, rfl, Frm.post_true (by kernel_rfl) (by kernel_rfl) rfl rfl Try.underlying4 hW' hg rfl⟩

theorem over : Rows.headerMarksRow.holds Try.pinned (OpenSpec.ofChange Rows.headerMarksSpec) :=
  OpenClaim.holds_of_wide 3 Try.f3 rfl rfl rfl rfl rfl rfl rfl ⟨rfl, rfl, rfl, rfl, rfl⟩ rfl rfl rfl rfl rfl (by kernel_rfl) Try.func3 (by kernel_rfl)
    (of_decide_eq_true (by kernel_rfl)) (by unfold Func.isWrapper; first | (rw [if_pos (by decide +kernel)]; kernel_rfl) | (rw [if_neg (by decide +kernel)]; exact ⟨rfl, rfl⟩))
    (fun os started H enc _ => lifted os started H enc)

theorem proved : Rows.HeaderMarksSaid := over
#print axioms proved
end Go.Proofs.Ytknifojinmnkfaa.headerMarks
