/-
  'shunterlaw06.WalkKnown' returns true, in whatever memory it is called: the evaluator's answer, which the kernel reckons, is the call's. CONDITIONS: none but those of the row.
-/
import Derived.Test.YtedfhlhmpgejcaaRows
import Derived.Test.YtedfhlhmpgejcaaSnd2
import Derived.Test.YtedfhlhmpgejcaaFrm
namespace Go.Proofs.Ytedfhlhmpgejcaa.walkKnown
open Go.ChangeShapes Go.WideShapes Go.ChangeAt Go.RowKit

noncomputable def env : Ev.Env := ⟨Try.prog, Ev.mkTT Try.prog, Ev.mkFT Try.prog, [], [], []⟩
set_option maxRecDepth 1000000 in
theorem reckoned : Ev.run env 100000 5 [] = some true := by kernel_rfl
theorem walk (w : World) : Calls Try.prog 5 #[] w fun e w' => e = .returned (.bool true) ∧ Below w.heap.size w w' := Ev.run_closed (by kernel_rfl) reckoned w

theorem own : ownKnob Try.prog.godebug = none := by kernel_rfl

set_option maxRecDepth 100000 in
theorem lifted (os : Os) (started : os.Started) (H : Type) (enc : TypeId × Value → H) :
    ReturnsInHanded {} Try.checked os 5 .any (Rows.walkKnownSpec.pre6 enc Try.prog Try.f5 Rows.walkKnownRow.domain false) (Rows.walkKnownSpec.post enc Try.prog Try.f5 false true false false) := by
  refine returnsInHanded_of_change (C := Try.checked) own started (by kernel_rfl) Try.func5
    (ChangeSpec.witness6 (enc := enc) (C := Try.checked) false ⟨#[], #[], []⟩ 8 (by kernel_rfl) (by kernel_rfl) (by kernel_rfl) (by kernel_rfl)) ?_
  intro W base args ds gs before hval0 hW hcnd _
  have hW' := hW
  obtain ⟨p, q, hA0, hV, rfl, hfz, hnd⟩ := hW
  have hA : DataW.TrodAll enc Try.prog W 0 (fun _ => true) true Try.f5.params.toList args.toList ds p := hA0
  rw [Try.params5] at hA
  obtain ⟨hargs, rfl, rfl⟩ := trodAll_none hA
  obtain ⟨rfl, rfl⟩ := trodVars_none hV
  subst hargs
  simp only [List.append_nil] at hW'
  refine (walk W).mono fun e W' ⟨he, hg⟩ => ?_
  subst he
  exact ⟨_, rfl, Frm.post_true (by kernel_rfl) (by kernel_rfl) rfl rfl (by kernel_rfl) hW' hg rfl⟩

theorem over : Rows.walkKnownRow.holds Try.pinned (OpenSpec.ofChange Rows.walkKnownSpec) :=
  OpenClaim.holds_of_wide 5 Try.f5 rfl rfl rfl rfl rfl rfl rfl ⟨rfl, rfl, rfl, rfl, rfl⟩ rfl rfl rfl rfl rfl (by kernel_rfl) Try.func5 (by kernel_rfl)
    (of_decide_eq_true (by kernel_rfl)) (by unfold Func.isWrapper; first | (rw [if_pos (by decide +kernel)]; kernel_rfl) | (rw [if_neg (by decide +kernel)]; exact ⟨rfl, rfl⟩))
    (fun os started H enc _ => lifted os started H enc)

theorem proved : Rows.WalkKnownSaid := over
#print axioms proved
end Go.Proofs.Ytedfhlhmpgejcaa.walkKnown
