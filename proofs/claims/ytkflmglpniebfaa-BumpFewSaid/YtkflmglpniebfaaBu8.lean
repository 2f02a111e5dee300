/-
  BumpChecks: what it calls. No project text.
-/
import Derived.Test.YtkflmglpniebfaaBu6
namespace Go.Proofs.Ytkflmglpniebfaa.Fr
open Go.Rx
open Go.RowKit (Below)
set_option linter.unusedVariables false
def sp48 : Rx.Spec := fun args s K => args = [] ∧ K (.bool true) s
set_option maxRecDepth 1000000 in
theorem closed48 : Ev.run ⟨Try.prog, Ev.mkTT Try.prog, Ev.mkFT Try.prog, [], [], [], none⟩ 1000000 48 [] = some true := by kernel_rfl
theorem told48 : Told 48 sp48 := ⟨⟨Try.f48, by kernel_rfl, by kernel_rfl, by kernel_rfl⟩, specTrue_ok (Ev.run_closed mixed closed48)⟩
end Go.Proofs.Ytkflmglpniebfaa.Fr
