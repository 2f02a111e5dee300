/-
  FramesBumps: what it calls. No project text.
-/
import Derived.Test.YtkflmglpniebfaaFr15
import Derived.Test.YtkflmglpniebfaaFr14
namespace Go.Proofs.Ytkflmglpniebfaa.Fr
open Go.Rx
open Go.RowKit (Below)
set_option linter.unusedVariables false
/-- Words of a car are used. -/
structure Bumped (a b c d e : Int) (n : Nat) (f : RF) (x y : Int) (g : RF) : Prop where
  now1 : g x.toNat 1 = f x.toNat 1 + y
  now0 : g x.toNat 0 = f x.toNat 0
  rest : ∀ j q, ¬ (j = x.toNat ∧ q = 1) → g j q = f j q
  ask : askF a b c d e n g x = 0
theorem wrap_u8 {x : Int} (h : 0 ≤ x ∧ x ≤ 255) : IntKind.i64.wrap x = x := by
  rw [Ev.wrap_i64]
  omega
end Go.Proofs.Ytkflmglpniebfaa.Fr
