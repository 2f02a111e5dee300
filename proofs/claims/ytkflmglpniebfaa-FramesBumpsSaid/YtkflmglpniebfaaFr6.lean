/-
  Frames: cars in a state. No project text.
-/
import Derived.Test.YtkflmglpniebfaaFr0
namespace Go.Proofs.Ytkflmglpniebfaa.Fr
open Go.Rx
open Go.RowKit (Below)
set_option linter.unusedVariables false
/-- The numbers below k that p says yes to. -/
def sel (p : Nat → Bool) : Nat → List Int
  | 0 => []
  | k + 1 => bif p k then sel p k ++ [(k : Int)] else sel p k
end Go.Proofs.Ytkflmglpniebfaa.Fr
