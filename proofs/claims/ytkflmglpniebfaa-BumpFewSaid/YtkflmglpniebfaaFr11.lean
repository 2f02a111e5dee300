/-
  Frames: occupied, the code. No project text.
-/
import Derived.Test.YtkflmglpniebfaaFr7
namespace Go.Proofs.Ytkflmglpniebfaa.Fr
open Go.Rx
open Go.RowKit (Below)
set_option linter.unusedVariables false
/-- The used words of the first k cars of a list. -/
def sl (f : RF) (l : List Int) : Nat → Int
  | 0 => 0
  | k + 1 => sl f l k + f (Int.toNat (lF l k 0)) 1
end Go.Proofs.Ytkflmglpniebfaa.Fr
