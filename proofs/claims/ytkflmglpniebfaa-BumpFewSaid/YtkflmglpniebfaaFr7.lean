/-
  Frames: cars in a state, the reference. No project text.
-/
import Derived.Test.YtkflmglpniebfaaFr2
import Derived.Test.YtkflmglpniebfaaFr6
namespace Go.Proofs.Ytkflmglpniebfaa.Fr
open Go.Rx
open Go.RowKit (Below)
set_option linter.unusedVariables false
def selE (f : RF) (x : Int) (i : Nat) : Bool := decide (f i 0 = x)
end Go.Proofs.Ytkflmglpniebfaa.Fr
