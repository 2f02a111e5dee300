/-
  Bump: place: what it needs. No project text.
-/
import Derived.Test.YtkflmglpniebfaaBu8
import Derived.Test.YtkflmglpniebfaaFr18
import Derived.Test.YtkflmglpniebfaaFr14
import Derived.Test.YtkflmglpniebfaaFr13
namespace Go.Proofs.Ytkflmglpniebfaa.Fr
open Go.Rx
open Go.RowKit (Below)
set_option linter.unusedVariables false
/-- A car that was free has these words alone. -/
structure Placed (a b c d e : Int) (n : Nat) (f : RF) (st : Int) (i : Nat) (y : Int) (g : RF) : Prop where
  lt : i < n
  at0 : f i 0 = 0
  at1 : f i 1 = 0
  first : lF (sel (selE f 0) n) 0 0 = (i : Int)
  now0 : g i 0 = st
  now1 : g i 1 = y
  rest : ∀ j, j ≠ i → ∀ q, g j q = f j q
  ok : (ckF a b c d e n g).2 = 0
  free : sel (selE f 0) n = (i : Int) :: sel (selE g 0) n
end Go.Proofs.Ytkflmglpniebfaa.Fr
