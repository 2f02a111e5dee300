/-
  Frames: cars in a state. No project text.
-/
import Derived.Test.YtkflmglpniebfaaFr5b
namespace Go.Proofs.Ytkflmglpniebfaa.Fr
open Go.Rx
open Go.RowKit (Below)
set_option linter.unusedVariables false
def selB (m : Nat) (g f : RF) (i : Nat) : Bool := (List.range m).any fun q => decide (g q 0 = f i 0)
theorem selB_iff {m : Nat} {g f : RF} {i : Nat} : selB m g f i = true ↔ ∃ q, q < m ∧ g q 0 = f i 0 := by simp [selB]
/-- The numbers below k that p says yes to. -/
def sel (p : Nat → Bool) : Nat → List Int
  | 0 => []
  | k + 1 => bif p k then sel p k ++ [(k : Int)] else sel p k
end Go.Proofs.Ytkflmglpniebfaa.Fr
