/-
  Bump: the check, the reference. No project text.
-/
import Derived.Test.YtkflmglpniebfaaFr6
import Derived.Test.YtkflmglpniebfaaFr15
namespace Go.Proofs.Ytkflmglpniebfaa.Fr
open Go.Rx
open Go.RowKit (Below)
set_option linter.unusedVariables false
/-- The first car of a train, from place k on, l of them, that is not as it should be. -/
def tr (b : Int) (f g : RF) : Nat → Nat → Int × Int
  | 0, _ => (0, 0)
  | l + 1, k => if g k 0 < 0 ∨ b ≤ g k 0 then ((k : Int), 7) else if selB k g g k = true then ((k : Int), 8) else if f (g k 0).toNat 0 = 0 then ((k : Int), 9) else tr b f g l (k + 1)
theorem tr_step (b : Int) (f g : RF) {m k : Nat} (h : k < m) : tr b f g (m - k) k = if g k 0 < 0 ∨ b ≤ g k 0 then ((k : Int), 7) else if selB k g g k = true then ((k : Int), 8) else if f (g k 0).toNat 0 = 0 then ((k : Int), 9) else tr b f g (m - (k + 1)) (k + 1) := by
  rw [show m - k = (m - (k + 1)) + 1 by omega]
  rfl
def bck (a b c d e : Int) (n : Nat) (f : RF) (m : Nat) (g : RF) : Int × Int := if (ckF a b c d e n f).2 = 0 then tr b f g m 0 else (-1, (ckF a b c d e n f).2)
theorem bck_bad {a b c d e : Int} {n m : Nat} {f g : RF} (h : ¬ (ckF a b c d e n f).2 = 0) : bck a b c d e n f m g = (-1, (ckF a b c d e n f).2) := if_neg h
theorem bck_go {a b c d e : Int} {n m : Nat} {f g : RF} (h : (ckF a b c d e n f).2 = 0) : bck a b c d e n f m g = tr b f g m 0 := if_pos h
end Go.Proofs.Ytkflmglpniebfaa.Fr
