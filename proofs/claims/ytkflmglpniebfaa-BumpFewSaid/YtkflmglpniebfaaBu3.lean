/-
  Bump: what is asked, the reference. No project text.
-/
import Derived.Test.YtkflmglpniebfaaBu2
namespace Go.Proofs.Ytkflmglpniebfaa.Fr
open Go.Rx
open Go.RowKit (Below)
set_option linter.unusedVariables false
theorem bck_ck {a b c d e : Int} {n m : Nat} {f g : RF} (h : (bck a b c d e n f m g).2 = 0) : (ckF a b c d e n f).2 = 0 := by
  unfold bck at h
  split at h
  · assumption
  · exact absurd h (by assumption)
end Go.Proofs.Ytkflmglpniebfaa.Fr
