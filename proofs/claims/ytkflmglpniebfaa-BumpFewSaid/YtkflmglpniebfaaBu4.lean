/-
  Bump: the last car, the reference. No project text.
-/
import Derived.Test.YtkflmglpniebfaaBu3
namespace Go.Proofs.Ytkflmglpniebfaa.Fr
open Go.Rx
open Go.RowKit (Below)
set_option linter.unusedVariables false
theorem tr_ok (b : Int) (f g : RF) : ∀ (l k : Nat), (tr b f g l k).2 = 0 → ∀ i, k ≤ i → i < k + l → 0 ≤ g i 0 ∧ g i 0 < b ∧ ¬ selB i g g i = true ∧ ¬ f (g i 0).toNat 0 = 0
  | 0, k, _, i, h1, h2 => by omega
  | l + 1, k, h, i, h1, h2 => by
    unfold tr at h
    split at h
    · cases h
    · split at h
      · cases h
      · split at h
        · cases h
        · rcases Nat.lt_or_ge k i with q | q
          · exact tr_ok b f g l (k + 1) h i (by omega) (by omega)
          · obtain rfl : i = k := by omega
            exact ⟨by omega, by omega, by assumption, by assumption⟩
theorem bck_ok {a b c d e : Int} {n m : Nat} {f g : RF} (h : (bck a b c d e n f m g).2 = 0) : good a b c d e ∧ (n : Int) = b ∧ (∀ i, i < n → fok a f i) ∧ ∀ i, i < m → 0 ≤ g i 0 ∧ g i 0 < b ∧ ¬ selB i g g i = true ∧ ¬ f (g i 0).toNat 0 = 0 := by
  have h0 := bck_ck h
  rw [bck_go h0] at h
  obtain ⟨g1, g2, g3⟩ := ckF_zero h0
  exact ⟨g1, g2, g3, fun i hi => tr_ok b f g m 0 h i (by omega) (by omega)⟩
/-- The last car of a train. -/
def lastC (m : Nat) (g : RF) : Int := g (Int.toNat ((m : Int) - 1)) 0
end Go.Proofs.Ytkflmglpniebfaa.Fr
