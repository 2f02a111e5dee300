/-
  What 'Space' returns, the project's and the reference's alike; both, and 'Place', as the evaluator takes them. CONDITIONS: numbers are of their kinds. No project text.
-/
import Derived.Test.YtffaikcaenkkhaaDoorPlaces4
namespace Go.Proofs.YtffaikcaenkkhaaDoor.Places
open Go.ChangeShapes Go.WideShapes Go.ChangeAt Go.RowKit Go.Proofs.YtffaikcaenkkhaaDoor.Good

section
variable {x0 x1 x2 x3 x4 a k : Int}
theorem sp_good (g : good x0 x1 x2 x3 x4) : pSpace.r0 x0 x1 x2 x3 x4 k 0 = rSpace.r0 x0 x1 x2 x3 x4 k 0 ∧ pSpace.r1 x0 x1 x2 x3 x4 k 0 = rSpace.r1 x0 x1 x2 x3 x4 k 0 ∧ pSpace.r2 x0 x1 x2 x3 x4 k 0 = rSpace.r2 x0 x1 x2 x3 x4 k 0 := by
  obtain ⟨-, -, g2, g3, -⟩ := g
  by_cases h1 : -1 ≤ k
  · by_cases h2 : x1 ≤ k
    · have h3 : ¬ k ≤ (x1 - 1 + 9223372036854775808) % 18446744073709551616 - 9223372036854775808 := by omega
      refine ⟨?_, ?_, ?_⟩
      · unfold pSpace.r0 rSpace.r0
        rw [if_pos (c := pSpace.z0 x0 x1 x2 x3 x4 k 0 = pSpace.z1 x0 x1 x2 x3 x4 k 0) rfl, if_pos (c := pSpace.z2 x0 x1 x2 x3 x4 k 0 ≤ pSpace.z3 x0 x1 x2 x3 x4 k 0) h1, if_pos (c := pSpace.z4 x0 x1 x2 x3 x4 k 0 ≤ pSpace.z3 x0 x1 x2 x3 x4 k 0) h2, if_pos (c := rSpace.z0 x0 x1 x2 x3 x4 k 0 = rSpace.z1 x0 x1 x2 x3 x4 k 0) rfl, if_pos (c := rSpace.z2 x0 x1 x2 x3 x4 k 0 ≤ rSpace.z3 x0 x1 x2 x3 x4 k 0) h1, if_neg (c := rSpace.z3 x0 x1 x2 x3 x4 k 0 ≤ rSpace.z6 x0 x1 x2 x3 x4 k 0) h3]
        rfl
      · unfold pSpace.r1 rSpace.r1
        rw [if_pos (c := pSpace.z0 x0 x1 x2 x3 x4 k 0 = pSpace.z1 x0 x1 x2 x3 x4 k 0) rfl, if_pos (c := pSpace.z2 x0 x1 x2 x3 x4 k 0 ≤ pSpace.z3 x0 x1 x2 x3 x4 k 0) h1, if_pos (c := pSpace.z4 x0 x1 x2 x3 x4 k 0 ≤ pSpace.z3 x0 x1 x2 x3 x4 k 0) h2, if_pos (c := rSpace.z0 x0 x1 x2 x3 x4 k 0 = rSpace.z1 x0 x1 x2 x3 x4 k 0) rfl, if_pos (c := rSpace.z2 x0 x1 x2 x3 x4 k 0 ≤ rSpace.z3 x0 x1 x2 x3 x4 k 0) h1, if_neg (c := rSpace.z3 x0 x1 x2 x3 x4 k 0 ≤ rSpace.z6 x0 x1 x2 x3 x4 k 0) h3]
        rfl
      · unfold pSpace.r2 rSpace.r2
        rw [if_pos (c := pSpace.z0 x0 x1 x2 x3 x4 k 0 = pSpace.z1 x0 x1 x2 x3 x4 k 0) rfl, if_pos (c := pSpace.z2 x0 x1 x2 x3 x4 k 0 ≤ pSpace.z3 x0 x1 x2 x3 x4 k 0) h1, if_pos (c := pSpace.z4 x0 x1 x2 x3 x4 k 0 ≤ pSpace.z3 x0 x1 x2 x3 x4 k 0) h2, if_pos (c := rSpace.z0 x0 x1 x2 x3 x4 k 0 = rSpace.z1 x0 x1 x2 x3 x4 k 0) rfl, if_pos (c := rSpace.z2 x0 x1 x2 x3 x4 k 0 ≤ rSpace.z3 x0 x1 x2 x3 x4 k 0) h1, if_neg (c := rSpace.z3 x0 x1 x2 x3 x4 k 0 ≤ rSpace.z6 x0 x1 x2 x3 x4 k 0) h3]
        rfl
    · have h3 : k ≤ (x1 - 1 + 9223372036854775808) % 18446744073709551616 - 9223372036854775808 := by omega
      by_cases h4 : k = -1
      · have h5 : ¬ 0 ≤ k := by omega
        refine ⟨?_, ?_, ?_⟩
        · unfold pSpace.r0 rSpace.r0
          rw [if_pos (c := pSpace.z0 x0 x1 x2 x3 x4 k 0 = pSpace.z1 x0 x1 x2 x3 x4 k 0) rfl, if_pos (c := pSpace.z2 x0 x1 x2 x3 x4 k 0 ≤ pSpace.z3 x0 x1 x2 x3 x4 k 0) h1, if_neg (c := pSpace.z4 x0 x1 x2 x3 x4 k 0 ≤ pSpace.z3 x0 x1 x2 x3 x4 k 0) h2, if_pos (c := pSpace.z3 x0 x1 x2 x3 x4 k 0 = pSpace.z2 x0 x1 x2 x3 x4 k 0) h4, if_pos (c := rSpace.z0 x0 x1 x2 x3 x4 k 0 = rSpace.z1 x0 x1 x2 x3 x4 k 0) rfl, if_pos (c := rSpace.z2 x0 x1 x2 x3 x4 k 0 ≤ rSpace.z3 x0 x1 x2 x3 x4 k 0) h1, if_pos (c := rSpace.z3 x0 x1 x2 x3 x4 k 0 ≤ rSpace.z6 x0 x1 x2 x3 x4 k 0) h3, if_neg (c := rSpace.z1 x0 x1 x2 x3 x4 k 0 ≤ rSpace.z3 x0 x1 x2 x3 x4 k 0) h5]
          rfl
        · unfold pSpace.r1 rSpace.r1
          rw [if_pos (c := pSpace.z0 x0 x1 x2 x3 x4 k 0 = pSpace.z1 x0 x1 x2 x3 x4 k 0) rfl, if_pos (c := pSpace.z2 x0 x1 x2 x3 x4 k 0 ≤ pSpace.z3 x0 x1 x2 x3 x4 k 0) h1, if_neg (c := pSpace.z4 x0 x1 x2 x3 x4 k 0 ≤ pSpace.z3 x0 x1 x2 x3 x4 k 0) h2, if_pos (c := pSpace.z3 x0 x1 x2 x3 x4 k 0 = pSpace.z2 x0 x1 x2 x3 x4 k 0) h4, if_pos (c := rSpace.z0 x0 x1 x2 x3 x4 k 0 = rSpace.z1 x0 x1 x2 x3 x4 k 0) rfl, if_pos (c := rSpace.z2 x0 x1 x2 x3 x4 k 0 ≤ rSpace.z3 x0 x1 x2 x3 x4 k 0) h1, if_pos (c := rSpace.z3 x0 x1 x2 x3 x4 k 0 ≤ rSpace.z6 x0 x1 x2 x3 x4 k 0) h3, if_neg (c := rSpace.z1 x0 x1 x2 x3 x4 k 0 ≤ rSpace.z3 x0 x1 x2 x3 x4 k 0) h5]
          rfl
        · unfold pSpace.r2 rSpace.r2
          rw [if_pos (c := pSpace.z0 x0 x1 x2 x3 x4 k 0 = pSpace.z1 x0 x1 x2 x3 x4 k 0) rfl, if_pos (c := pSpace.z2 x0 x1 x2 x3 x4 k 0 ≤ pSpace.z3 x0 x1 x2 x3 x4 k 0) h1, if_neg (c := pSpace.z4 x0 x1 x2 x3 x4 k 0 ≤ pSpace.z3 x0 x1 x2 x3 x4 k 0) h2, if_pos (c := pSpace.z3 x0 x1 x2 x3 x4 k 0 = pSpace.z2 x0 x1 x2 x3 x4 k 0) h4, if_pos (c := rSpace.z0 x0 x1 x2 x3 x4 k 0 = rSpace.z1 x0 x1 x2 x3 x4 k 0) rfl, if_pos (c := rSpace.z2 x0 x1 x2 x3 x4 k 0 ≤ rSpace.z3 x0 x1 x2 x3 x4 k 0) h1, if_pos (c := rSpace.z3 x0 x1 x2 x3 x4 k 0 ≤ rSpace.z6 x0 x1 x2 x3 x4 k 0) h3, if_neg (c := rSpace.z1 x0 x1 x2 x3 x4 k 0 ≤ rSpace.z3 x0 x1 x2 x3 x4 k 0) h5]
          rfl
      · have h5 : 0 ≤ k := by omega
        refine ⟨?_, ?_, ?_⟩
        · unfold pSpace.r0 rSpace.r0
          rw [if_pos (c := pSpace.z0 x0 x1 x2 x3 x4 k 0 = pSpace.z1 x0 x1 x2 x3 x4 k 0) rfl, if_pos (c := pSpace.z2 x0 x1 x2 x3 x4 k 0 ≤ pSpace.z3 x0 x1 x2 x3 x4 k 0) h1, if_neg (c := pSpace.z4 x0 x1 x2 x3 x4 k 0 ≤ pSpace.z3 x0 x1 x2 x3 x4 k 0) h2, if_neg (c := pSpace.z3 x0 x1 x2 x3 x4 k 0 = pSpace.z2 x0 x1 x2 x3 x4 k 0) h4, if_pos (c := rSpace.z0 x0 x1 x2 x3 x4 k 0 = rSpace.z1 x0 x1 x2 x3 x4 k 0) rfl, if_pos (c := rSpace.z2 x0 x1 x2 x3 x4 k 0 ≤ rSpace.z3 x0 x1 x2 x3 x4 k 0) h1, if_pos (c := rSpace.z3 x0 x1 x2 x3 x4 k 0 ≤ rSpace.z6 x0 x1 x2 x3 x4 k 0) h3, if_pos (c := rSpace.z1 x0 x1 x2 x3 x4 k 0 ≤ rSpace.z3 x0 x1 x2 x3 x4 k 0) h5]
          rfl
        · unfold pSpace.r1 rSpace.r1
          rw [if_pos (c := pSpace.z0 x0 x1 x2 x3 x4 k 0 = pSpace.z1 x0 x1 x2 x3 x4 k 0) rfl, if_pos (c := pSpace.z2 x0 x1 x2 x3 x4 k 0 ≤ pSpace.z3 x0 x1 x2 x3 x4 k 0) h1, if_neg (c := pSpace.z4 x0 x1 x2 x3 x4 k 0 ≤ pSpace.z3 x0 x1 x2 x3 x4 k 0) h2, if_neg (c := pSpace.z3 x0 x1 x2 x3 x4 k 0 = pSpace.z2 x0 x1 x2 x3 x4 k 0) h4, if_pos (c := rSpace.z0 x0 x1 x2 x3 x4 k 0 = rSpace.z1 x0 x1 x2 x3 x4 k 0) rfl, if_pos (c := rSpace.z2 x0 x1 x2 x3 x4 k 0 ≤ rSpace.z3 x0 x1 x2 x3 x4 k 0) h1, if_pos (c := rSpace.z3 x0 x1 x2 x3 x4 k 0 ≤ rSpace.z6 x0 x1 x2 x3 x4 k 0) h3, if_pos (c := rSpace.z1 x0 x1 x2 x3 x4 k 0 ≤ rSpace.z3 x0 x1 x2 x3 x4 k 0) h5]
          rfl
        · unfold pSpace.r2 rSpace.r2
          rw [if_pos (c := pSpace.z0 x0 x1 x2 x3 x4 k 0 = pSpace.z1 x0 x1 x2 x3 x4 k 0) rfl, if_pos (c := pSpace.z2 x0 x1 x2 x3 x4 k 0 ≤ pSpace.z3 x0 x1 x2 x3 x4 k 0) h1, if_neg (c := pSpace.z4 x0 x1 x2 x3 x4 k 0 ≤ pSpace.z3 x0 x1 x2 x3 x4 k 0) h2, if_neg (c := pSpace.z3 x0 x1 x2 x3 x4 k 0 = pSpace.z2 x0 x1 x2 x3 x4 k 0) h4, if_pos (c := rSpace.z0 x0 x1 x2 x3 x4 k 0 = rSpace.z1 x0 x1 x2 x3 x4 k 0) rfl, if_pos (c := rSpace.z2 x0 x1 x2 x3 x4 k 0 ≤ rSpace.z3 x0 x1 x2 x3 x4 k 0) h1, if_pos (c := rSpace.z3 x0 x1 x2 x3 x4 k 0 ≤ rSpace.z6 x0 x1 x2 x3 x4 k 0) h3, if_pos (c := rSpace.z1 x0 x1 x2 x3 x4 k 0 ≤ rSpace.z3 x0 x1 x2 x3 x4 k 0) h5]
          rfl
  · refine ⟨?_, ?_, ?_⟩
    · unfold pSpace.r0 rSpace.r0
      rw [if_pos (c := pSpace.z0 x0 x1 x2 x3 x4 k 0 = pSpace.z1 x0 x1 x2 x3 x4 k 0) rfl, if_neg (c := pSpace.z2 x0 x1 x2 x3 x4 k 0 ≤ pSpace.z3 x0 x1 x2 x3 x4 k 0) h1, if_pos (c := rSpace.z0 x0 x1 x2 x3 x4 k 0 = rSpace.z1 x0 x1 x2 x3 x4 k 0) rfl, if_neg (c := rSpace.z2 x0 x1 x2 x3 x4 k 0 ≤ rSpace.z3 x0 x1 x2 x3 x4 k 0) h1]
      rfl
    · unfold pSpace.r1 rSpace.r1
      rw [if_pos (c := pSpace.z0 x0 x1 x2 x3 x4 k 0 = pSpace.z1 x0 x1 x2 x3 x4 k 0) rfl, if_neg (c := pSpace.z2 x0 x1 x2 x3 x4 k 0 ≤ pSpace.z3 x0 x1 x2 x3 x4 k 0) h1, if_pos (c := rSpace.z0 x0 x1 x2 x3 x4 k 0 = rSpace.z1 x0 x1 x2 x3 x4 k 0) rfl, if_neg (c := rSpace.z2 x0 x1 x2 x3 x4 k 0 ≤ rSpace.z3 x0 x1 x2 x3 x4 k 0) h1]
      rfl
    · unfold pSpace.r2 rSpace.r2
      rw [if_pos (c := pSpace.z0 x0 x1 x2 x3 x4 k 0 = pSpace.z1 x0 x1 x2 x3 x4 k 0) rfl, if_neg (c := pSpace.z2 x0 x1 x2 x3 x4 k 0 ≤ pSpace.z3 x0 x1 x2 x3 x4 k 0) h1, if_pos (c := rSpace.z0 x0 x1 x2 x3 x4 k 0 = rSpace.z1 x0 x1 x2 x3 x4 k 0) rfl, if_neg (c := rSpace.z2 x0 x1 x2 x3 x4 k 0 ≤ rSpace.z3 x0 x1 x2 x3 x4 k 0) h1]
      rfl
theorem sp_eq : pSpace.r0 x0 x1 x2 x3 x4 k (chk x0 x1 x2 x3 x4) = rSpace.r0 x0 x1 x2 x3 x4 k (chk x0 x1 x2 x3 x4) ∧ pSpace.r1 x0 x1 x2 x3 x4 k (chk x0 x1 x2 x3 x4) = rSpace.r1 x0 x1 x2 x3 x4 k (chk x0 x1 x2 x3 x4) ∧ pSpace.r2 x0 x1 x2 x3 x4 k (chk x0 x1 x2 x3 x4) = rSpace.r2 x0 x1 x2 x3 x4 k (chk x0 x1 x2 x3 x4) := by
  by_cases g : good x0 x1 x2 x3 x4
  · rw [chk_good g]
    exact sp_good g
  · rw [chk7 g]
    exact ⟨rfl, rfl, rfl⟩
def S0 (x0 x1 x2 x3 x4 k : Int) : Int := rSpace.r0 x0 x1 x2 x3 x4 k (chk x0 x1 x2 x3 x4)
def S1 (x0 x1 x2 x3 x4 k : Int) : Int := rSpace.r1 x0 x1 x2 x3 x4 k (chk x0 x1 x2 x3 x4)
def S2 (x0 x1 x2 x3 x4 k : Int) : Int := rSpace.r2 x0 x1 x2 x3 x4 k (chk x0 x1 x2 x3 x4)
theorem s1 (h1 : -1 ≤ k) (h3 : k ≤ (x1 - 1 + 9223372036854775808) % 18446744073709551616 - 9223372036854775808) (h5 : 0 ≤ k) : (rSpace.r0 x0 x1 x2 x3 x4 k 0 = rSpace.z11 x0 x1 x2 x3 x4 k 0 ∧ rSpace.r1 x0 x1 x2 x3 x4 k 0 = rSpace.z12 x0 x1 x2 x3 x4 k 0 ∧ rSpace.r2 x0 x1 x2 x3 x4 k 0 = rSpace.z1 x0 x1 x2 x3 x4 k 0) := by
  refine ⟨?_, ?_, ?_⟩
  · unfold rSpace.r0
    rw [if_pos (c := rSpace.z0 x0 x1 x2 x3 x4 k 0 = rSpace.z1 x0 x1 x2 x3 x4 k 0) rfl, if_pos (c := rSpace.z2 x0 x1 x2 x3 x4 k 0 ≤ rSpace.z3 x0 x1 x2 x3 x4 k 0) h1, if_pos (c := rSpace.z3 x0 x1 x2 x3 x4 k 0 ≤ rSpace.z6 x0 x1 x2 x3 x4 k 0) h3, if_pos (c := rSpace.z1 x0 x1 x2 x3 x4 k 0 ≤ rSpace.z3 x0 x1 x2 x3 x4 k 0) h5]
  · unfold rSpace.r1
    rw [if_pos (c := rSpace.z0 x0 x1 x2 x3 x4 k 0 = rSpace.z1 x0 x1 x2 x3 x4 k 0) rfl, if_pos (c := rSpace.z2 x0 x1 x2 x3 x4 k 0 ≤ rSpace.z3 x0 x1 x2 x3 x4 k 0) h1, if_pos (c := rSpace.z3 x0 x1 x2 x3 x4 k 0 ≤ rSpace.z6 x0 x1 x2 x3 x4 k 0) h3, if_pos (c := rSpace.z1 x0 x1 x2 x3 x4 k 0 ≤ rSpace.z3 x0 x1 x2 x3 x4 k 0) h5]
  · unfold rSpace.r2
    rw [if_pos (c := rSpace.z0 x0 x1 x2 x3 x4 k 0 = rSpace.z1 x0 x1 x2 x3 x4 k 0) rfl, if_pos (c := rSpace.z2 x0 x1 x2 x3 x4 k 0 ≤ rSpace.z3 x0 x1 x2 x3 x4 k 0) h1, if_pos (c := rSpace.z3 x0 x1 x2 x3 x4 k 0 ≤ rSpace.z6 x0 x1 x2 x3 x4 k 0) h3, if_pos (c := rSpace.z1 x0 x1 x2 x3 x4 k 0 ≤ rSpace.z3 x0 x1 x2 x3 x4 k 0) h5]
theorem s2 (h1 : -1 ≤ k) (h3 : k ≤ (x1 - 1 + 9223372036854775808) % 18446744073709551616 - 9223372036854775808) (h5 : ¬ 0 ≤ k) : (rSpace.r0 x0 x1 x2 x3 x4 k 0 = rSpace.z5 x0 x1 x2 x3 x4 k 0 ∧ rSpace.r1 x0 x1 x2 x3 x4 k 0 = rSpace.z8 x0 x1 x2 x3 x4 k 0 ∧ rSpace.r2 x0 x1 x2 x3 x4 k 0 = rSpace.z1 x0 x1 x2 x3 x4 k 0) := by
  refine ⟨?_, ?_, ?_⟩
  · unfold rSpace.r0
    rw [if_pos (c := rSpace.z0 x0 x1 x2 x3 x4 k 0 = rSpace.z1 x0 x1 x2 x3 x4 k 0) rfl, if_pos (c := rSpace.z2 x0 x1 x2 x3 x4 k 0 ≤ rSpace.z3 x0 x1 x2 x3 x4 k 0) h1, if_pos (c := rSpace.z3 x0 x1 x2 x3 x4 k 0 ≤ rSpace.z6 x0 x1 x2 x3 x4 k 0) h3, if_neg (c := rSpace.z1 x0 x1 x2 x3 x4 k 0 ≤ rSpace.z3 x0 x1 x2 x3 x4 k 0) h5]
  · unfold rSpace.r1
    rw [if_pos (c := rSpace.z0 x0 x1 x2 x3 x4 k 0 = rSpace.z1 x0 x1 x2 x3 x4 k 0) rfl, if_pos (c := rSpace.z2 x0 x1 x2 x3 x4 k 0 ≤ rSpace.z3 x0 x1 x2 x3 x4 k 0) h1, if_pos (c := rSpace.z3 x0 x1 x2 x3 x4 k 0 ≤ rSpace.z6 x0 x1 x2 x3 x4 k 0) h3, if_neg (c := rSpace.z1 x0 x1 x2 x3 x4 k 0 ≤ rSpace.z3 x0 x1 x2 x3 x4 k 0) h5]
  · unfold rSpace.r2
    rw [if_pos (c := rSpace.z0 x0 x1 x2 x3 x4 k 0 = rSpace.z1 x0 x1 x2 x3 x4 k 0) rfl, if_pos (c := rSpace.z2 x0 x1 x2 x3 x4 k 0 ≤ rSpace.z3 x0 x1 x2 x3 x4 k 0) h1, if_pos (c := rSpace.z3 x0 x1 x2 x3 x4 k 0 ≤ rSpace.z6 x0 x1 x2 x3 x4 k 0) h3, if_neg (c := rSpace.z1 x0 x1 x2 x3 x4 k 0 ≤ rSpace.z3 x0 x1 x2 x3 x4 k 0) h5]
theorem s3 (h1 : -1 ≤ k) (h3 : ¬ k ≤ (x1 - 1 + 9223372036854775808) % 18446744073709551616 - 9223372036854775808) : (rSpace.r0 x0 x1 x2 x3 x4 k 0 = rSpace.z1 x0 x1 x2 x3 x4 k 0 ∧ rSpace.r1 x0 x1 x2 x3 x4 k 0 = rSpace.z1 x0 x1 x2 x3 x4 k 0 ∧ rSpace.r2 x0 x1 x2 x3 x4 k 0 = rSpace.z13 x0 x1 x2 x3 x4 k 0) := by
  refine ⟨?_, ?_, ?_⟩
  · unfold rSpace.r0
    rw [if_pos (c := rSpace.z0 x0 x1 x2 x3 x4 k 0 = rSpace.z1 x0 x1 x2 x3 x4 k 0) rfl, if_pos (c := rSpace.z2 x0 x1 x2 x3 x4 k 0 ≤ rSpace.z3 x0 x1 x2 x3 x4 k 0) h1, if_neg (c := rSpace.z3 x0 x1 x2 x3 x4 k 0 ≤ rSpace.z6 x0 x1 x2 x3 x4 k 0) h3]
  · unfold rSpace.r1
    rw [if_pos (c := rSpace.z0 x0 x1 x2 x3 x4 k 0 = rSpace.z1 x0 x1 x2 x3 x4 k 0) rfl, if_pos (c := rSpace.z2 x0 x1 x2 x3 x4 k 0 ≤ rSpace.z3 x0 x1 x2 x3 x4 k 0) h1, if_neg (c := rSpace.z3 x0 x1 x2 x3 x4 k 0 ≤ rSpace.z6 x0 x1 x2 x3 x4 k 0) h3]
  · unfold rSpace.r2
    rw [if_pos (c := rSpace.z0 x0 x1 x2 x3 x4 k 0 = rSpace.z1 x0 x1 x2 x3 x4 k 0) rfl, if_pos (c := rSpace.z2 x0 x1 x2 x3 x4 k 0 ≤ rSpace.z3 x0 x1 x2 x3 x4 k 0) h1, if_neg (c := rSpace.z3 x0 x1 x2 x3 x4 k 0 ≤ rSpace.z6 x0 x1 x2 x3 x4 k 0) h3]
theorem s4 (h1 : ¬ -1 ≤ k) : (rSpace.r0 x0 x1 x2 x3 x4 k 0 = rSpace.z1 x0 x1 x2 x3 x4 k 0 ∧ rSpace.r1 x0 x1 x2 x3 x4 k 0 = rSpace.z1 x0 x1 x2 x3 x4 k 0 ∧ rSpace.r2 x0 x1 x2 x3 x4 k 0 = rSpace.z13 x0 x1 x2 x3 x4 k 0) := by
  refine ⟨?_, ?_, ?_⟩
  · unfold rSpace.r0
    rw [if_pos (c := rSpace.z0 x0 x1 x2 x3 x4 k 0 = rSpace.z1 x0 x1 x2 x3 x4 k 0) rfl, if_neg (c := rSpace.z2 x0 x1 x2 x3 x4 k 0 ≤ rSpace.z3 x0 x1 x2 x3 x4 k 0) h1]
  · unfold rSpace.r1
    rw [if_pos (c := rSpace.z0 x0 x1 x2 x3 x4 k 0 = rSpace.z1 x0 x1 x2 x3 x4 k 0) rfl, if_neg (c := rSpace.z2 x0 x1 x2 x3 x4 k 0 ≤ rSpace.z3 x0 x1 x2 x3 x4 k 0) h1]
  · unfold rSpace.r2
    rw [if_pos (c := rSpace.z0 x0 x1 x2 x3 x4 k 0 = rSpace.z1 x0 x1 x2 x3 x4 k 0) rfl, if_neg (c := rSpace.z2 x0 x1 x2 x3 x4 k 0 ≤ rSpace.z3 x0 x1 x2 x3 x4 k 0) h1]
theorem s_bd : (0 ≤ S0 x0 x1 x2 x3 x4 k ∧ S0 x0 x1 x2 x3 x4 k ≤ 2000 ∧ 0 ≤ S1 x0 x1 x2 x3 x4 k ∧ S1 x0 x1 x2 x3 x4 k ≤ 2000) ∧ 0 ≤ S2 x0 x1 x2 x3 x4 k ∧ S2 x0 x1 x2 x3 x4 k ≤ 7 := by
  unfold S0 S1 S2
  by_cases g : good x0 x1 x2 x3 x4
  · rw [chk_good g]
    by_cases h1 : -1 ≤ k
    · by_cases h3 : k ≤ (x1 - 1 + 9223372036854775808) % 18446744073709551616 - 9223372036854775808
      · by_cases h5 : 0 ≤ k
        · obtain ⟨e0, e1, e2⟩ := s1 (x0 := x0) (x1 := x1) (x2 := x2) (x3 := x3) (x4 := x4) h1 h3 h5
          obtain ⟨g0, g1, g2, g3, g4, g5, -⟩ := id g
          obtain ⟨n1, n2, n3, n4, n5⟩ := nl (k := k + 1) g (by omega) (by omega)
          obtain ⟨m1, m2, m3, m4, m5⟩ := nl (k := k) g (by omega) (by omega)
          rw [e0, e1, e2]
          unfold rSpace.z12 rSpace.z11 rSpace.z10 rSpace.z9 rSpace.z8 rSpace.z7 rSpace.z5 rSpace.z3 rSpace.z1
          clear e0 e1 e2 n5
          rw [m5] at n1 n2
          clear m5
          generalize k * x0 = m at *
          generalize x1 * x0 = n at *
          omega
        · obtain ⟨e0, e1, e2⟩ := s2 (x0 := x0) (x1 := x1) (x2 := x2) (x3 := x3) (x4 := x4) h1 h3 h5
          obtain ⟨g0, g1, g2, g3, g4, g5, -⟩ := id g
          rw [e0, e1, e2]
          unfold rSpace.z8 rSpace.z7 rSpace.z5 rSpace.z1
          clear e0 e1 e2
          omega
      · obtain ⟨e0, e1, e2⟩ := s3 (x0 := x0) (x1 := x1) (x2 := x2) (x3 := x3) (x4 := x4) h1 h3
        rw [e0, e1, e2]
        unfold rSpace.z1 rSpace.z13
        omega
    · obtain ⟨e0, e1, e2⟩ := s4 (x0 := x0) (x1 := x1) (x2 := x2) (x3 := x3) (x4 := x4) h1
      rw [e0, e1, e2]
      unfold rSpace.z1 rSpace.z13
      omega
  · rw [chk7 g]
    have e0 : rSpace.r0 x0 x1 x2 x3 x4 k 7 = 0 := rfl
    have e1 : rSpace.r1 x0 x1 x2 x3 x4 k 7 = 0 := rfl
    have e2 : rSpace.r2 x0 x1 x2 x3 x4 k 7 = 7 := rfl
    rw [e0, e1, e2]
    omega
theorem p_bd (h0 : In64 x0) (h2 : In64 x2) : In64 (PC x0 x1 x2 x3 x4 a) ∧ In64 (PO x0 x1 x2 x3 x4 a) ∧ In64 (PE x0 x1 x2 x3 x4 a) := by
  by_cases g : good x0 x1 x2 x3 x4
  · have hc : chk x0 x1 x2 x3 x4 = 0 := chk_good g
    by_cases h : 1 ≤ a ∧ a < 1 + x2 + x1 * x0
    · have hE : PE x0 x1 x2 x3 x4 a = 0 := by unfold PE; rw [if_pos hc, if_pos h]
      have hC : PC x0 x1 x2 x3 x4 a = car x0 x2 a := by unfold PC; rw [if_pos hE]
      have hO : PO x0 x1 x2 x3 x4 a = off x0 x2 a := by unfold PO; rw [if_pos hE]
      rw [hC, hO, hE]
      obtain ⟨g0, g1, g2, g3, g4, g5, -⟩ := id g
      obtain ⟨-, -, m3, -, -⟩ := nl (k := 0) g (by omega) (by omega)
      obtain ⟨a1, a2⟩ := h
      generalize x1 * x0 = n at *
      unfold car off In64
      by_cases hl : a ≤ x2
      · rw [if_pos hl, if_pos hl]
        omega
      · rw [if_neg hl, if_neg hl]
        have q0 := Int.ediv_nonneg (a := a - 1 - x2) (b := x0) (by omega) (by omega)
        have q1 := Int.ediv_le_self x0 (a := a - 1 - x2) (by omega)
        have q2 := Int.emod_nonneg (a - 1 - x2) (b := x0) (by omega)
        have q3 := Int.emod_lt_of_pos (a - 1 - x2) (b := x0) (by omega)
        generalize (a - 1 - x2) / x0 = q at *
        generalize (a - 1 - x2) % x0 = r at *
        omega
    · have hE : PE x0 x1 x2 x3 x4 a = 7 := by unfold PE; rw [if_pos hc, if_neg h]
      have hC : PC x0 x1 x2 x3 x4 a = 0 := by unfold PC; rw [hE]; rfl
      have hO : PO x0 x1 x2 x3 x4 a = 0 := by unfold PO; rw [hE]; rfl
      rw [hC, hO, hE]
      unfold In64
      omega
  · have hE : PE x0 x1 x2 x3 x4 a = 7 := by unfold PE; rw [chk7 g]; rfl
    have hC : PC x0 x1 x2 x3 x4 a = 0 := by unfold PC; rw [hE]; rfl
    have hO : PO x0 x1 x2 x3 x4 a = 0 := by unfold PO; rw [hE]; rfl
    rw [hC, hO, hE]
    unfold In64
    omega
theorem space_any (h0 : In64 x0) (h1 : In64 x1) (h2 : In64 x2) (h3 : In64 x3) (h4 : In64 x4) (hk : In64 k) (w : World) : Pl 24 x0 x1 x2 x3 x4 k (S0 x0 x1 x2 x3 x4 k) (S1 x0 x1 x2 x3 x4 k) (S2 x0 x1 x2 x3 x4 k) w ∧ Pl 25 x0 x1 x2 x3 x4 k (S0 x0 x1 x2 x3 x4 k) (S1 x0 x1 x2 x3 x4 k) (S2 x0 x1 x2 x3 x4 k) w := by
  have := chk_bd x0 x1 x2 x3 x4
  obtain ⟨e0, e1, e2⟩ := sp_eq (x0 := x0) (x1 := x1) (x2 := x2) (x3 := x3) (x4 := x4) (k := k)
  have P := pSpace.walk x0 x1 x2 x3 x4 k (chk x0 x1 x2 x3 x4) (fun I => Ev.csOk_cons (Good.cchk h0 h1 h2 h3 h4 I.i0 I.i1 I.i2 I.i3 I.i4 rfl I.i6 rfl) (Ev.csOk_cons (Good.rchk h0 h1 h2 h3 h4 I.i0 I.i1 I.i2 I.i3 I.i4 rfl I.i6 rfl) (Ev.csOk_nil _))) ⟨h0.1, h0.2, h1.1, h1.2, h2.1, h2.2, h3.1, h3.2, h4.1, h4.2, hk.1, hk.2, by omega, by omega⟩ w
  rw [e0, e1, e2] at P
  exact ⟨P, rSpace.walk x0 x1 x2 x3 x4 k (chk x0 x1 x2 x3 x4) (fun I => Ev.csOk_cons (Good.cchk h0 h1 h2 h3 h4 I.i0 I.i1 I.i2 I.i3 I.i4 rfl I.i6 rfl) (Ev.csOk_cons (Good.rchk h0 h1 h2 h3 h4 I.i0 I.i1 I.i2 I.i3 I.i4 rfl I.i6 rfl) (Ev.csOk_nil _))) ⟨h0.1, h0.2, h1.1, h1.2, h2.1, h2.2, h3.1, h3.2, h4.1, h4.2, hk.1, hk.2, by omega, by omega⟩ w⟩
end
section
variable [Inhabited Ev.Val]
theorem arg2 {S : Ev.Sig} {u v u1 v1 : Value} {args' : Array Value} (h : ∀ u', Ev.VR S u u' → u' = v) (h1 : ∀ u', Ev.VR S u1 u' → u' = v1) (hr : Ev.LR S [u, u1] args'.toList) : args' = #[v, v1] := by
  obtain ⟨x, r, he, k1, hr1⟩ := hr.cons_inv
  obtain ⟨x1, r1, he1, k2, hr2⟩ := hr1.cons_inv
  obtain rfl := hr2.nil_inv
  obtain ⟨l⟩ := args'
  obtain rfl : l = [x, x1] := by rw [← he1]; exact he
  rw [h x k1, h1 x1 k2]
theorem pl_c {f : FuncId} {x0 x1 x2 x3 x4 y p q r : Int} (C : ∀ w, Pl f x0 x1 x2 x3 x4 y p q r w) {a b c d e u : Value} (ha : Ev.Is a .i64 x0) (hb : Ev.Is b .i64 x1) (hc : Ev.Is c .i64 x2) (hd : Ev.Is d .i64 x3) (he : Ev.Is e .i64 x4) (hu : Ev.Is u .i64 y)
    {i j m : Nat} (hp : Ev.Is (Ev.inp .i64 i) .i64 p) (hq : Ev.Is (Ev.inp .i64 j) .i64 q) (hr' : Ev.Is (Ev.inp .i64 m) .i64 r) (S : Ev.Sig) (args' : Array Value) (hr : Ev.LR S [.agg ⟨[a, b, c, d, e]⟩, u] args'.toList) (w : World) :
    Calls Tryd.prog f args' w fun e w' => (∃ v', e = .returned v' ∧ Ev.VR S (.tuple ⟨[Ev.inp .i64 i, Ev.inp .i64 j, Ev.inp .i64 m]⟩) v') ∧ Below w.heap.size w w' := by
  rw [arg2 (fun u' h => agg_inv ha hb hc hd he h) (fun u' h => Ev.is_inv h hu) hr]
  refine (C w).mono fun _ _ ⟨e1, hB⟩ => ⟨⟨_, e1, ?_⟩, hB⟩
  have h : Ev.LR S [Ev.inp .i64 i, Ev.inp .i64 j, Ev.inp .i64 m] [.int .i64 p, .int .i64 q, .int .i64 r] := .cons (.sym hp) (.cons (.sym hq) (.cons (.sym hr') .nil))
  exact .tuple h.1 h.2
end
end Go.Proofs.YtffaikcaenkkhaaDoor.Places
