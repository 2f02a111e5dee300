/-
  What 'Admit' and 'After' return, for the law on their order. CONDITIONS: numbers are of their kinds. No project text.
-/
import Derived.Test.YtffaikcaenkkhabGood
import Derived.Test.YtffaikcaenkkhabMost
import Derived.Test.YtffaikcaenkkhabCAdm
import Derived.Test.YtffaikcaenkkhabCAft
namespace Go.Proofs.Ytffaikcaenkkhab.Order
open Go.ChangeShapes Go.WideShapes Go.ChangeAt Go.RowKit Go.Proofs.Ytffaikcaenkkhab.Good

section
variable {x0 x1 x2 x3 x4 o l n : Int}
def K (x0 x1 x2 x3 x4 o l n : Int) : Int := cAdm.r0 x0 x1 x2 x3 x4 o l n (chk x0 x1 x2 x3 x4)
def E (x0 x1 x2 x3 x4 o l n : Int) : Int := cAdm.r1 x0 x1 x2 x3 x4 o l n (chk x0 x1 x2 x3 x4)
def A (x0 x1 x2 x3 x4 o l n : Int) : Int := cAft.r0 x0 x1 x2 x3 x4 o l n (chk x0 x1 x2 x3 x4)
abbrev Spec (x0 x1 x2 o l n k e a : Int) : Prop :=
  (e = 7 ∧ k = 0 ∧ a = 7 ∧ ¬ (0 ≤ o ∧ o ≤ x1 * x0 + x2 ∧ 0 ≤ l ∧ l ≤ x2 ∧ x2 ≤ o + l ∧ 1 ≤ n)) ∨ (0 ≤ o ∧ o ≤ x1 * x0 + x2 ∧ 0 ≤ l ∧ l ≤ x2 ∧ x2 ≤ o + l ∧ 1 ≤ n ∧ ¬ (n ≤ x0 / 2 ∧ n ≤ x2) ∧ e = 11 ∧ k = 0 ∧ a = 11) ∨ (0 ≤ o ∧ o ≤ x1 * x0 + x2 ∧ 0 ≤ l ∧ l ≤ x2 ∧ x2 ≤ o + l ∧ 1 ≤ n ∧ n ≤ x0 / 2 ∧ n ≤ x2 ∧ e = 0 ∧ n ≤ l ∧ 2 * (o + n) ≤ x1 * x0 - 6 * x0 ∧ k = 1 ∧ a = 0) ∨ (0 ≤ o ∧ o ≤ x1 * x0 + x2 ∧ 0 ≤ l ∧ l ≤ x2 ∧ x2 ≤ o + l ∧ 1 ≤ n ∧ n ≤ x0 / 2 ∧ n ≤ x2 ∧ e = 0 ∧ ¬ (n ≤ l ∧ 2 * (o + n) ≤ x1 * x0 - 6 * x0) ∧ k = 2 ∧ a = 5)
set_option maxHeartbeats 8000000 in
theorem good_spec (io : In64 o) (il : In64 l) (i : In64 n) (g : good x0 x1 x2 x3 x4) : Spec x0 x1 x2 o l n (K x0 x1 x2 x3 x4 o l n) (E x0 x1 x2 x3 x4 o l n) (A x0 x1 x2 x3 x4 o l n) := by
  obtain ⟨n1, n2, n3, n4⟩ := Most.nl g
  have hc := chk_good g
  obtain ⟨g0, g1, g2, g3, g4, g5, g6, g7, g8, g9⟩ := g
  unfold K E A
  rw [hc]
  generalize hk : cAdm.r0 x0 x1 x2 x3 x4 o l n 0 = k
  generalize he : cAdm.r1 x0 x1 x2 x3 x4 o l n 0 = e
  generalize ha : cAft.r0 x0 x1 x2 x3 x4 o l n 0 = a
  unfold cAdm.r0 at hk
  unfold cAdm.r1 at he
  unfold cAft.r0 at ha
  rw [if_pos (c := cAdm.z0 x0 x1 x2 x3 x4 o l n 0 = cAdm.z1 x0 x1 x2 x3 x4 o l n 0) rfl] at hk he
  rw [if_pos (c := cAft.z0 x0 x1 x2 x3 x4 o l n 0 = cAft.z1 x0 x1 x2 x3 x4 o l n 0) rfl] at ha
  have n5 : x0 * ((x1 - 6 + 9223372036854775808) % 18446744073709551616 - 9223372036854775808) = x1 * x0 - 6 * x0 := by
    rw [show (x1 - 6 + 9223372036854775808) % 18446744073709551616 - 9223372036854775808 = x1 - 6 by omega]
    exact n3
  clear hc n3 n4
  by_cases k0 : 0 ≤ o
  rotate_left
  · rw [if_neg (c := cAdm.z1 x0 x1 x2 x3 x4 o l n 0 ≤ cAdm.z2 x0 x1 x2 x3 x4 o l n 0) k0] at hk he
    rw [if_neg (c := cAft.z1 x0 x1 x2 x3 x4 o l n 0 ≤ cAft.z2 x0 x1 x2 x3 x4 o l n 0) k0] at ha
    have hk1 : (0 : Int) = k := hk
    have he1 : (7 : Int) = e := he
    have ha1 : (7 : Int) = a := ha
    clear hk he ha
    unfold Spec
    omega
  rw [if_pos (c := cAdm.z1 x0 x1 x2 x3 x4 o l n 0 ≤ cAdm.z2 x0 x1 x2 x3 x4 o l n 0) k0] at hk he
  rw [if_pos (c := cAft.z1 x0 x1 x2 x3 x4 o l n 0 ≤ cAft.z2 x0 x1 x2 x3 x4 o l n 0) k0] at ha
  by_cases k1 : o ≤ ((x1 * x0 + 9223372036854775808) % 18446744073709551616 - 9223372036854775808 + x2 + 9223372036854775808) % 18446744073709551616 - 9223372036854775808
  rotate_left
  · rw [if_neg (c := cAdm.z2 x0 x1 x2 x3 x4 o l n 0 ≤ cAdm.z7 x0 x1 x2 x3 x4 o l n 0) k1] at hk he
    rw [if_neg (c := cAft.z2 x0 x1 x2 x3 x4 o l n 0 ≤ cAft.z7 x0 x1 x2 x3 x4 o l n 0) k1] at ha
    have j1 : ¬ (o ≤ x1 * x0 + x2) := by omega
    clear k1
    have hk1 : (0 : Int) = k := hk
    have he1 : (7 : Int) = e := he
    have ha1 : (7 : Int) = a := ha
    clear hk he ha
    unfold Spec
    omega
  rw [if_pos (c := cAdm.z2 x0 x1 x2 x3 x4 o l n 0 ≤ cAdm.z7 x0 x1 x2 x3 x4 o l n 0) k1] at hk he
  rw [if_pos (c := cAft.z2 x0 x1 x2 x3 x4 o l n 0 ≤ cAft.z7 x0 x1 x2 x3 x4 o l n 0) k1] at ha
  have j1 : o ≤ x1 * x0 + x2 := by omega
  clear k1
  by_cases k2 : 0 ≤ l
  rotate_left
  · rw [if_neg (c := cAdm.z1 x0 x1 x2 x3 x4 o l n 0 ≤ cAdm.z8 x0 x1 x2 x3 x4 o l n 0) k2] at hk he
    rw [if_neg (c := cAft.z1 x0 x1 x2 x3 x4 o l n 0 ≤ cAft.z8 x0 x1 x2 x3 x4 o l n 0) k2] at ha
    have hk1 : (0 : Int) = k := hk
    have he1 : (7 : Int) = e := he
    have ha1 : (7 : Int) = a := ha
    clear hk he ha
    unfold Spec
    omega
  rw [if_pos (c := cAdm.z1 x0 x1 x2 x3 x4 o l n 0 ≤ cAdm.z8 x0 x1 x2 x3 x4 o l n 0) k2] at hk he
  rw [if_pos (c := cAft.z1 x0 x1 x2 x3 x4 o l n 0 ≤ cAft.z8 x0 x1 x2 x3 x4 o l n 0) k2] at ha
  by_cases k3 : l ≤ x2
  rotate_left
  · rw [if_neg (c := cAdm.z8 x0 x1 x2 x3 x4 o l n 0 ≤ cAdm.z6 x0 x1 x2 x3 x4 o l n 0) k3] at hk he
    rw [if_neg (c := cAft.z8 x0 x1 x2 x3 x4 o l n 0 ≤ cAft.z6 x0 x1 x2 x3 x4 o l n 0) k3] at ha
    have hk1 : (0 : Int) = k := hk
    have he1 : (7 : Int) = e := he
    have ha1 : (7 : Int) = a := ha
    clear hk he ha
    unfold Spec
    omega
  rw [if_pos (c := cAdm.z8 x0 x1 x2 x3 x4 o l n 0 ≤ cAdm.z6 x0 x1 x2 x3 x4 o l n 0) k3] at hk he
  rw [if_pos (c := cAft.z8 x0 x1 x2 x3 x4 o l n 0 ≤ cAft.z6 x0 x1 x2 x3 x4 o l n 0) k3] at ha
  by_cases k4 : x2 ≤ (o + l + 9223372036854775808) % 18446744073709551616 - 9223372036854775808
  rotate_left
  · rw [if_neg (c := cAdm.z6 x0 x1 x2 x3 x4 o l n 0 ≤ cAdm.z9 x0 x1 x2 x3 x4 o l n 0) k4] at hk he
    rw [if_neg (c := cAft.z6 x0 x1 x2 x3 x4 o l n 0 ≤ cAft.z9 x0 x1 x2 x3 x4 o l n 0) k4] at ha
    have j4 : ¬ (x2 ≤ o + l) := by omega
    clear k4
    have hk1 : (0 : Int) = k := hk
    have he1 : (7 : Int) = e := he
    have ha1 : (7 : Int) = a := ha
    clear hk he ha
    unfold Spec
    omega
  rw [if_pos (c := cAdm.z6 x0 x1 x2 x3 x4 o l n 0 ≤ cAdm.z9 x0 x1 x2 x3 x4 o l n 0) k4] at hk he
  rw [if_pos (c := cAft.z6 x0 x1 x2 x3 x4 o l n 0 ≤ cAft.z9 x0 x1 x2 x3 x4 o l n 0) k4] at ha
  have j4 : x2 ≤ o + l := by omega
  clear k4
  by_cases k5 : 1 ≤ n
  rotate_left
  · rw [if_neg (c := cAdm.z10 x0 x1 x2 x3 x4 o l n 0 ≤ cAdm.z11 x0 x1 x2 x3 x4 o l n 0) k5] at hk he
    rw [if_neg (c := cAft.z10 x0 x1 x2 x3 x4 o l n 0 ≤ cAft.z11 x0 x1 x2 x3 x4 o l n 0) k5] at ha
    have hk1 : (0 : Int) = k := hk
    have he1 : (7 : Int) = e := he
    have ha1 : (7 : Int) = a := ha
    clear hk he ha
    unfold Spec
    omega
  rw [if_pos (c := cAdm.z10 x0 x1 x2 x3 x4 o l n 0 ≤ cAdm.z11 x0 x1 x2 x3 x4 o l n 0) k5] at hk he
  rw [if_pos (c := cAft.z10 x0 x1 x2 x3 x4 o l n 0 ≤ cAft.z11 x0 x1 x2 x3 x4 o l n 0) k5] at ha
  by_cases k6 : n ≤ (if ((if 0 ≤ x0 then x0 / 2 else -(-x0 / 2)) + 9223372036854775808) % 18446744073709551616 - 9223372036854775808 ≤ x2 then ((if 0 ≤ x0 then x0 / 2 else -(-x0 / 2)) + 9223372036854775808) % 18446744073709551616 - 9223372036854775808 else x2)
  rotate_left
  · rw [if_neg (c := cAdm.z11 x0 x1 x2 x3 x4 o l n 0 ≤ cAdm.z14 x0 x1 x2 x3 x4 o l n 0) k6] at hk he
    rw [if_neg (c := cAft.z11 x0 x1 x2 x3 x4 o l n 0 ≤ cAft.z14 x0 x1 x2 x3 x4 o l n 0) k6] at ha
    have j6 : ¬ (n ≤ x0 / 2 ∧ n ≤ x2) := by omega
    clear k6
    have hk1 : (0 : Int) = k := hk
    have he1 : (11 : Int) = e := he
    have ha1 : (11 : Int) = a := ha
    clear hk he ha
    unfold Spec
    omega
  rw [if_pos (c := cAdm.z11 x0 x1 x2 x3 x4 o l n 0 ≤ cAdm.z14 x0 x1 x2 x3 x4 o l n 0) k6] at hk he
  rw [if_pos (c := cAft.z11 x0 x1 x2 x3 x4 o l n 0 ≤ cAft.z14 x0 x1 x2 x3 x4 o l n 0) k6] at ha
  have j6 : n ≤ x0 / 2 ∧ n ≤ x2 := by omega
  clear k6
  by_cases k7 : n ≤ l
  rotate_left
  · rw [if_neg (c := cAdm.z11 x0 x1 x2 x3 x4 o l n 0 ≤ cAdm.z8 x0 x1 x2 x3 x4 o l n 0) k7] at hk he
    rw [if_neg (c := cAft.z11 x0 x1 x2 x3 x4 o l n 0 ≤ cAft.z8 x0 x1 x2 x3 x4 o l n 0) k7] at ha
    have hk1 : (2 : Int) = k := hk
    have he1 : (0 : Int) = e := he
    have ha1 : (5 : Int) = a := ha
    clear hk he ha
    unfold Spec
    omega
  rw [if_pos (c := cAdm.z11 x0 x1 x2 x3 x4 o l n 0 ≤ cAdm.z8 x0 x1 x2 x3 x4 o l n 0) k7] at hk he
  rw [if_pos (c := cAft.z11 x0 x1 x2 x3 x4 o l n 0 ≤ cAft.z8 x0 x1 x2 x3 x4 o l n 0) k7] at ha
  by_cases k8 : (2 * ((o + n + 9223372036854775808) % 18446744073709551616 - 9223372036854775808) + 9223372036854775808) % 18446744073709551616 - 9223372036854775808 ≤ (x0 * ((x1 - 6 + 9223372036854775808) % 18446744073709551616 - 9223372036854775808) + 9223372036854775808) % 18446744073709551616 - 9223372036854775808
  rotate_left
  · rw [if_neg (c := cAdm.z16 x0 x1 x2 x3 x4 o l n 0 ≤ cAdm.z19 x0 x1 x2 x3 x4 o l n 0) k8] at hk he
    rw [if_neg (c := cAft.z16 x0 x1 x2 x3 x4 o l n 0 ≤ cAft.z19 x0 x1 x2 x3 x4 o l n 0) k8] at ha
    have j8 : ¬ (2 * (o + n) ≤ x1 * x0 - 6 * x0) := by omega
    clear k8
    have hk1 : (2 : Int) = k := hk
    have he1 : (0 : Int) = e := he
    have ha1 : (5 : Int) = a := ha
    clear hk he ha
    unfold Spec
    omega
  rw [if_pos (c := cAdm.z16 x0 x1 x2 x3 x4 o l n 0 ≤ cAdm.z19 x0 x1 x2 x3 x4 o l n 0) k8] at hk he
  rw [if_pos (c := cAft.z16 x0 x1 x2 x3 x4 o l n 0 ≤ cAft.z19 x0 x1 x2 x3 x4 o l n 0) k8] at ha
  have j8 : 2 * (o + n) ≤ x1 * x0 - 6 * x0 := by omega
  clear k8
  have hk1 : (1 : Int) = k := hk
  have he1 : (0 : Int) = e := he
  have ha1 : (0 : Int) = a := ha
  exact .inr (.inr (.inl ⟨k0, j1, k2, k3, j4, k5, j6.1, j6.2, he1.symm, k7, j8, hk1.symm, ha1.symm⟩))
theorem bad_spec (g : ¬ good x0 x1 x2 x3 x4) : K x0 x1 x2 x3 x4 o l n = 0 ∧ E x0 x1 x2 x3 x4 o l n = 7 := by
  have hc : chk x0 x1 x2 x3 x4 = 7 := by unfold chk; rw [if_neg g]
  unfold K E
  rw [hc]
  exact ⟨rfl, rfl⟩
end
end Go.Proofs.Ytffaikcaenkkhab.Order
